/-
  Joined: Qh, Qi, Qn, Qm, Qt, Qo. Conditions: none.
-/
import Derived.Test.YtgbmdijodlfcaaaW35
import Derived.Test.YtgbmdijodlfcaaaSxP
import Derived.Test.YtgbmdijodlfcaaaW26
import Derived.Test.YtgbmdijodlfcaaaW21
import Derived.Test.YtgbmdijodlfcaaaZj
import Derived.Test.YtgbmdijodlfcaaaW24
import Derived.Test.YtgbmdijodlfcaaaW28
import Derived.Test.YtgbmdijodlfcaaaW25
namespace Go.Proofs.Ytgbmdijodlfcaaa
set_option maxRecDepth 100000
open Go.RowKit
theorem qlu {β:Bl}:∀ vs:List Value,S1.isl β (vs.map fun v=>.one (.pv v)) vs
 | []=>trivial
 | _::r=>⟨rfl,qlu r⟩
theorem qhT {P:Program} {f:FuncId} {k m:Nat} {args:List SV} {pre post:List (Nat×Nat×SV)} {vs:List Value} (h:FnL P f k args pre (.pv (.tuple vs.toArray)) m post):FnL P f k args pre (.tu (vs.map fun v=>.one (.pv v))) m post:=by
 intro w β us H hd hi
 refine (h w β us H hd hi).mono fun e w' ⟨v,β',he,hle,hx,hh,hd'⟩=>⟨v,β',he,hle,⟨vs,qlu vs,hx⟩,hh,hd'⟩
theorem qiF {P:Program} {f:FuncId} {k m:Nat} {args:List SV} {pre post post':List (Nat×Nat×SV)} {x:SV} (h:FnL P f k args pre x m post) (hi:∀ b o s,qab post' b o=some s→qab post b o=some s):FnL P f k args pre x m post':=by
 intro w β us H hd hu
 exact (h w β us H hd hu).mono fun e w' ⟨v,β',he,hle,hx,hh,hd'⟩=>⟨v,β',he,hle,hx,hh.imp fun b o s h=>hi b o s h,hd'⟩
abbrev qiW (b:Nat):Nat×Nat×SV:=(b,0,.row 3 1 0 [])
section
variable {P:Program} {f:FuncId} {k:Nat} {args:List SV} {pre:List (Nat×Nat×SV)} {e:Int}
theorem qqZ (h:FnL P f k args pre (.pv (.tuple #[.slice none 0 0,iV e])) 0 []):FnL P f k args pre (.tu [.one (.ls k 0),.one (.pv (iV e))]) 1 [qiW k]:=
 qcN 3 1 (qhT (vs:=[.slice none 0 0,iV e]) h) (.tu (.cons (.one .nil) (.cons (.one (.same _)) .nil)))
theorem qpj (h:FnL P f k args pre (.pv (.tuple #[.agg #[.slice none 0 0,.slice none 0 0],iV e])) 0 []):FnL P f k args pre (.tu [.ag [.ls k 0,.ls (k+1) 0],.one (.pv (iV e))]) 2 [qiW k,qiW (k+1)]:=by
 have h1:=qcN 3 1 (qhT (vs:=[.agg #[.slice none 0 0,.slice none 0 0],iV e]) h) (x':=.tu [.ag [.ls k 0,.pv (.slice none 0 0)],.one (.pv (iV e))]) (.tu (.cons (.un (vs:=[.slice none 0 0,.slice none 0 0]) (.cons .nil (.cons (.same _) .nil))) (.cons (.one (.same _)) .nil)))
 have h2:=qcN 3 1 h1 (x':=.tu [.ag [.ls k 0,.ls (k+1) 0],.one (.pv (iV e))]) (.tu (.cons (.ag (.cons (.same _) (.cons .nil .nil))) (.cons (.one (.same _)) .nil)))
 refine qiF (post:=[qiW (k+1),qiW k]) h2 fun b o s h=>?_
 rw[qaa] at h
 split at h
 ·rename_i e1
  rw[qaa,if_neg (by omega),qaa,if_pos e1];exact h
 ·rw[qaa] at h
  split at h
  ·rename_i e1
   rw[qaa,if_pos e1];exact h
  ·cases h
theorem qoV (h:FnL P f k args pre (.pv (.tuple #[.agg #[.slice none 0 0,.slice none 0 0],.slice none 0 0,iV e])) 0 []):FnL P f k args pre (.tu [.ag [.ls k 0,.ls (k+1) 0],.one (.ls (k+2) 0),.one (.pv (iV e))]) 3 [qiW k,qiW (k+1),qiW (k+2)]:=by
 have h1:=qcN 3 1 (qhT (vs:=[.agg #[.slice none 0 0,.slice none 0 0],.slice none 0 0,iV e]) h) (x':=.tu [.ag [.ls k 0,.pv (.slice none 0 0)],.one (.pv (.slice none 0 0)),.one (.pv (iV e))]) (.tu (.cons (.un (vs:=[.slice none 0 0,.slice none 0 0]) (.cons .nil (.cons (.same _) .nil))) (.cons (.one (.same _)) (.cons (.one (.same _)) .nil))))
 have h2:=qcN 3 1 h1 (x':=.tu [.ag [.ls k 0,.ls (k+1) 0],.one (.pv (.slice none 0 0)),.one (.pv (iV e))]) (.tu (.cons (.ag (.cons (.same _) (.cons .nil .nil))) (.cons (.one (.same _)) (.cons (.one (.same _)) .nil))))
 have h3:=qcN 3 1 h2 (x':=.tu [.ag [.ls k 0,.ls (k+1) 0],.one (.ls (k+2) 0),.one (.pv (iV e))]) (.tu (.cons (.ag (.cons (.same _) (.cons (.same _) .nil))) (.cons (.one .nil) (.cons (.one (.same _)) .nil))))
 refine qiF (post:=[qiW (k+2),qiW (k+1),qiW k]) h3 fun b o s h=>?_
 rw[qaa] at h
 split at h
 ·rename_i e1
  rw[qaa,if_neg (by omega),qaa,if_neg (by omega),qaa,if_pos e1];exact h
 ·rw[qaa] at h
  split at h
  ·rename_i e1
   rw[qaa,if_neg (by omega),qaa,if_pos e1];exact h
  ·rw[qaa] at h
   split at h
   ·rename_i e1
    rw[qaa,if_pos e1];exact h
   ·cases h
end
section
variable (s:List Pt) (tn td:Int)
noncomputable def buR (p:List Int):Br:=if buE s tn td p=0 then bld s tn td p else ⟨[],[]⟩
noncomputable def wiV (b:Br):Int:=if wiE b=0 then b.nd 0 else 0
noncomputable def paR (b:Br) (z:Int):List Int:=if paE b z=0 then wyV (b.w.length+z.toNat) else []
noncomputable def seR (b:Br) (z x:Int):Br×List Int:=if seE b s tn td z x=0 then rpF s tn td (wy (b.w.length+z.toNat)) (⟨b.p.set z.toNat x,b.w⟩,[]) else (⟨[],[]⟩,[])
end
abbrev qbP (f:FuncId) (s:List Pt) (tn td:Int) (p:List Int):Prop:=Fn f 2 [qaQ 0 s,.pv (qad tn td),.ls 1 p.length] [(0,0,qan s),(1,0,zrI p)] (.tu [qjJ 2 3 (buR s tn td p),.one (.pv (iV (buE s tn td p)))]) 2 [(2,0,zrI (buR s tn td p).p),(3,0,zrI (buR s tn td p).w)]
abbrev qhZ (f:FuncId) (b:Br):Prop:=Fn f 2 [brS 0 1 b] [(0,0,zrI b.p),(1,0,zrI b.w)] (.pv (.tuple #[iV (wiV b),iV (wiE b)])) 0 []
abbrev qfy (f:FuncId) (b:Br) (z:Int):Prop:=Fn f 2 [brS 0 1 b,.pv (iV z)] [(0,0,zrI b.p),(1,0,zrI b.w)] (.tu [.one (.ls 2 (paR b z).length),.one (.pv (iV (paE b z)))]) 1 [(2,0,zrI (paR b z))]
abbrev qe4 (f:FuncId) (s:List Pt) (tn td:Int) (b:Br) (z x:Int):Prop:=Fn f 3 [brS 0 1 b,qaQ 2 s,.pv (qad tn td),.pv (iV z),.pv (iV x)] [(0,0,zrI b.p),(1,0,zrI b.w),(2,0,qan s)]
 (.tu [qjJ 3 4 (seR s tn td b z x).1,.one (.ls 5 (seR s tn td b z x).2.length),.one (.pv (iV (seE b s tn td z x)))]) 3 [(3,0,zrI (seR s tn td b z x).1.p),(4,0,zrI (seR s tn td b z x).1.w),(5,0,zrI (seR s tn td b z x).2)]
section
variable {s:List Pt} {tn td:Int} (htn:I64 tn) (htd:I64 td)
def rtE (tn td:Int):Int:=if okB tn td=true then 0 else 8
include htn htd in
theorem qhL:Pure Try.prog 36 #[qad tn td] (iV (rtE tn td)):=by
 unfold rtE
 by_cases h:okB tn td=true
 ·rw[if_pos h];exact qeq htn htd h
 ·rw[if_neg h];exact qh3 htn htd h
theorem qkH:tE s tn td=if qem s=0 then rtE tn td else qem s:=rfl
theorem qit (h:tE s tn td=0):qem s=0∧rtE tn td=0:=by
 obtain⟨v,t⟩:=qej h
 exact⟨qfN.2 v,if_pos t⟩
include htn htd in
theorem qi3 (p:List Int) (hp:p.length≤70):qbP 9 s tn td p:=by
 have c1:=qdK s
 have c2:=qhL htn htd
 have c3:=qis (l:=p)
 by_cases ht:tE s tn td=0
 ·obtain⟨hs,hok⟩:=qej ht
  obtain⟨t1,t2⟩:=qit ht
  rw[t1] at c1
  rw[t2] at c2
  by_cases hz:1≤p.length∧p.length≤64
  ·rw[if_pos hz] at c3
   have c4:=qiJ hs (l:=p) rfl (by omega)
   have e:buE s tn td p=idE s p:=by unfold buE idE;rw[if_pos ht,if_pos hz]
   by_cases h0:idE s p=0
   ·obtain⟨_,_,_,_,hk,ho⟩:=qn4 (e.trans h0)
    have er:buR s tn td p=bld s tn td p:=by unfold buR;rw[if_pos (e.trans h0)]
    rw[h0] at c4
    unfold qbP
    rw[er,e,h0]
    have hl:(bld s tn td p).w.length=p.length-1:=qbL p
    have:=qnV (h2:=c1) (h3:=c2) (h4:=c3) (hb:=qpi hs) (hi:=c4) (hcl:=qcK (by omega)) (hf:=qkX htn htd hs hok hz.1 (by omega) hk)
    unfold qjJ zrI
    rw[hl]
    exact this
   ·have er:buR s tn td p=⟨[],[]⟩:=by unfold buR;rw[if_neg (by rw[e];exact h0)]
    unfold qbP
    rw[er,e]
    exact qpj (qns (h2:=c1) (h3:=c2) (h4:=c3) (hb:=qpi hs) (hi:=c4) (he4:=by simpa using h0))
  ·rw[if_neg hz] at c3
   have e:buE s tn td p=2:=by unfold buE;rw[if_pos ht,if_neg hz]
   have er:buR s tn td p=⟨[],[]⟩:=by unfold buR;rw[if_neg (by rw[e];decide)]
   unfold qbP
   rw[er,e]
   exact qpj (qpD (h2:=c1) (h3:=c2) (h4:=c3) (he:=by decide))
 ·have e:buE s tn td p=tE s tn td:=by unfold buE;rw[if_neg ht]
  have er:buR s tn td p=⟨[],[]⟩:=by unfold buR;rw[if_neg (by rw[e];exact ht)]
  unfold qbP
  rw[er,e]
  by_cases h1:qem s=0
  ·rw[h1] at c1
   rw[qkH,if_pos h1] at ht ⊢
   exact qpj (qpW (h2:=c1) (h3:=c2) (h4:=c3) (he:=by simpa using ht))
  ·rw[qkH,if_neg h1]
   exact qpj (qqC (h2:=c1) (h3:=c2) (h4:=c3) (he:=by simpa using h1))
theorem qlt {b:Br} (h:¬ VB b):wiE b=8∧wiV b=0:=by
 have e:wiE b=8:=by unfold wiE;rw[if_neg h]
 exact⟨e,by unfold wiV;rw[e];rfl⟩
theorem qkw {b:Br} (h:VB b) (h0:¬ b.nd 0<0):wiE b=0∧wiV b=b.nd 0:=by
 have e:wiE b=0:=by unfold wiE;rw[if_pos h,if_neg h0]
 exact⟨e,by unfold wiV;rw[if_pos e]⟩
theorem qnT {b:Br} (h:VB b) (h0:b.nd 0<0):wiE b=42∧wiV b=0:=by
 have e:wiE b=42:=by unfold wiE;rw[if_pos h,if_pos h0]
 exact⟨e,by unfold wiV;rw[e];rfl⟩
theorem VB.root {b:Br} (V:VB b) : -1≤b.nd 0:=(V.rng _ (qft V.w (fun i hi=>(V.kid i hi).1) (2*b.w.length) 0 (by omega))).1
theorem qlZ {b:Br} (h1:b.p.length≤70) (h2:b.w.length≤70):qhZ 12 b:=by
 have c1:=qmh h1 h2
 by_cases V:VB b
 ·rw[qgX V] at c1
  have c2:=qfF (b:=b) rfl rfl V.w (by omega) (i:=0) (by omega) (z:=0) rfl
  by_cases h0:b.nd 0<0
  ·unfold qhZ
   rw[(qnT V h0).1,(qnT V h0).2]
   have:=V.root
   exact qo4 (h1:=c1) (hn:=c2) (hx:=by simp;omega)
  ·unfold qhZ
   rw[(qkw V h0).1,(qkw V h0).2]
   exact qoM (h1:=c1) (hn:=c2) (hx:=by simp;omega)
 ·rw[qcm V] at c1
  unfold qhZ
  rw[(qlt V).1,(qlt V).2]
  exact qmQ (h1:=c1) (he:=by decide)
theorem qly {b:Br} {z:Int} (h:¬ VB b):paE b z=8∧paR b z=[]:=by
 have e:paE b z=8:=by unfold paE;rw[if_neg h]
 exact⟨e,by unfold paR;rw[e];rfl⟩
theorem qlv {b:Br} {z:Int} (h:VB b) (h0:¬ (0≤z∧z<b.p.length)):paE b z=2∧paR b z=[]:=by
 have e:paE b z=2:=by unfold paE;rw[if_pos h,if_neg h0]
 exact⟨e,by unfold paR;rw[e];rfl⟩
theorem qnq {b:Br} {z:Int} (h:VB b) (h0:0≤z∧z<b.p.length):paE b z=0∧paR b z=wyV (b.w.length+z.toNat):=by
 have e:paE b z=0:=by unfold paE;rw[if_pos h,if_pos h0]
 exact⟨e,by unfold paR;rw[if_pos e]⟩
theorem qpC {b:Br} (h1:b.p.length≤70) (h2:b.w.length≤70) (z:Int):qfy 13 b z:=by
 have c1:=qmh h1 h2
 have c2:=qjs (b:=b) z
 by_cases V:VB b
 ·rw[qgX V] at c1
  by_cases h0:0≤z∧z<b.p.length
  ·rw[if_pos h0] at c2
   have hw:=V.w
   have hn:=V.n2
   unfold qfy
   rw[(qnq V h0).1,(qnq V h0).2]
   exact qn3 (x:=(b.w.length:Int)+z) (h1:=c1) (h4:=c2) (ha:=qcL (by omega) (by omega)) (hco:=by
    have:=qge (j:=b.w.length+z.toNat) (by omega)
    rw[show ((b.w.length+z.toNat:Nat):Int)=(b.w.length:Int)+z by omega] at this
    exact this)
  ·rw[if_neg h0] at c2
   unfold qfy
   rw[(qlv V h0).1,(qlv V h0).2]
   exact qqZ (qqa (h1:=c1) (h4:=c2) (he:=by decide))
 ·rw[qcm V] at c1
  unfold qfy
  rw[(qly V).1,(qly V).2]
  exact qqZ (qqp (h1:=c1) (h4:=c2) (he:=by decide))
variable {b:Br} {z x:Int}
theorem qkL {e:Int} (h:seE b s tn td z x=e) (h0:¬ e=0):seR s tn td b z x=(⟨[],[]⟩,[]):=by unfold seR;rw[if_neg (by rw[h];exact h0)]
theorem qlL (h:¬ VB b):seE b s tn td z x=8:=by unfold seE;rw[if_neg h]
theorem qlq (h:VB b) (h0:¬ tE s tn td=0):seE b s tn td z x=tE s tn td:=by unfold seE;rw[if_pos h,if_neg h0]
theorem qlO (h:VB b) (h0:tE s tn td=0) (hz:¬ (0≤z∧z<b.p.length)):seE b s tn td z x=2:=by unfold seE;rw[if_pos h,if_pos h0,if_neg hz]
theorem qlj (h:VB b) (h0:tE s tn td=0) (hz:0≤z∧z<b.p.length):seE b s tn td z x=idE s (b.p.set z.toNat x):=by unfold seE idE;rw[if_pos h,if_pos h0,if_pos hz]
theorem qqf {p:List Int} (h:idE s p=0):KnB s p∧OneB p:=by
 unfold idE at h
 by_cases hk:KnB s p
 ·rw[if_pos hk] at h
  by_cases ho:OneB p
  ·exact⟨hk,ho⟩
  ·rw[if_neg ho] at h;cases h
 ·rw[if_neg hk] at h;cases h
include htn htd in
theorem qqQ (h1:b.p.length≤70) (h2:b.w.length≤70):qe4 14 s tn td b z x:=by
 have c1:=qmh h1 h2
 have c2:=qdK s
 have c3:=qhL htn htd
 have c4:=qjs (b:=b) z
 by_cases V:VB b
 ·rw[qgX V] at c1
  by_cases ht:tE s tn td=0
  ·obtain⟨hs,hok⟩:=qej ht
   obtain⟨t1,t2⟩:=qit ht
   rw[t1] at c2
   rw[t2] at c3
   by_cases hz:0≤z∧z<b.p.length
   ·rw[if_pos hz] at c4
    have hset:(b.p.set z.toNat x).length=b.p.length:=List.length_set
    have c5:=qiJ hs hset (by omega)
    have hzl:z.toNat<b.p.length:=by omega
    have k1:=qcK (l:=b.p) (by omega)
    have k2:=qcK (l:=b.w) (by omega)
    have e:=qlj (x:=x) V ht hz
    by_cases h0:idE s (b.p.set z.toNat x)=0
    ·obtain⟨hk,ho⟩:=qqf h0
     have e0:=e.trans h0
     have hw:=V.w
     have hn:=V.n2
     have er:seR s tn td b z x=rpF s tn td (wy (b.w.length+z.toNat)) (⟨b.p.set z.toNat x,b.w⟩,[]):=by unfold seR;rw[if_pos e0]
     unfold qe4
     rw[er,e0]
     rw[h0] at c5
     have hr:=qhy htn htd hs hok (g:=b.p.set z.toNat x) (w0:=b.w) (n:=b.w.length) (m:=b.p.length) (j:=z.toNat) rfl hset hw hn hzl (InX.put V hzl hk)
     rw[show ((z.toNat:Nat):Int)=z by omega] at hr
     have hl:(rpF s tn td (wy (b.w.length+z.toNat)) (⟨b.p.set z.toNat x,b.w⟩,[])).1.w.length=b.w.length:=by rw[qg1];exact (qfj _ _).1
     have hp:(rpF s tn td (wy (b.w.length+z.toNat)) (⟨b.p.set z.toNat x,b.w⟩,[])).1.p=b.p.set z.toNat x:=by rw[qg1];exact (qfj _ _).2
     have:=qoH (h1:=c1) (h2:=c2) (h3:=c3) (h4:=c4) (hc1:=k1) (hc2:=k2) (hix:=hz) (hg:=hzl) (hb:=qpi hs) (hi:=c5) (hr:=hr)
     unfold qjJ zrI
     rw[hl,hp,hset]
     exact this
    ·unfold qe4
     rw[qkL e h0,e]
     exact qoV (qnu (h1:=c1) (h2:=c2) (h3:=c3) (h4:=c4) (hc1:=k1) (hc2:=k2) (hix:=hz) (hg:=hzl) (hb:=qpi hs) (hi:=c5) (hee:=by simpa using h0))
   ·rw[if_neg hz] at c4
    unfold qe4
    rw[qkL (qlO V ht hz) (by decide),qlO V ht hz]
    exact qoV (qpQ (h1:=c1) (h2:=c2) (h3:=c3) (h4:=c4) (he:=by decide))
  ·unfold qe4
   rw[qkL (qlq V ht) ht,qlq V ht]
   by_cases e1:qem s=0
   ·rw[e1] at c2
    rw[qkH,if_pos e1] at ht ⊢
    exact qoV (qpE (h1:=c1) (h2:=c2) (h3:=c3) (h4:=c4) (he:=by simpa using ht))
   ·rw[qkH,if_neg e1]
    exact qoV (qpO (h1:=c1) (h2:=c2) (h3:=c3) (h4:=c4) (he:=by simpa using e1))
 ·rw[qcm V] at c1
  unfold qe4
  rw[qkL (qlL V) (by decide),qlL V]
  exact qoV (qpL (h1:=c1) (h2:=c2) (h3:=c3) (h4:=c4) (he:=by decide))
end
end Go.Proofs.Ytgbmdijodlfcaaa

namespace Go.Proofs.Ytgbmdijodlfcaaa
set_option maxRecDepth 100000
open Go.RowKit
theorem qhl {l:List Int} (hn:l.length≤1000000):Fn 27 2 [.ls 0 l.length,.ls 1 l.length] [(0,0,zrI l),(1,0,zrI l)] (.pv (.bool true)) 0 []:=
 qnC (hl:=by simp) (r0:=RunsL.roundsZ (N:=l.length) (fun k=>[(0,.ls 0 l.length),(1,.ls 1 l.length),(5,.pv (iV (k:Int)))]) (fun _=>[(0,0,zrI l),(1,0,zrI l)]) l.length 0 (by omega) (fun k _ hk r=>by
  obtain⟨x,hx⟩:=qas hk
  exact qlh (hk:=hx) (hin:=qaB hk) (hlt:=dt (by omega)) (hne:=by simp) (hs:=qay (by omega)) r) (qng (hge:=df (by omega))))
theorem ql1 {b:Br} (h1:b.p.length≤1000000) (h2:b.w.length≤1000000):Fn 17 4 [brS 0 1 b,brS 2 3 b] [(0,0,zrI b.p),(1,0,zrI b.w),(2,0,zrI b.p),(3,0,zrI b.w)] (.pv (.bool true)) 0 []:=
 qsm (h1:=qhl h1) (h2:=qhl h2)
section
variable {s:List Pt} {tn td:Int} (htn:I64 tn) (htd:I64 td)
variable {b:Br} {z x:Int}
end
end Go.Proofs.Ytgbmdijodlfcaaa

namespace Go.Proofs.Ytgbmdijodlfcaaa
set_option maxRecDepth 100000
open Go.ChangeShapes Go.WideShapes Go.ChangeAt Go.RowKit Go.Joins Go.Deep
section
variable {H:Type} {enc:TypeId×Value→H} {W:World} {base:Nat} {spare:Nat→Bool} {held:Bool}
end
section
variable {W:World} {f:FuncId} {s:List Pt} {l:List Int} {b:Br} {u u0 u1 v:Value} {vs:List Value} {t:Value}
theorem qp8 (h:Fn f 2 (qaQ 0 s::.pv t::.ls 1 l.length::vs.map .pv) [(0,0,qan s),(1,0,zrI l)] (.pv (.bool true)) 0 []) (hs:Rd W 3 u s.length (qeO s)) (hl:Rd W 1 v l.length (ziV l)) :
 Calls Try.prog f (.agg #[u]::t::v::vs).toArray W fun e W'=>e=.returned (.bool true)∧Gr W W':=
 qkt (rs:=[(68,3,s.length,qeO s),(3,1,l.length,ziV l)]) (us:=[u,v]) h (.cons hs (qiR s) (.cons hl (qfn l) .nil)) ⟨⟨[u],⟨⟨rfl,hs.zsl⟩,tI⟩,rfl⟩,rfl,⟨rfl,hl.zsl⟩,SV.isl_v vs⟩
end
end Go.Proofs.Ytgbmdijodlfcaaa

namespace Go.Proofs.Ytgbmdijodlfcaaa
set_option maxRecDepth 100000
open Go.RowKit
theorem qpP {z:Int} :
 Pure Try.prog 11 #[iV z] (qad z 1):=
 qak (args:=[iV z]) 300 []
  (Ai rfl tI) (by kernel_rfl)
theorem qqt :
 Fn 10 0 [] [] (.ag [.ls 0 3]) 1 [(0,0,qan qbE)]:=
 Fz [(0,1)] [.lw]
  (qcr (qaT [(0,1)]) [(0,0,qan qbE)]) tI
theorem qqA (hg:Fn 10 0 [] [] (.ag [.ls 0 3]) 1 [(0,0,qan qbE)]) (hat0:Pure Try.prog 11 #[iV (0)] (qad 0 1)) (hb:Fn 9 2 [qaQ 0 qbE,.pv (qad 0 1),.ls 1 [1,2,-1,5].length] [(0,0,qan qbE),(1,0,zrI [1,2,-1,5])] (.tu [qjJ 2 3 (Br.mk [1,2,-1,5] [2,2,5]),.one (.pv (iV 0))]) 2 [(2,0,zrI (Br.mk [1,2,-1,5] [2,2,5]).p),(3,0,zrI (Br.mk [1,2,-1,5] [2,2,5]).w)]) (hw:Fn 12 2 [brS 0 1 (Br.mk [1,2,-1,5] [2,2,5])] [(0,0,zrI (Br.mk [1,2,-1,5] [2,2,5]).p),(1,0,zrI (Br.mk [1,2,-1,5] [2,2,5]).w)] (.pv (.tuple #[iV 2,iV 0])) 0 []) (hs:Fn 14 3 [brS 0 1 (Br.mk [1,2,-1,5] [2,2,5]),qaQ 2 qbE,.pv (qad 0 1),.pv (iV (1)),.pv (iV (-1))] [(0,0,zrI (Br.mk [1,2,-1,5] [2,2,5]).p),(1,0,zrI (Br.mk [1,2,-1,5] [2,2,5]).w),(2,0,qan qbE)] (.tu [qjJ 3 4 (Br.mk [1,-1,-1,5] [1,1,5]),.one (.ls 5 [1,0].length),.one (.pv (iV 0))]) 3 [(3,0,zrI (Br.mk [1,-1,-1,5] [1,1,5]).p),(4,0,zrI (Br.mk [1,-1,-1,5] [1,1,5]).w),(5,0,zrI [1,0])]) (hp:Fn 13 2 [brS 0 1 (Br.mk [1,2,-1,5] [2,2,5]),.pv (iV (3))] [(0,0,zrI (Br.mk [1,2,-1,5] [2,2,5]).p),(1,0,zrI (Br.mk [1,2,-1,5] [2,2,5]).w)] (.tu [.one (.ls 2 [2,0].length),.one (.pv (iV 0))]) 1 [(2,0,zrI [2,0])]) (h1:Fn 27 2 [.ls 0 [2,2,5].length,.ls 1 [2,2,5].length] [(0,0,zrI [2,2,5]),(1,0,zrI [2,2,5])] (.pv (.bool true)) 0 []) (h2:Fn 27 2 [.ls 0 [1,1,5].length,.ls 1 [1,1,5].length] [(0,0,zrI [1,1,5]),(1,0,zrI [1,1,5])] (.pv (.bool true)) 0 []) (h3:Fn 27 2 [.ls 0 [1,0].length,.ls 1 [1,0].length] [(0,0,zrI [1,0]),(1,0,zrI [1,0])] (.pv (.bool true)) 0 []) (h4:Fn 27 2 [.ls 0 [2,0].length,.ls 1 [2,0].length] [(0,0,zrI [2,0]),(1,0,zrI [2,0])] (.pv (.bool true)) 0 []) :
 Fn 18 0 [] [] (.pv (.bool true)) 0 []:=
 qcf 600 [] [Cf hg [],Rf hat0,.lw,Cf hb [0,1],Cf hw [2,3],.md,Cf hg [],Rf hat0,Cf hs [2,3,5],Cf hp [2,3],.k,.lw,Cf h1 [3,11],.k,.k,.k,.lw,Cf h2 [7,12],.lw,Cf h3 [8,13],.k,.lw,Cf h4 [10,14]]
  tI (Co hg [] 0 (Ai hat0 (Co hb [0,1] 2 (Co hw [2,3] 5 (Co hg [] 5 (Ai hat0 (Co hs [2,3,5] 6 (Co hp [2,3] 10 (Co h1 [3,11] 12 (Co h2 [7,12] 13 (Co h3 [8,13] 14 (Co h4 [10,14] 15 tI)))))))))))) (by kernel_rfl)
end Go.Proofs.Ytgbmdijodlfcaaa

namespace Go.Proofs.Ytgbmdijodlfcaaa
set_option maxRecDepth 100000
open Go.RowKit
abbrev stE (l:List Int) (x:Int) (k:Nat):List (Nat×SV):=[(2,.ls 1 l.length),(3,.pv (iV x)),(4,.pp 2 0),(5,.pp 3 0),(9,.pp 6 0),(11,.ls 7 l.length),(12,.pv (iV (k:Int)))]
abbrev qq3 (s:List Pt) (tn td:Int) (o:Br) (l g:List Int):List (Nat×Nat×SV):=[(2,0,.ls 0 s.length),(3,0,.pv (iV tn)),(3,1,.pv (iV td)),(6,0,.ls 4 o.p.length),(6,1,.ls 5 o.w.length),(0,0,qan s),(1,0,zrI l),(4,0,zrI o.p),(5,0,zrI o.w),(7,0,.row 3 1 l.length (ziV g))]
abbrev stS (l:List Int) (x:Int) (k:Nat):List (Nat×SV):=[(2,.ls 1 l.length),(3,.pv (iV x)),(4,.pp 2 0),(5,.pp 3 0),(9,.pp 6 0),(13,.pp 10 0),(15,.pv (iV (k:Int)))]
abbrev qq8 (s:List Pt) (tn td:Int) (o b:Br) (l:List Int):List (Nat×Nat×SV):=[(2,0,.ls 0 s.length),(3,0,.pv (iV tn)),(3,1,.pv (iV td)),(6,0,.ls 4 o.p.length),(6,1,.ls 5 o.w.length),(0,0,qan s),(1,0,zrI l),(4,0,zrI o.p),(5,0,zrI o.w),(10,0,.ls 8 b.p.length),(10,1,.ls 9 b.w.length),(8,0,zrI b.p),(9,0,zrI b.w)]
theorem qid {l:List Int} {s:List Pt} {x tn td:Int} (hg:Fn 19 1 [qaQ 0 s] [(0,0,qan s)] (.pv (.bool true)) 0 []) (hal:Pure Try.prog 18 #[] (.bool true)) :
 Fn 8 2 [qaQ 0 s,.pv (qad tn td),.ls 1 l.length,.pv (iV (x))] [(0,0,qan s),(1,0,zrI l)] (.pv (.bool true)) 0 []:=
 Fz [] [Cf hg [0],Rf hal]
  tI (Co hg [0] 4 (Ai hal tI))
abbrev qnG (s:List Pt):Prop:=Fn 19 1 [qaQ 0 s] [(0,0,qan s)] (.pv (.bool false)) 0 []
theorem qkr {l:List Int} {s:List Pt} {x tn td e:Int} (hg:qnG s) (ht:Fn 29 1 [qaQ 0 s,.pv (qad tn td)] [(0,0,qan s)] (.pv (iV (e))) 0 []) (he:(e !=0)=true) (hal:Pure Try.prog 18 #[] (.bool true)) :
 Fn 8 2 [qaQ 0 s,.pv (qad tn td),.ls 1 l.length,.pv (iV (x))] [(0,0,qan s),(1,0,zrI l)] (.pv (.bool true)) 0 []:=
 Fz [] [Cf hg [0],Cf ht [0],.t true,Rf hal]
  tI (Co hg [0] 4 (Co ht [0] 4 (Ai he (Ai hal tI))))
abbrev qob (s:List Pt) (td:Int) (tn:Int):Prop:=Fn 29 1 [qaQ 0 s,.pv (qad tn td)] [(0,0,qan s)] (.pv (iV (0))) 0 []
theorem qoh {l:List Int} {s:List Pt} {x tn td:Int} (hg:qnG s) (ht:qob s td tn) (h16:decide ((l.length:Int)>16)=true) (hal:Pure Try.prog 18 #[] (.bool true)) :
 Fn 8 2 [qaQ 0 s,.pv (qad tn td),.ls 1 l.length,.pv (iV (x))] [(0,0,qan s),(1,0,zrI l)] (.pv (.bool true)) 0 []:=
 Fz [] [Cf hg [0],Cf ht [0],.k,.t true,Rf hal]
  tI (Co hg [0] 4 (Co ht [0] 4 (Ai h16 (Ai hal tI))))
theorem qmO {l:List Int} {s:List Pt} {x tn td:Int} (hg:qnG s) (ht:qob s td tn) (h16:decide ((l.length:Int)>16)=false) (hx0:decide (x<0)=true) (hal:Pure Try.prog 18 #[] (.bool true)) :
 Fn 8 2 [qaQ 0 s,.pv (qad tn td),.ls 1 l.length,.pv (iV (x))] [(0,0,qan s),(1,0,zrI l)] (.pv (.bool true)) 0 []:=
 Fz [] [Cf hg [0],Cf ht [0],.k,.t false,.t true,Rf hal]
  tI (Co hg [0] 4 (Co ht [0] 4 (Ai h16 (Ai hx0 (Ai hal tI)))))
theorem qmL {l:List Int} {s:List Pt} {x tn td:Int} (hg:qnG s) (ht:qob s td tn) (h16:decide ((l.length:Int)>16)=false) (hx0:decide (x<0)=false) (hxl:decide (x≥(l.length:Int))=true) (hal:Pure Try.prog 18 #[] (.bool true)) :
 Fn 8 2 [qaQ 0 s,.pv (qad tn td),.ls 1 l.length,.pv (iV (x))] [(0,0,qan s),(1,0,zrI l)] (.pv (.bool true)) 0 []:=
 Fz [] [Cf hg [0],Cf ht [0],.k,.t false,.t false,.t true,Rf hal]
  tI (Co hg [0] 4 (Co ht [0] 4 (Ai h16 (Ai hx0 (Ai hxl (Ai hal tI))))))
theorem qnn {o:Br} {l:List Int} {s:List Pt} {x tn td e1:Int} (hg:qnG s) (ht:qob s td tn) (h16:decide ((l.length:Int)>16)=false) (hx0:decide (x<0)=false) (hxl:decide (x≥(l.length:Int))=false) (hb1:Fn 9 2 [qaQ 0 s,.pv (qad tn td),.ls 1 l.length] [(0,0,qan s),(1,0,zrI l)] (.tu [qjJ 2 3 o,.one (.pv (iV e1))]) 2 [(2,0,zrI o.p),(3,0,zrI o.w)]) (he:(e1 !=0)=true) (hal:Pure Try.prog 18 #[] (.bool true)) :
 Fn 8 2 [qaQ 0 s,.pv (qad tn td),.ls 1 l.length,.pv (iV (x))] [(0,0,qan s),(1,0,zrI l)] (.pv (.bool true)) 0 []:=
 Fz [] [Cf hg [0],Cf ht [0],.k,.t false,.t false,.t false,Cf hb1 [0,1],.t true,Rf hal]
  tI (Co hg [0] 4 (Co ht [0] 4 (Ai h16 (Ai hx0 (Ai hxl (Co hb1 [0,1] 4 (Ai he (Ai hal tI))))))))
theorem qqF {o:Br} {l g:List Int} {s:List Pt} {k:Nat} {x tn td:Int} (hlt:decide ((k:Int)<(l.length:Int))=true) (hin:0≤(k:Int)∧(k:Int)<(l.length:Int)) (hgl:((k:Nat):Int).toNat<g.length) (hs:iV (IntKind.i64.wrap ((k:Int)+1))=iV (((k+1:Nat):Int))) {e:Exit} {tm2:TmL} {hp2:HpL}
 (r:Rl 2 2 8 0 109 8 ([(2,.ls 1 l.length),(3,.pv (iV x)),(4,.pp 2 0),(5,.pp 3 0),(9,.pp 6 0),(11,.ls 7 l.length),(12,.pv (iV ((k+1:Nat):Int)))]) ([(2,0,.ls 0 s.length),(3,0,.pv (iV tn)),(3,1,.pv (iV td)),(6,0,.ls 4 o.p.length),(6,1,.ls 5 o.w.length),(0,0,qan s),(1,0,zrI l),(4,0,zrI o.p),(5,0,zrI o.w),(7,0,.row 3 1 l.length (ziV (g.set k (-1))))]) e tm2 hp2):Rl 2 2 8 0 109 8 ([(2,.ls 1 l.length),(3,.pv (iV x)),(4,.pp 2 0),(5,.pp 3 0),(9,.pp 6 0),(11,.ls 7 l.length),(12,.pv (iV (k:Int)))]) ([(2,0,.ls 0 s.length),(3,0,.pv (iV tn)),(3,1,.pv (iV td)),(6,0,.ls 4 o.p.length),(6,1,.ls 5 o.w.length),(0,0,qan s),(1,0,zrI l),(4,0,zrI o.p),(5,0,zrI o.w),(7,0,.row 3 1 l.length (ziV g))]) e tm2 hp2:=
 RunsL.next [] 300 [.t true,.w (ziV (g.set k (-1))),Re hs]
  (Ro (Ai hlt (Ai hin (Ai (qoT g ((k:Nat):Int).toNat (-1) hgl) (Ai (qe5 g ((k:Nat):Int).toNat hgl) (Ai hs tI)))))) r
theorem qkx {o:Br} {l g:List Int} {s:List Pt} {k:Nat} {x tn td:Int} (hlt:decide ((k:Int)<(l.length:Int))=false):Rl 2 2 8 0 109 8 ([(2,.ls 1 l.length),(3,.pv (iV x)),(4,.pp 2 0),(5,.pp 3 0),(9,.pp 6 0),(11,.ls 7 l.length),(12,.pv (iV (k:Int)))]) ([(2,0,.ls 0 s.length),(3,0,.pv (iV tn)),(3,1,.pv (iV td)),(6,0,.ls 4 o.p.length),(6,1,.ls 5 o.w.length),(0,0,qan s),(1,0,zrI l),(4,0,zrI o.p),(5,0,zrI o.w),(7,0,.row 3 1 l.length (ziV g))]) (.exit 0) ([(2,.ls 1 l.length),(3,.pv (iV x)),(4,.pp 2 0),(5,.pp 3 0),(9,.pp 6 0),(11,.ls 7 l.length)]) ([(2,0,.ls 0 s.length),(3,0,.pv (iV tn)),(3,1,.pv (iV td)),(6,0,.ls 4 o.p.length),(6,1,.ls 5 o.w.length),(0,0,qan s),(1,0,zrI l),(4,0,zrI o.p),(5,0,zrI o.w),(7,0,.row 3 1 l.length (ziV g))]):=
 RunsL.stop [] 300 [.t false] (fun h=>by cases h)
  (Ro (Ai hlt tI))
theorem qp0 {b o g9:Br} {l m:List Int} {s:List Pt} {k:Nat} {x y z v tn td:Int} (hlt:decide ((k:Int)<(l.length:Int))=true) (ha:iV (IntKind.i64.wrap ((k:Int)+x))=iV (y)) (nz:¬ (l.length:Int)=0) (hw:iV (Int.tmod y (l.length:Int))=iV (z)) (hix:0≤z∧z<(l.length:Int)) (hk:l[z.toNat]?=some v) (h1:Fn 14 3 [brS 0 1 b,qaQ 2 s,.pv (qad tn td),.pv (iV (z)),.pv (iV (v))] [(0,0,zrI b.p),(1,0,zrI b.w),(2,0,qan s)] (.tu [qjJ 3 4 g9,.one (.ls 5 m.length),.one (.pv (iV 0))]) 3 [(3,0,zrI g9.p),(4,0,zrI g9.w),(5,0,zrI m)]) (hs:iV (IntKind.i64.wrap ((k:Int)+1))=iV (((k+1:Nat):Int))) {e:Exit} {tm2:TmL} {hp2:HpL}
 (r:Rl 2 2 8 1 109 11 ([(2,.ls 1 l.length),(3,.pv (iV x)),(4,.pp 2 0),(5,.pp 3 0),(9,.pp 6 0),(13,.pp 10 0),(15,.pv (iV ((k+1:Nat):Int)))]) ([(2,0,.ls 0 s.length),(3,0,.pv (iV tn)),(3,1,.pv (iV td)),(6,0,.ls 4 o.p.length),(6,1,.ls 5 o.w.length),(0,0,qan s),(1,0,zrI l),(4,0,zrI o.p),(5,0,zrI o.w),(10,0,.ls 8 g9.p.length),(10,1,.ls 9 g9.w.length),(8,0,zrI g9.p),(9,0,zrI g9.w)]) e tm2 hp2):Rl 2 2 8 1 109 11 ([(2,.ls 1 l.length),(3,.pv (iV x)),(4,.pp 2 0),(5,.pp 3 0),(9,.pp 6 0),(13,.pp 10 0),(15,.pv (iV (k:Int)))]) ([(2,0,.ls 0 s.length),(3,0,.pv (iV tn)),(3,1,.pv (iV td)),(6,0,.ls 4 o.p.length),(6,1,.ls 5 o.w.length),(0,0,qan s),(1,0,zrI l),(4,0,zrI o.p),(5,0,zrI o.w),(10,0,.ls 8 b.p.length),(10,1,.ls 9 b.w.length),(8,0,zrI b.p),(9,0,zrI b.w)]) e tm2 hp2:=
 RunsL.next [(8,11),(9,12)] 300 [.t true,Re ha,Re hw,.md,.r (iV v),Cf h1 [8,9,0],.k,Re hs]
  (Ro (Ai hlt (Ai ha (Ai nz (Ai hw (Ai hix (Ai (qnd hk) (Co h1 [8,9,0] 11 (Ai hs tI))))))))) r
theorem qk7 {b o:Br} {l:List Int} {s:List Pt} {k:Nat} {x tn td:Int} (hlt:decide ((k:Int)<(l.length:Int))=false):Rl 2 2 8 1 109 11 ([(2,.ls 1 l.length),(3,.pv (iV x)),(4,.pp 2 0),(5,.pp 3 0),(9,.pp 6 0),(13,.pp 10 0),(15,.pv (iV (k:Int)))]) ([(2,0,.ls 0 s.length),(3,0,.pv (iV tn)),(3,1,.pv (iV td)),(6,0,.ls 4 o.p.length),(6,1,.ls 5 o.w.length),(0,0,qan s),(1,0,zrI l),(4,0,zrI o.p),(5,0,zrI o.w),(10,0,.ls 8 b.p.length),(10,1,.ls 9 b.w.length),(8,0,zrI b.p),(9,0,zrI b.w)]) (.exit 2) ([(4,.pp 2 0),(5,.pp 3 0),(9,.pp 6 0),(13,.pp 10 0)]) ([(2,0,.ls 0 s.length),(3,0,.pv (iV tn)),(3,1,.pv (iV td)),(6,0,.ls 4 o.p.length),(6,1,.ls 5 o.w.length),(0,0,qan s),(1,0,zrI l),(4,0,zrI o.p),(5,0,zrI o.w),(10,0,.ls 8 b.p.length),(10,1,.ls 9 b.w.length),(8,0,zrI b.p),(9,0,zrI b.w)]):=
 RunsL.stop [] 300 [.t false] (fun h=>by cases h)
  (Ro (Ai hlt tI))
theorem qka {b o:Br} {l g:List Int} {s:List Pt} {x tn td:Int} (hg:qnG s) (ht:qob s td tn) (h16:decide ((l.length:Int)>16)=false) (hx0:decide (x<0)=false) (hxl:decide (x≥(l.length:Int))=false) (hb1:Fn 9 2 [qaQ 0 s,.pv (qad tn td),.ls 1 l.length] [(0,0,qan s),(1,0,zrI l)] (.tu [qjJ 2 3 o,.one (.pv (iV 0))]) 2 [(2,0,zrI o.p),(3,0,zrI o.w)]) (n0:0≤(l.length:Int)) (n1:(l.length:Int)≤1000000) (r0:Rl 2 2 8 0 109 8 ([(2,.ls 1 l.length),(3,.pv (iV x)),(4,.pp 2 0),(5,.pp 3 0),(9,.pp 6 0),(11,.ls 7 l.length),(12,.pv (iV ((0:Nat):Int)))]) ([(2,0,.ls 0 s.length),(3,0,.pv (iV tn)),(3,1,.pv (iV td)),(6,0,.ls 4 o.p.length),(6,1,.ls 5 o.w.length),(0,0,qan s),(1,0,zrI l),(4,0,zrI o.p),(5,0,zrI o.w),(7,0,.row 3 1 l.length (ziV (List.replicate l.length 0)))]) (.exit 0) ([(2,.ls 1 l.length),(3,.pv (iV x)),(4,.pp 2 0),(5,.pp 3 0),(9,.pp 6 0),(11,.ls 7 l.length)]) ([(2,0,.ls 0 s.length),(3,0,.pv (iV tn)),(3,1,.pv (iV td)),(6,0,.ls 4 o.p.length),(6,1,.ls 5 o.w.length),(0,0,qan s),(1,0,zrI l),(4,0,zrI o.p),(5,0,zrI o.w),(7,0,.row 3 1 l.length (ziV g))])) (hb2:Fn 9 2 [qaQ 0 s,.pv (qad tn td),.ls 1 l.length] [(0,0,qan s),(1,0,.row 3 1 l.length (ziV g))] (.tu [qjJ 2 3 b,.one (.pv (iV 0))]) 2 [(2,0,zrI b.p),(3,0,zrI b.w)]) (r1:Rl 2 2 8 1 109 11 ([(2,.ls 1 l.length),(3,.pv (iV x)),(4,.pp 2 0),(5,.pp 3 0),(9,.pp 6 0),(13,.pp 10 0),(15,.pv (iV ((0:Nat):Int)))]) ([(2,0,.ls 0 s.length),(3,0,.pv (iV tn)),(3,1,.pv (iV td)),(6,0,.ls 4 o.p.length),(6,1,.ls 5 o.w.length),(0,0,qan s),(1,0,zrI l),(4,0,zrI o.p),(5,0,zrI o.w),(10,0,.ls 8 b.p.length),(10,1,.ls 9 b.w.length),(8,0,zrI b.p),(9,0,zrI b.w)]) (.exit 2) ([(4,.pp 2 0),(5,.pp 3 0),(9,.pp 6 0),(13,.pp 10 0)]) ([(2,0,.ls 0 s.length),(3,0,.pv (iV tn)),(3,1,.pv (iV td)),(6,0,.ls 4 o.p.length),(6,1,.ls 5 o.w.length),(0,0,qan s),(1,0,zrI l),(4,0,zrI o.p),(5,0,zrI o.w),(10,0,.ls 8 o.p.length),(10,1,.ls 9 o.w.length),(8,0,zrI o.p),(9,0,zrI o.w)])) (hs:Fn 17 4 [brS 0 1 o,brS 2 3 o] [(0,0,zrI o.p),(1,0,zrI o.w),(2,0,zrI o.p),(3,0,zrI o.w)] (.pv (.bool true)) 0 []) (hal:Pure Try.prog 18 #[] (.bool true)) :
 Fn 8 2 [qaQ 0 s,.pv (qad tn td),.ls 1 l.length,.pv (iV (x))] [(0,0,qan s),(1,0,zrI l)] (.pv (.bool true)) 0 []:=
 qcf 600 [] [Cf hg [0],Cf ht [0],.k,.t false,.t false,.t false,Cf hb1 [0,1],.k,Lf r0,Cf hb2 [0,7],.k,Lf r1,Cf hs [8,9,4,5],Rf hal]
  tI (Co hg [0] 4 (Co ht [0] 4 (Ai h16 (Ai hx0 (Ai hxl (Co hb1 [0,1] 4 (Ai n0 (Ai (Eq.refl (l.length:Int)) (Ai n1 (Ai (Lt r0 []) (Ai (Ai (Er (SV.ls 0 s.length)) (Ai (Er (SV.pv (iV tn))) (Ai (Er (SV.pv (iV td))) (Ai (Er (SV.ls 4 o.p.length)) (Ai (Er (SV.ls 5 o.w.length)) (Ai (Er (qan s)) (Ai (Er (zrI l)) (Ai (Er (zrI o.p)) (Ai (Er (zrI o.w)) (Ai (qgk l.length) tI)))))))))) (Ai r0 (Co hb2 [0,7] 8 (Lo r1 [] (Co hs [8,9,4,5] 11 (Ai hal tI)))))))))))))))) (by kernel_rfl)
end Go.Proofs.Ytgbmdijodlfcaaa

namespace Go.Proofs.Ytgbmdijodlfcaaa
set_option maxRecDepth 100000
open Go.RowKit
theorem qoZ {f:FuncId} {v:Value} (h:Fn f 0 [] [] (.pv v) 0 []):Pure Try.prog f #[] v:=by
 intro w
 refine (h w Bl.no [] (qdY w) (fun _ _=>⟨rfl,rfl⟩) tI).mono fun e w' ⟨u,β',he,_,hx,hh,_⟩=>?_
 cases hx
 exact⟨he,hh.gr⟩
theorem qlG {n:Int} (h1 : -1000≤n) (h2:n≤1000):I64 n:=⟨by omega,by omega⟩
theorem qfp:Val qbE:=⟨by show 3≤64;omega,fun p hp=>by
 simp only[List.mem_cons,List.not_mem_nil,or_false] at hp
 rcases hp with rfl | rfl | rfl<;>decide,fun k p q hp hq=>by
 match k,hp,hq with
 | 0,hp,hq=>cases hp;cases hq;decide
 | 1,hp,hq=>cases hp;cases hq;decide
 | 2,_,hq=>simp at hq
 | k+3,hp,_=>simp at hp⟩
theorem qp6 {p:List Int} (h:∀ x∈p,x = -1∨x=1∨x=2∨x=5):KnB qbE p:=fun x hx h1=>by
 rcases h x hx with rfl | rfl | rfl | rfl
 ·exact (h1 rfl).elim
 ·exact⟨⟨1,0,2⟩,by simp,rfl⟩
 ·exact⟨⟨2,6,-1⟩,by simp,rfl⟩
 ·exact⟨⟨5,0,0⟩,by simp,rfl⟩
theorem ql9 {p:List Int} (h:∀ i,i<p.length→∀ k,k<p.length→p.getD i 0=p.getD k 0→0≤p.getD i 0→i=k):OneB p:=fun i k x hi hk h0=>by
 have e1:p.getD i 0=x:=by rw[List.getD_eq_getElem?_getD,hi];rfl
 have e2:p.getD k 0=x:=by rw[List.getD_eq_getElem?_getD,hk];rfl
 exact h i (qax hi) k (qax hk) (e1.trans e2.symm) (by rw[e1];exact h0)
section
variable {s:List Pt} {tn td:Int}
theorem qn1 {p:List Int} (hk:KnB s p) (h1:OneB p):idE s p=0:=by unfold idE;rw[if_pos hk,if_pos h1]
theorem qiI {p:List Int} (ht:tE s tn td=0) (n:1≤p.length∧p.length≤64) (hk:KnB s p) (h1:OneB p):buE s tn td p=0∧buR s tn td p=bld s tn td p:=by
 have e:buE s tn td p=0:=by unfold buE;rw[if_pos ht,if_pos n,if_pos hk,if_pos h1]
 exact⟨e,by unfold buR;rw[if_pos e]⟩
theorem qlN {b:Br} {z x:Int} (V:VB b) (ht:tE s tn td=0) (hz:0≤z∧z<b.p.length) (hk:KnB s (b.p.set z.toNat x)) (h1:OneB (b.p.set z.toNat x)):seE b s tn td z x=0∧seR s tn td b z x=rpF s tn td (wy (b.w.length+z.toNat)) (⟨b.p.set z.toNat x,b.w⟩,[]):=by
 have e:seE b s tn td z x=0:=(qlj V ht hz).trans (qn1 hk h1)
 exact⟨e,by unfold seR;rw[if_pos e]⟩
end
theorem qpH (n:Int) (h:okB n 1=true):tE qbE n 1=0:=qqe qfp h
abbrev br4:Br:=⟨[1,2,-1,5],[2,2,5]⟩
theorem qln:bld qbE 0 1 [1,2,-1,5]=br4:=by
 have:=qkU
 show (⟨[1,2,-1,5],_⟩:Br)=_
 rw[show br4=⟨[1,2,-1,5],(bld qbE 0 1 [1,2,-1,5]).w⟩ by rw[this]]
 rfl
theorem qgY:VB br4:=by
 rw[← qln]
 exact qok qfp (by decide) (by decide) (qp6 (by decide)) (ql9 (by decide))
theorem qm9:Fn 10 0 [] [] (.ag [.ls 0 3]) 1 [(0,0,qan qbE)]:=qqt
set_option maxRecDepth 10000 in
theorem qcg:Pure Try.prog 18 #[] (.bool true):=by
 have z0:I64 0:=qlG (by omega) (by omega)
 have z1:I64 1:=qlG (by omega) (by omega)
 have ht:=qpH 0 (by decide)
 have hb:=qi3 (s:=qbE) z0 z1 [1,2,-1,5] (by decide)
 obtain⟨e1,e2⟩:=qiI (p:=[1,2,-1,5]) ht (by decide) (qp6 (by decide)) (ql9 (by decide))
 unfold qbP at hb
 rw[e1,e2,qln] at hb
 have hw:=qlZ (b:=br4) (by decide) (by decide)
 unfold qhZ at hw
 rw[(qkw qgY (by decide)).1,(qkw qgY (by decide)).2] at hw
 have hs:=qqQ (s:=qbE) (b:=br4) (z:=1) (x:=-1) z0 z1 (by decide) (by decide)
 obtain⟨e3,e4⟩:=qlN (s:=qbE) (tn:=0) (td:=1) (b:=br4) (z:=1) (x:=-1) qgY ht (by decide) (qp6 (by decide)) (ql9 (by decide))
 have e5:seR qbE 0 1 br4 1 (-1)=(⟨[1,-1,-1,5],[1,1,5]⟩,[1,0]):=by
  rw[e4]
  generalize hq:rpF qbE 0 1 (wy (br4.w.length+(1:Int).toNat)) (⟨br4.p.set (1:Int).toNat (-1),br4.w⟩,[])=q
  have h1:q.1.w=[1,1,5]:=by rw[← hq];decide
  have h2:q.2=[1,0]:=by rw[← hq];decide
  have h3:q.1.p=[1,-1,-1,5]:=by rw[← hq];decide
  obtain⟨⟨p,w⟩,m⟩:=q
  simp only at h1 h2 h3
  rw[h1,h2,h3]
 unfold qe4 at hs
 rw[e3,e5] at hs
 have hp:=qpC (b:=br4) (by decide) (by decide) 3
 obtain⟨e6,e7⟩:=qnq (b:=br4) (z:=3) qgY (by decide)
 unfold qfy at hp
 rw[e6,e7,show wyV (br4.w.length+(3:Int).toNat)=[2,0] by decide] at hp
 exact qoZ (qqA (hg:=qm9) (hat0:=qpP) (hb:=hb) (hw:=hw) (hs:=hs) (hp:=hp) (h1:=qhl (by decide)) (h2:=qhl (by decide)) (h3:=qhl (by decide)) (h4:=qhl (by decide)))
section
variable {s:List Pt} {tn td:Int} (htn:I64 tn) (htd:I64 td)
end
end Go.Proofs.Ytgbmdijodlfcaaa
