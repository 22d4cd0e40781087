/-
  Package bracket's exported functions: what they return of any arguments. Conditions: none.
-/
import Derived.Test.YtgbmdijodlfcaaaW36
import Derived.Test.YtgbmdijodlfcaaaSxP
import Derived.Test.YtgbmdijodlfcaaaW26
import Derived.Test.YtgbmdijodlfcaaaW21
namespace Go.Proofs.Ytgbmdijodlfcaaa
set_option maxRecDepth 100000
open Go.RowKit
theorem qmb {β:Bl}:∀ vs:List Value,S1.isl β (vs.map fun v=>.one (.pv v)) vs
 | []=>trivial
 | _::r=>⟨rfl,qmb r⟩
theorem qhY {P:Program} {f:FuncId} {k m:Nat} {args:List SV} {pre post:List (Nat×Nat×SV)} {vs:List Value} (h:FnL P f k args pre (.pv (.tuple vs.toArray)) m post):FnL P f k args pre (.tu (vs.map fun v=>.one (.pv v))) m post:=by
 intro w β us H hd hi
 refine (h w β us H hd hi).mono fun e w' ⟨v,β',he,hle,hx,hh,hd'⟩=>⟨v,β',he,hle,⟨vs,qmb vs,hx⟩,hh,hd'⟩
theorem qie {P:Program} {f:FuncId} {k m:Nat} {args:List SV} {pre post post':List (Nat×Nat×SV)} {x:SV} (h:FnL P f k args pre x m post) (hi:∀ b o s,qab post' b o=some s→qab post b o=some s):FnL P f k args pre x m post':=by
 intro w β us H hd hu
 exact (h w β us H hd hu).mono fun e w' ⟨v,β',he,hle,hx,hh,hd'⟩=>⟨v,β',he,hle,hx,hh.imp fun b o s h=>hi b o s h,hd'⟩
abbrev qjv (b:Nat):Nat×Nat×SV:=(b,0,.row 3 1 0 [])
section
variable {P:Program} {f:FuncId} {k:Nat} {args:List SV} {pre:List (Nat×Nat×SV)} {e:Int}
theorem qsB (h:FnL P f k args pre (.pv (.tuple #[.slice none 0 0,iV e])) 0 []):FnL P f k args pre (.tu [.one (.ls k 0),.one (.pv (iV e))]) 1 [qjv k]:=
 qcJ 3 1 (qhY (vs:=[.slice none 0 0,iV e]) h) (.tu (.cons (.one .nil) (.cons (.one (.same _)) .nil)))
theorem qqN (h:FnL P f k args pre (.pv (.tuple #[.agg #[.slice none 0 0,.slice none 0 0],iV e])) 0 []):FnL P f k args pre (.tu [.ag [.ls k 0,.ls (k+1) 0],.one (.pv (iV e))]) 2 [qjv k,qjv (k+1)]:=by
 have h1:=qcJ 3 1 (qhY (vs:=[.agg #[.slice none 0 0,.slice none 0 0],iV e]) h) (x':=.tu [.ag [.ls k 0,.pv (.slice none 0 0)],.one (.pv (iV e))]) (.tu (.cons (.un (vs:=[.slice none 0 0,.slice none 0 0]) (.cons .nil (.cons (.same _) .nil))) (.cons (.one (.same _)) .nil)))
 have h2:=qcJ 3 1 h1 (x':=.tu [.ag [.ls k 0,.ls (k+1) 0],.one (.pv (iV e))]) (.tu (.cons (.ag (.cons (.same _) (.cons .nil .nil))) (.cons (.one (.same _)) .nil)))
 refine qie (post:=[qjv (k+1),qjv k]) h2 fun b o s h=>?_
 rw[qaa] at h
 split at h
 ·rename_i e1
  rw[qaa,if_neg (by omega),qaa,if_pos e1];exact h
 ·rw[qaa] at h
  split at h
  ·rename_i e1
   rw[qaa,if_pos e1];exact h
  ·cases h
theorem qoT (h:FnL P f k args pre (.pv (.tuple #[.agg #[.slice none 0 0,.slice none 0 0],.slice none 0 0,iV e])) 0 []):FnL P f k args pre (.tu [.ag [.ls k 0,.ls (k+1) 0],.one (.ls (k+2) 0),.one (.pv (iV e))]) 3 [qjv k,qjv (k+1),qjv (k+2)]:=by
 have h1:=qcJ 3 1 (qhY (vs:=[.agg #[.slice none 0 0,.slice none 0 0],.slice none 0 0,iV e]) h) (x':=.tu [.ag [.ls k 0,.pv (.slice none 0 0)],.one (.pv (.slice none 0 0)),.one (.pv (iV e))]) (.tu (.cons (.un (vs:=[.slice none 0 0,.slice none 0 0]) (.cons .nil (.cons (.same _) .nil))) (.cons (.one (.same _)) (.cons (.one (.same _)) .nil))))
 have h2:=qcJ 3 1 h1 (x':=.tu [.ag [.ls k 0,.ls (k+1) 0],.one (.pv (.slice none 0 0)),.one (.pv (iV e))]) (.tu (.cons (.ag (.cons (.same _) (.cons .nil .nil))) (.cons (.one (.same _)) (.cons (.one (.same _)) .nil))))
 have h3:=qcJ 3 1 h2 (x':=.tu [.ag [.ls k 0,.ls (k+1) 0],.one (.ls (k+2) 0),.one (.pv (iV e))]) (.tu (.cons (.ag (.cons (.same _) (.cons (.same _) .nil))) (.cons (.one .nil) (.cons (.one (.same _)) .nil))))
 refine qie (post:=[qjv (k+2),qjv (k+1),qjv k]) h3 fun b o s h=>?_
 rw[qaa] at h
 split at h
 ·rename_i e1
  rw[qaa,if_neg (by omega),qaa,if_neg (by omega),qaa,if_pos e1];exact h
 ·rw[qaa] at h
  split at h
  ·rename_i e1
   rw[qaa,if_neg (by omega),qaa,if_pos e1];exact h
  ·rw[qaa] at h
   split at h
   ·rename_i e1
    rw[qaa,if_pos e1];exact h
   ·cases h
end
section
variable (s:List Pt) (tn td:Int)
noncomputable def buR (p:List Int):Br:=if buE s tn td p=0 then bld s tn td p else ⟨[],[]⟩
noncomputable def wiV (b:Br):Int:=if wiE b=0 then b.nd 0 else 0
noncomputable def paR (b:Br) (z:Int):List Int:=if paE b z=0 then wyV (b.w.length+z.toNat) else []
noncomputable def riB (b:Br):Bool:=if riE b s tn td=0 then pB (RtB s tn td b) else false
noncomputable def seR (b:Br) (z x:Int):Br×List Int:=if seE b s tn td z x=0 then rpF s tn td (wy (b.w.length+z.toNat)) (⟨b.p.set z.toNat x,b.w⟩,[]) else (⟨[],[]⟩,[])
end
abbrev qcU (f:FuncId) (s:List Pt) (tn td:Int) (p:List Int):Prop:=Fn f 2 [qaz 0 s,.pv (qac tn td),.ls 1 p.length] [(0,0,qal s),(1,0,zrI p)] (.tu [qls 2 3 (buR s tn td p),.one (.pv (iV (buE s tn td p)))]) 2 [(2,0,zrI (buR s tn td p).p),(3,0,zrI (buR s tn td p).w)]
abbrev qfX (f:FuncId) (b:Br):Prop:=Fn f 2 [brS 0 1 b] [(0,0,zrI b.p),(1,0,zrI b.w)] (.pv (iV (erB b))) 0 []
abbrev qjI (f:FuncId) (b:Br):Prop:=Fn f 2 [brS 0 1 b] [(0,0,zrI b.p),(1,0,zrI b.w)] (.pv (.tuple #[iV (wiV b),iV (wiE b)])) 0 []
abbrev qem (f:FuncId) (b:Br) (z:Int):Prop:=Fn f 2 [brS 0 1 b,.pv (iV z)] [(0,0,zrI b.p),(1,0,zrI b.w)] (.tu [.one (.ls 2 (paR b z).length),.one (.pv (iV (paE b z)))]) 1 [(2,0,zrI (paR b z))]
abbrev qcf (f:FuncId) (s:List Pt) (tn td:Int) (b:Br):Prop:=Fn f 3 [brS 0 1 b,qaz 2 s,.pv (qac tn td)] [(0,0,zrI b.p),(1,0,zrI b.w),(2,0,qal s)] (.pv (.tuple #[.bool (riB s tn td b),iV (riE b s tn td)])) 0 []
abbrev qfr (f:FuncId) (s:List Pt) (tn td:Int) (b:Br) (z x:Int):Prop:=Fn f 3 [brS 0 1 b,qaz 2 s,.pv (qac tn td),.pv (iV z),.pv (iV x)] [(0,0,zrI b.p),(1,0,zrI b.w),(2,0,qal s)]
 (.tu [qls 3 4 (seR s tn td b z x).1,.one (.ls 5 (seR s tn td b z x).2.length),.one (.pv (iV (seE b s tn td z x)))]) 3 [(3,0,zrI (seR s tn td b z x).1.p),(4,0,zrI (seR s tn td b z x).1.w),(5,0,zrI (seR s tn td b z x).2)]
section
variable {s:List Pt} {tn td:Int} (htn:I64 tn) (htd:I64 td)
def rtE (tn td:Int):Int:=if okB tn td=true then 0 else 8
include htn htd in
theorem qfQ:Pure Try.prog 36 #[qac tn td] (iV (rtE tn td)):=by
 unfold rtE
 by_cases h:okB tn td=true
 ·rw[if_pos h];exact qev htn htd h
 ·rw[if_neg h];exact qjz htn htd h
theorem qhq:tE s tn td=if qdV s=0 then rtE tn td else qdV s:=rfl
theorem qfT (h:tE s tn td=0):qdV s=0∧rtE tn td=0:=by
 obtain⟨v,t⟩:=qcp h
 exact⟨qgq.2 v,if_pos t⟩
include htn htd in
theorem qqA (p:List Int) (hp:p.length≤70):qcU 9 s tn td p:=by
 have c1:=qcK s
 have c2:=qfQ htn htd
 have c3:=qjD (l:=p)
 by_cases ht:tE s tn td=0
 ·obtain⟨hs,hok⟩:=qcp ht
  obtain⟨t1,t2⟩:=qfT ht
  rw[t1] at c1
  rw[t2] at c2
  by_cases hz:1≤p.length∧p.length≤64
  ·rw[if_pos hz] at c3
   have c4:=qfW hs (l:=p) rfl (by omega)
   have e:buE s tn td p=idE s p:=by unfold buE idE;rw[if_pos ht,if_pos hz]
   by_cases h0:idE s p=0
   ·obtain⟨_,_,_,_,hk,ho⟩:=qrP (e.trans h0)
    have er:buR s tn td p=bld s tn td p:=by unfold buR;rw[if_pos (e.trans h0)]
    rw[h0] at c4
    unfold qcU
    rw[er,e,h0]
    have hl:(bld s tn td p).w.length=p.length-1:=qcI p
    have:=qpG (h2:=c1) (h3:=c2) (h4:=c3) (hb:=qoz hs) (hi:=c4) (hcl:=qcR (by omega)) (hf:=qhd htn htd hs hok hz.1 (by omega) hk)
    unfold qls zrI
    rw[hl]
    exact this
   ·have er:buR s tn td p=⟨[],[]⟩:=by unfold buR;rw[if_neg (by rw[e];exact h0)]
    unfold qcU
    rw[er,e]
    exact qqN (qoq (h2:=c1) (h3:=c2) (h4:=c3) (hb:=qoz hs) (hi:=c4) (he4:=by simpa using h0))
  ·rw[if_neg hz] at c3
   have e:buE s tn td p=2:=by unfold buE;rw[if_pos ht,if_neg hz]
   have er:buR s tn td p=⟨[],[]⟩:=by unfold buR;rw[if_neg (by rw[e];decide)]
   unfold qcU
   rw[er,e]
   exact qqN (qsv (h2:=c1) (h3:=c2) (h4:=c3) (he:=by decide))
 ·have e:buE s tn td p=tE s tn td:=by unfold buE;rw[if_neg ht]
  have er:buR s tn td p=⟨[],[]⟩:=by unfold buR;rw[if_neg (by rw[e];exact ht)]
  unfold qcU
  rw[er,e]
  by_cases h1:qdV s=0
  ·rw[h1] at c1
   rw[qhq,if_pos h1] at ht ⊢
   exact qqN (qsx (h2:=c1) (h3:=c2) (h4:=c3) (he:=by simpa using ht))
  ·rw[qhq,if_neg h1]
   exact qqN (qrv (h2:=c1) (h3:=c2) (h4:=c3) (he:=by simpa using h1))
theorem ql7 {b:Br} (h:¬ VB b):wiE b=8∧wiV b=0:=by
 have e:wiE b=8:=by unfold wiE;rw[if_neg h]
 exact⟨e,by unfold wiV;rw[e];rfl⟩
theorem qkg {b:Br} (h:VB b) (h0:¬ b.nd 0<0):wiE b=0∧wiV b=b.nd 0:=by
 have e:wiE b=0:=by unfold wiE;rw[if_pos h,if_neg h0]
 exact⟨e,by unfold wiV;rw[if_pos e]⟩
theorem qp9 {b:Br} (h:VB b) (h0:b.nd 0<0):wiE b=42∧wiV b=0:=by
 have e:wiE b=42:=by unfold wiE;rw[if_pos h,if_pos h0]
 exact⟨e,by unfold wiV;rw[e];rfl⟩
theorem VB.root {b:Br} (V:VB b) : -1≤b.nd 0:=(V.rng _ (qfi V.w (fun i hi=>(V.kid i hi).1) (2*b.w.length) 0 (by omega))).1
theorem qm8 {b:Br} (h1:b.p.length≤70) (h2:b.w.length≤70):qjI 12 b:=by
 have c1:=qj3 h1 h2
 by_cases V:VB b
 ·rw[qdt V] at c1
  have c2:=qgp (b:=b) rfl rfl V.w (by omega) (i:=0) (by omega) (z:=0) rfl
  by_cases h0:b.nd 0<0
  ·unfold qjI
   rw[(qp9 V h0).1,(qp9 V h0).2]
   have:=V.root
   exact qqq (h1:=c1) (hn:=c2) (hx:=by simp;omega)
  ·unfold qjI
   rw[(qkg V h0).1,(qkg V h0).2]
   exact qpy (h1:=c1) (hn:=c2) (hx:=by simp;omega)
 ·rw[qaP V] at c1
  unfold qjI
  rw[(ql7 V).1,(ql7 V).2]
  exact qos (h1:=c1) (he:=by decide)
theorem qlR {b:Br} {z:Int} (h:¬ VB b):paE b z=8∧paR b z=[]:=by
 have e:paE b z=8:=by unfold paE;rw[if_neg h]
 exact⟨e,by unfold paR;rw[e];rfl⟩
theorem qlX {b:Br} {z:Int} (h:VB b) (h0:¬ (0≤z∧z<b.p.length)):paE b z=2∧paR b z=[]:=by
 have e:paE b z=2:=by unfold paE;rw[if_pos h,if_neg h0]
 exact⟨e,by unfold paR;rw[e];rfl⟩
theorem qir {b:Br} {z:Int} (h:VB b) (h0:0≤z∧z<b.p.length):paE b z=0∧paR b z=wyV (b.w.length+z.toNat):=by
 have e:paE b z=0:=by unfold paE;rw[if_pos h,if_pos h0]
 exact⟨e,by unfold paR;rw[if_pos e]⟩
theorem qp2 {b:Br} (h1:b.p.length≤70) (h2:b.w.length≤70) (z:Int):qem 13 b z:=by
 have c1:=qj3 h1 h2
 have c2:=qi8 (b:=b) z
 by_cases V:VB b
 ·rw[qdt V] at c1
  by_cases h0:0≤z∧z<b.p.length
  ·rw[if_pos h0] at c2
   have hw:=V.w
   have hn:=V.n2
   unfold qem
   rw[(qir V h0).1,(qir V h0).2]
   exact qqD (x:=(b.w.length:Int)+z) (h1:=c1) (h4:=c2) (ha:=qbl (by omega) (by omega)) (hco:=by
    have:=qgo (j:=b.w.length+z.toNat) (by omega)
    rw[show ((b.w.length+z.toNat:Nat):Int)=(b.w.length:Int)+z by omega] at this
    exact this)
  ·rw[if_neg h0] at c2
   unfold qem
   rw[(qlX V h0).1,(qlX V h0).2]
   exact qsB (qrg (h1:=c1) (h4:=c2) (he:=by decide))
 ·rw[qaP V] at c1
  unfold qem
  rw[(qlR V).1,(qlR V).2]
  exact qsB (qsb (h1:=c1) (h4:=c2) (he:=by decide))
theorem qlJ {b:Br} (h:¬ VB b):riE b s tn td=8∧riB s tn td b=false:=by
 have e:riE b s tn td=8:=by unfold riE;rw[if_neg h]
 exact⟨e,by unfold riB;rw[e];rfl⟩
theorem qlY {b:Br} (h:VB b) (h0:¬ tE s tn td=0):riE b s tn td=tE s tn td∧riB s tn td b=false:=by
 have e:riE b s tn td=tE s tn td:=by unfold riE;rw[if_pos h,if_neg h0]
 exact⟨e,by unfold riB;rw[if_neg (by rw[e];exact h0)]⟩
theorem qp5 {b:Br} (h:VB b) (h0:tE s tn td=0) (hk:¬ KnB s b.p):riE b s tn td=6∧riB s tn td b=false:=by
 have e:riE b s tn td=6:=by unfold riE;rw[if_pos h,if_pos h0,if_neg hk]
 exact⟨e,by unfold riB;rw[e];rfl⟩
theorem qdR {b:Br} (h:VB b) (h0:tE s tn td=0) (hk:KnB s b.p):riE b s tn td=0∧riB s tn td b=pB (RtB s tn td b):=by
 have e:riE b s tn td=0:=by unfold riE;rw[if_pos h,if_pos h0,if_pos hk]
 exact⟨e,by unfold riB;rw[if_pos e]⟩
theorem qqy {l m:List Int} {n:Nat} (hl:l.length=n) (hm:m.length=n) (hn:n≤1000000):Fn 48 2 [.ls 0 l.length,.ls 1 n] [(0,0,zrI l),(1,0,.row 3 1 n (ziV m))] (.pv (.bool (pB (l=m)))) 0 []:=by
 have step:∀ k,(∀ j,j<k→l[j]?=m[j]?)→∀ {e:Exit} {tm2:TmL} {hp2:HpL},k≤l.length→
  Rl 2 2 48 0 26 2 [(0,.ls 0 l.length),(1,.ls 1 n),(12,.pv (iV (l.length:Int))),(13,.pv (iV (k:Int)))] [(0,0,zrI l),(1,0,.row 3 1 n (ziV m))] e tm2 hp2→
  Rl 2 2 48 0 26 2 [(0,.ls 0 l.length),(1,.ls 1 n),(12,.pv (iV (l.length:Int))),(13,.pv (iV ((0:Nat):Int)))] [(0,0,zrI l),(1,0,.row 3 1 n (ziV m))] e tm2 hp2:=by
  intro k hk e tm2 hp2 hkl r
  refine RunsL.rounds (fun j=>[(0,.ls 0 l.length),(1,.ls 1 n),(12,.pv (iV (l.length:Int))),(13,.pv (iV (j:Int)))]) (fun _=>[(0,0,zrI l),(1,0,.row 3 1 n (ziV m))]) (N:=k) k 0 (Nat.zero_add _) (fun j _ hj r=>?_) r
  obtain⟨x,hx⟩:=qaj (l:=l) (k:=j) (by omega)
  have hy:=(hk j hj).symm.trans hx
  exact qlm (hk:=hx) (hin:=qas (qaq hx)) (hlt:=dt (by omega)) (hm:=hy) (hin2:=⟨by omega,by omega⟩) (hxy:=by simp) (hs:=qah (by omega)) r
 rcases qaC (fun j=>l[j]?=m[j]?) l.length with h | ⟨j,hj,hb,hf⟩
 ·have e:l=m:=List.ext_getElem? fun i=>by
   rcases Nat.lt_or_ge i l.length with hi | hi
   ·exact h i hi
   ·rw[List.getElem?_eq_none hi,List.getElem?_eq_none (by omega)]
  rw[qeX e]
  exact qnr (hl:=by simp;omega) (r0:=step l.length h (Nat.le_refl _) (qmP (hge:=df (by omega))))
 ·rw[qe0 (p:=l=m) fun e=>hb (by rw[e])]
  obtain⟨x,hx⟩:=qaj (l:=l) (k:=j) hj
  obtain⟨y,hy⟩:=qaj (l:=m) (k:=j) (by omega)
  exact qpr (hl:=by simp;omega) (r0:=step j hf (by omega) (qnD (hk:=hx) (hin:=qas hj) (hlt:=dt (by omega)) (hm:=hy) (hin2:=⟨by omega,by omega⟩) (hxy:=by
   rw[hx,hy] at hb
   simpa using hb)))
include htn htd in
theorem qlZ {b:Br} (h1:b.p.length≤70) (h2:b.w.length≤70):qcf 15 s tn td b:=by
 have c1:=qj3 h1 h2
 have c2:=qcK s
 have c3:=qfQ htn htd
 by_cases V:VB b
 ·rw[qdt V] at c1
  by_cases ht:tE s tn td=0
  ·obtain⟨hs,hok⟩:=qcp ht
   obtain⟨t1,t2⟩:=qfT ht
   rw[t1] at c2
   rw[t2] at c3
   have c4:=qfW hs (l:=b.p) rfl (by omega)
   by_cases hk:KnB s b.p
   ·have e0:idE s b.p=0:=by unfold idE;rw[if_pos hk,if_pos (show OneB b.p from V.one)]
    rw[e0] at c4
    unfold qcf
    rw[(qdR V ht hk).1,(qdR V ht hk).2]
    have hw:=V.w
    have hbl:(bld s tn td b.p).w.length=b.p.length-1:=qcI b.p
    have hq:=qqy (l:=b.w) (m:=(bld s tn td b.p).w) (n:=b.p.length-1) (by omega) hbl (by omega)
    have eR:pB (b.w=(bld s tn td b.p).w)=pB (RtB s tn td b):=by
     by_cases hr:RtB s tn td b
     ·have:b=bld s tn td b.p:=qip hr (qcv V.n1) rfl (by omega)
      rw[qeX hr,qeX (congrArg Br.w this)]
     ·rw[qe0 hr,qe0 fun e=>hr (by
       have:b=bld s tn td b.p:=by cases b;simp only at e;rw[e];rfl
       rw[this]
       exact qcv V.n1)]
    rw[eR] at hq
    exact qqb (h1:=c1) (h2:=c2) (h3:=c3) (hb:=qoz hs) (hi:=c4) (hf:=qhd htn htd hs hok V.n1 (by omega) hk) (hq:=hq)
   ·have e0:idE s b.p=6:=by unfold idE;rw[if_neg hk]
    rw[e0] at c4
    unfold qcf
    rw[(qp5 V ht hk).1,(qp5 V ht hk).2]
    exact qmz (h1:=c1) (h2:=c2) (h3:=c3) (hb:=qoz hs) (hi:=c4) (he4:=by decide)
  ·unfold qcf
   rw[(qlY V ht).1,(qlY V ht).2]
   by_cases e1:qdV s=0
   ·rw[e1] at c2
    rw[qhq,if_pos e1] at ht ⊢
    exact qrT (h1:=c1) (h2:=c2) (h3:=c3) (he:=by simpa using ht)
   ·rw[qhq,if_neg e1]
    exact qrI (h1:=c1) (h2:=c2) (h3:=c3) (he:=by simpa using e1)
 ·rw[qaP V] at c1
  unfold qcf
  rw[(qlJ V).1,(qlJ V).2]
  exact qrH (h1:=c1) (h2:=c2) (h3:=c3) (he:=by decide)
variable {b:Br} {z x:Int}
theorem qkc {e:Int} (h:seE b s tn td z x=e) (h0:¬ e=0):seR s tn td b z x=(⟨[],[]⟩,[]):=by unfold seR;rw[if_neg (by rw[h];exact h0)]
theorem qlL (h:¬ VB b):seE b s tn td z x=8:=by unfold seE;rw[if_neg h]
theorem qlT (h:VB b) (h0:¬ tE s tn td=0):seE b s tn td z x=tE s tn td:=by unfold seE;rw[if_pos h,if_neg h0]
theorem qlH (h:VB b) (h0:tE s tn td=0) (hz:¬ (0≤z∧z<b.p.length)):seE b s tn td z x=2:=by unfold seE;rw[if_pos h,if_pos h0,if_neg hz]
theorem qlQ (h:VB b) (h0:tE s tn td=0) (hz:0≤z∧z<b.p.length):seE b s tn td z x=idE s (b.p.set z.toNat x):=by unfold seE idE;rw[if_pos h,if_pos h0,if_pos hz]
theorem qrX {p:List Int} (h:idE s p=0):KnB s p∧OneB p:=by
 unfold idE at h
 by_cases hk:KnB s p
 ·rw[if_pos hk] at h
  by_cases ho:OneB p
  ·exact⟨hk,ho⟩
  ·rw[if_neg ho] at h;cases h
 ·rw[if_neg hk] at h;cases h
include htn htd in
theorem qsE (h1:b.p.length≤70) (h2:b.w.length≤70):qfr 14 s tn td b z x:=by
 have c1:=qj3 h1 h2
 have c2:=qcK s
 have c3:=qfQ htn htd
 have c4:=qi8 (b:=b) z
 by_cases V:VB b
 ·rw[qdt V] at c1
  by_cases ht:tE s tn td=0
  ·obtain⟨hs,hok⟩:=qcp ht
   obtain⟨t1,t2⟩:=qfT ht
   rw[t1] at c2
   rw[t2] at c3
   by_cases hz:0≤z∧z<b.p.length
   ·rw[if_pos hz] at c4
    have hset:(b.p.set z.toNat x).length=b.p.length:=List.length_set
    have c5:=qfW hs hset (by omega)
    have hzl:z.toNat<b.p.length:=by omega
    have k1:=qcR (l:=b.p) (by omega)
    have k2:=qcR (l:=b.w) (by omega)
    have e:=qlQ (x:=x) V ht hz
    by_cases h0:idE s (b.p.set z.toNat x)=0
    ·obtain⟨hk,ho⟩:=qrX h0
     have e0:=e.trans h0
     have hw:=V.w
     have hn:=V.n2
     have er:seR s tn td b z x=rpF s tn td (wy (b.w.length+z.toNat)) (⟨b.p.set z.toNat x,b.w⟩,[]):=by unfold seR;rw[if_pos e0]
     unfold qfr
     rw[er,e0]
     rw[h0] at c5
     have hr:=qhF htn htd hs hok (g:=b.p.set z.toNat x) (w0:=b.w) (n:=b.w.length) (m:=b.p.length) (j:=z.toNat) rfl hset hw hn hzl (InX.put V hzl hk)
     rw[show ((z.toNat:Nat):Int)=z by omega] at hr
     have hl:(rpF s tn td (wy (b.w.length+z.toNat)) (⟨b.p.set z.toNat x,b.w⟩,[])).1.w.length=b.w.length:=by rw[qdZ];exact (qfy _ _).1
     have hp:(rpF s tn td (wy (b.w.length+z.toNat)) (⟨b.p.set z.toNat x,b.w⟩,[])).1.p=b.p.set z.toNat x:=by rw[qdZ];exact (qfy _ _).2
     have:=qqC (h1:=c1) (h2:=c2) (h3:=c3) (h4:=c4) (hc1:=k1) (hc2:=k2) (hix:=hz) (hg:=hzl) (hb:=qoz hs) (hi:=c5) (hr:=hr)
     unfold qls zrI
     rw[hl,hp,hset]
     exact this
    ·unfold qfr
     rw[qkc e h0,e]
     exact qoT (qok (h1:=c1) (h2:=c2) (h3:=c3) (h4:=c4) (hc1:=k1) (hc2:=k2) (hix:=hz) (hg:=hzl) (hb:=qoz hs) (hi:=c5) (hee:=by simpa using h0))
   ·rw[if_neg hz] at c4
    unfold qfr
    rw[qkc (qlH V ht hz) (by decide),qlH V ht hz]
    exact qoT (qrB (h1:=c1) (h2:=c2) (h3:=c3) (h4:=c4) (he:=by decide))
  ·unfold qfr
   rw[qkc (qlT V ht) ht,qlT V ht]
   by_cases e1:qdV s=0
   ·rw[e1] at c2
    rw[qhq,if_pos e1] at ht ⊢
    exact qoT (qrM (h1:=c1) (h2:=c2) (h3:=c3) (h4:=c4) (he:=by simpa using ht))
   ·rw[qhq,if_neg e1]
    exact qoT (qsg (h1:=c1) (h2:=c2) (h3:=c3) (h4:=c4) (he:=by simpa using e1))
 ·rw[qaP V] at c1
  unfold qfr
  rw[qkc (qlL V) (by decide),qlL V]
  exact qoT (qrU (h1:=c1) (h2:=c2) (h3:=c3) (h4:=c4) (he:=by decide))
end
end Go.Proofs.Ytgbmdijodlfcaaa
