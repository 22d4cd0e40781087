/-
  Package bracket's exported functions: what they return of any arguments. Conditions: none.
-/
import Derived.Test.YtgbmdijodlfcaaaW35
import Derived.Test.YtgbmdijodlfcaaaSxP
import Derived.Test.YtgbmdijodlfcaaaW26
import Derived.Test.YtgbmdijodlfcaaaW21
namespace Go.Proofs.Ytgbmdijodlfcaaa
set_option maxRecDepth 100000
open Go.RowKit
theorem qlO {β:Bl}:∀ vs:List Value,S1.isl β (vs.map fun v=>.one (.pv v)) vs
 | []=>trivial
 | _::r=>⟨rfl,qlO r⟩
theorem qh0 {P:Program} {f:FuncId} {k m:Nat} {args:List SV} {pre post:List (Nat×Nat×SV)} {vs:List Value} (h:FnL P f k args pre (.pv (.tuple vs.toArray)) m post):FnL P f k args pre (.tu (vs.map fun v=>.one (.pv v))) m post:=by
 intro w β us H hd hi
 refine (h w β us H hd hi).mono fun e w' ⟨v,β',he,hle,hx,hh,hd'⟩=>⟨v,β',he,hle,⟨vs,qlO vs,hx⟩,hh,hd'⟩
theorem qjr {P:Program} {f:FuncId} {k m:Nat} {args:List SV} {pre post post':List (Nat×Nat×SV)} {x:SV} (h:FnL P f k args pre x m post) (hi:∀ b o s,qab post' b o=some s→qab post b o=some s):FnL P f k args pre x m post':=by
 intro w β us H hd hu
 exact (h w β us H hd hu).mono fun e w' ⟨v,β',he,hle,hx,hh,hd'⟩=>⟨v,β',he,hle,hx,hh.imp fun b o s h=>hi b o s h,hd'⟩
abbrev qit (b:Nat):Nat×Nat×SV:=(b,0,.row 3 1 0 [])
section
variable {P:Program} {f:FuncId} {k:Nat} {args:List SV} {pre:List (Nat×Nat×SV)} {e:Int}
theorem qsb (h:FnL P f k args pre (.pv (.tuple #[.slice none 0 0,iV e])) 0 []):FnL P f k args pre (.tu [.one (.ls k 0),.one (.pv (iV e))]) 1 [qit k]:=
 qcO 3 1 (qh0 (vs:=[.slice none 0 0,iV e]) h) (.tu (.cons (.one .nil) (.cons (.one (.same _)) .nil)))
theorem qqg (h:FnL P f k args pre (.pv (.tuple #[.agg #[.slice none 0 0,.slice none 0 0],iV e])) 0 []):FnL P f k args pre (.tu [.ag [.ls k 0,.ls (k+1) 0],.one (.pv (iV e))]) 2 [qit k,qit (k+1)]:=by
 have h1:=qcO 3 1 (qh0 (vs:=[.agg #[.slice none 0 0,.slice none 0 0],iV e]) h) (x':=.tu [.ag [.ls k 0,.pv (.slice none 0 0)],.one (.pv (iV e))]) (.tu (.cons (.un (vs:=[.slice none 0 0,.slice none 0 0]) (.cons .nil (.cons (.same _) .nil))) (.cons (.one (.same _)) .nil)))
 have h2:=qcO 3 1 h1 (x':=.tu [.ag [.ls k 0,.ls (k+1) 0],.one (.pv (iV e))]) (.tu (.cons (.ag (.cons (.same _) (.cons .nil .nil))) (.cons (.one (.same _)) .nil)))
 refine qjr (post:=[qit (k+1),qit k]) h2 fun b o s h=>?_
 rw[qaa] at h
 split at h
 ·rename_i e1
  rw[qaa,if_neg (by omega),qaa,if_pos e1];exact h
 ·rw[qaa] at h
  split at h
  ·rename_i e1
   rw[qaa,if_pos e1];exact h
  ·cases h
theorem qpm (h:FnL P f k args pre (.pv (.tuple #[.agg #[.slice none 0 0,.slice none 0 0],.slice none 0 0,iV e])) 0 []):FnL P f k args pre (.tu [.ag [.ls k 0,.ls (k+1) 0],.one (.ls (k+2) 0),.one (.pv (iV e))]) 3 [qit k,qit (k+1),qit (k+2)]:=by
 have h1:=qcO 3 1 (qh0 (vs:=[.agg #[.slice none 0 0,.slice none 0 0],.slice none 0 0,iV e]) h) (x':=.tu [.ag [.ls k 0,.pv (.slice none 0 0)],.one (.pv (.slice none 0 0)),.one (.pv (iV e))]) (.tu (.cons (.un (vs:=[.slice none 0 0,.slice none 0 0]) (.cons .nil (.cons (.same _) .nil))) (.cons (.one (.same _)) (.cons (.one (.same _)) .nil))))
 have h2:=qcO 3 1 h1 (x':=.tu [.ag [.ls k 0,.ls (k+1) 0],.one (.pv (.slice none 0 0)),.one (.pv (iV e))]) (.tu (.cons (.ag (.cons (.same _) (.cons .nil .nil))) (.cons (.one (.same _)) (.cons (.one (.same _)) .nil))))
 have h3:=qcO 3 1 h2 (x':=.tu [.ag [.ls k 0,.ls (k+1) 0],.one (.ls (k+2) 0),.one (.pv (iV e))]) (.tu (.cons (.ag (.cons (.same _) (.cons (.same _) .nil))) (.cons (.one .nil) (.cons (.one (.same _)) .nil))))
 refine qjr (post:=[qit (k+2),qit (k+1),qit k]) h3 fun b o s h=>?_
 rw[qaa] at h
 split at h
 ·rename_i e1
  rw[qaa,if_neg (by omega),qaa,if_neg (by omega),qaa,if_pos e1];exact h
 ·rw[qaa] at h
  split at h
  ·rename_i e1
   rw[qaa,if_neg (by omega),qaa,if_pos e1];exact h
  ·rw[qaa] at h
   split at h
   ·rename_i e1
    rw[qaa,if_pos e1];exact h
   ·cases h
end
section
variable (s:List Pt) (tn td:Int)
noncomputable def buR (p:List Int):Br:=if buE s tn td p=0 then bld s tn td p else ⟨[],[]⟩
noncomputable def wiV (b:Br):Int:=if wiE b=0 then b.nd 0 else 0
noncomputable def paR (b:Br) (z:Int):List Int:=if paE b z=0 then wyV (b.w.length+z.toNat) else []
noncomputable def riB (b:Br):Bool:=if riE b s tn td=0 then pB (RtB s tn td b) else false
noncomputable def seR (b:Br) (z x:Int):Br×List Int:=if seE b s tn td z x=0 then rpF s tn td (wy (b.w.length+z.toNat)) (⟨b.p.set z.toNat x,b.w⟩,[]) else (⟨[],[]⟩,[])
end
abbrev qcf (f:FuncId) (s:List Pt) (tn td:Int) (p:List Int):Prop:=Fn f 2 [qay 0 s,.pv (qac tn td),.ls 1 p.length] [(0,0,qaf s),(1,0,zrI p)] (.tu [qh3 2 3 (buR s tn td p),.one (.pv (iV (buE s tn td p)))]) 2 [(2,0,zrI (buR s tn td p).p),(3,0,zrI (buR s tn td p).w)]
abbrev qhM (f:FuncId) (b:Br):Prop:=Fn f 2 [brS 0 1 b] [(0,0,zrI b.p),(1,0,zrI b.w)] (.pv (.tuple #[iV (wiV b),iV (wiE b)])) 0 []
abbrev qff (f:FuncId) (b:Br) (z:Int):Prop:=Fn f 2 [brS 0 1 b,.pv (iV z)] [(0,0,zrI b.p),(1,0,zrI b.w)] (.tu [.one (.ls 2 (paR b z).length),.one (.pv (iV (paE b z)))]) 1 [(2,0,zrI (paR b z))]
abbrev qcN (f:FuncId) (s:List Pt) (tn td:Int) (b:Br):Prop:=Fn f 3 [brS 0 1 b,qay 2 s,.pv (qac tn td)] [(0,0,zrI b.p),(1,0,zrI b.w),(2,0,qaf s)] (.pv (.tuple #[.bool (riB s tn td b),iV (riE b s tn td)])) 0 []
abbrev qf8 (f:FuncId) (s:List Pt) (tn td:Int) (b:Br) (z x:Int):Prop:=Fn f 3 [brS 0 1 b,qay 2 s,.pv (qac tn td),.pv (iV z),.pv (iV x)] [(0,0,zrI b.p),(1,0,zrI b.w),(2,0,qaf s)]
 (.tu [qh3 3 4 (seR s tn td b z x).1,.one (.ls 5 (seR s tn td b z x).2.length),.one (.pv (iV (seE b s tn td z x)))]) 3 [(3,0,zrI (seR s tn td b z x).1.p),(4,0,zrI (seR s tn td b z x).1.w),(5,0,zrI (seR s tn td b z x).2)]
section
variable {s:List Pt} {tn td:Int} (htn:I64 tn) (htd:I64 td)
def rtE (tn td:Int):Int:=if okB tn td=true then 0 else 8
include htn htd in
theorem qgf:Pure Try.prog 36 #[qac tn td] (iV (rtE tn td)):=by
 unfold rtE
 by_cases h:okB tn td=true
 ·rw[if_pos h];exact qdh htn htd h
 ·rw[if_neg h];exact qe9 htn htd h
theorem qhD:tE s tn td=if qdO s=0 then rtE tn td else qdO s:=rfl
theorem qf4 (h:tE s tn td=0):qdO s=0∧rtE tn td=0:=by
 obtain⟨v,t⟩:=qcR h
 exact⟨qfN.2 v,if_pos t⟩
include htn htd in
theorem qma (p:List Int) (hp:p.length≤70):qcf 9 s tn td p:=by
 have c1:=qby s
 have c2:=qgf htn htd
 have c3:=qiO (l:=p)
 by_cases ht:tE s tn td=0
 ·obtain⟨hs,hok⟩:=qcR ht
  obtain⟨t1,t2⟩:=qf4 ht
  rw[t1] at c1
  rw[t2] at c2
  by_cases hz:1≤p.length∧p.length≤64
  ·rw[if_pos hz] at c3
   have c4:=qgq hs (l:=p) rfl (by omega)
   have e:buE s tn td p=idE s p:=by unfold buE idE;rw[if_pos ht,if_pos hz]
   by_cases h0:idE s p=0
   ·obtain⟨_,_,_,_,hk,ho⟩:=qqJ (e.trans h0)
    have er:buR s tn td p=bld s tn td p:=by unfold buR;rw[if_pos (e.trans h0)]
    rw[h0] at c4
    unfold qcf
    rw[er,e,h0]
    have hl:(bld s tn td p).w.length=p.length-1:=qci p
    have:=qoE (h2:=c1) (h3:=c2) (h4:=c3) (hb:=qoh hs) (hi:=c4) (hcl:=qcI (by omega)) (hf:=qgz htn htd hs hok hz.1 (by omega) hk)
    unfold qh3 zrI
    rw[hl]
    exact this
   ·have er:buR s tn td p=⟨[],[]⟩:=by unfold buR;rw[if_neg (by rw[e];exact h0)]
    unfold qcf
    rw[er,e]
    exact qqg (qnR (h2:=c1) (h3:=c2) (h4:=c3) (hb:=qoh hs) (hi:=c4) (he4:=by simpa using h0))
  ·rw[if_neg hz] at c3
   have e:buE s tn td p=2:=by unfold buE;rw[if_pos ht,if_neg hz]
   have er:buR s tn td p=⟨[],[]⟩:=by unfold buR;rw[if_neg (by rw[e];decide)]
   unfold qcf
   rw[er,e]
   exact qqg (qqT (h2:=c1) (h3:=c2) (h4:=c3) (he:=by decide))
 ·have e:buE s tn td p=tE s tn td:=by unfold buE;rw[if_neg ht]
  have er:buR s tn td p=⟨[],[]⟩:=by unfold buR;rw[if_neg (by rw[e];exact ht)]
  unfold qcf
  rw[er,e]
  by_cases h1:qdO s=0
  ·rw[h1] at c1
   rw[qhD,if_pos h1] at ht ⊢
   exact qqg (qqD (h2:=c1) (h3:=c2) (h4:=c3) (he:=by simpa using ht))
  ·rw[qhD,if_neg h1]
   exact qqg (qq6 (h2:=c1) (h3:=c2) (h4:=c3) (he:=by simpa using h1))
theorem qlS {b:Br} (h:¬ VB b):wiE b=8∧wiV b=0:=by
 have e:wiE b=8:=by unfold wiE;rw[if_neg h]
 exact⟨e,by unfold wiV;rw[e];rfl⟩
theorem qjJ {b:Br} (h:VB b) (h0:¬ b.nd 0<0):wiE b=0∧wiV b=b.nd 0:=by
 have e:wiE b=0:=by unfold wiE;rw[if_pos h,if_neg h0]
 exact⟨e,by unfold wiV;rw[if_pos e]⟩
theorem qn0 {b:Br} (h:VB b) (h0:b.nd 0<0):wiE b=42∧wiV b=0:=by
 have e:wiE b=42:=by unfold wiE;rw[if_pos h,if_pos h0]
 exact⟨e,by unfold wiV;rw[e];rfl⟩
theorem VB.root {b:Br} (V:VB b) : -1≤b.nd 0:=(V.rng _ (qfB V.w (fun i hi=>(V.kid i hi).1) (2*b.w.length) 0 (by omega))).1
theorem qi2 {b:Br} (h1:b.p.length≤70) (h2:b.w.length≤70):qhM 12 b:=by
 have c1:=qlb h1 h2
 by_cases V:VB b
 ·rw[qfp V] at c1
  have c2:=qgr (b:=b) rfl rfl V.w (by omega) (i:=0) (by omega) (z:=0) rfl
  by_cases h0:b.nd 0<0
  ·unfold qhM
   rw[(qn0 V h0).1,(qn0 V h0).2]
   have:=V.root
   exact qpG (h1:=c1) (hn:=c2) (hx:=by simp;omega)
  ·unfold qhM
   rw[(qjJ V h0).1,(qjJ V h0).2]
   exact qpN (h1:=c1) (hn:=c2) (hx:=by simp;omega)
 ·rw[qbP V] at c1
  unfold qhM
  rw[(qlS V).1,(qlS V).2]
  exact qn6 (h1:=c1) (he:=by decide)
theorem qlA {b:Br} {z:Int} (h:¬ VB b):paE b z=8∧paR b z=[]:=by
 have e:paE b z=8:=by unfold paE;rw[if_neg h]
 exact⟨e,by unfold paR;rw[e];rfl⟩
theorem qmg {b:Br} {z:Int} (h:VB b) (h0:¬ (0≤z∧z<b.p.length)):paE b z=2∧paR b z=[]:=by
 have e:paE b z=2:=by unfold paE;rw[if_pos h,if_neg h0]
 exact⟨e,by unfold paR;rw[e];rfl⟩
theorem qna {b:Br} {z:Int} (h:VB b) (h0:0≤z∧z<b.p.length):paE b z=0∧paR b z=wyV (b.w.length+z.toNat):=by
 have e:paE b z=0:=by unfold paE;rw[if_pos h,if_pos h0]
 exact⟨e,by unfold paR;rw[if_pos e]⟩
theorem qqH {b:Br} (h1:b.p.length≤70) (h2:b.w.length≤70) (z:Int):qff 13 b z:=by
 have c1:=qlb h1 h2
 have c2:=qjy (b:=b) z
 by_cases V:VB b
 ·rw[qfp V] at c1
  by_cases h0:0≤z∧z<b.p.length
  ·rw[if_pos h0] at c2
   have hw:=V.w
   have hn:=V.n2
   unfold qff
   rw[(qna V h0).1,(qna V h0).2]
   exact qpT (x:=(b.w.length:Int)+z) (h1:=c1) (h4:=c2) (ha:=qc4 (by omega) (by omega)) (hco:=by
    have:=qgd (j:=b.w.length+z.toNat) (by omega)
    rw[show ((b.w.length+z.toNat:Nat):Int)=(b.w.length:Int)+z by omega] at this
    exact this)
  ·rw[if_neg h0] at c2
   unfold qff
   rw[(qmg V h0).1,(qmg V h0).2]
   exact qsb (qrO (h1:=c1) (h4:=c2) (he:=by decide))
 ·rw[qbP V] at c1
  unfold qff
  rw[(qlA V).1,(qlA V).2]
  exact qsb (qrV (h1:=c1) (h4:=c2) (he:=by decide))
theorem qmb {b:Br} (h:¬ VB b):riE b s tn td=8∧riB s tn td b=false:=by
 have e:riE b s tn td=8:=by unfold riE;rw[if_neg h]
 exact⟨e,by unfold riB;rw[e];rfl⟩
theorem ql0 {b:Br} (h:VB b) (h0:¬ tE s tn td=0):riE b s tn td=tE s tn td∧riB s tn td b=false:=by
 have e:riE b s tn td=tE s tn td:=by unfold riE;rw[if_pos h,if_neg h0]
 exact⟨e,by unfold riB;rw[if_neg (by rw[e];exact h0)]⟩
theorem qoV {b:Br} (h:VB b) (h0:tE s tn td=0) (hk:¬ KnB s b.p):riE b s tn td=6∧riB s tn td b=false:=by
 have e:riE b s tn td=6:=by unfold riE;rw[if_pos h,if_pos h0,if_neg hk]
 exact⟨e,by unfold riB;rw[e];rfl⟩
theorem qgD {b:Br} (h:VB b) (h0:tE s tn td=0) (hk:KnB s b.p):riE b s tn td=0∧riB s tn td b=pB (RtB s tn td b):=by
 have e:riE b s tn td=0:=by unfold riE;rw[if_pos h,if_pos h0,if_pos hk]
 exact⟨e,by unfold riB;rw[if_pos e]⟩
theorem qo2 {l m:List Int} {n:Nat} (hl:l.length=n) (hm:m.length=n) (hn:n≤1000000):Fn 48 2 [.ls 0 l.length,.ls 1 n] [(0,0,zrI l),(1,0,.row 3 1 n (ziV m))] (.pv (.bool (pB (l=m)))) 0 []:=by
 have step:∀ k,(∀ j,j<k→l[j]?=m[j]?)→∀ {e:Exit} {tm2:TmL} {hp2:HpL},k≤l.length→
  Rl 2 2 48 0 26 2 [(0,.ls 0 l.length),(1,.ls 1 n),(12,.pv (iV (l.length:Int))),(13,.pv (iV (k:Int)))] [(0,0,zrI l),(1,0,.row 3 1 n (ziV m))] e tm2 hp2→
  Rl 2 2 48 0 26 2 [(0,.ls 0 l.length),(1,.ls 1 n),(12,.pv (iV (l.length:Int))),(13,.pv (iV ((0:Nat):Int)))] [(0,0,zrI l),(1,0,.row 3 1 n (ziV m))] e tm2 hp2:=by
  intro k hk e tm2 hp2 hkl r
  refine RunsL.rounds (fun j=>[(0,.ls 0 l.length),(1,.ls 1 n),(12,.pv (iV (l.length:Int))),(13,.pv (iV (j:Int)))]) (fun _=>[(0,0,zrI l),(1,0,.row 3 1 n (ziV m))]) (N:=k) k 0 (Nat.zero_add _) (fun j _ hj r=>?_) r
  obtain⟨x,hx⟩:=qaj (l:=l) (k:=j) (by omega)
  have hy:=(hk j hj).symm.trans hx
  exact qj1 (hk:=hx) (hin:=qas (qam hx)) (hlt:=dt (by omega)) (hm:=hy) (hin2:=⟨by omega,by omega⟩) (hxy:=by simp) (hs:=qar (by omega)) r
 rcases qaI (fun j=>l[j]?=m[j]?) l.length with h | ⟨j,hj,hb,hf⟩
 ·have e:l=m:=List.ext_getElem? fun i=>by
   rcases Nat.lt_or_ge i l.length with hi | hi
   ·exact h i hi
   ·rw[List.getElem?_eq_none hi,List.getElem?_eq_none (by omega)]
  rw[qfD e]
  exact qni (hl:=by simp;omega) (r0:=step l.length h (Nat.le_refl _) (qnd (hge:=df (by omega))))
 ·rw[qfE (p:=l=m) fun e=>hb (by rw[e])]
  obtain⟨x,hx⟩:=qaj (l:=l) (k:=j) hj
  obtain⟨y,hy⟩:=qaj (l:=m) (k:=j) (by omega)
  exact qoI (hl:=by simp;omega) (r0:=step j hf (by omega) (qnb (hk:=hx) (hin:=qas hj) (hlt:=dt (by omega)) (hm:=hy) (hin2:=⟨by omega,by omega⟩) (hxy:=by
   rw[hx,hy] at hb
   simpa using hb)))
include htn htd in
theorem qoB {b:Br} (h1:b.p.length≤70) (h2:b.w.length≤70):qcN 15 s tn td b:=by
 have c1:=qlb h1 h2
 have c2:=qby s
 have c3:=qgf htn htd
 by_cases V:VB b
 ·rw[qfp V] at c1
  by_cases ht:tE s tn td=0
  ·obtain⟨hs,hok⟩:=qcR ht
   obtain⟨t1,t2⟩:=qf4 ht
   rw[t1] at c2
   rw[t2] at c3
   have c4:=qgq hs (l:=b.p) rfl (by omega)
   by_cases hk:KnB s b.p
   ·have e0:idE s b.p=0:=by unfold idE;rw[if_pos hk,if_pos (show OneB b.p from V.one)]
    rw[e0] at c4
    unfold qcN
    rw[(qgD V ht hk).1,(qgD V ht hk).2]
    have hw:=V.w
    have hbl:(bld s tn td b.p).w.length=b.p.length-1:=qci b.p
    have hq:=qo2 (l:=b.w) (m:=(bld s tn td b.p).w) (n:=b.p.length-1) (by omega) hbl (by omega)
    have eR:pB (b.w=(bld s tn td b.p).w)=pB (RtB s tn td b):=by
     by_cases hr:RtB s tn td b
     ·have:b=bld s tn td b.p:=qh7 hr (qbR V.n1) rfl (by omega)
      rw[qfD hr,qfD (congrArg Br.w this)]
     ·rw[qfE hr,qfE fun e=>hr (by
       have:b=bld s tn td b.p:=by cases b;simp only at e;rw[e];rfl
       rw[this]
       exact qbR V.n1)]
    rw[eR] at hq
    exact qpX (h1:=c1) (h2:=c2) (h3:=c3) (hb:=qoh hs) (hi:=c4) (hf:=qgz htn htd hs hok V.n1 (by omega) hk) (hq:=hq)
   ·have e0:idE s b.p=6:=by unfold idE;rw[if_neg hk]
    rw[e0] at c4
    unfold qcN
    rw[(qoV V ht hk).1,(qoV V ht hk).2]
    exact qod (h1:=c1) (h2:=c2) (h3:=c3) (hb:=qoh hs) (hi:=c4) (he4:=by decide)
  ·unfold qcN
   rw[(ql0 V ht).1,(ql0 V ht).2]
   by_cases e1:qdO s=0
   ·rw[e1] at c2
    rw[qhD,if_pos e1] at ht ⊢
    exact qqQ (h1:=c1) (h2:=c2) (h3:=c3) (he:=by simpa using ht)
   ·rw[qhD,if_neg e1]
    exact qqA (h1:=c1) (h2:=c2) (h3:=c3) (he:=by simpa using e1)
 ·rw[qbP V] at c1
  unfold qcN
  rw[(qmb V).1,(qmb V).2]
  exact qqY (h1:=c1) (h2:=c2) (h3:=c3) (he:=by decide)
variable {b:Br} {z x:Int}
theorem qkM {e:Int} (h:seE b s tn td z x=e) (h0:¬ e=0):seR s tn td b z x=(⟨[],[]⟩,[]):=by unfold seR;rw[if_neg (by rw[h];exact h0)]
theorem ql9 (h:¬ VB b):seE b s tn td z x=8:=by unfold seE;rw[if_neg h]
theorem ql6 (h:VB b) (h0:¬ tE s tn td=0):seE b s tn td z x=tE s tn td:=by unfold seE;rw[if_pos h,if_neg h0]
theorem qmf (h:VB b) (h0:tE s tn td=0) (hz:¬ (0≤z∧z<b.p.length)):seE b s tn td z x=2:=by unfold seE;rw[if_pos h,if_pos h0,if_neg hz]
theorem qlL (h:VB b) (h0:tE s tn td=0) (hz:0≤z∧z<b.p.length):seE b s tn td z x=idE s (b.p.set z.toNat x):=by unfold seE idE;rw[if_pos h,if_pos h0,if_pos hz]
theorem qrC {p:List Int} (h:idE s p=0):KnB s p∧OneB p:=by
 unfold idE at h
 by_cases hk:KnB s p
 ·rw[if_pos hk] at h
  by_cases ho:OneB p
  ·exact⟨hk,ho⟩
  ·rw[if_neg ho] at h;cases h
 ·rw[if_neg hk] at h;cases h
include htn htd in
theorem qsg (h1:b.p.length≤70) (h2:b.w.length≤70):qf8 14 s tn td b z x:=by
 have c1:=qlb h1 h2
 have c2:=qby s
 have c3:=qgf htn htd
 have c4:=qjy (b:=b) z
 by_cases V:VB b
 ·rw[qfp V] at c1
  by_cases ht:tE s tn td=0
  ·obtain⟨hs,hok⟩:=qcR ht
   obtain⟨t1,t2⟩:=qf4 ht
   rw[t1] at c2
   rw[t2] at c3
   by_cases hz:0≤z∧z<b.p.length
   ·rw[if_pos hz] at c4
    have hset:(b.p.set z.toNat x).length=b.p.length:=List.length_set
    have c5:=qgq hs hset (by omega)
    have hzl:z.toNat<b.p.length:=by omega
    have k1:=qcI (l:=b.p) (by omega)
    have k2:=qcI (l:=b.w) (by omega)
    have e:=qlL (x:=x) V ht hz
    by_cases h0:idE s (b.p.set z.toNat x)=0
    ·obtain⟨hk,ho⟩:=qrC h0
     have e0:=e.trans h0
     have hw:=V.w
     have hn:=V.n2
     have er:seR s tn td b z x=rpF s tn td (wy (b.w.length+z.toNat)) (⟨b.p.set z.toNat x,b.w⟩,[]):=by unfold seR;rw[if_pos e0]
     unfold qf8
     rw[er,e0]
     rw[h0] at c5
     have hr:=qhj htn htd hs hok (g:=b.p.set z.toNat x) (w0:=b.w) (n:=b.w.length) (m:=b.p.length) (j:=z.toNat) rfl hset hw hn hzl (InX.put V hzl hk)
     rw[show ((z.toNat:Nat):Int)=z by omega] at hr
     have hl:(rpF s tn td (wy (b.w.length+z.toNat)) (⟨b.p.set z.toNat x,b.w⟩,[])).1.w.length=b.w.length:=by rw[qjc];exact (qjo _ _).1
     have hp:(rpF s tn td (wy (b.w.length+z.toNat)) (⟨b.p.set z.toNat x,b.w⟩,[])).1.p=b.p.set z.toNat x:=by rw[qjc];exact (qjo _ _).2
     have:=qoS (h1:=c1) (h2:=c2) (h3:=c3) (h4:=c4) (hc1:=k1) (hc2:=k2) (hix:=hz) (hg:=hzl) (hb:=qoh hs) (hi:=c5) (hr:=hr)
     unfold qh3 zrI
     rw[hl,hp,hset]
     exact this
    ·unfold qf8
     rw[qkM e h0,e]
     exact qpm (qn9 (h1:=c1) (h2:=c2) (h3:=c3) (h4:=c4) (hc1:=k1) (hc2:=k2) (hix:=hz) (hg:=hzl) (hb:=qoh hs) (hi:=c5) (hee:=by simpa using h0))
   ·rw[if_neg hz] at c4
    unfold qf8
    rw[qkM (qmf V ht hz) (by decide),qmf V ht hz]
    exact qpm (qqE (h1:=c1) (h2:=c2) (h3:=c3) (h4:=c4) (he:=by decide))
  ·unfold qf8
   rw[qkM (ql6 V ht) ht,ql6 V ht]
   by_cases e1:qdO s=0
   ·rw[e1] at c2
    rw[qhD,if_pos e1] at ht ⊢
    exact qpm (qq5 (h1:=c1) (h2:=c2) (h3:=c3) (h4:=c4) (he:=by simpa using ht))
   ·rw[qhD,if_neg e1]
    exact qpm (qrw (h1:=c1) (h2:=c2) (h3:=c3) (h4:=c4) (he:=by simpa using e1))
 ·rw[qbP V] at c1
  unfold qf8
  rw[qkM (ql9 V) (by decide),ql9 V]
  exact qpm (qqw (h1:=c1) (h2:=c2) (h3:=c3) (h4:=c4) (he:=by decide))
end
end Go.Proofs.Ytgbmdijodlfcaaa
