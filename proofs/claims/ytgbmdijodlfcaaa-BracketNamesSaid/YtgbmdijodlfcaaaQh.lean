/-
  Package bracket's exported functions: what they return of any arguments. Conditions: none.
-/
import Derived.Test.YtgbmdijodlfcaaaW34
import Derived.Test.YtgbmdijodlfcaaaSxP
import Derived.Test.YtgbmdijodlfcaaaW25
import Derived.Test.YtgbmdijodlfcaaaW21
namespace Go.Proofs.Ytgbmdijodlfcaaa
set_option maxRecDepth 100000
open Go.RowKit
theorem qlu {β:Bl}:∀ vs:List Value,S1.isl β (vs.map fun v=>.one (.pv v)) vs
 | []=>trivial
 | _::r=>⟨rfl,qlu r⟩
theorem qiF {P:Program} {f:FuncId} {k m:Nat} {args:List SV} {pre post:List (Nat×Nat×SV)} {vs:List Value} (h:FnL P f k args pre (.pv (.tuple vs.toArray)) m post):FnL P f k args pre (.tu (vs.map fun v=>.one (.pv v))) m post:=by
 intro w β us H hd hi
 refine (h w β us H hd hi).mono fun e w' ⟨v,β',he,hle,hx,hh,hd'⟩=>⟨v,β',he,hle,⟨vs,qlu vs,hx⟩,hh,hd'⟩
theorem qiX {P:Program} {f:FuncId} {k m:Nat} {args:List SV} {pre post post':List (Nat×Nat×SV)} {x:SV} (h:FnL P f k args pre x m post) (hi:∀ b o s,qab post' b o=some s→qab post b o=some s):FnL P f k args pre x m post':=by
 intro w β us H hd hu
 exact (h w β us H hd hu).mono fun e w' ⟨v,β',he,hle,hx,hh,hd'⟩=>⟨v,β',he,hle,hx,hh.imp fun b o s h=>hi b o s h,hd'⟩
abbrev qij (b:Nat):Nat×Nat×SV:=(b,0,.row 3 1 0 [])
section
variable {P:Program} {f:FuncId} {k:Nat} {args:List SV} {pre:List (Nat×Nat×SV)} {e:Int}
theorem qrj (h:FnL P f k args pre (.pv (.tuple #[.slice none 0 0,iV e])) 0 []):FnL P f k args pre (.tu [.one (.ls k 0),.one (.pv (iV e))]) 1 [qij k]:=
 qcU 3 1 (qiF (vs:=[.slice none 0 0,iV e]) h) (.tu (.cons (.one .nil) (.cons (.one (.same _)) .nil)))
theorem qpz (h:FnL P f k args pre (.pv (.tuple #[.agg #[.slice none 0 0,.slice none 0 0],iV e])) 0 []):FnL P f k args pre (.tu [.ag [.ls k 0,.ls (k+1) 0],.one (.pv (iV e))]) 2 [qij k,qij (k+1)]:=by
 have h1:=qcU 3 1 (qiF (vs:=[.agg #[.slice none 0 0,.slice none 0 0],iV e]) h) (x':=.tu [.ag [.ls k 0,.pv (.slice none 0 0)],.one (.pv (iV e))]) (.tu (.cons (.un (vs:=[.slice none 0 0,.slice none 0 0]) (.cons .nil (.cons (.same _) .nil))) (.cons (.one (.same _)) .nil)))
 have h2:=qcU 3 1 h1 (x':=.tu [.ag [.ls k 0,.ls (k+1) 0],.one (.pv (iV e))]) (.tu (.cons (.ag (.cons (.same _) (.cons .nil .nil))) (.cons (.one (.same _)) .nil)))
 refine qiX (post:=[qij (k+1),qij k]) h2 fun b o s h=>?_
 rw[qaa] at h
 split at h
 ·rename_i e1
  rw[qaa,if_neg (by omega),qaa,if_pos e1];exact h
 ·rw[qaa] at h
  split at h
  ·rename_i e1
   rw[qaa,if_pos e1];exact h
  ·cases h
theorem qoN (h:FnL P f k args pre (.pv (.tuple #[.agg #[.slice none 0 0,.slice none 0 0],.slice none 0 0,iV e])) 0 []):FnL P f k args pre (.tu [.ag [.ls k 0,.ls (k+1) 0],.one (.ls (k+2) 0),.one (.pv (iV e))]) 3 [qij k,qij (k+1),qij (k+2)]:=by
 have h1:=qcU 3 1 (qiF (vs:=[.agg #[.slice none 0 0,.slice none 0 0],.slice none 0 0,iV e]) h) (x':=.tu [.ag [.ls k 0,.pv (.slice none 0 0)],.one (.pv (.slice none 0 0)),.one (.pv (iV e))]) (.tu (.cons (.un (vs:=[.slice none 0 0,.slice none 0 0]) (.cons .nil (.cons (.same _) .nil))) (.cons (.one (.same _)) (.cons (.one (.same _)) .nil))))
 have h2:=qcU 3 1 h1 (x':=.tu [.ag [.ls k 0,.ls (k+1) 0],.one (.pv (.slice none 0 0)),.one (.pv (iV e))]) (.tu (.cons (.ag (.cons (.same _) (.cons .nil .nil))) (.cons (.one (.same _)) (.cons (.one (.same _)) .nil))))
 have h3:=qcU 3 1 h2 (x':=.tu [.ag [.ls k 0,.ls (k+1) 0],.one (.ls (k+2) 0),.one (.pv (iV e))]) (.tu (.cons (.ag (.cons (.same _) (.cons (.same _) .nil))) (.cons (.one .nil) (.cons (.one (.same _)) .nil))))
 refine qiX (post:=[qij (k+2),qij (k+1),qij k]) h3 fun b o s h=>?_
 rw[qaa] at h
 split at h
 ·rename_i e1
  rw[qaa,if_neg (by omega),qaa,if_neg (by omega),qaa,if_pos e1];exact h
 ·rw[qaa] at h
  split at h
  ·rename_i e1
   rw[qaa,if_neg (by omega),qaa,if_pos e1];exact h
  ·rw[qaa] at h
   split at h
   ·rename_i e1
    rw[qaa,if_pos e1];exact h
   ·cases h
end
section
variable (s:List Pt) (tn td:Int)
noncomputable def buR (p:List Int):Br:=if buE s tn td p=0 then bld s tn td p else ⟨[],[]⟩
noncomputable def wiV (b:Br):Int:=if wiE b=0 then b.nd 0 else 0
noncomputable def paR (b:Br) (z:Int):List Int:=if paE b z=0 then wyV (b.w.length+z.toNat) else []
noncomputable def riB (b:Br):Bool:=if riE b s tn td=0 then pB (RtB s tn td b) else false
noncomputable def seR (b:Br) (z x:Int):Br×List Int:=if seE b s tn td z x=0 then rpF s tn td (wy (b.w.length+z.toNat)) (⟨b.p.set z.toNat x,b.w⟩,[]) else (⟨[],[]⟩,[])
end
abbrev qb0 (f:FuncId) (s:List Pt) (tn td:Int) (p:List Int):Prop:=Fn f 2 [qaF 0 s,.pv (qac tn td),.ls 1 p.length] [(0,0,qaq s),(1,0,zrI p)] (.tu [qkD 2 3 (buR s tn td p),.one (.pv (iV (buE s tn td p)))]) 2 [(2,0,zrI (buR s tn td p).p),(3,0,zrI (buR s tn td p).w)]
abbrev qnt (f:FuncId) (b:Br):Prop:=Fn f 2 [brS 0 1 b] [(0,0,zrI b.p),(1,0,zrI b.w)] (.pv (iV (erB b))) 0 []
abbrev qff (f:FuncId) (b:Br):Prop:=Fn f 2 [brS 0 1 b] [(0,0,zrI b.p),(1,0,zrI b.w)] (.pv (.tuple #[iV (wiV b),iV (wiE b)])) 0 []
abbrev qd7 (f:FuncId) (b:Br) (z:Int):Prop:=Fn f 2 [brS 0 1 b,.pv (iV z)] [(0,0,zrI b.p),(1,0,zrI b.w)] (.tu [.one (.ls 2 (paR b z).length),.one (.pv (iV (paE b z)))]) 1 [(2,0,zrI (paR b z))]
abbrev qbI (f:FuncId) (s:List Pt) (tn td:Int) (b:Br):Prop:=Fn f 3 [brS 0 1 b,qaF 2 s,.pv (qac tn td)] [(0,0,zrI b.p),(1,0,zrI b.w),(2,0,qaq s)] (.pv (.tuple #[.bool (riB s tn td b),iV (riE b s tn td)])) 0 []
abbrev qfS (f:FuncId) (s:List Pt) (tn td:Int) (b:Br) (z x:Int):Prop:=Fn f 3 [brS 0 1 b,qaF 2 s,.pv (qac tn td),.pv (iV z),.pv (iV x)] [(0,0,zrI b.p),(1,0,zrI b.w),(2,0,qaq s)]
 (.tu [qkD 3 4 (seR s tn td b z x).1,.one (.ls 5 (seR s tn td b z x).2.length),.one (.pv (iV (seE b s tn td z x)))]) 3 [(3,0,zrI (seR s tn td b z x).1.p),(4,0,zrI (seR s tn td b z x).1.w),(5,0,zrI (seR s tn td b z x).2)]
section
variable {s:List Pt} {tn td:Int} (htn:I64 tn) (htd:I64 td)
def rtE (tn td:Int):Int:=if okB tn td=true then 0 else 8
include htn htd in
theorem qdL:Pure Try.prog 36 #[qac tn td] (iV (rtE tn td)):=by
 unfold rtE
 by_cases h:okB tn td=true
 ·rw[if_pos h];exact qeL htn htd h
 ·rw[if_neg h];exact qiG htn htd h
theorem qdk:tE s tn td=if qdR s=0 then rtE tn td else qdR s:=rfl
theorem qdq (h:tE s tn td=0):qdR s=0∧rtE tn td=0:=by
 obtain⟨v,t⟩:=qcq h
 exact⟨qeB.2 v,if_pos t⟩
include htn htd in
theorem qjY (p:List Int) (hp:p.length≤70):qb0 9 s tn td p:=by
 have c1:=qbw s
 have c2:=qdL htn htd
 have c3:=qf5 (l:=p)
 by_cases ht:tE s tn td=0
 ·obtain⟨hs,hok⟩:=qcq ht
  obtain⟨t1,t2⟩:=qdq ht
  rw[t1] at c1
  rw[t2] at c2
  by_cases hz:1≤p.length∧p.length≤64
  ·rw[if_pos hz] at c3
   have c4:=qdA hs (l:=p) rfl (by omega)
   have e:buE s tn td p=idE s p:=by unfold buE idE;rw[if_pos ht,if_pos hz]
   by_cases h0:idE s p=0
   ·obtain⟨_,_,_,_,hk,ho⟩:=qqj (e.trans h0)
    have er:buR s tn td p=bld s tn td p:=by unfold buR;rw[if_pos (e.trans h0)]
    rw[h0] at c4
    unfold qb0
    rw[er,e,h0]
    have hl:(bld s tn td p).w.length=p.length-1:=qcP p
    have:=qpu (h2:=c1) (h3:=c2) (h4:=c3) (hb:=qlA hs) (hi:=c4) (hcl:=qby (by omega)) (hf:=qgS htn htd hs hok hz.1 (by omega) hk)
    unfold qkD zrI
    rw[hl]
    exact this
   ·have er:buR s tn td p=⟨[],[]⟩:=by unfold buR;rw[if_neg (by rw[e];exact h0)]
    unfold qb0
    rw[er,e]
    exact qpz (qjq (h2:=c1) (h3:=c2) (h4:=c3) (hb:=qlA hs) (hi:=c4) (he4:=by simpa using h0))
  ·rw[if_neg hz] at c3
   have e:buE s tn td p=2:=by unfold buE;rw[if_pos ht,if_neg hz]
   have er:buR s tn td p=⟨[],[]⟩:=by unfold buR;rw[if_neg (by rw[e];decide)]
   unfold qb0
   rw[er,e]
   exact qpz (qn1 (h2:=c1) (h3:=c2) (h4:=c3) (he:=by decide))
 ·have e:buE s tn td p=tE s tn td:=by unfold buE;rw[if_neg ht]
  have er:buR s tn td p=⟨[],[]⟩:=by unfold buR;rw[if_neg (by rw[e];exact ht)]
  unfold qb0
  rw[er,e]
  by_cases h1:qdR s=0
  ·rw[h1] at c1
   rw[qdk,if_pos h1] at ht ⊢
   exact qpz (qpc (h2:=c1) (h3:=c2) (h4:=c3) (he:=by simpa using ht))
  ·rw[qdk,if_neg h1]
   exact qpz (qog (h2:=c1) (h3:=c2) (h4:=c3) (he:=by simpa using h1))
theorem qhd {b:Br} (h:¬ VB b):wiE b=8∧wiV b=0:=by
 have e:wiE b=8:=by unfold wiE;rw[if_neg h]
 exact⟨e,by unfold wiV;rw[e];rfl⟩
theorem qhN {b:Br} (h:VB b) (h0:¬ b.nd 0<0):wiE b=0∧wiV b=b.nd 0:=by
 have e:wiE b=0:=by unfold wiE;rw[if_pos h,if_neg h0]
 exact⟨e,by unfold wiV;rw[if_pos e]⟩
theorem qlg {b:Br} (h:VB b) (h0:b.nd 0<0):wiE b=42∧wiV b=0:=by
 have e:wiE b=42:=by unfold wiE;rw[if_pos h,if_pos h0]
 exact⟨e,by unfold wiV;rw[e];rfl⟩
theorem VB.root {b:Br} (V:VB b) : -1≤b.nd 0:=(V.rng _ (qfd V.w (fun i hi=>(V.kid i hi).1) (2*b.w.length) 0 (by omega))).1
theorem qet {b:Br} (h1:b.p.length≤70) (h2:b.w.length≤70):qff 12 b:=by
 have c1:=qgl h1 h2
 by_cases V:VB b
 ·rw[qdr V] at c1
  have c2:=qgx (b:=b) rfl rfl V.w (by omega) (i:=0) (by omega) (z:=0) rfl
  by_cases h0:b.nd 0<0
  ·unfold qff
   rw[(qlg V h0).1,(qlg V h0).2]
   have:=V.root
   exact qpo (h1:=c1) (hn:=c2) (hx:=by simp;omega)
  ·unfold qff
   rw[(qhN V h0).1,(qhN V h0).2]
   exact qoV (h1:=c1) (hn:=c2) (hx:=by simp;omega)
 ·rw[qbg V] at c1
  unfold qff
  rw[(qhd V).1,(qhd V).2]
  exact qmW (h1:=c1) (he:=by decide)
theorem qfT {b:Br} {z:Int} (h:¬ VB b):paE b z=8∧paR b z=[]:=by
 have e:paE b z=8:=by unfold paE;rw[if_neg h]
 exact⟨e,by unfold paR;rw[e];rfl⟩
theorem qfK {b:Br} {z:Int} (h:VB b) (h0:¬ (0≤z∧z<b.p.length)):paE b z=2∧paR b z=[]:=by
 have e:paE b z=2:=by unfold paE;rw[if_pos h,if_neg h0]
 exact⟨e,by unfold paR;rw[e];rfl⟩
theorem qhu {b:Br} {z:Int} (h:VB b) (h0:0≤z∧z<b.p.length):paE b z=0∧paR b z=wyV (b.w.length+z.toNat):=by
 have e:paE b z=0:=by unfold paE;rw[if_pos h,if_pos h0]
 exact⟨e,by unfold paR;rw[if_pos e]⟩
theorem qo7 {b:Br} (h1:b.p.length≤70) (h2:b.w.length≤70) (z:Int):qd7 13 b z:=by
 have c1:=qgl h1 h2
 have c2:=qeN (b:=b) z
 by_cases V:VB b
 ·rw[qdr V] at c1
  by_cases h0:0≤z∧z<b.p.length
  ·rw[if_pos h0] at c2
   have hw:=V.w
   have hn:=V.n2
   unfold qd7
   rw[(qhu V h0).1,(qhu V h0).2]
   exact qnT (x:=(b.w.length:Int)+z) (h1:=c1) (h4:=c2) (ha:=qc8 (by omega) (by omega)) (hco:=by
    have:=qf8 (j:=b.w.length+z.toNat) (by omega)
    rw[show ((b.w.length+z.toNat:Nat):Int)=(b.w.length:Int)+z by omega] at this
    exact this)
  ·rw[if_neg h0] at c2
   unfold qd7
   rw[(qfK V h0).1,(qfK V h0).2]
   exact qrj (qoj (h1:=c1) (h4:=c2) (he:=by decide))
 ·rw[qbg V] at c1
  unfold qd7
  rw[(qfT V).1,(qfT V).2]
  exact qrj (qpd (h1:=c1) (h4:=c2) (he:=by decide))
theorem qgJ {b:Br} (h:¬ VB b):riE b s tn td=8∧riB s tn td b=false:=by
 have e:riE b s tn td=8:=by unfold riE;rw[if_neg h]
 exact⟨e,by unfold riB;rw[e];rfl⟩
theorem qlU {b:Br} (h:VB b) (h0:¬ tE s tn td=0):riE b s tn td=tE s tn td∧riB s tn td b=false:=by
 have e:riE b s tn td=tE s tn td:=by unfold riE;rw[if_pos h,if_neg h0]
 exact⟨e,by unfold riB;rw[if_neg (by rw[e];exact h0)]⟩
theorem qku {b:Br} (h:VB b) (h0:tE s tn td=0) (hk:¬ KnB s b.p):riE b s tn td=6∧riB s tn td b=false:=by
 have e:riE b s tn td=6:=by unfold riE;rw[if_pos h,if_pos h0,if_neg hk]
 exact⟨e,by unfold riB;rw[e];rfl⟩
theorem qeb {b:Br} (h:VB b) (h0:tE s tn td=0) (hk:KnB s b.p):riE b s tn td=0∧riB s tn td b=pB (RtB s tn td b):=by
 have e:riE b s tn td=0:=by unfold riE;rw[if_pos h,if_pos h0,if_pos hk]
 exact⟨e,by unfold riB;rw[if_pos e]⟩
theorem qnU {l m:List Int} {n:Nat} (hl:l.length=n) (hm:m.length=n) (hn:n≤1000000):Fn 48 2 [.ls 0 l.length,.ls 1 n] [(0,0,zrI l),(1,0,.row 3 1 n (ziV m))] (.pv (.bool (pB (l=m)))) 0 []:=by
 have step:∀ k,(∀ j,j<k→l[j]?=m[j]?)→∀ {e:Exit} {tm2:TmL} {hp2:HpL},k≤l.length→
  Rl 2 2 48 0 26 2 [(0,.ls 0 l.length),(1,.ls 1 n),(12,.pv (iV (l.length:Int))),(13,.pv (iV (k:Int)))] [(0,0,zrI l),(1,0,.row 3 1 n (ziV m))] e tm2 hp2→
  Rl 2 2 48 0 26 2 [(0,.ls 0 l.length),(1,.ls 1 n),(12,.pv (iV (l.length:Int))),(13,.pv (iV ((0:Nat):Int)))] [(0,0,zrI l),(1,0,.row 3 1 n (ziV m))] e tm2 hp2:=by
  intro k hk e tm2 hp2 hkl r
  refine RunsL.rounds (fun j=>[(0,.ls 0 l.length),(1,.ls 1 n),(12,.pv (iV (l.length:Int))),(13,.pv (iV (j:Int)))]) (fun _=>[(0,0,zrI l),(1,0,.row 3 1 n (ziV m))]) (N:=k) k 0 (Nat.zero_add _) (fun j _ hj r=>?_) r
  obtain⟨x,hx⟩:=qaA (l:=l) (k:=j) (by omega)
  have hy:=(hk j hj).symm.trans hx
  exact qlm (hk:=hx) (hin:=qaM (qaC hx)) (hlt:=dt (by omega)) (hm:=hy) (hin2:=⟨by omega,by omega⟩) (hxy:=by simp) (hs:=qaz (by omega)) r
 rcases qa2 (fun j=>l[j]?=m[j]?) l.length with h | ⟨j,hj,hb,hf⟩
 ·have e:l=m:=List.ext_getElem? fun i=>by
   rcases Nat.lt_or_ge i l.length with hi | hi
   ·exact h i hi
   ·rw[List.getElem?_eq_none hi,List.getElem?_eq_none (by omega)]
  rw[qhy e]
  exact qms (hl:=by simp;omega) (r0:=step l.length h (Nat.le_refl _) (qmm (hge:=df (by omega))))
 ·rw[qgX (p:=l=m) fun e=>hb (by rw[e])]
  obtain⟨x,hx⟩:=qaA (l:=l) (k:=j) hj
  obtain⟨y,hy⟩:=qaA (l:=m) (k:=j) (by omega)
  exact qn5 (hl:=by simp;omega) (r0:=step j hf (by omega) (qnx (hk:=hx) (hin:=qaM hj) (hlt:=dt (by omega)) (hm:=hy) (hin2:=⟨by omega,by omega⟩) (hxy:=by
   rw[hx,hy] at hb
   simpa using hb)))
include htn htd in
theorem qhg {b:Br} (h1:b.p.length≤70) (h2:b.w.length≤70):qbI 15 s tn td b:=by
 have c1:=qgl h1 h2
 have c2:=qbw s
 have c3:=qdL htn htd
 by_cases V:VB b
 ·rw[qdr V] at c1
  by_cases ht:tE s tn td=0
  ·obtain⟨hs,hok⟩:=qcq ht
   obtain⟨t1,t2⟩:=qdq ht
   rw[t1] at c2
   rw[t2] at c3
   have c4:=qdA hs (l:=b.p) rfl (by omega)
   by_cases hk:KnB s b.p
   ·have e0:idE s b.p=0:=by unfold idE;rw[if_pos hk,if_pos (show OneB b.p from V.one)]
    rw[e0] at c4
    unfold qbI
    rw[(qeb V ht hk).1,(qeb V ht hk).2]
    have hw:=V.w
    have hbl:(bld s tn td b.p).w.length=b.p.length-1:=qcP b.p
    have hq:=qnU (l:=b.w) (m:=(bld s tn td b.p).w) (n:=b.p.length-1) (by omega) hbl (by omega)
    have eR:pB (b.w=(bld s tn td b.p).w)=pB (RtB s tn td b):=by
     by_cases hr:RtB s tn td b
     ·have:b=bld s tn td b.p:=qjl hr (qcG V.n1) rfl (by omega)
      rw[qhy hr,qhy (congrArg Br.w this)]
     ·rw[qgX hr,qgX fun e=>hr (by
       have:b=bld s tn td b.p:=by cases b;simp only at e;rw[e];rfl
       rw[this]
       exact qcG V.n1)]
    rw[eR] at hq
    exact qol (h1:=c1) (h2:=c2) (h3:=c3) (hb:=qlA hs) (hi:=c4) (hf:=qgS htn htd hs hok V.n1 (by omega) hk) (hq:=hq)
   ·have e0:idE s b.p=6:=by unfold idE;rw[if_neg hk]
    rw[e0] at c4
    unfold qbI
    rw[(qku V ht hk).1,(qku V ht hk).2]
    exact qmP (h1:=c1) (h2:=c2) (h3:=c3) (hb:=qlA hs) (hi:=c4) (he4:=by decide)
  ·unfold qbI
   rw[(qlU V ht).1,(qlU V ht).2]
   by_cases e1:qdR s=0
   ·rw[e1] at c2
    rw[qdk,if_pos e1] at ht ⊢
    exact qqQ (h1:=c1) (h2:=c2) (h3:=c3) (he:=by simpa using ht)
   ·rw[qdk,if_neg e1]
    exact qqo (h1:=c1) (h2:=c2) (h3:=c3) (he:=by simpa using e1)
 ·rw[qbg V] at c1
  unfold qbI
  rw[(qgJ V).1,(qgJ V).2]
  exact qqx (h1:=c1) (h2:=c2) (h3:=c3) (he:=by decide)
variable {b:Br} {z x:Int}
theorem qkg {e:Int} (h:seE b s tn td z x=e) (h0:¬ e=0):seR s tn td b z x=(⟨[],[]⟩,[]):=by unfold seR;rw[if_neg (by rw[h];exact h0)]
theorem qfE (h:¬ VB b):seE b s tn td z x=8:=by unfold seE;rw[if_neg h]
theorem qfI (h:VB b) (h0:¬ tE s tn td=0):seE b s tn td z x=tE s tn td:=by unfold seE;rw[if_pos h,if_neg h0]
theorem qgN (h:VB b) (h0:tE s tn td=0) (hz:¬ (0≤z∧z<b.p.length)):seE b s tn td z x=2:=by unfold seE;rw[if_pos h,if_pos h0,if_neg hz]
theorem qee (h:VB b) (h0:tE s tn td=0) (hz:0≤z∧z<b.p.length):seE b s tn td z x=idE s (b.p.set z.toNat x):=by unfold seE idE;rw[if_pos h,if_pos h0,if_pos hz]
theorem qqd {p:List Int} (h:idE s p=0):KnB s p∧OneB p:=by
 unfold idE at h
 by_cases hk:KnB s p
 ·rw[if_pos hk] at h
  by_cases ho:OneB p
  ·exact⟨hk,ho⟩
  ·rw[if_neg ho] at h;cases h
 ·rw[if_neg hk] at h;cases h
include htn htd in
theorem qq6 (h1:b.p.length≤70) (h2:b.w.length≤70):qfS 14 s tn td b z x:=by
 have c1:=qgl h1 h2
 have c2:=qbw s
 have c3:=qdL htn htd
 have c4:=qeN (b:=b) z
 by_cases V:VB b
 ·rw[qdr V] at c1
  by_cases ht:tE s tn td=0
  ·obtain⟨hs,hok⟩:=qcq ht
   obtain⟨t1,t2⟩:=qdq ht
   rw[t1] at c2
   rw[t2] at c3
   by_cases hz:0≤z∧z<b.p.length
   ·rw[if_pos hz] at c4
    have hset:(b.p.set z.toNat x).length=b.p.length:=List.length_set
    have c5:=qdA hs hset (by omega)
    have hzl:z.toNat<b.p.length:=by omega
    have k1:=qby (l:=b.p) (by omega)
    have k2:=qby (l:=b.w) (by omega)
    have e:=qee (x:=x) V ht hz
    by_cases h0:idE s (b.p.set z.toNat x)=0
    ·obtain⟨hk,ho⟩:=qqd h0
     have e0:=e.trans h0
     have hw:=V.w
     have hn:=V.n2
     have er:seR s tn td b z x=rpF s tn td (wy (b.w.length+z.toNat)) (⟨b.p.set z.toNat x,b.w⟩,[]):=by unfold seR;rw[if_pos e0]
     unfold qfS
     rw[er,e0]
     rw[h0] at c5
     have hr:=qhB htn htd hs hok (g:=b.p.set z.toNat x) (w0:=b.w) (n:=b.w.length) (m:=b.p.length) (j:=z.toNat) rfl hset hw hn hzl (InX.put V hzl hk)
     rw[show ((z.toNat:Nat):Int)=z by omega] at hr
     have hl:(rpF s tn td (wy (b.w.length+z.toNat)) (⟨b.p.set z.toNat x,b.w⟩,[])).1.w.length=b.w.length:=by rw[qi7];exact (qjR _ _).1
     have hp:(rpF s tn td (wy (b.w.length+z.toNat)) (⟨b.p.set z.toNat x,b.w⟩,[])).1.p=b.p.set z.toNat x:=by rw[qi7];exact (qjR _ _).2
     have:=qob (h1:=c1) (h2:=c2) (h3:=c3) (h4:=c4) (hc1:=k1) (hc2:=k2) (hix:=hz) (hg:=hzl) (hb:=qlA hs) (hi:=c5) (hr:=hr)
     unfold qkD zrI
     rw[hl,hp,hset]
     exact this
    ·unfold qfS
     rw[qkg e h0,e]
     exact qoN (qjc (h1:=c1) (h2:=c2) (h3:=c3) (h4:=c4) (hc1:=k1) (hc2:=k2) (hix:=hz) (hg:=hzl) (hb:=qlA hs) (hi:=c5) (hee:=by simpa using h0))
   ·rw[if_neg hz] at c4
    unfold qfS
    rw[qkg (qgN V ht hz) (by decide),qgN V ht hz]
    exact qoN (qoZ (h1:=c1) (h2:=c2) (h3:=c3) (h4:=c4) (he:=by decide))
  ·unfold qfS
   rw[qkg (qfI V ht) ht,qfI V ht]
   by_cases e1:qdR s=0
   ·rw[e1] at c2
    rw[qdk,if_pos e1] at ht ⊢
    exact qoN (qoJ (h1:=c1) (h2:=c2) (h3:=c3) (h4:=c4) (he:=by simpa using ht))
   ·rw[qdk,if_neg e1]
    exact qoN (qo8 (h1:=c1) (h2:=c2) (h3:=c3) (h4:=c4) (he:=by simpa using e1))
 ·rw[qbg V] at c1
  unfold qfS
  rw[qkg (qfE V) (by decide),qfE V]
  exact qoN (qoC (h1:=c1) (h2:=c2) (h3:=c3) (h4:=c4) (he:=by decide))
end
end Go.Proofs.Ytgbmdijodlfcaaa
