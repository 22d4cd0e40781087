/-
  Joined: Qf, Qh. Conditions: none.
-/
import Derived.Test.YtgbmdijodlfcaaaQe
import Derived.Test.YtgbmdijodlfcaaaW21
import Derived.Test.YtgbmdijodlfcaaaSxP
import Derived.Test.YtgbmdijodlfcaaaW25
namespace Go.Proofs.Ytgbmdijodlfcaaa
set_option maxRecDepth 100000
open Go.RowKit
section
variable (s:List Pt) (tn td:Int)
end
section
variable {s:List Pt} {tn td:Int}
def InX (s:List Pt) (b:Br) (j:Nat):Prop:=∀ i,i≤2*b.w.length→i∉wy j→InF s (b.nd i)
theorem qsv:∀ (j:Nat),j≤126→∀ k∈wy j,2*k+1≤j:=by
 intro j
 induction j using Nat.strongRecOn with
 | ind j ih=>
  intro hj k hk
  match j,ih,hj,hk with
  | 0,_,_,hk=>rw[qiM] at hk;cases hk
  | i+1,ih,hj,hk=>
   rw[qbC (by omega)] at hk
   rcases List.mem_cons.1 hk with rfl | hk
   ·omega
   ·have:=ih (i/2) (by omega) (by omega) k hk
    omega
theorem InX.kids {b:Br} {i:Nat} (h:InX s b (i+1)) (hi:i≤125) (hl:i/2<b.w.length):InF s (b.nd (2*(i/2)+1))∧InF s (b.nd (2*(i/2)+2)):=by
 have key:∀ c,2*(i/2)+1≤c→c∉wy (i+1):=fun c hc hm=>by
  rw[qbC (by omega)] at hm
  rcases List.mem_cons.1 hm with rfl | hm
  ·omega
  ·have:=qsv (i/2) (by omega) c hm
   omega
 exact⟨h _ (by omega) (key _ (Nat.le_refl _)),h _ (by omega) (key _ (by omega))⟩
theorem InX.next {b:Br} {i:Nat} (h:InX s b (i+1)) (hi:i≤125) (hl:i/2<b.w.length):InX s ⟨b.p,b.w.set (i/2) (won s tn td (b.nd (2*(i/2)+1)) (b.nd (2*(i/2)+2)))⟩ (i/2):=by
 intro k hk hn
 have hk':k≤2*(b.w.set (i/2) (won s tn td (b.nd (2*(i/2)+1)) (b.nd (2*(i/2)+2)))).length:=hk
 rw[List.length_set] at hk'
 rw[qmj hl]
 split
 ·obtain⟨h1,h2⟩:=h.kids hi hl
  exact qmf h1 h2
 ·rename_i hne
  refine h k hk' fun hm=>?_
  rw[qbC (by omega)] at hm
  rcases List.mem_cons.1 hm with e | hm
  ·exact hne e
  ·exact hn hm
theorem qmn:∀ (j:Nat),j≤126→∀ c,0<c→(c=j∨c∈wy j)→(c-1)/2∈wy j:=by
 intro j
 induction j using Nat.strongRecOn with
 | ind j ih=>
  intro hj c hc h
  match j,ih,hj,h with
  | 0,_,_,h=>
   rcases h with h | h
   ·omega
   ·rw[qiM] at h;cases h
  | i+1,ih,hj,h=>
   rw[qbC (by omega)] at h ⊢
   rcases h with rfl | h
   ·exact List.mem_cons.2 (Or.inl (by omega))
   ·rcases List.mem_cons.1 h with rfl | h
    ·exact List.mem_cons.2 (Or.inr (ih (i/2) (by omega) (by omega) _ hc (Or.inl rfl)))
    ·exact List.mem_cons.2 (Or.inr (ih (i/2) (by omega) (by omega) _ hc (Or.inr h)))
theorem InX.put {b:Br} (V:VB b) {j:Nat} {x:Int} (hj:j<b.p.length) (hk:KnB s (b.p.set j x)):InX s ⟨b.p.set j x,b.w⟩ (b.w.length+j):=by
 have hw:=V.w
 have hn:=V.n2
 have key:∀ (d i:Nat),i+d=2*b.w.length→i∉wy (b.w.length+j)→InF s ((⟨b.p.set j x,b.w⟩:Br).nd i):=by
  intro d
  induction d using Nat.strongRecOn with
  | ind d ih=>
   intro i hi hno
   by_cases hl:i<b.w.length
   ·have hc:∀ c,c=2*i+1∨c=2*i+2→c≠b.w.length+j∧c∉wy (b.w.length+j):=fun c hc=>by
     constructor
     ·intro e
      have:=qmn (b.w.length+j) (by omega) c (by omega) (Or.inl e)
      rw[show (c-1)/2=i by omega] at this
      exact hno this
     ·intro e
      have:=qmn (b.w.length+j) (by omega) c (by omega) (Or.inr e)
      rw[show (c-1)/2=i by omega] at this
      exact hno this
    rw[qjs hj,if_neg (by omega)]
    rcases (V.kid i hl).1 with e | e
    ·have h1:=ih (d-(i+1)) (by omega) (2*i+1) (by omega) (hc _ (Or.inl rfl)).2
     rw[qjs hj,if_neg (hc _ (Or.inl rfl)).1] at h1
     rw[e];exact h1
    ·have h1:=ih (d-(i+2)) (by omega) (2*i+2) (by omega) (hc _ (Or.inr rfl)).2
     rw[qjs hj,if_neg (hc _ (Or.inr rfl)).1] at h1
     rw[e];exact h1
   ·rw[qaO (b:=⟨b.p.set j x,b.w⟩) (by show b.w.length≤i;omega)]
    exact qor hk (List.mem_of_getElem? (getD_some (by show i-b.w.length<(b.p.set j x).length;rw[List.length_set];omega)))
 exact fun i hi hno=>key (2*b.w.length-i) i (by have:i≤2*b.w.length:=hi;omega) hno
end
noncomputable abbrev rc (p:List Nat):Code:=qg7 Try.prog 47 p
noncomputable abbrev rb (p:List Nat):Code:=rc ([1,1,0,1,0,1,0]++p)
abbrev WC:SV:=.pc 68 [.pp 3 0,.pp 4 0]
abbrev rA (n m:Nat) (z:Int):List SV:=[.ag [.ls 1 m,.ls 0 n],.pv (iV z),WC]
section
variable (w g:List Int) (n m k:Nat) (s:List Pt) (tn td z z1 x y v v0:Int) (p3 p5 p7 u:Value)
end
end Go.Proofs.Ytgbmdijodlfcaaa

namespace Go.Proofs.Ytgbmdijodlfcaaa
set_option maxRecDepth 100000
open Go.RowKit
theorem ql9 {β:Bl}:∀ vs:List Value,S1.isl β (vs.map fun v=>.one (.pv v)) vs
 | []=>trivial
 | _::r=>⟨rfl,ql9 r⟩
theorem qma {P:Program} {f:FuncId} {k m:Nat} {args:List SV} {pre post:List (Nat×Nat×SV)} {vs:List Value} (h:FnL P f k args pre (.pv (.tuple vs.toArray)) m post):FnL P f k args pre (.tu (vs.map fun v=>.one (.pv v))) m post:=by
 intro w β us H hd hi
 refine (h w β us H hd hi).mono fun e w' ⟨v,β',he,hle,hx,hh,hd'⟩=>⟨v,β',he,hle,⟨vs,ql9 vs,hx⟩,hh,hd'⟩
theorem qon {P:Program} {f:FuncId} {k m:Nat} {args:List SV} {pre post post':List (Nat×Nat×SV)} {x:SV} (h:FnL P f k args pre x m post) (hi:∀ b o s,qac post' b o=some s→qac post b o=some s):FnL P f k args pre x m post':=by
 intro w β us H hd hu
 exact (h w β us H hd hu).mono fun e w' ⟨v,β',he,hle,hx,hh,hd'⟩=>⟨v,β',he,hle,hx,hh.imp fun b o s h=>hi b o s h,hd'⟩
abbrev qpz (b:Nat):Nat×Nat×SV:=(b,0,.row 3 1 0 [])
section
variable {P:Program} {f:FuncId} {k:Nat} {args:List SV} {pre:List (Nat×Nat×SV)} {e:Int}
theorem qpn (h:FnL P f k args pre (.pv (.tuple #[.slice none 0 0,iV e])) 0 []):FnL P f k args pre (.tu [.one (.ls k 0),.one (.pv (iV e))]) 1 [qpz k]:=
 qfv 3 1 (qma (vs:=[.slice none 0 0,iV e]) h) (.tu (.cons (.one .nil) (.cons (.one (.same _)) .nil)))
theorem qkC (h:FnL P f k args pre (.pv (.tuple #[.agg #[.slice none 0 0,.slice none 0 0],iV e])) 0 []):FnL P f k args pre (.tu [.ag [.ls k 0,.ls (k+1) 0],.one (.pv (iV e))]) 2 [qpz k,qpz (k+1)]:=by
 have h1:=qfv 3 1 (qma (vs:=[.agg #[.slice none 0 0,.slice none 0 0],iV e]) h) (x':=.tu [.ag [.ls k 0,.pv (.slice none 0 0)],.one (.pv (iV e))]) (.tu (.cons (.un (vs:=[.slice none 0 0,.slice none 0 0]) (.cons .nil (.cons (.same _) .nil))) (.cons (.one (.same _)) .nil)))
 have h2:=qfv 3 1 h1 (x':=.tu [.ag [.ls k 0,.ls (k+1) 0],.one (.pv (iV e))]) (.tu (.cons (.ag (.cons (.same _) (.cons .nil .nil))) (.cons (.one (.same _)) .nil)))
 refine qon (post:=[qpz (k+1),qpz k]) h2 fun b o s h=>?_
 rw[qad] at h
 split at h
 ·rename_i e1
  rw[qad,if_neg (by omega),qad,if_pos e1];exact h
 ·rw[qad] at h
  split at h
  ·rename_i e1
   rw[qad,if_pos e1];exact h
  ·cases h
end
section
variable (s:List Pt) (tn td:Int)
noncomputable def buR (p:List Int):Br:=if buE s tn td p=0 then bld s tn td p else ⟨[],[]⟩
noncomputable def wiV (b:Br):Int:=if wiE b=0 then b.nd 0 else 0
noncomputable def paR (b:Br) (z:Int):List Int:=if paE b z=0 then wyV (b.w.length+z.toNat) else []
noncomputable def riB (b:Br):Bool:=if riE b s tn td=0 then pB (RtB s tn td b) else false
end
abbrev qbS (f:FuncId) (s:List Pt) (tn td:Int) (p:List Int):Prop:=Fn f 2 [qaw 0 s,.pv (qab tn td),.ls 1 p.length] [(0,0,qai s),(1,0,zrI p)] (.tu [qoZ 2 3 (buR s tn td p),.one (.pv (iV (buE s tn td p)))]) 2 [(2,0,zrI (buR s tn td p).p),(3,0,zrI (buR s tn td p).w)]
abbrev qdz (f:FuncId) (b:Br):Prop:=Fn f 2 [brS 0 1 b] [(0,0,zrI b.p),(1,0,zrI b.w)] (.pv (iV (erB b))) 0 []
abbrev qfN (f:FuncId) (b:Br):Prop:=Fn f 2 [brS 0 1 b] [(0,0,zrI b.p),(1,0,zrI b.w)] (.pv (.tuple #[iV (wiV b),iV (wiE b)])) 0 []
abbrev qd4 (f:FuncId) (b:Br) (z:Int):Prop:=Fn f 2 [brS 0 1 b,.pv (iV z)] [(0,0,zrI b.p),(1,0,zrI b.w)] (.tu [.one (.ls 2 (paR b z).length),.one (.pv (iV (paE b z)))]) 1 [(2,0,zrI (paR b z))]
abbrev qca (f:FuncId) (s:List Pt) (tn td:Int) (b:Br):Prop:=Fn f 3 [brS 0 1 b,qaw 2 s,.pv (qab tn td)] [(0,0,zrI b.p),(1,0,zrI b.w),(2,0,qai s)] (.pv (.tuple #[.bool (riB s tn td b),iV (riE b s tn td)])) 0 []
section
variable {s:List Pt} {tn td:Int} (htn:I64 tn) (htd:I64 td)
def rtE (tn td:Int):Int:=if okB tn td=true then 0 else 8
include htn htd in
theorem qiW:Pure Try.prog 36 #[qab tn td] (iV (rtE tn td)):=by
 unfold rtE
 by_cases h:okB tn td=true
 ·rw[if_pos h];exact qek htn htd h
 ·rw[if_neg h];exact qjz htn htd h
theorem qj4:tE s tn td=if qeh s=0 then rtE tn td else qeh s:=rfl
theorem qir (h:tE s tn td=0):qeh s=0∧rtE tn td=0:=by
 obtain⟨v,t⟩:=qcI h
 exact⟨qjH.2 v,if_pos t⟩
include htn htd in
theorem qpr (p:List Int) (hp:p.length≤70):qbS 9 s tn td p:=by
 have c1:=qd3 s
 have c2:=qiW htn htd
 have c3:=qip (l:=p)
 by_cases ht:tE s tn td=0
 ·obtain⟨hs,hok⟩:=qcI ht
  obtain⟨t1,t2⟩:=qir ht
  rw[t1] at c1
  rw[t2] at c2
  by_cases hz:1≤p.length∧p.length≤64
  ·rw[if_pos hz] at c3
   have c4:=qjG hs (l:=p) rfl (by omega)
   have e:buE s tn td p=idE s p:=by unfold buE idE;rw[if_pos ht,if_pos hz]
   by_cases h0:idE s p=0
   ·obtain⟨_,_,_,_,hk,ho⟩:=qrm (e.trans h0)
    have er:buR s tn td p=bld s tn td p:=by unfold buR;rw[if_pos (e.trans h0)]
    rw[h0] at c4
    unfold qbS
    rw[er,e,h0]
    have hl:(bld s tn td p).w.length=p.length-1:=qcl p
    have:=qp7 (h2:=c1) (h3:=c2) (h4:=c3) (hb:=qq8 hs) (hi:=c4) (hcl:=qhD (by omega)) (hf:=qgD htn htd hs hok hz.1 (by omega) hk)
    unfold qoZ zrI
    rw[hl]
    exact this
   ·have er:buR s tn td p=⟨[],[]⟩:=by unfold buR;rw[if_neg (by rw[e];exact h0)]
    unfold qbS
    rw[er,e]
    exact qkC (qnT (h2:=c1) (h3:=c2) (h4:=c3) (hb:=qq8 hs) (hi:=c4) (he4:=by simpa using h0))
  ·rw[if_neg hz] at c3
   have e:buE s tn td p=2:=by unfold buE;rw[if_pos ht,if_neg hz]
   have er:buR s tn td p=⟨[],[]⟩:=by unfold buR;rw[if_neg (by rw[e];decide)]
   unfold qbS
   rw[er,e]
   exact qkC (qrh (h2:=c1) (h3:=c2) (h4:=c3) (he:=by decide))
 ·have e:buE s tn td p=tE s tn td:=by unfold buE;rw[if_neg ht]
  have er:buR s tn td p=⟨[],[]⟩:=by unfold buR;rw[if_neg (by rw[e];exact ht)]
  unfold qbS
  rw[er,e]
  by_cases h1:qeh s=0
  ·rw[h1] at c1
   rw[qj4,if_pos h1] at ht ⊢
   exact qkC (qrX (h2:=c1) (h3:=c2) (h4:=c3) (he:=by simpa using ht))
  ·rw[qj4,if_neg h1]
   exact qkC (qrV (h2:=c1) (h3:=c2) (h4:=c3) (he:=by simpa using h1))
theorem qgi {b:Br} (h:¬ VB b):wiE b=8∧wiV b=0:=by
 have e:wiE b=8:=by unfold wiE;rw[if_neg h]
 exact⟨e,by unfold wiV;rw[e];rfl⟩
theorem qkl {b:Br} (h:VB b) (h0:¬ b.nd 0<0):wiE b=0∧wiV b=b.nd 0:=by
 have e:wiE b=0:=by unfold wiE;rw[if_pos h,if_neg h0]
 exact⟨e,by unfold wiV;rw[if_pos e]⟩
theorem qky {b:Br} (h:VB b) (h0:b.nd 0<0):wiE b=42∧wiV b=0:=by
 have e:wiE b=42:=by unfold wiE;rw[if_pos h,if_pos h0]
 exact⟨e,by unfold wiV;rw[e];rfl⟩
theorem VB.root {b:Br} (V:VB b) : -1≤b.nd 0:=(V.rng _ (qgE V.w (fun i hi=>(V.kid i hi).1) (2*b.w.length) 0 (by omega))).1
theorem qnL {b:Br} (h1:b.p.length≤70) (h2:b.w.length≤70):qfN 12 b:=by
 have c1:=qlz h1 h2
 by_cases V:VB b
 ·rw[qcS V] at c1
  have c2:=qf3 (b:=b) rfl rfl V.w (by omega) (i:=0) (by omega) (z:=0) rfl
  by_cases h0:b.nd 0<0
  ·unfold qfN
   rw[(qky V h0).1,(qky V h0).2]
   have:=V.root
   exact qqb (h1:=c1) (hn:=c2) (hx:=by simp;omega)
  ·unfold qfN
   rw[(qkl V h0).1,(qkl V h0).2]
   exact qpo (h1:=c1) (hn:=c2) (hx:=by simp;omega)
 ·rw[qaM V] at c1
  unfold qfN
  rw[(qgi V).1,(qgi V).2]
  exact qmH (h1:=c1) (he:=by decide)
theorem qgn {b:Br} {z:Int} (h:¬ VB b):paE b z=8∧paR b z=[]:=by
 have e:paE b z=8:=by unfold paE;rw[if_neg h]
 exact⟨e,by unfold paR;rw[e];rfl⟩
theorem qgA {b:Br} {z:Int} (h:VB b) (h0:¬ (0≤z∧z<b.p.length)):paE b z=2∧paR b z=[]:=by
 have e:paE b z=2:=by unfold paE;rw[if_pos h,if_neg h0]
 exact⟨e,by unfold paR;rw[e];rfl⟩
theorem qkM {b:Br} {z:Int} (h:VB b) (h0:0≤z∧z<b.p.length):paE b z=0∧paR b z=wyV (b.w.length+z.toNat):=by
 have e:paE b z=0:=by unfold paE;rw[if_pos h,if_pos h0]
 exact⟨e,by unfold paR;rw[if_pos e]⟩
theorem qrA {b:Br} (h1:b.p.length≤70) (h2:b.w.length≤70) (z:Int):qd4 13 b z:=by
 have c1:=qlz h1 h2
 have c2:=qmz (b:=b) z
 by_cases V:VB b
 ·rw[qcS V] at c1
  by_cases h0:0≤z∧z<b.p.length
  ·rw[if_pos h0] at c2
   have hw:=V.w
   have hn:=V.n2
   unfold qd4
   rw[(qkM V h0).1,(qkM V h0).2]
   exact qqF (x:=(b.w.length:Int)+z) (h1:=c1) (h4:=c2) (ha:=qaP (by omega) (by omega)) (hco:=by
    have:=qfS (j:=b.w.length+z.toNat) (by omega)
    rw[show ((b.w.length+z.toNat:Nat):Int)=(b.w.length:Int)+z by omega] at this
    exact this)
  ·rw[if_neg h0] at c2
   unfold qd4
   rw[(qgA V h0).1,(qgA V h0).2]
   exact qpn (qrj (h1:=c1) (h4:=c2) (he:=by decide))
 ·rw[qaM V] at c1
  unfold qd4
  rw[(qgn V).1,(qgn V).2]
  exact qpn (qrF (h1:=c1) (h4:=c2) (he:=by decide))
theorem qgu {b:Br} (h:¬ VB b):riE b s tn td=8∧riB s tn td b=false:=by
 have e:riE b s tn td=8:=by unfold riE;rw[if_neg h]
 exact⟨e,by unfold riB;rw[e];rfl⟩
theorem qg6 {b:Br} (h:VB b) (h0:¬ tE s tn td=0):riE b s tn td=tE s tn td∧riB s tn td b=false:=by
 have e:riE b s tn td=tE s tn td:=by unfold riE;rw[if_pos h,if_neg h0]
 exact⟨e,by unfold riB;rw[if_neg (by rw[e];exact h0)]⟩
theorem qkH {b:Br} (h:VB b) (h0:tE s tn td=0) (hk:¬ KnB s b.p):riE b s tn td=6∧riB s tn td b=false:=by
 have e:riE b s tn td=6:=by unfold riE;rw[if_pos h,if_pos h0,if_neg hk]
 exact⟨e,by unfold riB;rw[e];rfl⟩
theorem qgR {b:Br} (h:VB b) (h0:tE s tn td=0) (hk:KnB s b.p):riE b s tn td=0∧riB s tn td b=pB (RtB s tn td b):=by
 have e:riE b s tn td=0:=by unfold riE;rw[if_pos h,if_pos h0,if_pos hk]
 exact⟨e,by unfold riB;rw[if_pos e]⟩
theorem qqe {l m:List Int} {n:Nat} (hl:l.length=n) (hm:m.length=n) (hn:n≤1000000):Fn 48 2 [.ls 0 l.length,.ls 1 n] [(0,0,zrI l),(1,0,.row 3 1 n (ziV m))] (.pv (.bool (pB (l=m)))) 0 []:=by
 have step:∀ k,(∀ j,j<k→l[j]?=m[j]?)→∀ {e:Exit} {tm2:TmL} {hp2:HpL},k≤l.length→
  Rl 2 2 48 0 26 2 [(0,.ls 0 l.length),(1,.ls 1 n),(12,.pv (iV (l.length:Int))),(13,.pv (iV (k:Int)))] [(0,0,zrI l),(1,0,.row 3 1 n (ziV m))] e tm2 hp2→
  Rl 2 2 48 0 26 2 [(0,.ls 0 l.length),(1,.ls 1 n),(12,.pv (iV (l.length:Int))),(13,.pv (iV ((0:Nat):Int)))] [(0,0,zrI l),(1,0,.row 3 1 n (ziV m))] e tm2 hp2:=by
  intro k hk e tm2 hp2 hkl r
  refine RunsL.rounds (fun j=>[(0,.ls 0 l.length),(1,.ls 1 n),(12,.pv (iV (l.length:Int))),(13,.pv (iV (j:Int)))]) (fun _=>[(0,0,zrI l),(1,0,.row 3 1 n (ziV m))]) (N:=k) k 0 (Nat.zero_add _) (fun j _ hj r=>?_) r
  obtain⟨x,hx⟩:=qal (l:=l) (k:=j) (by omega)
  have hy:=(hk j hj).symm.trans hx
  exact qlM (hk:=hx) (hin:=qao (qat hx)) (hlt:=dt (by omega)) (hm:=hy) (hin2:=⟨by omega,by omega⟩) (hxy:=by simp) (hs:=qap (by omega)) r
 rcases qaC (fun j=>l[j]?=m[j]?) l.length with h | ⟨j,hj,hb,hf⟩
 ·have e:l=m:=List.ext_getElem? fun i=>by
   rcases Nat.lt_or_ge i l.length with hi | hi
   ·exact h i hi
   ·rw[List.getElem?_eq_none hi,List.getElem?_eq_none (by omega)]
  rw[qeG e]
  exact qna (hl:=by simp;omega) (r0:=step l.length h (Nat.le_refl _) (qoz (hge:=df (by omega))))
 ·rw[qea (p:=l=m) fun e=>hb (by rw[e])]
  obtain⟨x,hx⟩:=qal (l:=l) (k:=j) hj
  obtain⟨y,hy⟩:=qal (l:=m) (k:=j) (by omega)
  exact qpJ (hl:=by simp;omega) (r0:=step j hf (by omega) (qoc (hk:=hx) (hin:=qao hj) (hlt:=dt (by omega)) (hm:=hy) (hin2:=⟨by omega,by omega⟩) (hxy:=by
   rw[hx,hy] at hb
   simpa using hb)))
include htn htd in
theorem qpB {b:Br} (h1:b.p.length≤70) (h2:b.w.length≤70):qca 15 s tn td b:=by
 have c1:=qlz h1 h2
 have c2:=qd3 s
 have c3:=qiW htn htd
 by_cases V:VB b
 ·rw[qcS V] at c1
  by_cases ht:tE s tn td=0
  ·obtain⟨hs,hok⟩:=qcI ht
   obtain⟨t1,t2⟩:=qir ht
   rw[t1] at c2
   rw[t2] at c3
   have c4:=qjG hs (l:=b.p) rfl (by omega)
   by_cases hk:KnB s b.p
   ·have e0:idE s b.p=0:=by unfold idE;rw[if_pos hk,if_pos (show OneB b.p from V.one)]
    rw[e0] at c4
    unfold qca
    rw[(qgR V ht hk).1,(qgR V ht hk).2]
    have hw:=V.w
    have hbl:(bld s tn td b.p).w.length=b.p.length-1:=qcl b.p
    have hq:=qqe (l:=b.w) (m:=(bld s tn td b.p).w) (n:=b.p.length-1) (by omega) hbl (by omega)
    have eR:pB (b.w=(bld s tn td b.p).w)=pB (RtB s tn td b):=by
     by_cases hr:RtB s tn td b
     ·have:b=bld s tn td b.p:=qjF hr (qdy V.n1) rfl (by omega)
      rw[qeG hr,qeG (congrArg Br.w this)]
     ·rw[qea hr,qea fun e=>hr (by
       have:b=bld s tn td b.p:=by cases b;simp only at e;rw[e];rfl
       rw[this]
       exact qdy V.n1)]
    rw[eR] at hq
    exact qpi (h1:=c1) (h2:=c2) (h3:=c3) (hb:=qq8 hs) (hi:=c4) (hf:=qgD htn htd hs hok V.n1 (by omega) hk) (hq:=hq)
   ·have e0:idE s b.p=6:=by unfold idE;rw[if_neg hk]
    rw[e0] at c4
    unfold qca
    rw[(qkH V ht hk).1,(qkH V ht hk).2]
    exact qm0 (h1:=c1) (h2:=c2) (h3:=c3) (hb:=qq8 hs) (hi:=c4) (he4:=by decide)
  ·unfold qca
   rw[(qg6 V ht).1,(qg6 V ht).2]
   by_cases e1:qeh s=0
   ·rw[e1] at c2
    rw[qj4,if_pos e1] at ht ⊢
    exact qrB (h1:=c1) (h2:=c2) (h3:=c3) (he:=by simpa using ht)
   ·rw[qj4,if_neg e1]
    exact qrQ (h1:=c1) (h2:=c2) (h3:=c3) (he:=by simpa using e1)
 ·rw[qaM V] at c1
  unfold qca
  rw[(qgu V).1,(qgu V).2]
  exact qr7 (h1:=c1) (h2:=c2) (h3:=c3) (he:=by decide)
variable {b:Br} {z x:Int}
end
end Go.Proofs.Ytgbmdijodlfcaaa
