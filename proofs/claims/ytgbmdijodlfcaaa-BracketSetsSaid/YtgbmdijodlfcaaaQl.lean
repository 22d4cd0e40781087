/-
  BracketBuilds and BracketSets hold. Conditions: none.
-/
import Derived.Test.YtgbmdijodlfcaaaW37
import Derived.Test.YtgbmdijodlfcaaaW27
import Derived.Test.YtgbmdijodlfcaaaW21
namespace Go.Proofs.Ytgbmdijodlfcaaa
set_option maxRecDepth 100000
open Go.RowKit
theorem qkA (s:List Pt):Fn 19 1 [qaD 0 s] [(0,0,qai s)] (.pv (.bool true)) 0 []∨Fn 19 1 [qaD 0 s] [(0,0,qai s)] (.pv (.bool false)) 0 []:=by
 rcases qin s with ⟨_,h⟩ | ⟨_,h⟩
 ·exact Or.inl h
 ·exact Or.inr h
section
variable {s:List Pt} {tn td:Int} (htn:I64 tn) (htd:I64 td)
def qf2 (l:List Int):Nat→List Int
 | 0=>l
 | k+1=>(qf2 l k).set k (IntKind.i64.wrap ((qf2 l k).getD k 0+1))
theorem qc4 (l:List Int):∀ k,(qf2 l k).length=l.length
 | 0=>rfl
 | k+1=>by show ((qf2 l k).set k _).length=_;rw[List.length_set];exact qc4 l k
theorem qgY (l:List Int) {k:Nat} (h:k<l.length):(qf2 l k)[k]?=some ((qf2 l k).getD k 0):=by
 have:k<(qf2 l k).length:=by rw[qc4];exact h
 rw[List.getD_eq_getElem?_getD,List.getElem?_eq_getElem this];rfl
include htn htd in
theorem qp2 (b:Br) (pz id:Int):Fn 5 3 [brS 0 1 b,qaD 2 s,.pv (qad tn td),.pv (iV pz),.pv (iV id)] [(0,0,zrI b.p),(1,0,zrI b.w),(2,0,qai s)] (.pv (.bool true)) 0 []:=by
 rcases qkA s with hg | hg
 ·exact qjR (hg:=hg)
 have h2:=qnR b
 by_cases hb:qm0 b=true
 ·rw[hb] at h2
  exact qmT (hg:=hg) (hg2:=h2)
 rw[show qm0 b=false by simpa using hb] at h2
 obtain⟨a1,a2⟩:=qnj (b:=b) (by simpa using hb)
 have hS:=qsM (x:=id) (z:=pz) htn htd (s:=s) a1 a2
 have hR:=qsH (x:=id) (z:=pz) htn htd (s:=s) a1 a2
 have o1:(seR s tn td b pz id).1.p.length≤70∧(seR s tn td b pz id).1.w.length≤70∧(seR s tn td b pz id).2.length≤70:=by
  unfold seR
  split
  ·rename_i h
   have V:VB b:=Classical.byContradiction fun V=>by rw[qfa V] at h;cases h
   have ht:tE s tn td=0:=Classical.byContradiction fun ht=>by rw[qeX V ht] at h;exact ht h
   have hz:0≤pz∧pz<b.p.length:=Classical.byContradiction fun hz=>by rw[qeV V ht hz] at h;cases h
   have hw:=V.w
   rw[qd4]
   obtain⟨e1,e2⟩:=qd9 (s:=s) (tn:=tn) (td:=td) (wy (b.w.length+pz.toNat)) ⟨b.p.set pz.toNat id,b.w⟩
   have e3:=qjf (s:=s) (tn:=tn) (td:=td) (wy (b.w.length+pz.toNat)) (⟨b.p.set pz.toNat id,b.w⟩,[])
   have e4:=qdv (b.w.length+pz.toNat)
   have e5:(b.p.set pz.toNat id).length=b.p.length:=List.length_set
   simp only[List.length_nil] at e3
   refine⟨?_,?_,?_⟩
   ·rw[e2];show (b.p.set pz.toNat id).length≤70;omega
   ·rw[e1];exact a2
   ·omega
  ·exact⟨Nat.zero_le _,Nat.zero_le _,Nat.zero_le _⟩
 obtain⟨o2,o3,o4⟩:=o1
 refine qlG (hg:=hg) (hg2:=h2) (htw:=qpw a1 a2) (h1:=hS) (h2:=hR) (hs1:=qig (by omega) (by omega)) (hs2:=qig (by omega) (by omega)) (hs3:=qnY (by omega)) (g:=qf2 b.p b.p.length)
  (r0:=?_) (r1:=?_)
 ·refine RunsL.roundsZ (N:=b.p.length) (fun k=>qsL (seR s tn td b pz id).2 (seE b s tn td pz id) k) (fun k=>qsN b (seR s tn td b pz id).1 (seR s tn td b pz id).2 (qf2 b.p k)) b.p.length 0 (by omega) (fun k _ hk r=>?_) (qkT (k:=b.p.length) (l:=qf2 b.p b.p.length) (hlt:=df (by omega)))
  exact qrp (l:=qf2 b.p k) (hlt:=dt (by omega)) (hin:=qao hk) (hk:=qgY b.p hk) (hgl:=by rw[qc4];exact hk) (ha:=rfl) (hs:=qal (by omega)) r
 ·refine RunsL.roundsZ (N:=b.w.length) (fun k=>qsO (seR s tn td b pz id).2 (seE b s tn td pz id) k) (fun k=>qsP b (seR s tn td b pz id).1 (seR s tn td b pz id).2 (qf2 b.p b.p.length) (qf2 b.w k)) b.w.length 0 (by omega) (fun k _ hk r=>?_) (qkG (k:=b.w.length) (l:=qf2 b.w b.w.length) (hlt:=df (by omega)))
  exact qq3 (l:=qf2 b.w k) (hlt:=dt (by omega)) (hin:=qao hk) (hk:=qgY b.w hk) (hgl:=by rw[qc4];exact hk) (ha:=rfl) (hs:=qal (by omega)) r
end
theorem qiv (b:Br) (s:List Pt) (tn td:Int) (htn:I64 tn) (htd:I64 td) (z x:Int):Fn 5 3 [brS 0 1 b,qaD 2 s,.pv (qad tn td),.pv (iV z),.pv (iV x)] [(0,0,zrI b.p),(1,0,zrI b.w),(2,0,qai s)] (.pv (.bool true)) 0 []:=qp2 htn htd b z x
end Go.Proofs.Ytgbmdijodlfcaaa
