/-
  BracketBuilds and BracketSets hold. Conditions: none.
-/
import Derived.Test.YtgbmdijodlfcaaaW37
import Derived.Test.YtgbmdijodlfcaaaW27
import Derived.Test.YtgbmdijodlfcaaaW21
namespace Go.Proofs.Ytgbmdijodlfcaaa
set_option maxRecDepth 100000
open Go.RowKit
theorem qkg (s:List Pt):Fn 19 1 [qaD 0 s] [(0,0,qai s)] (.pv (.bool true)) 0 []∨Fn 19 1 [qaD 0 s] [(0,0,qai s)] (.pv (.bool false)) 0 []:=by
 rcases qiJ s with ⟨_,h⟩ | ⟨_,h⟩
 ·exact Or.inl h
 ·exact Or.inr h
section
variable {s:List Pt} {tn td:Int} (htn:I64 tn) (htd:I64 td)
include htn htd in
def qfP (l:List Int):Nat→List Int
 | 0=>l
 | k+1=>(qfP l k).set k (IntKind.i64.wrap ((qfP l k).getD k 0+1))
theorem qdc (l:List Int):∀ k,(qfP l k).length=l.length
 | 0=>rfl
 | k+1=>by show ((qfP l k).set k _).length=_;rw[List.length_set];exact qdc l k
theorem qgB (l:List Int) {k:Nat} (h:k<l.length):(qfP l k)[k]?=some ((qfP l k).getD k 0):=by
 have:k<(qfP l k).length:=by rw[qdc];exact h
 rw[List.getD_eq_getElem?_getD,List.getElem?_eq_getElem this];rfl
include htn htd in
theorem qqd (b:Br) (pz id:Int):Fn 5 3 [brS 0 1 b,qaD 2 s,.pv (qad tn td),.pv (iV pz),.pv (iV id)] [(0,0,zrI b.p),(1,0,zrI b.w),(2,0,qai s)] (.pv (.bool true)) 0 []:=by
 rcases qkg s with hg | hg
 ·exact qjF (hg:=hg)
 have h2:=qnL b
 by_cases hb:qmy b=true
 ·rw[hb] at h2
  exact qmE (hg:=hg) (hg2:=h2)
 rw[show qmy b=false by simpa using hb] at h2
 obtain⟨a1,a2⟩:=qmI (b:=b) (by simpa using hb)
 have hS:=qsS (x:=id) (z:=pz) htn htd (s:=s) a1 a2
 have hR:=qsP (x:=id) (z:=pz) htn htd (s:=s) a1 a2
 have o1:(seR s tn td b pz id).1.p.length≤70∧(seR s tn td b pz id).1.w.length≤70∧(seR s tn td b pz id).2.length≤70:=by
  unfold seR
  split
  ·rename_i h
   have V:VB b:=Classical.byContradiction fun V=>by rw[qfu V] at h;cases h
   have ht:tE s tn td=0:=Classical.byContradiction fun ht=>by rw[qeW V ht] at h;exact ht h
   have hz:0≤pz∧pz<b.p.length:=Classical.byContradiction fun hz=>by rw[qfe V ht hz] at h;cases h
   have hw:=V.w
   rw[qec]
   obtain⟨e1,e2⟩:=qdP (s:=s) (tn:=tn) (td:=td) (wy (b.w.length+pz.toNat)) ⟨b.p.set pz.toNat id,b.w⟩
   have e3:=qi4 (s:=s) (tn:=tn) (td:=td) (wy (b.w.length+pz.toNat)) (⟨b.p.set pz.toNat id,b.w⟩,[])
   have e4:=qdg (b.w.length+pz.toNat)
   have e5:(b.p.set pz.toNat id).length=b.p.length:=List.length_set
   simp only[List.length_nil] at e3
   refine⟨?_,?_,?_⟩
   ·rw[e2];show (b.p.set pz.toNat id).length≤70;omega
   ·rw[e1];exact a2
   ·omega
  ·exact⟨Nat.zero_le _,Nat.zero_le _,Nat.zero_le _⟩
 obtain⟨o2,o3,o4⟩:=o1
 refine qkY (hg:=hg) (hg2:=h2) (htw:=qpa a1 a2) (h1:=hS) (h2:=hR) (hs1:=qjo (by omega) (by omega)) (hs2:=qjo (by omega) (by omega)) (hs3:=qmu (by omega)) (g:=qfP b.p b.p.length)
  (r0:=?_) (r1:=?_)
 ·refine RunsL.roundsZ (N:=b.p.length) (fun k=>qsN (seR s tn td b pz id).2 (seE b s tn td pz id) k) (fun k=>qsL b (seR s tn td b pz id).1 (seR s tn td b pz id).2 (qfP b.p k)) b.p.length 0 (by omega) (fun k _ hk r=>?_) (qkQ (k:=b.p.length) (l:=qfP b.p b.p.length) (hlt:=df (by omega)))
  exact qsf (l:=qfP b.p k) (hlt:=dt (by omega)) (hin:=qao hk) (hk:=qgB b.p hk) (hgl:=by rw[qdc];exact hk) (ha:=rfl) (hs:=qal (by omega)) r
 ·refine RunsL.roundsZ (N:=b.w.length) (fun k=>qsO (seR s tn td b pz id).2 (seE b s tn td pz id) k) (fun k=>qsI b (seR s tn td b pz id).1 (seR s tn td b pz id).2 (qfP b.p b.p.length) (qfP b.w k)) b.w.length 0 (by omega) (fun k _ hk r=>?_) (qls (k:=b.w.length) (l:=qfP b.w b.w.length) (hlt:=df (by omega)))
  exact qqS (l:=qfP b.w k) (hlt:=dt (by omega)) (hin:=qao hk) (hk:=qgB b.w hk) (hgl:=by rw[qdc];exact hk) (ha:=rfl) (hs:=qal (by omega)) r
end
theorem qjE (b:Br) (s:List Pt) (tn td:Int) (htn:I64 tn) (htd:I64 td) (z x:Int):Fn 5 3 [brS 0 1 b,qaD 2 s,.pv (qad tn td),.pv (iV z),.pv (iV x)] [(0,0,zrI b.p),(1,0,zrI b.w),(2,0,qai s)] (.pv (.bool true)) 0 []:=qqd htn htd b z x
end Go.Proofs.Ytgbmdijodlfcaaa
