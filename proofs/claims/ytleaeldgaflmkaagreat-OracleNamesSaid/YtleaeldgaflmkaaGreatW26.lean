/-
  Joined: Q, T. Conditions: none.
-/
import Derived.Test.YtleaeldgaflmkaaGreatSxJ
import Derived.Test.YtleaeldgaflmkaaGreatW11
import Derived.Test.YtleaeldgaflmkaaGreatW25
namespace Go.Proofs.YtleaeldgaflmkaaGreat
set_option maxRecDepth 100000
open Go.RowKit
theorem qac {P:Program} (n:Nat) {f:FuncId} {args:List Value} (ch:List Ch) {v:Value} {T:Prop} (ht:v=v∧T) (e:qxw v (qzv P n f args ch)=(v=v∧T)):Pure P f args.toArray v:=qr1 n ch (e▸ht)
abbrev qaa (n d:Int):Value:=.agg #[iV n,iV d]
abbrev qdX (x:Int):Value:=.agg #[.int .u64 (wHi x),.int .u64 (wLo x)]
theorem qgm {n:Int} (h0 : -9223372036854775808≤n) (h1:n≤9223372036854775807):iV (IntKind.i64.wrap n)=iV n:=by rw[qah h0 h1]
theorem qgU {x y q:Int} (h:x.tdiv y=q) (h0 : -9223372036854775808≤q) (h1:q≤9223372036854775807):iV (IntKind.i64.wrap (x.tdiv y))=iV q:=by rw[h,qah h0 h1]
def smG (b d:Int):Nat:=Nat.gcd b.natAbs d.natAbs
def smT (a b c d:Int):Int:=a*d.tdiv (smG b d)+c*b.tdiv (smG b d)
def smK (a b c d:Int):Nat:=Nat.gcd ((smT a b c d).natAbs%smG b d) (smG b d)
def smU (a b c d:Int):Int:=b.tdiv (smG b d)*d.tdiv (smK a b c d)
def smF (a b c d:Int):Bool:=qaJ ((smT a b c d).natAbs/smK a b c d)&&qaJ (smU a b c d).natAbs
def smN (a b c d:Int):Int:=qcq (smF a b c d) (sgV ((smT a b c d).natAbs/smK a b c d) (decide (smT a b c d<0)))
def smD (a b c d:Int):Int:=qcq (smF a b c d) (sgV (smU a b c d).natAbs (decide (smU a b c d<0)))
theorem qhU {a b c d:Int} (h0 : -9223372036854775807≤a) (h1:a≤9223372036854775807) (h2 : -9223372036854775807≤b) (h3:b≤9223372036854775807)
 (h4 : -9223372036854775807≤c) (h5:c≤9223372036854775807) (h6 : -9223372036854775807≤d) (h7:d≤9223372036854775807):qbc (a*b+c*d):=by
 have h:(a*b).natAbs≤9223372036854775807*9223372036854775807:=by rw[Int.natAbs_mul];exact Nat.mul_le_mul (by omega) (by omega)
 have g:(c*d).natAbs≤9223372036854775807*9223372036854775807:=by rw[Int.natAbs_mul];exact Nat.mul_le_mul (by omega) (by omega)
 unfold qbc
 generalize a*b=p at *
 generalize c*d=q at *
 omega
theorem qqy {a b c d g l r k e T:Int} {zb zd m:Int} {N M:Int} {f2:Bool} {X Y E:Int}
 (hs1:Pure Tryz.prog 67 #[iV b] (.int .u64 zb)) (hs2:Pure Tryz.prog 67 #[iV d] (.int .u64 zd))
 (hg:Pure Tryz.prog 86 #[.int .u64 zb,.int .u64 zd] (.int .u64 g))
 (cg:iV (IntKind.i64.wrap g)=iV g) (g0:¬ g=0) (ql:iV (IntKind.i64.wrap (b.tdiv g))=iV l) (qr:iV (IntKind.i64.wrap (d.tdiv g))=iV r)
 (p1:Pure Tryz.prog 121 #[iV a,iV r] (qdX (a*r))) (p2:Pure Tryz.prog 121 #[iV c,iV l] (qdX (c*l)))
 (pl:Pure Tryz.prog 122 #[qdX (a*r),qdX (c*l)] (qdX T))
 (rm:Pure Tryz.prog 140 #[qdX T,.int .u64 g] (.int .u64 m)) (hk:Pure Tryz.prog 86 #[.int .u64 m,.int .u64 g] (.int .u64 k))
 (ck:iV (IntKind.i64.wrap k)=iV k) (k0:¬ k=0) (qe:iV (IntKind.i64.wrap (d.tdiv k))=iV e)
 (p3:Pure Tryz.prog 121 #[iV l,iV e] (qdX (l*e)))
 (dv2:Pure Tryz.prog 141 #[qdX (l*e),.int .u64 1] (.tuple #[iV M,.bool f2])) (f1:Bool)
 (dv1:Pure Tryz.prog 141 #[qdX T,.int .u64 k] (.tuple #[iV N,.bool f1]))
 (rs:Pure Tryz.prog 114 #[iV N,iV M,.bool (f1&&f2)] (.tuple #[qaa X Y,iV E])) :
 Pure Tryz.prog 120 #[qaa a b,qaa c d] (.tuple #[qaa X Y,iV E]):=by
 cases f1
 ·exact qac (args:=[qaa a b,qaa c d]) 200 [Rf hs1,Rf hs2,Rf hg,Re cg,Re ql,Re cg,Re qr,
   Rf p1,Rf p2,Rf pl,Rf rm,Rf hk,.r (.tuple #[iV N,.bool false]),Re ck,Re qe,Rf p3,Rf dv2,Rf rs]
   (Ai rfl (Ai hs1 (Ai hs2 (Ai hg (Ai cg (Ai g0 (Ai ql (Ai cg (Ai g0 (Ai qr (Ai p1 (Ai p2 (Ai pl (Ai rm (Ai hk (Ai dv1 (Ai ck (Ai k0 (Ai qe (Ai p3 (Ai dv2 (Ai rs tI)))))))))))))))))))))) (by kernel_rfl)
 ·exact qac (args:=[qaa a b,qaa c d]) 200 [Rf hs1,Rf hs2,Rf hg,Re cg,Re ql,Re cg,Re qr,
   Rf p1,Rf p2,Rf pl,Rf rm,Rf hk,.r (.tuple #[iV N,.bool true]),Re ck,Re qe,Rf p3,Rf dv2,Rf rs]
   (Ai rfl (Ai hs1 (Ai hs2 (Ai hg (Ai cg (Ai g0 (Ai ql (Ai cg (Ai g0 (Ai qr (Ai p1 (Ai p2 (Ai pl (Ai rm (Ai hk (Ai dv1 (Ai ck (Ai k0 (Ai qe (Ai p3 (Ai dv2 (Ai rs tI)))))))))))))))))))))) (by kernel_rfl)
theorem qsg (a b c d:Int) (ha:I64 a) (hb:I64 b) (hc:I64 c) (hd:I64 d) (k1:okB a b=true) (k2:okB c d=true) :
 Pure Tryz.prog 120 #[qaa a b,qaa c d] (.tuple #[qaa (smN a b c d) (smD a b c d),.int .i64 (qf5 (smF a b c d))]):=by
 have b1:=qaz k1
 have d1:=qaz k2
 have a1:=qbs k1
 have c1:=qbs k2
 unfold I64 at ha hb hc hd
 obtain⟨g,hg⟩:∃ g:Nat,g=smG b d:=⟨_,rfl⟩
 obtain⟨l,hl⟩:∃ l:Int,b.tdiv (g:Int)=l:=⟨_,rfl⟩
 obtain⟨r,hr⟩:∃ r:Int,d.tdiv (g:Int)=r:=⟨_,rfl⟩
 obtain⟨T,hT⟩:∃ T:Int,a*r+c*l=T:=⟨_,rfl⟩
 obtain⟨k,hk⟩:∃ k:Nat,k=Nat.gcd (T.natAbs%g) g:=⟨_,rfl⟩
 obtain⟨e,he⟩:∃ e:Int,d.tdiv (k:Int)=e:=⟨_,rfl⟩
 have eT:smT a b c d=T:=by rw[← hT,← hl,← hr,hg];rfl
 have eK:smK a b c d=k:=by unfold smK;rw[eT,← hg,← hk]
 have eU:smU a b c d=l*e:=by unfold smU;rw[← hg,eK,hl,he]
 have g0:0<g:=hg▸Nat.gcd_pos_of_pos_right _ (by omega)
 have gl:g≤d.natAbs:=hg▸Nat.gcd_le_right _ (by omega)
 have k0:0<k:=hk▸Nat.gcd_pos_of_pos_right _ g0
 have kl:k≤g:=hk▸Nat.gcd_le_right _ g0
 have tL:=qi0 (a:=b) g0 (by omega) (by omega)
 have tR:=qi0 (a:=d) g0 (by omega) (by omega)
 have tE:=qi0 (a:=d) k0 (by omega) (by omega)
 rw[hl] at tL
 rw[hr] at tR
 rw[he] at tE
 have ft:qbc T:=hT▸qhU (by omega) (by omega) tR.1 tR.2 (by omega) (by omega) tL.1 tL.2
 have fu:qbc (l*e):=qlM tL.1 tL.2 tE.1 tE.2
 have v2:=fun w=>qe3 (l*e) 1 w fu (by omega) (by omega)
 simp only[Nat.div_one] at v2
 have ml:T.natAbs%g<g:=Nat.mod_lt _ g0
 have key:=qqy (a:=a) (b:=b) (c:=c) (d:=d) (g:=g) (l:=l) (r:=r) (k:=k) (e:=e) (T:=T) (fun w=>(qcR b w (by omega) (by omega)).mono fun _ _ ⟨h1,h2⟩=>⟨h1,Gr.of_eq h2⟩) (fun w=>(qcR d w (by omega) (by omega)).mono fun _ _ ⟨h1,h2⟩=>⟨h1,Gr.of_eq h2⟩)
  (fun w=>qdU b.natAbs d.natAbs _ _ _ w rfl rfl (by rw[hg];rfl) (by omega) (by omega)) (qgm (by omega) (by omega)) (by omega) (qgU hl (by omega) (by omega)) (qgU hr (by omega) (by omega))
  (fun w=>qbV a r w (by omega) (by omega) (by omega) (by omega)) (fun w=>qbV c l w (by omega) (by omega) (by omega) (by omega)) (fun w=>hT▸qjy (a*r) (c*l) w)
  (fun w=>qgy T g w ft g0 (by omega)) (fun w=>qdU (T.natAbs%g) g _ _ _ w rfl rfl (by rw[hk]) (by omega) (by omega)) (qgm (by omega) (by omega)) (by omega) (qgU he (by omega) (by omega))
  (fun w=>qbV l e w (by omega) (by omega) (by omega) (by omega)) v2 _ (fun w=>qe3 T k w ft k0 (by omega)) (fun w=>qea _ _ _ w)
 have u1:smN a b c d=qcq (qaJ (T.natAbs/k)&&qaJ (l*e).natAbs) (sgV (T.natAbs/k) (decide (T<0))):=by unfold smN smF;rw[eT,eK,eU]
 have u2:smD a b c d=qcq (qaJ (T.natAbs/k)&&qaJ (l*e).natAbs) (sgV (l*e).natAbs (decide (l*e<0))):=by unfold smD smF;rw[eT,eK,eU]
 have u3:smF a b c d=(qaJ (T.natAbs/k)&&qaJ (l*e).natAbs):=by unfold smF;rw[eT,eK,eU]
 rw[u1,u2,u3]
 exact key
end Go.Proofs.YtleaeldgaflmkaaGreat

namespace Go.Proofs.YtleaeldgaflmkaaGreat
set_option maxRecDepth 100000
open Go.RowKit
theorem qd2 {c d:Int} (hc:c≤9223372036854775807) (h:okB c d=true):okB (-c) d=true:=by
 unfold okB at *
 simp only[decide_eq_true_eq] at *
 exact⟨h.1,by omega,by rw[Int.natAbs_neg];exact h.2.2⟩
theorem qng {a b c d:Int} (ha:I64 a) (hb:I64 b) (hc:I64 c) (hd:I64 d) (h1:okB a b=true) (h2:okB c d=true):Pure Tryz.prog 119 #[qaa a b,qaa c d] (.int .i64 0):=
 fun w=>qfu h1 h2▸qgN a b c d w ha hb hc hd
set_option maxRecDepth 100000
theorem qsU {a b c d:Int} (ha:I64 a) (hb:I64 b) (hc:I64 c) (hd:I64 d) (h1:okB a b=true) (h2:okB c d=true) :
 Pure Tryz.prog 101 #[qaa a b,qaa c d] (.tuple #[qaa (smN a b (-c) d) (smD a b (-c) d),iV (qf5 (smF a b (-c) d))]):=by
 have c1:=qbs h2
 have c2:=hc
 unfold I64 at c2
 exact qac (args:=[qaa a b,qaa c d]) 100 [.r (iV 0),.k,.r (iV (-c)),.r (.tuple #[qaa (smN a b (-c) d) (smD a b (-c) d),iV (qf5 (smF a b (-c) d))])]
  (Ai rfl (Ai (qng ha hb hc hd h1 h2) (Ai ((by rw[qah (by omega) (by omega),Int.zero_sub]:iV (IntKind.i64.wrap (0-c))=iV (-c))) (Ai (qsg a b (-c) d ha hb (by unfold I64;omega) hd h1 (qd2 c2.2 h2)) tI)))) (by kernel_rfl)
theorem qty {a b c d:Int} (ha:I64 a) (hb:I64 b) (hc:I64 c) (hd:I64 d) (h1:okB a b=true) (h2:okB c d=true) :
 Pure Tryz.prog 102 #[qaa a b,qaa c d] (.tuple #[.int .i64 (a*d-c*b).sign,.int .i64 0]):=by
 have b1:=qaz h1
 have d1:=qaz h2
 have a1:=qbs h1
 have c1:=qbs h2
 have hB:=qng ha hb hc hd h1 h2
 unfold I64 at ha hb hc hd
 have e:a*d + -(c*b)=a*d-c*b:=rfl
 have f:qbc (a*d-c*b):=by
  have:=qhU (a:=a) (b:=d) (c:=-c) (d:=b) (by omega) (by omega) (by omega) (by omega) (by omega) (by omega) (by omega) (by omega)
  rw[Int.neg_mul] at this
  exact this
 exact qac (args:=[qaa a b,qaa c d]) 100 [.r (.int .i64 0),.k,.r (qdX (a*d)),.r (qdX (c*b)),.r (qdX (-(c*b))),.r (qdX (a*d-c*b)),.r (.int .i64 (a*d-c*b).sign)]
  (Ai rfl (Ai hB (Ai ((fun w=>qbV a d w (by omega) (by omega) (by omega) (by omega):Pure _ _ _ _)) (Ai ((fun w=>qbV c b w (by omega) (by omega) (by omega) (by omega):Pure _ _ _ _)) (Ai ((fun w=>qde (c*b) w:Pure _ _ _ _)) (Ai ((fun w=>e▸qjy (a*d) (-(c*b)) w:Pure _ _ _ _)) (Ai (fun w=>qeD _ w f:Pure _ _ _ _) tI))))))) (by kernel_rfl)
end Go.Proofs.YtleaeldgaflmkaaGreat
