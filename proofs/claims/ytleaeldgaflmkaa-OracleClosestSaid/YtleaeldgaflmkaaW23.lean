/-
  Joined: Q, T, Cp, Pl, Rv. Conditions: none.
-/
import Derived.Test.YtleaeldgaflmkaaSxJ
import Derived.Test.YtleaeldgaflmkaaW11
import Derived.Test.YtleaeldgaflmkaaSxQ
import Derived.Laws.Bits64b
namespace Go.Proofs.Ytleaeldgaflmkaa
set_option maxRecDepth 100000
open Go.RowKit
theorem qac {P:Program} (n:Nat) {f:FuncId} {args:List Value} (ch:List Ch) {v:Value} {T:Prop} (ht:v=v∧T) (e:qnh v (qnO P n f args ch)=(v=v∧T)):Pure P f args.toArray v:=qkJ n ch (e▸ht)
abbrev qaa (n d:Int):Value:=.agg #[iV n,iV d]
abbrev qcZ (x:Int):Value:=.agg #[.int .u64 (wHi x),.int .u64 (wLo x)]
theorem qes {n:Int} (h0 : -9223372036854775808≤n) (h1:n≤9223372036854775807):iV (IntKind.i64.wrap n)=iV n:=by rw[qao h0 h1]
theorem qem {x y q:Int} (h:x.tdiv y=q) (h0 : -9223372036854775808≤q) (h1:q≤9223372036854775807):iV (IntKind.i64.wrap (x.tdiv y))=iV q:=by rw[h,qao h0 h1]
def smG (b d:Int):Nat:=Nat.gcd b.natAbs d.natAbs
def smT (a b c d:Int):Int:=a*d.tdiv (smG b d)+c*b.tdiv (smG b d)
def smK (a b c d:Int):Nat:=Nat.gcd ((smT a b c d).natAbs%smG b d) (smG b d)
def smU (a b c d:Int):Int:=b.tdiv (smG b d)*d.tdiv (smK a b c d)
def smF (a b c d:Int):Bool:=qaC ((smT a b c d).natAbs/smK a b c d)&&qaC (smU a b c d).natAbs
def smN (a b c d:Int):Int:=qbP (smF a b c d) (sgV ((smT a b c d).natAbs/smK a b c d) (decide (smT a b c d<0)))
def smD (a b c d:Int):Int:=qbP (smF a b c d) (sgV (smU a b c d).natAbs (decide (smU a b c d<0)))
theorem qe5 {a b c d:Int} (h0 : -9223372036854775807≤a) (h1:a≤9223372036854775807) (h2 : -9223372036854775807≤b) (h3:b≤9223372036854775807)
 (h4 : -9223372036854775807≤c) (h5:c≤9223372036854775807) (h6 : -9223372036854775807≤d) (h7:d≤9223372036854775807):qaS (a*b+c*d):=by
 have h:(a*b).natAbs≤9223372036854775807*9223372036854775807:=by rw[Int.natAbs_mul];exact Nat.mul_le_mul (by omega) (by omega)
 have g:(c*d).natAbs≤9223372036854775807*9223372036854775807:=by rw[Int.natAbs_mul];exact Nat.mul_le_mul (by omega) (by omega)
 unfold qaS
 generalize a*b=p at *
 generalize c*d=q at *
 omega
theorem qjm {a b c d g l r k e T:Int} {zb zd m:Int} {N M:Int} {f2:Bool} {X Y E:Int}
 (hs1:Pure Try.prog 16 #[iV b] (.int .u64 zb)) (hs2:Pure Try.prog 16 #[iV d] (.int .u64 zd))
 (hg:Pure Try.prog 24 #[.int .u64 zb,.int .u64 zd] (.int .u64 g))
 (cg:iV (IntKind.i64.wrap g)=iV g) (g0:¬ g=0) (ql:iV (IntKind.i64.wrap (b.tdiv g))=iV l) (qr:iV (IntKind.i64.wrap (d.tdiv g))=iV r)
 (p1:Pure Try.prog 40 #[iV a,iV r] (qcZ (a*r))) (p2:Pure Try.prog 40 #[iV c,iV l] (qcZ (c*l)))
 (pl:Pure Try.prog 41 #[qcZ (a*r),qcZ (c*l)] (qcZ T))
 (rm:Pure Try.prog 52 #[qcZ T,.int .u64 g] (.int .u64 m)) (hk:Pure Try.prog 24 #[.int .u64 m,.int .u64 g] (.int .u64 k))
 (ck:iV (IntKind.i64.wrap k)=iV k) (k0:¬ k=0) (qe:iV (IntKind.i64.wrap (d.tdiv k))=iV e)
 (p3:Pure Try.prog 40 #[iV l,iV e] (qcZ (l*e)))
 (dv2:Pure Try.prog 53 #[qcZ (l*e),.int .u64 1] (.tuple #[iV M,.bool f2])) (f1:Bool)
 (dv1:Pure Try.prog 53 #[qcZ T,.int .u64 k] (.tuple #[iV N,.bool f1]))
 (rs:Pure Try.prog 54 #[iV N,iV M,.bool (f1&&f2)] (.tuple #[qaa X Y,iV E])) :
 Pure Try.prog 39 #[qaa a b,qaa c d] (.tuple #[qaa X Y,iV E]):=by
 cases f1
 ·exact qac (args:=[qaa a b,qaa c d]) 200 [Rf hs1,Rf hs2,Rf hg,Re cg,Re ql,Re cg,Re qr,
   Rf p1,Rf p2,Rf pl,Rf rm,Rf hk,.r (.tuple #[iV N,.bool false]),Re ck,Re qe,Rf p3,Rf dv2,Rf rs]
   (Ai rfl (Ai hs1 (Ai hs2 (Ai hg (Ai cg (Ai g0 (Ai ql (Ai cg (Ai g0 (Ai qr (Ai p1 (Ai p2 (Ai pl (Ai rm (Ai hk (Ai dv1 (Ai ck (Ai k0 (Ai qe (Ai p3 (Ai dv2 (Ai rs tI)))))))))))))))))))))) (by kernel_rfl)
 ·exact qac (args:=[qaa a b,qaa c d]) 200 [Rf hs1,Rf hs2,Rf hg,Re cg,Re ql,Re cg,Re qr,
   Rf p1,Rf p2,Rf pl,Rf rm,Rf hk,.r (.tuple #[iV N,.bool true]),Re ck,Re qe,Rf p3,Rf dv2,Rf rs]
   (Ai rfl (Ai hs1 (Ai hs2 (Ai hg (Ai cg (Ai g0 (Ai ql (Ai cg (Ai g0 (Ai qr (Ai p1 (Ai p2 (Ai pl (Ai rm (Ai hk (Ai dv1 (Ai ck (Ai k0 (Ai qe (Ai p3 (Ai dv2 (Ai rs tI)))))))))))))))))))))) (by kernel_rfl)
theorem qkR (a b c d:Int) (ha:I64 a) (hb:I64 b) (hc:I64 c) (hd:I64 d) (k1:okB a b=true) (k2:okB c d=true) :
 Pure Try.prog 39 #[qaa a b,qaa c d] (.tuple #[qaa (smN a b c d) (smD a b c d),.int .i64 (qeF (smF a b c d))]):=by
 have b1:=qaz k1
 have d1:=qaz k2
 have a1:=qaY k1
 have c1:=qaY k2
 unfold I64 at ha hb hc hd
 obtain⟨g,hg⟩:∃ g:Nat,g=smG b d:=⟨_,rfl⟩
 obtain⟨l,hl⟩:∃ l:Int,b.tdiv (g:Int)=l:=⟨_,rfl⟩
 obtain⟨r,hr⟩:∃ r:Int,d.tdiv (g:Int)=r:=⟨_,rfl⟩
 obtain⟨T,hT⟩:∃ T:Int,a*r+c*l=T:=⟨_,rfl⟩
 obtain⟨k,hk⟩:∃ k:Nat,k=Nat.gcd (T.natAbs%g) g:=⟨_,rfl⟩
 obtain⟨e,he⟩:∃ e:Int,d.tdiv (k:Int)=e:=⟨_,rfl⟩
 have eT:smT a b c d=T:=by rw[← hT,← hl,← hr,hg];rfl
 have eK:smK a b c d=k:=by unfold smK;rw[eT,← hg,← hk]
 have eU:smU a b c d=l*e:=by unfold smU;rw[← hg,eK,hl,he]
 have g0:0<g:=hg▸Nat.gcd_pos_of_pos_right _ (by omega)
 have gl:g≤d.natAbs:=hg▸Nat.gcd_le_right _ (by omega)
 have k0:0<k:=hk▸Nat.gcd_pos_of_pos_right _ g0
 have kl:k≤g:=hk▸Nat.gcd_le_right _ g0
 have tL:=qfw (a:=b) g0 (by omega) (by omega)
 have tR:=qfw (a:=d) g0 (by omega) (by omega)
 have tE:=qfw (a:=d) k0 (by omega) (by omega)
 rw[hl] at tL
 rw[hr] at tR
 rw[he] at tE
 have ft:qaS T:=hT▸qe5 (by omega) (by omega) tR.1 tR.2 (by omega) (by omega) tL.1 tL.2
 have fu:qaS (l*e):=qhJ tL.1 tL.2 tE.1 tE.2
 have v2:=fun w=>qdF (l*e) 1 w fu (by omega) (by omega)
 simp only[Nat.div_one] at v2
 have ml:T.natAbs%g<g:=Nat.mod_lt _ g0
 have key:=qjm (a:=a) (b:=b) (c:=c) (d:=d) (g:=g) (l:=l) (r:=r) (k:=k) (e:=e) (T:=T) (fun w=>(qbY b w (by omega) (by omega)).mono fun _ _ ⟨h1,h2⟩=>⟨h1,Gr.of_eq h2⟩) (fun w=>(qbY d w (by omega) (by omega)).mono fun _ _ ⟨h1,h2⟩=>⟨h1,Gr.of_eq h2⟩)
  (fun w=>qcj b.natAbs d.natAbs _ _ _ w rfl rfl (by rw[hg];rfl) (by omega) (by omega)) (qes (by omega) (by omega)) (by omega) (qem hl (by omega) (by omega)) (qem hr (by omega) (by omega))
  (fun w=>qbr a r w (by omega) (by omega) (by omega) (by omega)) (fun w=>qbr c l w (by omega) (by omega) (by omega) (by omega)) (fun w=>hT▸qfY (a*r) (c*l) w)
  (fun w=>qev T g w ft g0 (by omega)) (fun w=>qcj (T.natAbs%g) g _ _ _ w rfl rfl (by rw[hk]) (by omega) (by omega)) (qes (by omega) (by omega)) (by omega) (qem he (by omega) (by omega))
  (fun w=>qbr l e w (by omega) (by omega) (by omega) (by omega)) v2 _ (fun w=>qdF T k w ft k0 (by omega)) (fun w=>qcJ _ _ _ w)
 have u1:smN a b c d=qbP (qaC (T.natAbs/k)&&qaC (l*e).natAbs) (sgV (T.natAbs/k) (decide (T<0))):=by unfold smN smF;rw[eT,eK,eU]
 have u2:smD a b c d=qbP (qaC (T.natAbs/k)&&qaC (l*e).natAbs) (sgV (l*e).natAbs (decide (l*e<0))):=by unfold smD smF;rw[eT,eK,eU]
 have u3:smF a b c d=(qaC (T.natAbs/k)&&qaC (l*e).natAbs):=by unfold smF;rw[eT,eK,eU]
 rw[u1,u2,u3]
 exact key
end Go.Proofs.Ytleaeldgaflmkaa

namespace Go.Proofs.Ytleaeldgaflmkaa
set_option maxRecDepth 100000
open Go.RowKit
theorem qcR {c d:Int} (hc:c≤9223372036854775807) (h:okB c d=true):okB (-c) d=true:=by
 unfold okB at *
 simp only[decide_eq_true_eq] at *
 exact⟨h.1,by omega,by rw[Int.natAbs_neg];exact h.2.2⟩
theorem qhN {a b c d:Int} (ha:I64 a) (hb:I64 b) (hc:I64 c) (hd:I64 d) (h1:okB a b=true) (h2:okB c d=true):Pure Try.prog 38 #[qaa a b,qaa c d] (.int .i64 0):=
 fun w=>qdB h1 h2▸qek a b c d w ha hb hc hd
set_option maxRecDepth 100000
theorem qk3 {a b c d:Int} (ha:I64 a) (hb:I64 b) (hc:I64 c) (hd:I64 d) (h1:okB a b=true) (h2:okB c d=true) :
 Pure Try.prog 27 #[qaa a b,qaa c d] (.tuple #[qaa (smN a b (-c) d) (smD a b (-c) d),iV (qeF (smF a b (-c) d))]):=by
 have c1:=qaY h2
 have c2:=hc
 unfold I64 at c2
 exact qac (args:=[qaa a b,qaa c d]) 100 [.r (iV 0),.k,.r (iV (-c)),.r (.tuple #[qaa (smN a b (-c) d) (smD a b (-c) d),iV (qeF (smF a b (-c) d))])]
  (Ai rfl (Ai (qhN ha hb hc hd h1 h2) (Ai ((by rw[qao (by omega) (by omega),Int.zero_sub]:iV (IntKind.i64.wrap (0-c))=iV (-c))) (Ai (qkR a b (-c) d ha hb (by unfold I64;omega) hd h1 (qcR c2.2 h2)) tI)))) (by kernel_rfl)
theorem qk8 {a b c d:Int} (ha:I64 a) (hb:I64 b) (hc:I64 c) (hd:I64 d) (h1:okB a b=true) (h2:okB c d=true) :
 Pure Try.prog 28 #[qaa a b,qaa c d] (.tuple #[.int .i64 (a*d-c*b).sign,.int .i64 0]):=by
 have b1:=qaz h1
 have d1:=qaz h2
 have a1:=qaY h1
 have c1:=qaY h2
 have hB:=qhN ha hb hc hd h1 h2
 unfold I64 at ha hb hc hd
 have e:a*d + -(c*b)=a*d-c*b:=rfl
 have f:qaS (a*d-c*b):=by
  have:=qe5 (a:=a) (b:=d) (c:=-c) (d:=b) (by omega) (by omega) (by omega) (by omega) (by omega) (by omega) (by omega) (by omega)
  rw[Int.neg_mul] at this
  exact this
 exact qac (args:=[qaa a b,qaa c d]) 100 [.r (.int .i64 0),.k,.r (qcZ (a*d)),.r (qcZ (c*b)),.r (qcZ (-(c*b))),.r (qcZ (a*d-c*b)),.r (.int .i64 (a*d-c*b).sign)]
  (Ai rfl (Ai hB (Ai ((fun w=>qbr a d w (by omega) (by omega) (by omega) (by omega):Pure _ _ _ _)) (Ai ((fun w=>qbr c b w (by omega) (by omega) (by omega) (by omega):Pure _ _ _ _)) (Ai ((fun w=>qcf (c*b) w:Pure _ _ _ _)) (Ai ((fun w=>e▸qfY (a*d) (-(c*b)) w:Pure _ _ _ _)) (Ai (fun w=>qdg _ w f:Pure _ _ _ _) tI))))))) (by kernel_rfl)
end Go.Proofs.Ytleaeldgaflmkaa

namespace Go.Proofs.Ytleaeldgaflmkaa
set_option maxRecDepth 100000
open Go.RowKit
abbrev qae (n a b:Int):Value:=.agg #[iV n,iV a,iV b]
theorem qnZ {pi pa pb:Int} (i0:decide (pi<0)=true) :
 Pure Try.prog 14 #[qae pi pa pb] (iV 8):=
 qac (args:=[qae pi pa pb]) 200 [.t true]
  (Ai rfl (Ai i0 tI)) (by kernel_rfl)
theorem qnv {pi pa pb:Int} (i0:decide (pi<0)=false) (i1:decide (pi>65535)=true) :
 Pure Try.prog 14 #[qae pi pa pb] (iV 8):=
 qac (args:=[qae pi pa pb]) 200 [.t false,.t true]
  (Ai rfl (Ai i0 (Ai i1 tI))) (by kernel_rfl)
theorem qnk {pi pa pb:Int} (i0:decide (pi<0)=false) (i1:decide (pi>65535)=false) (la:decide (-1048576≤pa)=false) :
 Pure Try.prog 14 #[qae pi pa pb] (iV 8):=
 qac (args:=[qae pi pa pb]) 200 [.t false,.t false,.k,.t false,.k]
  (Ai rfl (Ai i0 (Ai i1 (Ai la tI)))) (by kernel_rfl)
theorem qn1 {pi pa pb:Int} (i0:decide (pi<0)=false) (i1:decide (pi>65535)=false) (la:decide (-1048576≤pa)=true) (ha:decide (pa≤1048576)=false) :
 Pure Try.prog 14 #[qae pi pa pb] (iV 8):=
 qac (args:=[qae pi pa pb]) 200 [.t false,.t false,.k,.t true,.t false,.k]
  (Ai rfl (Ai i0 (Ai i1 (Ai la (Ai ha tI))))) (by kernel_rfl)
theorem qnu {pi pa pb:Int} (i0:decide (pi<0)=false) (i1:decide (pi>65535)=false) (la:decide (-1048576≤pa)=true) (ha:decide (pa≤1048576)=true) (lb:decide (-1048576≤pb)=false) :
 Pure Try.prog 14 #[qae pi pa pb] (iV 8):=
 qac (args:=[qae pi pa pb]) 200 [.t false,.t false,.k,.t true,.t true,.k,.k,.t false,.k]
  (Ai rfl (Ai i0 (Ai i1 (Ai la (Ai ha (Ai lb tI)))))) (by kernel_rfl)
theorem qn6 {pi pa pb:Int} (i0:decide (pi<0)=false) (i1:decide (pi>65535)=false) (la:decide (-1048576≤pa)=true) (ha:decide (pa≤1048576)=true) (lb:decide (-1048576≤pb)=true) (hb:decide (pb≤1048576)=false) :
 Pure Try.prog 14 #[qae pi pa pb] (iV 8):=
 qac (args:=[qae pi pa pb]) 200 [.t false,.t false,.k,.t true,.t true,.k,.k,.t true,.t false,.k]
  (Ai rfl (Ai i0 (Ai i1 (Ai la (Ai ha (Ai lb (Ai hb tI))))))) (by kernel_rfl)
theorem qnX {pi pa pb:Int} (i0:decide (pi<0)=false) (i1:decide (pi>65535)=false) (la:decide (-1048576≤pa)=true) (ha:decide (pa≤1048576)=true) (lb:decide (-1048576≤pb)=true) (hb:decide (pb≤1048576)=true) :
 Pure Try.prog 14 #[qae pi pa pb] (iV 0):=
 qac (args:=[qae pi pa pb]) 200 [.t false,.t false,.k,.t true,.t true,.k,.k,.t true,.t true,.k]
  (Ai rfl (Ai i0 (Ai i1 (Ai la (Ai ha (Ai lb (Ai hb tI))))))) (by kernel_rfl)
theorem qnI {pi pa pb:Int} (i0:decide (pi<0)=true) :
 Pure Try.prog 19 #[qae pi pa pb] (iV 8):=
 qac (args:=[qae pi pa pb]) 200 [.t true]
  (Ai rfl (Ai i0 tI)) (by kernel_rfl)
theorem qnK {pi pa pb:Int} (i0:decide (pi<0)=false) (i1:decide (pi>65535)=true) :
 Pure Try.prog 19 #[qae pi pa pb] (iV 8):=
 qac (args:=[qae pi pa pb]) 200 [.t false,.t true]
  (Ai rfl (Ai i0 (Ai i1 tI))) (by kernel_rfl)
theorem qni {pi pa pb:Int} (i0:decide (pi<0)=false) (i1:decide (pi>65535)=false) (la:decide (pa < -1048576)=true) :
 Pure Try.prog 19 #[qae pi pa pb] (iV 8):=
 qac (args:=[qae pi pa pb]) 200 [.t false,.t false,.t true]
  (Ai rfl (Ai i0 (Ai i1 (Ai la tI)))) (by kernel_rfl)
theorem qnx {pi pa pb:Int} (i0:decide (pi<0)=false) (i1:decide (pi>65535)=false) (la:decide (pa < -1048576)=false) (ha:decide (pa>1048576)=true) :
 Pure Try.prog 19 #[qae pi pa pb] (iV 8):=
 qac (args:=[qae pi pa pb]) 200 [.t false,.t false,.t false,.t true]
  (Ai rfl (Ai i0 (Ai i1 (Ai la (Ai ha tI))))) (by kernel_rfl)
theorem qnP {pi pa pb:Int} (i0:decide (pi<0)=false) (i1:decide (pi>65535)=false) (la:decide (pa < -1048576)=false) (ha:decide (pa>1048576)=false) (lb:decide (pb < -1048576)=true) :
 Pure Try.prog 19 #[qae pi pa pb] (iV 8):=
 qac (args:=[qae pi pa pb]) 200 [.t false,.t false,.t false,.t false,.t true]
  (Ai rfl (Ai i0 (Ai i1 (Ai la (Ai ha (Ai lb tI)))))) (by kernel_rfl)
theorem qnr {pi pa pb:Int} (i0:decide (pi<0)=false) (i1:decide (pi>65535)=false) (la:decide (pa < -1048576)=false) (ha:decide (pa>1048576)=false) (lb:decide (pb < -1048576)=false) (hb:decide (pb>1048576)=true) :
 Pure Try.prog 19 #[qae pi pa pb] (iV 8):=
 qac (args:=[qae pi pa pb]) 200 [.t false,.t false,.t false,.t false,.t false,.t true]
  (Ai rfl (Ai i0 (Ai i1 (Ai la (Ai ha (Ai lb (Ai hb tI))))))) (by kernel_rfl)
theorem qma {pi pa pb:Int} (i0:decide (pi<0)=false) (i1:decide (pi>65535)=false) (la:decide (pa < -1048576)=false) (ha:decide (pa>1048576)=false) (lb:decide (pb < -1048576)=false) (hb:decide (pb>1048576)=false) :
 Pure Try.prog 19 #[qae pi pa pb] (iV 0):=
 qac (args:=[qae pi pa pb]) 200 [.t false,.t false,.t false,.t false,.t false,.t false]
  (Ai rfl (Ai i0 (Ai i1 (Ai la (Ai ha (Ai lb (Ai hb tI))))))) (by kernel_rfl)
end Go.Proofs.Ytleaeldgaflmkaa

namespace Go.Proofs.Ytleaeldgaflmkaa
set_option maxRecDepth 100000
open Go.RowKit
theorem qhk {n h l:Int} (nz:¬ (32:Int)<0) (v1:iV (n.fdiv (2 ^ (min (32:Int).toNat IntKind.i64.bits)))=iV h) (v2:iV (bits .and .i64 n 4294967295)=iV l) :
 Pure Try.prog 50 #[iV n] (.agg #[iV h,iV l]):=
 qac (args:=[iV n]) 200 [.r (iV h),Re v2]
  (Ai rfl (Ai nz (Ai v1 (Ai v2 tI)))) (by kernel_rfl)
theorem qiB {a b x0 x1 y0 y1 p0 q0 s0 p1 q1 s1:Int} (m0:iV (IntKind.i64.wrap (a*x0))=iV p0) (n0:iV (IntKind.i64.wrap (b*y0))=iV q0) (s0e:iV (IntKind.i64.wrap (p0+q0))=iV s0) (m1:iV (IntKind.i64.wrap (a*x1))=iV p1) (n1:iV (IntKind.i64.wrap (b*y1))=iV q1) (s1e:iV (IntKind.i64.wrap (p1+q1))=iV s1) :
 Pure Try.prog 49 #[iV a,.agg #[iV x0,iV x1],iV b,.agg #[iV y0,iV y1]] (.agg #[iV s0,iV s1]):=
 qac (args:=[iV a,.agg #[iV x0,iV x1],iV b,.agg #[iV y0,iV y1]]) 200 [.k,Re m0,Re n0,Re s0e,.k,.k,Re m1,Re n1,Re s1e,.k,.k]
  (Ai rfl (Ai m0 (Ai n0 (Ai s0e (Ai m1 (Ai n1 (Ai s1e tI))))))) (by kernel_rfl)
theorem qh4 {s0 s1 c h:Int} (nz:¬ (32:Int)<0) (v1:iV (s1.fdiv (2 ^ (min (32:Int).toNat IntKind.i64.bits)))=iV c) (v2:iV (IntKind.i64.wrap (s0+c))=iV h) (t1:decide (h < -2147483648)=true) :
 Pure Try.prog 51 #[.agg #[iV s0,iV s1]] (.tuple #[iV 0,.bool false]):=
 qac (args:=[.agg #[iV s0,iV s1]]) 200 [.r (iV c),Re v2,.t true]
  (Ai rfl (Ai nz (Ai v1 (Ai v2 (Ai t1 tI))))) (by kernel_rfl)
theorem qiQ {s0 s1 c h:Int} (nz:¬ (32:Int)<0) (v1:iV (s1.fdiv (2 ^ (min (32:Int).toNat IntKind.i64.bits)))=iV c) (v2:iV (IntKind.i64.wrap (s0+c))=iV h) (t1:decide (h < -2147483648)=false) (t2:decide (h>2147483647)=true) :
 Pure Try.prog 51 #[.agg #[iV s0,iV s1]] (.tuple #[iV 0,.bool false]):=
 qac (args:=[.agg #[iV s0,iV s1]]) 200 [.r (iV c),Re v2,.t false,.t true]
  (Ai rfl (Ai nz (Ai v1 (Ai v2 (Ai t1 (Ai t2 tI)))))) (by kernel_rfl)
theorem qiR {s0 s1 c h hh l r:Int} (nz:¬ (32:Int)<0) (v1:iV (s1.fdiv (2 ^ (min (32:Int).toNat IntKind.i64.bits)))=iV c) (v2:iV (IntKind.i64.wrap (s0+c))=iV h) (t1:decide (h < -2147483648)=false) (t2:decide (h>2147483647)=false) (v3:iV (IntKind.i64.wrap (h*2 ^ (min (32:Int).toNat IntKind.i64.bits)))=iV hh) (v4:iV (bits .and .i64 s1 4294967295)=iV l) (v5:iV (IntKind.i64.wrap (hh+l))=iV r) :
 Pure Try.prog 51 #[.agg #[iV s0,iV s1]] (.tuple #[iV r,.bool true]):=
 qac (args:=[.agg #[iV s0,iV s1]]) 200 [.r (iV c),Re v2,.t false,.t false,.r (iV hh),Re v4,Re v5]
  (Ai rfl (Ai nz (Ai v1 (Ai v2 (Ai t1 (Ai t2 (Ai nz (Ai v3 (Ai v4 (Ai v5 tI)))))))))) (by kernel_rfl)
theorem qli {pi pa pb n d rn rd x0 x1 y0 y1 s0 s1 r:Int} (c1:Pure Try.prog 48 #[iV pb,iV d] (.tuple #[qaa rn rd,iV 0])) (c2:Pure Try.prog 50 #[iV rd] (.agg #[iV x0,iV x1])) (c3:Pure Try.prog 50 #[iV n] (.agg #[iV y0,iV y1])) (c4:Pure Try.prog 49 #[iV pa,.agg #[iV x0,iV x1],iV rn,.agg #[iV y0,iV y1]] (.agg #[iV s0,iV s1])) (c5:Pure Try.prog 51 #[.agg #[iV s0,iV s1]] (.tuple #[iV r,.bool false])) :
 Pure Try.prog 37 #[qae pi pa pb,qaa n d] (.tuple #[qaa 0 0,iV 16]):=
 qac (args:=[qae pi pa pb,qaa n d]) 400 [Rf c1,Rf c2,Rf c3,Rf c4,Rf c5,.k]
  (Ai rfl (Ai c1 (Ai c2 (Ai c3 (Ai c4 (Ai c5 tI)))))) (by kernel_rfl)
theorem qlL {pi pa pb n d rn rd x0 x1 y0 y1 s0 s1 r N D E:Int} (c1:Pure Try.prog 48 #[iV pb,iV d] (.tuple #[qaa rn rd,iV 0])) (c2:Pure Try.prog 50 #[iV rd] (.agg #[iV x0,iV x1])) (c3:Pure Try.prog 50 #[iV n] (.agg #[iV y0,iV y1])) (c4:Pure Try.prog 49 #[iV pa,.agg #[iV x0,iV x1],iV rn,.agg #[iV y0,iV y1]] (.agg #[iV s0,iV s1])) (c5:Pure Try.prog 51 #[.agg #[iV s0,iV s1]] (.tuple #[iV r,.bool true])) (c6:Pure Try.prog 48 #[iV r,iV rd] (.tuple #[qaa N D,iV E])) :
 Pure Try.prog 37 #[qae pi pa pb,qaa n d] (.tuple #[qaa N D,iV E]):=
 qac (args:=[qae pi pa pb,qaa n d]) 400 [Rf c1,Rf c2,Rf c3,Rf c4,Rf c5,.k,Rf c6]
  (Ai rfl (Ai c1 (Ai c2 (Ai c3 (Ai c4 (Ai c5 (Ai c6 tI))))))) (by kernel_rfl)
theorem qn5 {pi pa pb n d N D E:Int} (c1:Pure Try.prog 14 #[qae pi pa pb] (iV 0)) (c2:Pure Try.prog 15 #[qaa n d] (iV 0)) (c3:Pure Try.prog 37 #[qae pi pa pb,qaa n d] (.tuple #[qaa N D,iV E])) :
 Pure Try.prog 25 #[qae pi pa pb,qaa n d] (.tuple #[qaa N D,iV E]):=
 qac (args:=[qae pi pa pb,qaa n d]) 200 [Rf c1,Rf c1,.k,.k,.k,.k,.k,.k,.k,.k,.k,Rf c3]
  (Ai rfl (Ai c1 (Ai c2 (Ai c3 tI)))) (by kernel_rfl)
end Go.Proofs.Ytleaeldgaflmkaa

namespace Go.Proofs.Ytleaeldgaflmkaa
set_option maxRecDepth 100000
open Go.RowKit
abbrev qal (s:Bool) (hi lo:Int):Value:=.agg #[.bool s,.int .u64 hi,.int .u64 lo]
noncomputable def qhR:Code:=qkx Try.prog 59 0
abbrev dvT (y r i:Int):List (Nat×SV):=[(1,.pv (.int .u64 y)),(2,.pp 0 0),(4,.pp 1 0),(6,.pp 2 0),(7,.pv (.int .u64 r)),(8,.pv (iV i))]
abbrev dvH (s:Bool) (hi lo H L:Int):List (Nat×Nat×SV):=[(0,0,.pv (.bool s)),(0,1,.pv (.int .u64 hi)),(0,2,.pv (.int .u64 lo)),(1,0,.pv (.bool false)),(1,1,.pv (.int .u64 0)),(1,2,.pv (.int .u64 0)),(2,0,.pv (.bool false)),(2,1,.pv (.int .u64 H)),(2,2,.pv (.int .u64 L))]
set_option maxHeartbeats 2000000 in
theorem qnN {y hi lo H L r i v1 v2 r2 r3 i1 j v3 v4 r4 m H1:Int} {s:Bool} {tm2:List (Nat×SV)} {hp2:List (Nat×Nat×SV)} (t0:decide (i≥0)=true) (n0:¬ i<0) (s1:Value.int .u64 (lo.fdiv (2 ^ (min i.toNat IntKind.u64.bits)))=.int .u64 v1) (a1:Value.int .u64 (bits .and .u64 v1 1)=.int .u64 v2) (t1:decide (i≥64)=true) (sj:iV (IntKind.i64.wrap (i-64))=iV j) (nj:¬ j<0) (s2:Value.int .u64 (hi.fdiv (2 ^ (min j.toNat IntKind.u64.bits)))=.int .u64 v3) (a2:Value.int .u64 (bits .and .u64 v3 1)=.int .u64 v4) (m1:Value.int .u64 (IntKind.u64.wrap (2*r))=.int .u64 r2) (p1:Value.int .u64 (IntKind.u64.wrap (r2+v4))=.int .u64 r3) (t2:decide (r3≥y)=true) (m2:Value.int .u64 (IntKind.u64.wrap (r3-y))=.int .u64 r4) (e1:Value.int .u64 (IntKind.u64.wrap (1*2 ^ (min j.toNat IntKind.u64.bits)))=.int .u64 m) (o1:Value.int .u64 (bits .or .u64 H m)=.int .u64 H1) (z1:iV (IntKind.i64.wrap (i-1))=iV i1)
 (k:RunsL Try.prog 0 0 qhR 54 3 (dvT y r4 i1) (dvH s hi lo H1 L) (.exit 0) tm2 hp2):RunsL Try.prog 0 0 qhR 54 3 (dvT y r i) (dvH s hi lo H L) (.exit 0) tm2 hp2:=
 RunsL.next [] 100 [.t true,Re s1,Re a1,.t true,Re sj,Re s2,Re a2,Re m1,Re p1,.t true,Re m2,.t true,Re sj,Re e1,Re o1,Re z1]
  (Ro (Ai t0 (Ai n0 (Ai s1 (Ai a1 (Ai t1 (Ai sj (Ai nj (Ai s2 (Ai a2 (Ai m1 (Ai p1 (Ai t2 (Ai m2 (Ai t1 (Ai sj (Ai nj (Ai e1 (Ai o1 (Ai z1 tI)))))))))))))))))))) k
set_option maxHeartbeats 2000000 in
theorem qn7 {y hi lo H L r i v1 v2 r2 r3 i1 j v3 v4:Int} {s:Bool} {tm2:List (Nat×SV)} {hp2:List (Nat×Nat×SV)} (t0:decide (i≥0)=true) (n0:¬ i<0) (s1:Value.int .u64 (lo.fdiv (2 ^ (min i.toNat IntKind.u64.bits)))=.int .u64 v1) (a1:Value.int .u64 (bits .and .u64 v1 1)=.int .u64 v2) (t1:decide (i≥64)=true) (sj:iV (IntKind.i64.wrap (i-64))=iV j) (nj:¬ j<0) (s2:Value.int .u64 (hi.fdiv (2 ^ (min j.toNat IntKind.u64.bits)))=.int .u64 v3) (a2:Value.int .u64 (bits .and .u64 v3 1)=.int .u64 v4) (m1:Value.int .u64 (IntKind.u64.wrap (2*r))=.int .u64 r2) (p1:Value.int .u64 (IntKind.u64.wrap (r2+v4))=.int .u64 r3) (t2:decide (r3≥y)=false) (z1:iV (IntKind.i64.wrap (i-1))=iV i1)
 (k:RunsL Try.prog 0 0 qhR 54 3 (dvT y r3 i1) (dvH s hi lo H L) (.exit 0) tm2 hp2):RunsL Try.prog 0 0 qhR 54 3 (dvT y r i) (dvH s hi lo H L) (.exit 0) tm2 hp2:=
 RunsL.next [] 100 [.t true,Re s1,Re a1,.t true,Re sj,Re s2,Re a2,Re m1,Re p1,.t false,Re z1]
  (Ro (Ai t0 (Ai n0 (Ai s1 (Ai a1 (Ai t1 (Ai sj (Ai nj (Ai s2 (Ai a2 (Ai m1 (Ai p1 (Ai t2 (Ai z1 tI)))))))))))))) k
set_option maxHeartbeats 2000000 in
theorem qn3 {y hi lo H L r i v1 v2 r2 r3 i1 r4 m H1:Int} {s:Bool} {tm2:List (Nat×SV)} {hp2:List (Nat×Nat×SV)} (t0:decide (i≥0)=true) (n0:¬ i<0) (s1:Value.int .u64 (lo.fdiv (2 ^ (min i.toNat IntKind.u64.bits)))=.int .u64 v1) (a1:Value.int .u64 (bits .and .u64 v1 1)=.int .u64 v2) (t1:decide (i≥64)=false) (m1:Value.int .u64 (IntKind.u64.wrap (2*r))=.int .u64 r2) (p1:Value.int .u64 (IntKind.u64.wrap (r2+v2))=.int .u64 r3) (t2:decide (r3≥y)=true) (m2:Value.int .u64 (IntKind.u64.wrap (r3-y))=.int .u64 r4) (e1:Value.int .u64 (IntKind.u64.wrap (1*2 ^ (min i.toNat IntKind.u64.bits)))=.int .u64 m) (o1:Value.int .u64 (bits .or .u64 L m)=.int .u64 H1) (z1:iV (IntKind.i64.wrap (i-1))=iV i1)
 (k:RunsL Try.prog 0 0 qhR 54 3 (dvT y r4 i1) (dvH s hi lo H H1) (.exit 0) tm2 hp2):RunsL Try.prog 0 0 qhR 54 3 (dvT y r i) (dvH s hi lo H L) (.exit 0) tm2 hp2:=
 RunsL.next [] 100 [.t true,Re s1,Re a1,.t false,Re m1,Re p1,.t true,Re m2,.t false,Re e1,Re o1,Re z1]
  (Ro (Ai t0 (Ai n0 (Ai s1 (Ai a1 (Ai t1 (Ai m1 (Ai p1 (Ai t2 (Ai m2 (Ai t1 (Ai n0 (Ai e1 (Ai o1 (Ai z1 tI))))))))))))))) k
set_option maxHeartbeats 2000000 in
theorem qny {y hi lo H L r i v1 v2 r2 r3 i1:Int} {s:Bool} {tm2:List (Nat×SV)} {hp2:List (Nat×Nat×SV)} (t0:decide (i≥0)=true) (n0:¬ i<0) (s1:Value.int .u64 (lo.fdiv (2 ^ (min i.toNat IntKind.u64.bits)))=.int .u64 v1) (a1:Value.int .u64 (bits .and .u64 v1 1)=.int .u64 v2) (t1:decide (i≥64)=false) (m1:Value.int .u64 (IntKind.u64.wrap (2*r))=.int .u64 r2) (p1:Value.int .u64 (IntKind.u64.wrap (r2+v2))=.int .u64 r3) (t2:decide (r3≥y)=false) (z1:iV (IntKind.i64.wrap (i-1))=iV i1)
 (k:RunsL Try.prog 0 0 qhR 54 3 (dvT y r3 i1) (dvH s hi lo H L) (.exit 0) tm2 hp2):RunsL Try.prog 0 0 qhR 54 3 (dvT y r i) (dvH s hi lo H L) (.exit 0) tm2 hp2:=
 RunsL.next [] 100 [.t true,Re s1,Re a1,.t false,Re m1,Re p1,.t false,Re z1]
  (Ro (Ai t0 (Ai n0 (Ai s1 (Ai a1 (Ai t1 (Ai m1 (Ai p1 (Ai t2 (Ai z1 tI)))))))))) k
set_option maxHeartbeats 2000000 in
theorem qlm {y hi lo H L r i:Int} {s:Bool} (t0:decide (i≥0)=false):RunsL Try.prog 0 0 qhR 54 3 (dvT y r i) (dvH s hi lo H L) (.exit 0) (dvT y r i) (dvH s hi lo H L):=
 RunsL.stop [] 100 [.t false] (fun h=>by cases h) (Ro (Ai t0 tI))
set_option maxHeartbeats 2000000 in
set_option maxHeartbeats 2000000 in
theorem qla {y hi lo Q1 Q0 R:Int} {s:Bool} (k:RunsL Try.prog 0 0 qhR 54 3 (dvT y 0 127) (dvH s hi lo 0 0) (.exit 0) (dvT y R (-1)) (dvH s hi lo Q1 Q0)) :
 Pure Try.prog 59 #[qal s hi lo,.int .u64 y] (.tuple #[qal false Q1 Q0,.int .u64 R]):=
 qac (args:=[qal s hi lo,.int .u64 y]) 200 [Lf k]
  (Ai rfl (Lo k [] tI)) (by kernel_rfl)
theorem qhF (v:Nat) (h:v<18446744073709551616):Value.int .u64 (bits .and .u64 (v:Int) 1)=.int .u64 ((v%2:Nat):Int):=by
 rw[show (1:Int)=((1:Nat):Int) from rfl,bits_and_u64_nat v 1 h (by omega),Nat.and_one_is_mod]
theorem qkv {v k m:Nat} (hk:k<64) (hv:v<18446744073709551616) (h:v=2 ^ (k+1)*m):Value.int .u64 (bits .or .u64 (v:Int) ((2 ^ k:Nat):Int))=.int .u64 ((v+2 ^ k:Nat):Int):=by
 have hp:2 ^ k<18446744073709551616:=Nat.lt_of_lt_of_le (Nat.pow_lt_pow_right (by omega) hk) (by decide)
 rw[bits_or_u64_nat v _ hv hp]
 subst h
 rw[← Nat.two_pow_add_eq_or_of_lt (Nat.pow_lt_pow_right (by omega) (Nat.lt_succ_self k))]
theorem qgr (v k:Nat):Int.fdiv (v:Int) (2 ^ k)=((v/2 ^ k:Nat):Int):=by
 rw[show ((2:Int) ^ k)=((2 ^ k:Nat):Int) by simp,Int.fdiv_eq_ediv_of_nonneg _ (Int.natCast_nonneg _)]
 simp
theorem qhx {k:Nat} (hk:k<64):Value.int .u64 (IntKind.u64.wrap (1*2 ^ k))=.int .u64 ((2 ^ k:Nat):Int):=by
 have hp:2 ^ k<18446744073709551616:=Nat.lt_of_lt_of_le (Nat.pow_lt_pow_right (by omega) hk) (by decide)
 rw[show ((1:Int)*2 ^ k)=((2 ^ k:Nat):Int) by simp]
 generalize 2 ^ k=m at hp
 rw[qcH (by omega) (by omega)]
theorem qcq {x y:Int} (h:x=y) (h0:0≤y) (h1:y<18446744073709551616):Value.int .u64 (IntKind.u64.wrap x)=.int .u64 y:=by rw[h,qcH h0 h1]
theorem qlh (y hi lo A:Nat) (s:Bool) (hA:A=hi*18446744073709551616+lo) (hy0:0<y) (hy1:y≤9223372036854775808) (hhi:hi<18446744073709551616) (hlo:lo<18446744073709551616) {R Q1 Q0:Nat} (hR:R=A%y) (hQ1:Q1=A/y/18446744073709551616) (hQ0:Q0=A/y%18446744073709551616) :
 ∀ (j:Nat) (i:Int) (r H L N:Nat),j≤128→i=(j:Int)-1→r=(A/2 ^ j)%y→N=A/2 ^ j/y*2 ^ j→H=N/18446744073709551616→L=N%18446744073709551616→
  RunsL Try.prog 0 0 qhR 54 3 (dvT y r i) (dvH s hi lo H L) (.exit 0) (dvT y R (-1)) (dvH s hi lo Q1 Q0):=by
 intro j
 induction j with
 | zero=>
  intro i r H L N _ hi' hr hN hH hL
  simp only[Nat.pow_zero,Nat.div_one,Nat.mul_one] at hr hN
  have e1:i = -1:=by omega
  subst e1
  rw[hN] at hH hL
  rw[hr.trans hR.symm,hH.trans hQ1.symm,hL.trans hQ0.symm]
  exact qlm (by decide)
 | succ j ih=>
  intro i r H L N hj hi' hr hN hH hL
  have e1:i=(j:Int):=by omega
  subst e1
  have hpow:(2:Nat) ^ (j+1)=2*2 ^ j:=by rw[Nat.pow_succ,Nat.mul_comm]
  have hp0:0<(2:Nat) ^ j:=Nat.pow_pos (by omega)
  obtain⟨X,hX⟩:∃ X,X=A/2 ^ (j+1):=⟨_,rfl⟩
  obtain⟨b,hb⟩:∃ b,b=A/2 ^ j%2:=⟨_,rfl⟩
  have hXb:A/2 ^ j=2*X+b:=by
   rw[hX,hb,Nat.pow_succ,← Nat.div_div_eq_div_mul];omega
  rw[← hX] at hr hN
  obtain⟨q,hq⟩:∃ q,q=X/y:=⟨_,rfl⟩
  have hXq:X=y*q+r:=by rw[hq,hr,Nat.div_add_mod]
  rw[← hq] at hN
  have hr1:r<y:=by rw[hr];exact Nat.mod_lt _ hy0
  have hb1:b<2:=by omega
  have hNA:N≤A:=by
   rw[hN,hX] at *
   calc q*2 ^ (j+1)≤A/2 ^ (j+1)*2 ^ (j+1):=Nat.mul_le_mul_right _ (by rw[hq];exact Nat.div_le_self _ _)
    _≤A:=Nat.div_mul_le_self _ _
  have hA1:A<340282366920938463463374607431768211456:=by omega
  have hHb:H<18446744073709551616:=by omega
  have hLb:L<18446744073709551616:=by omega
  have t0:decide ((j:Int)≥0)=true:=by simp
  have n0:¬ (j:Int)<0:=by omega
  have m1:Value.int .u64 (IntKind.u64.wrap (2*(r:Int)))=.int .u64 ((2*r:Nat):Int):=qcq (by omega) (by omega) (by omega)
  have p1:Value.int .u64 (IntKind.u64.wrap (((2*r:Nat):Int)+(b:Int)))=.int .u64 ((2*r+b:Nat):Int):=qcq (by omega) (by omega) (by omega)
  have z1:iV (IntKind.i64.wrap ((j:Int)-1))=iV ((j:Int)-1):=by rw[qao (by omega) (by omega)]
  have hS1:min (j:Int).toNat IntKind.u64.bits=min j 64:=by simp[IntKind.bits]
  have s1:Value.int .u64 (Int.fdiv (lo:Int) (2 ^ (min (j:Int).toNat IntKind.u64.bits)))=.int .u64 ((lo/2 ^ (min j 64):Nat):Int):=by rw[hS1,qgr]
  have a1:=qhF (lo/2 ^ (min j 64)) (Nat.lt_of_le_of_lt (Nat.div_le_self _ _) hlo)
  have key:∀ ge:Bool,decide (2*r+b≥y)=ge→(A/2 ^ j/y=2*q+(bif ge then 1 else 0)∧A/2 ^ j%y=2*r+b-(bif ge then y else 0)):=by
   intro ge hge
   have e:A/2 ^ j=(2*r+b)+y*(2*q):=by rw[hXb,hXq,Nat.mul_add,Nat.mul_left_comm];omega
   cases ge
   ·have hlt:2*r+b<y:=by simpa using hge
    rw[e,Nat.add_mul_div_left _ _ hy0,Nat.add_mul_mod_self_left,Nat.div_eq_of_lt hlt,Nat.mod_eq_of_lt hlt]
    exact⟨by simp,by simp⟩
   ·have hle:y≤2*r+b:=by simpa using hge
    have e2:A/2 ^ j=(2*r+b-y)+y*(2*q+1):=by rw[e,Nat.mul_add];omega
    have hlt:2*r+b-y<y:=by omega
    rw[e2,Nat.add_mul_div_left _ _ hy0,Nat.add_mul_mod_self_left,Nat.div_eq_of_lt hlt,Nat.mod_eq_of_lt hlt]
    exact⟨by simp,by simp⟩
  by_cases hh:64≤j
  ·obtain⟨k,rfl⟩:∃ k,j=64+k:=⟨j-64,by omega⟩
   have t1:decide (((64+k:Nat):Int)≥64)=true:=by simp;omega
   have sj:iV (IntKind.i64.wrap (((64+k:Nat):Int)-64))=iV (k:Int):=by
    rw[show ((64+k:Nat):Int)-64=(k:Int) by omega,qao (by omega) (by omega)]
   have hS2:min (k:Int).toNat IntKind.u64.bits=k:=by simp[IntKind.bits];omega
   have s2:Value.int .u64 (Int.fdiv (hi:Int) (2 ^ (min (k:Int).toNat IntKind.u64.bits)))=.int .u64 ((hi/2 ^ k:Nat):Int):=by rw[hS2,qgr]
   have a2:=qhF (hi/2 ^ k) (Nat.lt_of_le_of_lt (Nat.div_le_self _ _) hhi)
   have hbit:hi/2 ^ k%2=b:=by
    rw[hb,hA,Nat.pow_add,← Nat.div_div_eq_div_mul]
    congr 2
    omega
   rw[hbit] at a2
   have hN2:N=(q*2 ^ (k+1))*18446744073709551616:=by
    rw[hN,show 64+k+1=64+(k+1) by omega,Nat.pow_add,Nat.mul_comm (2 ^ 64),← Nat.mul_assoc]
   have hH2:H=2 ^ (k+1)*q:=by rw[hH,hN2,Nat.mul_div_cancel _ (by omega),Nat.mul_comm]
   have hpk:(2:Nat) ^ (64+k)=2 ^ k*18446744073709551616:=by rw[Nat.pow_add,Nat.mul_comm]
   by_cases hge:y≤2*r+b
   ·obtain⟨k1,k2⟩:=key true (by simpa using hge)
    rw[cond_true] at k1 k2
    refine qnN (r4:=((2*r+b-y:Nat):Int)) (m:=((2 ^ k:Nat):Int)) (H1:=((H+2 ^ k:Nat):Int)) t0 n0 s1 a1 t1 sj (by omega) s2 a2 m1 p1 (by simp;omega) (qcq (by omega) (by omega) (by omega)) (by rw[hS2];exact qhx (by omega)) (qkv (by omega) hHb hH2) z1 ?_
    have hN':A/2 ^ (64+k)/y*2 ^ (64+k)=N+2 ^ k*18446744073709551616:=by
     rw[k1,Nat.add_mul,Nat.one_mul,hpk,hN,hpow,hpk,Nat.mul_comm 2 q,Nat.mul_assoc]
    refine ih _ _ _ _ (N+2 ^ k*18446744073709551616) (by omega) rfl k2.symm hN'.symm ?_ ?_
    ·rw[hH,Nat.add_mul_div_right _ _ (by omega)]
    ·rw[hL,Nat.add_mul_mod_self_right]
   ·obtain⟨k1,k2⟩:=key false (by simpa using hge)
    rw[cond_false] at k1 k2
    refine qn7 t0 n0 s1 a1 t1 sj (by omega) s2 a2 m1 p1 (by simp;omega) z1 ?_
    have hN':A/2 ^ (64+k)/y*2 ^ (64+k)=N:=by
     rw[k1,hN,hpow,Nat.add_zero,Nat.mul_comm 2 q,Nat.mul_assoc]
    exact ih _ _ _ _ N (by omega) rfl (by rw[k2];omega) hN'.symm hH hL
  ·have t1:decide ((j:Int)≥64)=false:=by simp;omega
   have hS2:min (j:Int).toNat IntKind.u64.bits=j:=by simp[IntKind.bits];omega
   rw[show min j 64=j by omega] at s1 a1
   obtain⟨k,hk⟩:∃ k,64=j+1+k:=⟨63-j,by omega⟩
   have h64:(18446744073709551616:Nat)=2 ^ (j+1)*2 ^ k:=by rw[← Nat.pow_add,← hk]
   have hbit:lo/2 ^ j%2=b:=by
    rw[hb,hA,h64,show hi*(2 ^ (j+1)*2 ^ k)+lo=lo+2 ^ j*(2*(hi*2 ^ k)) by rw[hpow];simp only[Nat.mul_assoc,Nat.mul_left_comm,Nat.mul_comm];omega,Nat.add_mul_div_left _ _ hp0]
    omega
   rw[hbit] at a1
   have hLm:L=2 ^ (j+1)*(q%2 ^ k):=by
    rw[hL,hN,h64,Nat.mul_comm q,Nat.mul_mod_mul_left]
   have hL1:L+2 ^ (j+1)≤18446744073709551616:=by
    rw[hLm,h64]
    have h1:q%2 ^ k<2 ^ k:=Nat.mod_lt _ (Nat.pow_pos (by omega))
    calc 2 ^ (j+1)*(q%2 ^ k)+2 ^ (j+1)=2 ^ (j+1)*(q%2 ^ k+1):=by rw[Nat.mul_add,Nat.mul_one]
     _≤2 ^ (j+1)*2 ^ k:=Nat.mul_le_mul_left _ h1
   by_cases hge:y≤2*r+b
   ·obtain⟨k1,k2⟩:=key true (by simpa using hge)
    rw[cond_true] at k1 k2
    refine qn3 (r4:=((2*r+b-y:Nat):Int)) (m:=((2 ^ j:Nat):Int)) (H1:=((L+2 ^ j:Nat):Int)) t0 n0 s1 a1 t1 m1 p1 (by simp;omega) (qcq (by omega) (by omega) (by omega)) (by rw[hS2];exact qhx (by omega)) (qkv (by omega) hLb hLm) z1 ?_
    have hN':A/2 ^ j/y*2 ^ j=N+2 ^ j:=by
     rw[k1,Nat.add_mul,Nat.one_mul,hN,hpow,Nat.mul_comm 2 q,Nat.mul_assoc]
    refine ih _ _ _ _ (N+2 ^ j) (by omega) rfl k2.symm hN'.symm ?_ ?_
    ·rw[hpow] at hL1
     omega
    ·rw[hpow] at hL1
     omega
   ·obtain⟨k1,k2⟩:=key false (by simpa using hge)
    rw[cond_false] at k1 k2
    refine qny t0 n0 s1 a1 t1 m1 p1 (by simp;omega) z1 ?_
    have hN':A/2 ^ j/y*2 ^ j=N:=by
     rw[k1,hN,hpow,Nat.add_zero,Nat.mul_comm 2 q,Nat.mul_assoc]
    exact ih _ _ _ _ N (by omega) rfl (by rw[k2];omega) hN'.symm hH hL
abbrev qbU (s:Bool) (A:Nat):Value:=qal s ((A/18446744073709551616:Nat):Int) ((A%18446744073709551616:Nat):Int)
theorem qda (s:Bool) (A y:Nat) (hA:A<340282366920938463463374607431768211456) (hy0:0<y) (hy1:y≤9223372036854775808) :
 Pure Try.prog 59 #[qbU s A,.int .u64 (y:Int)] (.tuple #[qbU false (A/y),.int .u64 ((A%y:Nat):Int)]):=
 qla (qlh y _ _ A s (by omega) hy0 hy1 (by omega) (by omega) rfl rfl rfl 128 127 0 0 0 0 (by omega) (by omega) (by rw[Nat.div_eq_of_lt (by omega),Nat.zero_mod]) (by rw[Nat.div_eq_of_lt (a:=A) (by omega),Nat.zero_div,Nat.zero_mul]) (by omega) (by omega))
end Go.Proofs.Ytleaeldgaflmkaa
