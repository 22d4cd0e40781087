/-
  OracleDoes holds of every time, model and ask. Conditions: none.
-/
import Derived.Test.YtleaeldgaflmkaaGreatW47
import Derived.ProofKit
import Derived.OpenShut
import Derived.Lib.SmallJoins
namespace Go.Proofs.YtleaeldgaflmkaaGreat
set_option maxRecDepth 100000
open Go.ChangeShapes Go.WideShapes Go.ChangeAt Go.RowKit Go.Joins
theorem oracleDoes_knob:ownKnob Tryz.prog.godebug=none:=by kernel_rfl
theorem oracleDoes_cellsr:Tryz.prog.cellsOf 23=2:=by kernel_rfl
theorem oracleDoes_shutr {H:Type} {enc:TypeId×Value→H} (a b:Int) (wa:(Lit.int .i64 a).wf=true) (wb:(Lit.int .i64 b).wf=true) (W':World) (sp:Nat→Bool) :
 DataW.Trod enc Tryz.prog W' 0 sp true 23 (.agg #[.int .i64 a,.int .i64 b]) (.agg [.lit (.int .i64 a),.lit (.int .i64 b)]) []:=
 shut_agg2 (y0:=(.lit (.int .i64 a),[])) (y1:=(.lit (.int .i64 b),[])) Tryz.underlying23 (by kernel_rfl) oracleDoes_cellsr ⟨1,by simp[DataW.trod,Tryz.underlying2,wa]⟩ ⟨1,by simp[DataW.trod,Tryz.underlying2,wb]⟩
theorem oracleDoes_lifted (os:Os) (started:os.Started) (H:Type) (enc:TypeId×Value→H) :
 ReturnsInHanded {} Tryz.checked os 4 .any (Rows.oracleDoesSpec.pre6 enc Tryz.prog Tryz.f4 Rows.oracleDoesRow.domain false) (Rows.oracleDoesSpec.post enc Tryz.prog Tryz.f4 false true false false):=by
 refine returnsInHanded_of_change (C:=Tryz.checked) oracleDoes_knob started (by kernel_rfl) Tryz.func4
  (ChangeSpec.witness6 (enc:=enc) (C:=Tryz.checked) false ⟨#[],#[.agg #[.int .i64 0,.int .i64 0],.agg #[.int .i64 0,.int .i64 0,.slice none 0 0],.agg #[.int .u8 0,.int .i64 0,.int .i64 0,.int .i64 0,.int .i64 0,.int .i64 0,.int .i64 0]],[]⟩ 8 (by kernel_rfl) (by kernel_rfl) (by kernel_rfl) (by kernel_rfl)) ?_
 intro W base args ds gs before hval0 hW hcnd _
 have hval:∀ (j:Nat) t v,Tryz.f4.params[j]?=some t→args[j]?=some v→Value.okWide Tryz.prog W .any base t v:=hval0
 have hW':=hW
 obtain⟨p,q,hA0,hV,rfl,hfz,hnd⟩:=hW
 have hA:DataW.TrodAll enc Tryz.prog W 0 (fun _=>true) true Tryz.f4.params.toList args.toList ds p:=hA0
 rw[Tryz.params4] at hA hval
 obtain⟨v0,vs0,d0,ds0,p0,q0,hargs,rfl,rfl,h0,rr0⟩:=trodAll_cons hA
 obtain⟨v1,vs1,d1,ds1,p1,q1,rfl,rfl,rfl,h1,rr1⟩:=trodAll_cons rr0
 obtain⟨v2,vs2,d2,ds2,p2,q2,rfl,rfl,rfl,h2,rr2⟩:=trodAll_cons rr1
 obtain⟨rfl,rfl,rfl⟩:=trodAll_nil rr2
 obtain rfl:args=#[v0,v1,v2]:=by cases args;simp_all
 obtain⟨rfl,rfl⟩:=trodVars_none hV
 obtain⟨c0,k0,y0,x0,m0,rfl,rfl,rfl,hy0,hx0⟩:=open_agg2 Tryz.underlying23 (by kernel_rfl) oracleDoes_cellsr (hval 0 23 v0 rfl rfl) h0
 obtain⟨a0,e0,rfl,w0⟩:=DataW.trod_int Tryz.underlying2 hy0
 obtain⟨b0,g0,rfl,u0⟩:=DataW.trod_int Tryz.underlying2 hx0
 simp at e0 g0
 subst e0 g0
 have h1k:=h1
 obtain⟨tn1,td1,u1,l1,rfl,r1,i1,j1⟩:=qkx (hval 1 28 v1 rfl rfl) h1
 have h2k:=h2
 obtain⟨ak2,rfl,i2⟩:=qoC (hval 2 42 v2 rfl rfl) h2
 clear hA0 hval0
 simp only[List.append_nil,List.nil_append] at hW'
 have hlt1:∀ x∈p1,x.block<W.heap.size:=fun x hx=>by simpa using hW'.lt x (by simp[hx])
 have hlt2:∀ x∈p2,x.block<W.heap.size:=fun x hx=>by simpa using hW'.lt x (by simp[hx])
 refine (qwB (qnW a0 b0 (bounds_i64 w0) (bounds_i64 u0) tn1 td1 l1 i1 j1 ak2 i2) r1).mono fun e W' ⟨he,hgr⟩=>?_
 subst he
 exact⟨_,rfl,qhj (pv:=[]) hW' (fun _ _ _=>(trodAll_cons_mk (shut_bool Tryz.underlying4 _) trodAll_mk0)) (fun sp hsp=>(trodAll_cons_mk (oracleDoes_shutr a0 b0 w0 u0 _ sp) (trodAll_cons_mk (WideElems.Trod_stays qnj qru qvz h1k (fun x hx=>hgr.1.same (hlt1 x hx)) (fun x hx=>hsp x (by simp[hx]))) (trodAll_cons_mk (WideElems.Trod_stays qnj qs3 quk h2k (fun x hx=>hgr.1.same (hlt2 x hx)) (fun x hx=>hsp x (by simp[hx]))) trodAll_mk0)))) (fun _ _=>rfl) (by simp)
  hgr (ok_one (by kernel_rfl) rfl (okWide_bool_mk Tryz.underlying4 _))⟩
theorem oracleDoes_holds:Rows.OracleDoesSaid:=
 OpenClaim.holds_of_wide 4 Tryz.f4 rfl rfl rfl rfl rfl rfl rfl ⟨rfl,rfl,rfl,rfl,rfl⟩ rfl rfl rfl rfl rfl (by kernel_rfl) Tryz.func4 (by kernel_rfl)
  (of_decide_eq_true (by kernel_rfl)) (by unfold Func.isWrapper;first | (rw[if_pos (by decide +kernel)];kernel_rfl) | (rw[if_neg (by decide +kernel)];exact⟨rfl,rfl⟩))
  (fun os started H enc _=>oracleDoes_lifted os started H enc)
#print axioms oracleDoes_holds
end Go.Proofs.YtleaeldgaflmkaaGreat
