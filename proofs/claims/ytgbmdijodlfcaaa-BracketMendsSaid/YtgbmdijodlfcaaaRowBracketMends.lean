/-
  BracketMends holds of every bracket, field, time and two numbers. Conditions: none.
-/
import Derived.Test.YtgbmdijodlfcaaaQq
import Derived.Test.YtgbmdijodlfcaaaW38
import Derived.ProofKit
import Derived.OpenShut
import Derived.Lib.SmallJoins
namespace Go.Proofs.Ytgbmdijodlfcaaa
set_option maxRecDepth 100000
open Go.ChangeShapes Go.WideShapes Go.ChangeAt Go.RowKit Go.Joins
theorem bracketMends_knob:ownKnob Try.prog.godebug=none:=by kernel_rfl
theorem bracketMends_cellsr:Try.prog.cellsOf 32=2:=by kernel_rfl
theorem bracketMends_shutr {H:Type} {enc:TypeId×Value→H} (a b:Int) (wa:(Lit.int .i64 a).wf=true) (wb:(Lit.int .i64 b).wf=true) (W':World) (sp:Nat→Bool) :
 DataW.Trod enc Try.prog W' 0 sp true 32 (.agg #[.int .i64 a,.int .i64 b]) (.agg [.lit (.int .i64 a),.lit (.int .i64 b)]) []:=
 shut_agg2 (y0:=(.lit (.int .i64 a),[])) (y1:=(.lit (.int .i64 b),[])) Try.underlying32 (by kernel_rfl) bracketMends_cellsr ⟨1,by simp[DataW.trod,Try.underlying2,wa]⟩ ⟨1,by simp[DataW.trod,Try.underlying2,wb]⟩
theorem bracketMends_lifted (os:Os) (started:os.Started) (H:Type) (enc:TypeId×Value→H) :
 ReturnsInHanded {} Try.checked os 7 .any (Rows.bracketMendsSpec.pre6 enc Try.prog Try.f7 Rows.bracketMendsRow.domain false) (Rows.bracketMendsSpec.post enc Try.prog Try.f7 false true false false):=by
 refine returnsInHanded_of_change (C:=Try.checked) bracketMends_knob started (by kernel_rfl) Try.func7
  (ChangeSpec.witness6 (enc:=enc) (C:=Try.checked) false ⟨#[],#[.agg #[.slice none 0 0,.slice none 0 0],.agg #[.slice none 0 0],.agg #[.int .i64 0,.int .i64 0],.int .i64 0,.int .i64 0],[]⟩ 8 (by kernel_rfl) (by kernel_rfl) (by kernel_rfl) (by kernel_rfl)) ?_
 intro W base args ds gs before hval0 hW hcnd _
 have hval:∀ (j:Nat) t v,Try.f7.params[j]?=some t→args[j]?=some v→Value.okWide Try.prog W .any base t v:=hval0
 have hW':=hW
 obtain⟨p,q,hA0,hV,rfl,hfz,hnd⟩:=hW
 have hA:DataW.TrodAll enc Try.prog W 0 (fun _=>true) true Try.f7.params.toList args.toList ds p:=hA0
 rw[Try.params7] at hA hval
 obtain⟨v0,vs0,d0,ds0,p0,q0,hargs,rfl,rfl,h0,rr0⟩:=trodAll_cons hA
 obtain⟨v1,vs1,d1,ds1,p1,q1,rfl,rfl,rfl,h1,rr1⟩:=trodAll_cons rr0
 obtain⟨v2,vs2,d2,ds2,p2,q2,rfl,rfl,rfl,h2,rr2⟩:=trodAll_cons rr1
 obtain⟨v3,vs3,d3,ds3,p3,q3,rfl,rfl,rfl,h3,rr3⟩:=trodAll_cons rr2
 obtain⟨v4,vs4,d4,ds4,p4,q4,rfl,rfl,rfl,h4,rr4⟩:=trodAll_cons rr3
 obtain⟨rfl,rfl,rfl⟩:=trodAll_nil rr4
 obtain rfl:args=#[v0,v1,v2,v3,v4]:=by cases args;simp_all
 obtain⟨rfl,rfl⟩:=trodVars_none hV
 have h0k:=h0
 obtain⟨c0,ua0,ub0,rfl,ra0,rb0⟩:=qe3 (hval 0 27 v0 rfl rfl) h0
 have h1k:=h1
 obtain⟨u1,l1,rfl,r1,_⟩:=qk3 (hval 1 24 v1 rfl rfl) h1
 obtain⟨c2,k2,y2,x2,m2,rfl,rfl,rfl,hy2,hx2⟩:=open_agg2 Try.underlying32 (by kernel_rfl) bracketMends_cellsr (hval 2 32 v2 rfl rfl) h2
 obtain⟨a2,e2,rfl,w2⟩:=DataW.trod_int Try.underlying2 hy2
 obtain⟨b2,g2,rfl,u2⟩:=DataW.trod_int Try.underlying2 hx2
 simp at e2 g2
 subst e2 g2
 obtain⟨a3,rfl,rfl,rfl,w3⟩:=open_int Try.underlying3 (hval 3 3 v3 rfl rfl) h3
 obtain⟨a4,rfl,rfl,rfl,w4⟩:=open_int Try.underlying3 (hval 4 3 v4 rfl rfl) h4
 clear hA0 hval0
 simp only[List.append_nil,List.nil_append] at hW'
 have hlt0:∀ x∈p0,x.block<W.heap.size:=fun x hx=>by simpa using hW'.lt x (by simp[hx])
 have hlt1:∀ x∈p1,x.block<W.heap.size:=fun x hx=>by simpa using hW'.lt x (by simp[hx])
 refine (qrS (vs:=[_,_,_]) (qhL c0 l1 a2 b2 (bounds_i64 w2) (bounds_i64 u2) a3 a4) ra0 rb0 r1).mono fun e W' ⟨he,hgr⟩=>?_
 subst he
 exact⟨_,rfl,qfs (pv:=[]) hW' (fun _ _ _=>(trodAll_cons_mk (shut_bool Try.underlying4 _) trodAll_mk0)) (fun sp hsp=>(trodAll_cons_mk (WideElems.Trod_stays qis qnw qpl h0k (fun x hx=>hgr.1.same (hlt0 x hx)) (fun x hx=>hsp x (by simp[hx]))) (trodAll_cons_mk (WideElems.Trod_stays qis qkT qmm h1k (fun x hx=>hgr.1.same (hlt1 x hx)) (fun x hx=>hsp x (by simp[hx]))) (trodAll_cons_mk (bracketMends_shutr a2 b2 w2 u2 _ sp) (trodAll_cons_mk (shut_int Try.underlying3 w3) (trodAll_cons_mk (shut_int Try.underlying3 w4) trodAll_mk0)))))) (fun _ _=>rfl) (by simp)
  hgr (ok_one (by kernel_rfl) rfl (okWide_bool_mk Try.underlying4 _))⟩
theorem bracketMends_holds:Rows.BracketMendsSaid:=
 OpenClaim.holds_of_wide 7 Try.f7 rfl rfl rfl rfl rfl rfl rfl ⟨rfl,rfl,rfl,rfl,rfl⟩ rfl rfl rfl rfl rfl (by kernel_rfl) Try.func7 (by kernel_rfl)
  (of_decide_eq_true (by kernel_rfl)) (by unfold Func.isWrapper;first | (rw[if_pos (by decide +kernel)];kernel_rfl) | (rw[if_neg (by decide +kernel)];exact⟨rfl,rfl⟩))
  (fun os started H enc _=>bracketMends_lifted os started H enc)
#print axioms bracketMends_holds
end Go.Proofs.Ytgbmdijodlfcaaa
