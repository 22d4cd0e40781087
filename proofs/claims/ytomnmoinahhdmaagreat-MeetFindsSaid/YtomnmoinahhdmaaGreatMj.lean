/-
  The meeting that comes first by an order: the whole call. Conditions: none.
-/
import Derived.Test.YtomnmoinahhdmaaGreatW40
namespace Go.Proofs.YtomnmoinahhdmaaGreat
open Go.RowKit
theorem fo_list : fo.toList = fo.toList.take 1 ++ ((fo.toList.drop 1).take 1 ++ (fo.toList.drop 2).take 1) := by kernel_rfl
theorem fo_best : ∃ o : Oper, (fo.toList.drop 1).take 1 = [o] ∧ o.op = .store 50 (.tmp 6) (.tmp 20) ∧ o.dst = none ∧ o.guard = none :=
  ⟨fo.getD 1 default, by kernel_rfl, by kernel_rfl, by kernel_rfl, by kernel_rfl⟩
theorem fo_found : ∃ o : Oper, (fo.toList.drop 2).take 1 = [o] ∧ o.op = .store 4 (.tmp 7) (.const (.bool true)) ∧ o.dst = none ∧ o.guard = none :=
  ⟨fo.getD 2 default, by kernel_rfl, by kernel_rfl, by kernel_rfl, by kernel_rfl⟩
theorem info_meet : (Tryz.prog.info? 50).map (fun i => i.size) = some 4 := by kernel_rfl
theorem info_bool : (Tryz.prog.info? 4).map (fun i => i.size) = some 1 := by kernel_rfl
structure MCel (w : World) (r : Nat) (m : Mt) : Prop where
  c0 : Cel w r 0 (.int .i64 m.n)
  c1 : Cel w r 1 (.int .i64 m.d)
  c2 : Cel w r 2 (.int .i64 m.i)
  c3 : Cel w r 3 (.int .i64 m.j)
theorem MCel.keep {S : Nat → Prop} {w w' : World} {r : Nat} {m : Mt} (h : MCel w r m) (k : Keep S w w') (hs : S r) : MCel w' r m := ⟨h.c0.keep k hs, h.c1.keep k hs, h.c2.keep k hs, h.c3.keep k hs⟩
theorem MCel.gr {w w' : World} {r : Nat} {m : Mt} (h : MCel w r m) (k : Gr w w') : MCel w' r m := h.keep (Keep.of_gr k (fun _ => True)) trivial
theorem MCel.lt {w : World} {r : Nat} {m : Mt} (h : MCel w r m) : r < w.heap.size := h.c0.lt
theorem MCel.us {w : World} {r : Nat} {m : Mt} (h : MCel w r m) : ∀ j u, [Value.int .i64 m.n, .int .i64 m.d, .int .i64 m.i, .int .i64 m.j][j]? = some u → Cel w r (0 + j) u := fun j u hj => by
  match j, hj with
  | 0, hj => cases hj; exact h.c0
  | 1, hj => cases hj; exact h.c1
  | 2, hj => cases hj; exact h.c2
  | 3, hj => cases hj; exact h.c3
  | j + 4, hj => simp at hj
theorem MCel.set {w : World} {r : Nat} {b : Mt} (h : MCel w r b) (m : Mt) : MCel (w.setCells r 0 [.int .i64 m.n, .int .i64 m.d, .int .i64 m.i, .int .i64 m.j]) r m := by
  have key : ∀ j v, [Value.int .i64 m.n, .int .i64 m.d, .int .i64 m.i, .int .i64 m.j][j]? = some v → Cel (w.setCells r 0 [.int .i64 m.n, .int .i64 m.d, .int .i64 m.i, .int .i64 m.j]) r (0 + j) v :=
    fun j v hj => cel_set (us := [.int .i64 b.n, .int .i64 b.d, .int .i64 b.i, .int .i64 b.j]) h.us (by simp) hj
  exact ⟨key 0 _ rfl, key 1 _ rfl, key 2 _ rfl, key 3 _ rfl⟩
/-- An operation that yields a value. -/
theorem val_in {P : Program} {r : Option Nat} {o : Oper} {st : St} {β : Bl} {W0 : World} {lo : Nat} {v : Value} {a : Act} {w : World} {next : Act → World → Prop} {Q : Exit → Act → World → Prop}
    (h : opS P st o .k = some (.val (.pv v), [])) (hd : ∀ c, o.op ≠ .defer c) (H : HRel W0 lo β st.hp w) (hx : ∀ x ∈ o.op.operands, (st.ev x).is β (a.eval x)) (k : next (a.put o.dst v) w) : o.wpIn (FW r) 0 P a w next Q := by
  refine ⟨fun _ _ => trivial, ?_⟩
  rw [Oper.semAt_eq _ _ _ hd]
  obtain ⟨u, hu, he⟩ := opS_ok (ρ := a.eval) h trivial H hx
  rw [he, Oper.uponIn_value]
  rw [show u = v from hu]
  exact k
theorem op_in {P : Program} {F : Fence} {n : Nat} {ops : Array Oper} {Q : Exit → Act → World → Prop} {i : Nat} {o : Oper} {K : Act → World → Prop} {a : Act} {w : World} (hi : ops[i]? = some o) (hg : o.guard = none) (h : o.wpIn F n P a w K Q) : wpOpIn F n P ops Q i K a w := by
  unfold wpOpIn
  rw [hi]
  simp only [Region.wanted, hg, if_true]
  exact h
noncomputable abbrev fe : Array Oper := opsOf (fc [1, 1, 1, 1, 0])
theorem end_code : fc [1, 1, 1, 1] = .seq (.region 7 fe true) .ret := by kernel_rfl
theorem fe_0 : ∃ o : Oper, fe[0]? = some o ∧ o.op = .load 50 (.tmp 6) ∧ o.dst = some 21 ∧ o.guard = none ∧ ∀ b : Mt, opS Tryz.prog (rndSt 23 1 [(6, .pp 0 0)] (mH 0 b) []) o .k = some (.val (.pv (meetV b)), []) :=
  ⟨fe.getD 0 default, by kernel_rfl, by kernel_rfl, by kernel_rfl, by kernel_rfl, fun b => by kernel_rfl⟩
theorem fe_1 : ∃ o : Oper, fe[1]? = some o ∧ o.op = .load 4 (.tmp 7) ∧ o.dst = some 22 ∧ o.guard = none ∧ ∀ fd : Bool, opS Tryz.prog (rndSt 23 1 [(7, .pp 0 0)] [(0, 0, .pv (.bool fd))] []) o .k = some (.val (.pv (.bool fd)), []) :=
  ⟨fe.getD 1 default, by kernel_rfl, by kernel_rfl, by kernel_rfl, by kernel_rfl, fun b => by kernel_rfl⟩
theorem fe_2 : ∃ o : Oper, fe[2]? = some o ∧ o.op = .store 50 (.tmp 4) (.tmp 21) ∧ o.dst = none ∧ o.guard = none :=
  ⟨fe.getD 2 default, by kernel_rfl, by kernel_rfl, by kernel_rfl, by kernel_rfl⟩
theorem fe_3 : ∃ o : Oper, fe[3]? = some o ∧ o.op = .assign (.tmp 22) ∧ o.dst = some 5 ∧ o.guard = none ∧ ∀ fd : Bool, opS Tryz.prog (rndSt 23 0 [(22, .pv (.bool fd))] [] []) o .k = some (.val (.pv (.bool fd)), []) :=
  ⟨fe.getD 3 default, by kernel_rfl, by kernel_rfl, by kernel_rfl, by kernel_rfl, fun b => by kernel_rfl⟩
/-- In the midst of the last region: what was loaded (0, 1) and stored (2). -/
structure FE (w6 : World) (df : List Deferred) (rb rf r1 : Nat) (b : Mt) (fd s0 s1 s2 : Bool) (a : Act) (w : World) : Prop where
  sz : a.tmps.size = 23
  df : a.defers = df
  t4 : a.tmps.getD 4 undef = ptr r1
  t6 : a.tmps.getD 6 undef = ptr rb
  t7 : a.tmps.getD 7 undef = ptr rf
  t21 : s0 = true → a.tmps.getD 21 undef = meetV b
  t22 : s1 = true → a.tmps.getD 22 undef = .bool fd
  kp : Keep (· ≠ r1) w6 w
  mr : ∃ m, MCel w r1 m ∧ (s2 = true → m = b)
theorem put_ne {a : Act} {d e : Nat} {v : Value} (h : d ≠ e) : (a.put (some d) v).tmps.getD e undef = a.tmps.getD e undef := by
  simp [Act.put, Array.getD_eq_getD_getElem?, Array.getElem?_setIfInBounds_ne h]
theorem put_eq {a : Act} {d : Nat} {v : Value} (h : d < a.tmps.size) : (a.put (some d) v).tmps.getD d undef = v := by
  simp [Act.put, Array.getD_eq_getD_getElem?, h]
theorem put_sz {a : Act} {d : Nat} {v : Value} : (a.put (some d) v).tmps.size = a.tmps.size := by simp [Act.put]
section
variable {w6 : World} {df : List Deferred} {rb rf r1 : Nat} {b : Mt} {fd s0 s1 s2 : Bool} {a : Act} {w : World} {Q : Exit → Act → World → Prop} {K : Act → World → Prop}
set_option maxRecDepth 100000 in
theorem FE.s0' (h : FE w6 df rb rf r1 b fd s0 s1 s2 a w) (hb : MCel w6 rb b) (hn : rb ≠ r1) (hK : ∀ a w, FE w6 df rb rf r1 b fd true s1 s2 a w → K a w) : wpOpIn (FW none) 0 Tryz.prog fe Q 0 K a w := by
  obtain ⟨o, hi, ho, hdst, hg, hop⟩ := fe_0
  have mb := hb.keep h.kp hn
  refine op_in hi hg (val_in (hop b) (by simp [ho]) (boxes_rel (rs := [rb]) (by simp) (by simpa using mb.lt) ⟨⟨rb, _, rfl, rfl, mb.c0, rfl⟩, ⟨rb, _, rfl, rfl, mb.c1, rfl⟩, ⟨rb, _, rfl, rfl, mb.c2, rfl⟩, ⟨rb, _, rfl, rfl, mb.c3, rfl⟩, trivial⟩) ?_ ?_)
  · rw [ho]
    intro x hx
    have : x = .tmp 6 := by simpa [Op.operands] using hx
    subst this
    exact ⟨rb, rfl, h.t6⟩
  · rw [hdst]
    exact hK _ _ ⟨put_sz.trans h.sz, h.df, (put_ne (by decide)).trans h.t4, (put_ne (by decide)).trans h.t6, (put_ne (by decide)).trans h.t7, fun _ => put_eq (by rw [h.sz]; decide), fun e => (put_ne (by decide)).trans (h.t22 e), h.kp, h.mr⟩
set_option maxRecDepth 100000 in
theorem FE.s1' (h : FE w6 df rb rf r1 b fd s0 s1 s2 a w) (hf : Cel w6 rf 0 (.bool fd)) (hn : rf ≠ r1) (hK : ∀ a w, FE w6 df rb rf r1 b fd s0 true s2 a w → K a w) : wpOpIn (FW none) 0 Tryz.prog fe Q 1 K a w := by
  obtain ⟨o, hi, ho, hdst, hg, hop⟩ := fe_1
  have mf := hf.keep h.kp hn
  refine op_in hi hg (val_in (hop fd) (by simp [ho]) (boxes_rel (rs := [rf]) (by simp) (by simpa using mf.lt) ⟨⟨rf, _, rfl, rfl, mf, rfl⟩, trivial⟩) ?_ ?_)
  · rw [ho]
    intro x hx
    have : x = .tmp 7 := by simpa [Op.operands] using hx
    subst this
    exact ⟨rf, rfl, h.t7⟩
  · rw [hdst]
    exact hK _ _ ⟨put_sz.trans h.sz, h.df, (put_ne (by decide)).trans h.t4, (put_ne (by decide)).trans h.t6, (put_ne (by decide)).trans h.t7, fun e => (put_ne (by decide)).trans (h.t21 e), fun _ => put_eq (by rw [h.sz]; decide), h.kp, h.mr⟩
set_option maxRecDepth 100000 in
theorem FE.s2' (h : FE w6 df rb rf r1 b fd true s1 s2 a w) (hK : ∀ a w, FE w6 df rb rf r1 b fd true s1 true a w → K a w) : wpOpIn (FW none) 0 Tryz.prog fe Q 2 K a w := by
  obtain ⟨o, hi, ho, hdst, hg⟩ := fe_2
  obtain ⟨m, hm, _⟩ := h.mr
  obtain ⟨inf, hinf, hisz⟩ := info_of info_meet
  refine op_in hi hg (store_in ho h.t4 (h.t21 rfl) hinf (by rw [hisz]; rfl) (by simp [Value.cells, Value.oneCell']) hm.us (by rw [hisz]; rfl) ?_)
  rw [hdst]
  exact hK _ _ ⟨h.sz, h.df, h.t4, h.t6, h.t7, h.t21, h.t22, h.kp.trans (Keep.setCells r1 _ 0 w), b, hm.set b, fun _ => rfl⟩
set_option maxRecDepth 100000 in
theorem FE.s3' (h : FE w6 df rb rf r1 b fd s0 true s2 a w) (hK : ∀ a w, FE w6 df rb rf r1 b fd s0 true s2 a w → a.tmps.getD 5 undef = .bool fd → K a w) : wpOpIn (FW none) 0 Tryz.prog fe Q 3 K a w := by
  obtain ⟨o, hi, ho, hdst, hg, hop⟩ := fe_3
  refine op_in hi hg (val_in (hop fd) (by simp [ho]) (show HRel w 0 (boxesL []) [] w from boxes_rel (rs := []) (by simp) (by simp) trivial) ?_ ?_)
  · rw [ho]
    intro x hx
    have : x = .tmp 22 := by simpa [Op.operands] using hx
    subst this
    exact h.t22 rfl
  · rw [hdst]
    exact hK _ _ ⟨put_sz.trans h.sz, h.df, (put_ne (by decide)).trans h.t4, (put_ne (by decide)).trans h.t6, (put_ne (by decide)).trans h.t7, fun e => (put_ne (by decide)).trans (h.t21 e), fun e => (put_ne (by decide)).trans (h.t22 e), h.kp, h.mr⟩ (put_eq (by rw [h.sz]; decide))
set_option maxRecDepth 100000 in
theorem FE.end (h : FE w6 df rb rf r1 b fd s0 s1 false a w) (hb : MCel w6 rb b) (hn : rb ≠ r1) (hf : Cel w6 rf 0 (.bool fd)) (hnf : rf ≠ r1) (hQ : ∀ a w, FE w6 df rb rf r1 b fd true true true a w → a.tmps.getD 5 undef = .bool fd → Q .normal a w) :
    (Code.region 7 fe true).wpIn (FW none) 0 Tryz.prog Q a w := by
  have e1 : ∀ a w, FE w6 df rb rf r1 b fd true true true a w → wpAnyIn (FW none) 0 Tryz.prog .any fe Q 1 #[true, true, true, false] a w := fun a w h =>
    ⟨fun e => (by cases (show Region.ready .any fe #[true, true, true, false] = [3] by kernel_rfl).symm.trans e), fun i hi => by
      rw [show Region.ready .any fe #[true, true, true, false] = [3] by kernel_rfl] at hi
      simp only [List.mem_singleton] at hi
      subst hi
      exact h.s3' fun a w h5 h6 => ⟨by kernel_rfl, hQ a w h5 h6⟩⟩
  have e2 : ∀ a w, FE w6 df rb rf r1 b fd true true false a w → wpAnyIn (FW none) 0 Tryz.prog .any fe Q 2 #[true, true, false, false] a w := fun a w h =>
    ⟨fun e => (by cases (show Region.ready .any fe #[true, true, false, false] = [2] by kernel_rfl).symm.trans e), fun i hi => by
      rw [show Region.ready .any fe #[true, true, false, false] = [2] by kernel_rfl] at hi
      simp only [List.mem_singleton] at hi
      subst hi
      exact h.s2' e1⟩
  have e3 : ∀ a w, FE w6 df rb rf r1 b fd true s1 true a w → wpAnyIn (FW none) 0 Tryz.prog .any fe Q 2 #[true, false, true, false] a w := fun a w h =>
    ⟨fun e => (by cases (show Region.ready .any fe #[true, false, true, false] = [1] by kernel_rfl).symm.trans e), fun i hi => by
      rw [show Region.ready .any fe #[true, false, true, false] = [1] by kernel_rfl] at hi
      simp only [List.mem_singleton] at hi
      subst hi
      exact h.s1' hf hnf e1⟩
  have e4 : ∀ a w, FE w6 df rb rf r1 b fd true s1 false a w → wpAnyIn (FW none) 0 Tryz.prog .any fe Q 3 #[true, false, false, false] a w := fun a w h =>
    ⟨fun e => (by cases (show Region.ready .any fe #[true, false, false, false] = [1, 2] by kernel_rfl).symm.trans e), fun i hi => by
      rw [show Region.ready .any fe #[true, false, false, false] = [1, 2] by kernel_rfl] at hi
      simp only [List.mem_cons, List.not_mem_nil, or_false] at hi
      rcases hi with rfl | rfl
      · exact h.s1' hf hnf e2
      · exact h.s2' e3⟩
  have e5 : ∀ a w, FE w6 df rb rf r1 b fd s0 true false a w → wpAnyIn (FW none) 0 Tryz.prog .any fe Q 3 #[false, true, false, false] a w := fun a w h =>
    ⟨fun e => (by cases (show Region.ready .any fe #[false, true, false, false] = [0] by kernel_rfl).symm.trans e), fun i hi => by
      rw [show Region.ready .any fe #[false, true, false, false] = [0] by kernel_rfl] at hi
      simp only [List.mem_singleton] at hi
      subst hi
      exact h.s0' hb hn e2⟩
  refine wpIn_region_any (by kernel_rfl) ?_
  have hkw : ∀ S, Keep S w { w with drawn := w.drawn + 1 } := fun S => ⟨rfl, rfl, rfl, Nat.le_refl _, Nat.le_succ _, fun _ _ _ => rfl⟩
  have h' : FE w6 df rb rf r1 b fd s0 s1 false a { w with drawn := w.drawn + 1 } := ⟨h.sz, h.df, h.t4, h.t6, h.t7, h.t21, h.t22, h.kp.trans (hkw _), let ⟨m, hm, e⟩ := h.mr; ⟨m, hm.keep (hkw (fun _ => True)) trivial, e⟩⟩
  rw [show fe.size = 4 by kernel_rfl]
  refine ⟨fun e => (by cases (show Region.ready .any fe #[false, false, false, false] = [0, 1] by kernel_rfl).symm.trans e), fun i hi => ?_⟩
  rw [show Region.ready .any fe (Array.replicate 4 false) = [0, 1] by kernel_rfl] at hi
  simp only [List.mem_cons, List.not_mem_nil, or_false] at hi
  rcases hi with rfl | rfl
  · exact h'.s0' hb hn e4
  · exact h'.s1' hf hnf e5
end
theorem Bl.at_boxes {rs : List Nat} {β : Bl} {k b q : Nat} (h : (boxesL rs).leU k β) (hb : b < k) (e : rs[b]? = some q) : β b = some q := Bl.leU_f (β := boxesL rs) h hb e

set_option maxRecDepth 100000 in
/-- **first, of what an iterator gives.** -/
theorem first_calls {W : World} {ga go : FuncId} {ca : Array Value} {X : List Mt} {c : Mt → Mt → Int} {B : Nat → Prop} (hgo : isIn go) (ba : bodied Tryz.prog ga = true) (hs : SeqC Tryz.prog ga ca (X.map mA) B W) (hB : ∀ b, B b → b < W.heap.size)
    (hc : ∀ a ∈ X, ∀ b ∈ X, Pure Tryz.prog go #[meetV a, meetV b] (.int .i64 (c a b))) :
    Calls Tryz.prog 47 #[fv ga ca, fv go #[]] W fun e w' => e = .returned (.tuple #[meetV ((bestOf c X).getD z0), .bool (bestOf c X).isSome]) ∧ Gr W w' := by
  refine calls_in (c := fc []) Tryz.func47 (by kernel_rfl) ?_
  have H0 : HRel W 0 (boxesL []) [] W := boxes_rel (rs := []) (by simp) (by simp) trivial
  have R0 := enter_rel (n := 23) (args := [.pv (fv ga ca), .pv (fv go #[])]) (us := [fv ga ca, fv go #[]]) H0 (boxesL_dom []) ⟨rfl, rfl, trivial⟩ (by simp)
  rw [first_code]
  refine wpIn_seq (fi_0 (fv ga ca) go none W _ _ W _ R0 fun β1 a1 w1 hle1 hd1 R1 => ?_)
  refine wpIn_seq (fi_1 (fv ga ca) go none W β1 a1 w1 _ R1 fun β2 a2 w2 hle2 hd2 R2 => ?_)
  refine wpIn_seq (fi_2 (fv ga ca) go none W β2 a2 w2 _ R2 fun β3 a3 w3 hle3 hd3 R3 => ?_)
  refine wpIn_seq (wpIn_seq (fi_3 (fv ga ca) go none W β3 a3 w3 _ R3 fun β5 a5 w5 hle5 hd5 R5 => ?_))
  have hd : a5.defers = [] := hd5.trans (hd3.trans (hd2.trans hd1))
  have hg : Gr W w5 := R5.h.gr
  have H5 := R5.h
  obtain ⟨ro, eo⟩ := lt_of_lookup H5 (b := 0) (o := 0) rfl rfl
  obtain ⟨r1, e1⟩ := lt_of_lookup H5 (b := 1) (o := 0) rfl rfl
  obtain ⟨rb, eb⟩ := lt_of_lookup H5 (b := 2) (o := 0) rfl rfl
  obtain ⟨rf, ef⟩ := lt_of_lookup H5 (b := 3) (o := 0) rfl rfl
  have co := cel_of H5 (b := 0) (o := 0) rfl eo
  have m1 : MCel w5 r1 z0 := ⟨cel_of H5 (b := 1) (o := 0) rfl e1, cel_of H5 (b := 1) (o := 1) rfl e1, cel_of H5 (b := 1) (o := 2) rfl e1, cel_of H5 (b := 1) (o := 3) rfl e1⟩
  have mb : MCel w5 rb z0 := ⟨cel_of H5 (b := 2) (o := 0) rfl eb, cel_of H5 (b := 2) (o := 1) rfl eb, cel_of H5 (b := 2) (o := 2) rfl eb, cel_of H5 (b := 2) (o := 3) rfl eb⟩
  have cf := cel_of H5 (b := 3) (o := 0) rfl ef
  obtain ⟨r', e', t3⟩ : ∃ r, β5 0 = some r ∧ a5.tmps.getD 3 undef = ptr r := R5.t.tmps 3
  rw [eo] at e'; cases e'
  obtain ⟨r', e', t4⟩ : ∃ r, β5 1 = some r ∧ a5.tmps.getD 4 undef = ptr r := R5.t.tmps 4
  rw [e1] at e'; cases e'
  obtain ⟨r', e', t6⟩ : ∃ r, β5 2 = some r ∧ a5.tmps.getD 6 undef = ptr r := R5.t.tmps 6
  rw [eb] at e'; cases e'
  obtain ⟨r', e', t7⟩ : ∃ r, β5 3 = some r ∧ a5.tmps.getD 7 undef = ptr r := R5.t.tmps 7
  rw [ef] at e'; cases e'
  have t9 : a5.tmps.getD 9 undef = fv ga ca := R5.t.tmps 9
  have hsz : a5.tmps.size = 23 := R5.t.size
  have ne : ∀ b c r s, β5 b = some r → β5 c = some s → b ≠ c → r ≠ s := fun b c r s h1 h2 h3 h4 => by subst h4; exact h3 (H5.inj b c _ h1 h2)
  have nob := ne 0 2 _ _ eo eb (by decide)
  have nof := ne 0 3 _ _ eo ef (by decide)
  have n1b := ne 1 2 _ _ e1 eb (by decide)
  have n1f := ne 1 3 _ _ e1 ef (by decide)
  have nbf := ne 2 3 _ _ eb ef (by decide)
  have hbn : W.heap.size ≤ rb := H5.new 2 rb (by omega) eb
  have hfn : W.heap.size ≤ rf := H5.new 3 rf (by omega) ef
  have h1n : W.heap.size ≤ r1 := H5.new 1 r1 (by omega) e1
  have hbl := mb.lt
  have hfl := cf.lt
  have hol := co.lt
  have h1l := m1.lt
  have hgs := hg.size
  refine wpIn_block (range_in (L := X.map mA) (g := .tmp 9) t9 ba (hs.later (Keep.of_gr hg _)) (fun b => b = rb ∨ b = rf) (fun b hb => ?_) (fun b hb => by have := hB b hb; omega) (fun x hx => by
      obtain ⟨m, _, rfl⟩ := List.mem_map.1 hx
      rfl)
    (fun k w => MCel w rb ((bestOf c (X.take k)).getD z0) ∧ Cel w rf 0 (.bool (bestOf c (X.take k)).isSome) ∧ Gr W w ∧ Keep (fun b => b < w5.heap.size ∧ b ≠ rb ∧ b ≠ rf) w5 w) ?_ ⟨mb, cf, hg, Keep.refl _ _⟩ ?_ ?_)
  · rcases hb with rfl | rfl
    · exact ⟨hbl, fun h => by have := hB _ h; omega⟩
    · exact ⟨hfl, fun h => by have := hB _ h; omega⟩
  · rintro k u1 u2 ⟨h1, h2, h4, h5⟩ h3
    exact ⟨h1.keep h3 hbl, h2.keep h3 hfl, (h3.mono fun i _ h => by show i < w5.heap.size; have : i < W.heap.size := h; omega).gr h4, h5.trans (h3.mono fun i _ h => h.1)⟩
  · rintro lr k x Wr rfl hx hszr ⟨hI, hF, hgr, hkp⟩
    obtain ⟨m, hm, rfl⟩ : ∃ m, X[k]? = some m ∧ x = mA m := by
      rw [List.getElem?_map] at hx
      cases hm : X[k]? with
      | none => rw [hm] at hx; cases hx
      | some m => rw [hm] at hx; cases hx; exact ⟨m, rfl, rfl⟩
    have hmem := List.mem_of_getElem? hm
    have hact : ({ tmps := ((#[10] : Array Tmp).zip (mA m)).foldl (fun t (p, v) => t.setIfInBounds p v) a5.tmps, defers := [] } : Act) = clr (a5.put (some 10) (meetV m)) := by simp [mA, clr, Act.put]
    rw [hact]
    have co' := co.keep hkp ⟨hol, nob, nof⟩
    have R6 : Rel Wr 0 (boxesL []) (rndSt 23 0 [(3, .pv (ptr ro)), (6, .pv (ptr rb)), (7, .pv (ptr rf)), (10, .pv (meetV m))] [] []) (clr (clr (a5.put (some 10) (meetV m)))) Wr :=
      rel_mk (boxes_rel (rs := []) (by simp) (by simp) trivial) (boxesL_dom []) (Nat.le_refl _) (by simp [clr, Act.put, hsz])
        ⟨by show (clr (a5.put (some 10) (meetV m))).tmps.getD 3 undef = _; simp [clr, Act.put, Array.getElem?_setIfInBounds_ne]; simpa using t3, by show (clr (a5.put (some 10) (meetV m))).tmps.getD 6 undef = _; simp [clr, Act.put, Array.getElem?_setIfInBounds_ne]; simpa using t6,
          by show (clr (a5.put (some 10) (meetV m))).tmps.getD 7 undef = _; simp [clr, Act.put, Array.getElem?_setIfInBounds_ne]; simpa using t7, by show (clr (a5.put (some 10) (meetV m))).tmps.getD 10 undef = _; simp [clr, Act.put, hsz], trivial⟩
    refine fi_assign m (ptr ro) (ptr rb) (ptr rf) (some _) Wr _ (clr (a5.put (some 10) (meetV m))) Wr _ R6 fun β8 a8 w8 hle8 hd8 R8 => ?_
    have hg8 : Gr Wr w8 := R8.h.gr
    refine ⟨Keep.of_gr hg8 _, fun W2 hk2 hs2 => ?_⟩
    obtain ⟨rm, em⟩ := lt_of_lookup R8.h (b := 0) (o := 0) rfl rfl
    have mm8 : MCel w8 rm m := ⟨cel_of R8.h (b := 0) (o := 0) rfl em, cel_of R8.h (b := 0) (o := 1) rfl em, cel_of R8.h (b := 0) (o := 2) rfl em, cel_of R8.h (b := 0) (o := 3) rfl em⟩
    have hmn : Wr.heap.size ≤ rm := R8.h.new 0 rm (Nat.zero_le _) em
    have mm := mm8.keep hk2 (by omega)
    have s3 : a8.tmps.getD 3 undef = ptr ro := R8.t.tmps 3
    have s6 : a8.tmps.getD 6 undef = ptr rb := R8.t.tmps 6
    have s7 : a8.tmps.getD 7 undef = ptr rf := R8.t.tmps 7
    obtain ⟨r', e', s8⟩ : ∃ r, β8 0 = some r ∧ a8.tmps.getD 8 undef = ptr r := R8.t.tmps 8
    rw [em] at e'; cases e'
    have hsz8 : a8.tmps.size = 23 := R8.t.size
    have hgr2 : Gr W W2 := (hk2.mono fun i _ h => by show i ≠ _; have : i < W.heap.size := h; omega).gr (hgr.trans hg8)
    have hI2 : MCel W2 rb ((bestOf c (X.take k)).getD z0) := (hI.gr hg8).keep hk2 (by omega)
    have hF2 : Cel W2 rf 0 (.bool (bestOf c (X.take k)).isSome) := (hF.gr hg8).keep hk2 (by omega)
    have co2 := (co'.gr hg8).keep hk2 (by omega)
    have hkp2 : Keep (fun b => b < w5.heap.size ∧ b ≠ rb ∧ b ≠ rf) w5 W2 := (hkp.trans (Keep.of_gr hg8 _)).trans (hk2.mono fun i _ h => by show i ≠ _; have := h.1; omega)
    have R9 : Rel W2 4 (boxesL [ro, rb, rf, rm]) (rndSt 23 4 fT (gH go ((bestOf c (X.take k)).getD z0) (bestOf c (X.take k)).isSome m) []) (clr a8) W2 :=
      rel_mk (boxes_rel (rs := [ro, rb, rf, rm]) (by simp; omega) (by intro r hr; simp at hr; rcases hr with rfl | rfl | rfl | rfl; exact co2.lt; exact hI2.lt; exact hF2.lt; exact mm.lt)
        ⟨⟨ro, _, rfl, rfl, co2, rfl⟩, ⟨rb, _, rfl, rfl, hI2.c0, rfl⟩, ⟨rb, _, rfl, rfl, hI2.c1, rfl⟩, ⟨rb, _, rfl, rfl, hI2.c2, rfl⟩, ⟨rb, _, rfl, rfl, hI2.c3, rfl⟩, ⟨rf, _, rfl, rfl, hF2, rfl⟩, ⟨rm, _, rfl, rfl, mm.c0, rfl⟩, ⟨rm, _, rfl, rfl, mm.c1, rfl⟩, ⟨rm, _, rfl, rfl, mm.c2, rfl⟩, ⟨rm, _, rfl, rfl, mm.c3, rfl⟩, trivial⟩)
        (boxesL_dom _) (Nat.le_refl _) hsz8 ⟨⟨ro, rfl, s3⟩, ⟨rb, rfl, s6⟩, ⟨rf, rfl, s7⟩, ⟨rm, rfl, s8⟩, trivial⟩
    obtain ⟨t, hseg, hbest⟩ : ∃ t, Seg Tryz.prog 4 4 (fc [1, 1, 1, 0, 1, 0, 1, 0, 0]) 23 4 fT (gH go ((bestOf c (X.take k)).getD z0) (bestOf c (X.take k)).isSome m) .normal 4 ((19, .pv (.bool t)) :: fT) (gH go ((bestOf c (X.take k)).getD z0) (bestOf c (X.take k)).isSome m) ∧
        bestOf c (X.take (k + 1)) = if t then some m else bestOf c (X.take k) := by
      rw [take_next hm, bestOf_snoc]
      cases hb : bestOf c (X.take k) with
      | none => exact ⟨true, fi_new go m z0, rfl⟩
      | some b =>
        have hbm : b ∈ X := List.mem_of_mem_take (bestOf_mem hb)
        refine ⟨decide (c m b < 0), fi_cmp go m b hgo (c m b) _ (hc m hmem b hbm) rfl, ?_⟩
        simp only [bestStep, decide_eq_true_eq]
    refine wpIn_block (wpIn_seq (hseg (some _) W2 _ a8 W2 _ R9 fun β10 a10 w10 hle10 hd10 R10 => ?_))
    have t19 : a10.tmps.getD 19 undef = .bool t := R10.t.tmps 19
    have hg10 : Gr W2 w10 := R10.h.gr
    cases t with
    | false =>
      refine wpIn_cond_false t19 (wpIn_skip ⟨rfl, ⟨?_, ?_, hgr2.trans hg10, hkp2.trans (Keep.of_gr hg10 _)⟩, Keep.of_gr hg10 _⟩)
      · rw [hbest]; exact hI2.gr hg10
      · rw [hbest]; exact hF2.gr hg10
    | true =>
      refine wpIn_cond_true t19 (wpIn_region_list ?_)
      obtain ⟨o, hol1, ho, hdst, hgd⟩ := fo_best
      obtain ⟨o', hol2, ho', hdst', hgd'⟩ := fo_found
      rw [fo_list, hol1, hol2]
      refine fi_load go m _ _ (some _) W2 β10 a10 w10 _ _ R10 fun β7 a7 w7 hle7 hd7 R11 => list_one hgd ?_
      obtain ⟨r6, e6, s6'⟩ : ∃ r, β7 1 = some r ∧ a7.tmps.getD 6 undef = ptr r := R11.t.tmps 6
      have : β7 1 = some rb := Bl.leU_f hle7 (by omega) (Bl.at_boxes hle10 (by omega) rfl)
      rw [this] at e6; cases e6
      obtain ⟨r7, e7, s7'⟩ : ∃ r, β7 2 = some r ∧ a7.tmps.getD 7 undef = ptr r := R11.t.tmps 7
      have : β7 2 = some rf := Bl.leU_f hle7 (by omega) (Bl.at_boxes hle10 (by omega) rfl)
      rw [this] at e7; cases e7
      have s20 : a7.tmps.getD 20 undef = meetV m := R11.t.tmps 20
      have hg7 : Gr W2 w7 := R11.h.gr
      have hI7 := hI2.gr hg7
      have hF7 := hF2.gr hg7
      obtain ⟨inf, hinf, hisz⟩ := info_of info_meet
      obtain ⟨inf', hinf', hisz'⟩ := info_of info_bool
      refine store_in ho s6' s20 hinf (by rw [hisz]; rfl) (by simp [Value.cells, Value.oneCell']) hI7.us (by rw [hisz]; rfl) ?_
      have hk8 : Keep (fun b => ¬ b = rb) w7 (w7.setCells rb 0 (meetV m).cells.toList) := Keep.setCells rb _ 0 w7
      have hI8 : MCel (w7.setCells rb 0 (meetV m).cells.toList) rb m := hI7.set m
      have hF8 := hF7.keep hk8 (fun h => nbf h.symm)
      rw [hdst]
      refine list_one hgd' (store_in ho' s7' (v := .bool true) rfl (us := [.bool (bestOf c (X.take k)).isSome]) hinf' (by rw [hisz']; rfl) (by simp [Value.cells, Value.oneCell']) (fun j v hj => ?_) (by rw [hisz']; rfl) ?_)
      · match j, hj with
        | 0, hj => cases hj; exact hF8
        | j + 1, hj => simp at hj
      · show _ ∧ _ ∧ _
        have hset := cel_set (w := w7.setCells rb 0 (meetV m).cells.toList) (r := rf) (o := 0) (us := [.bool (bestOf c (X.take k)).isSome]) (vs := [.bool true]) (fun j v hj => by
          match j, hj with
          | 0, hj => cases hj; exact hF8
          | j + 1, hj => simp at hj) rfl (j := 0) rfl
        have hk9 : Keep (fun b => ¬ b = rf) (w7.setCells rb 0 (meetV m).cells.toList) ((w7.setCells rb 0 (meetV m).cells.toList).setCells rf 0 [.bool true]) := Keep.setCells rf _ 0 _
        have hks : Keep (fun b => b ≠ rb ∧ b ≠ rf) w7 ((w7.setCells rb 0 (meetV m).cells.toList).setCells rf 0 [.bool true]) := (hk8.mono fun i _ h => h.1).trans (hk9.mono fun i _ h => h.2)
        refine ⟨rfl, ⟨?_, ?_, (hks.mono fun i _ h => by show i ≠ rb ∧ i ≠ rf; have : i < W.heap.size := h; omega).gr (hgr2.trans hg7), (hkp2.trans (Keep.of_gr hg7 _)).trans (hks.mono fun i _ h => h.2)⟩, (Keep.of_gr hg7 _).trans (hks.mono fun i _ h => ⟨fun e => h (Or.inl e), fun e => h (Or.inr e)⟩)⟩
        · rw [hbest]; exact hI8.keep hk9 nbf
        · rw [hbest]; exact hset
  · rintro w6 ⟨hI, hF, hgr, hkp⟩ hD hk6
    show (fc [1, 1, 1, 1]).wpIn (FW none) 0 Tryz.prog _ _ w6
    rw [List.length_map, List.take_length] at hI hF
    have m1' := m1.keep hkp ⟨h1l, n1b, n1f⟩
    rw [end_code]
    refine wpIn_seq (FE.end (s0 := false) (s1 := false) ⟨hsz, rfl, t4, t6, t7, fun e => (by cases e), fun e => (by cases e), Keep.refl _ _, z0, m1', fun e => (by cases e)⟩ hI n1b.symm hF n1f.symm fun a8 w8 h8 t5 => wpIn_ret ?_)
    obtain ⟨m, hm8, hmb⟩ := h8.mr
    obtain rfl := hmb rfl
    have hkp' : Keep (· ≠ w5.heap.size) w8 (w8.putObj w5.heap.size (.deferred none)) := Keep.putObj _ _ _
    have hm9 := hm8.keep hkp' (by omega)
    have R9 : Rel _ 1 (boxesL [r1]) (rndSt 23 1 [(4, .pp 0 0), (5, .pv (.bool (bestOf c X).isSome))] (mH 0 ((bestOf c X).getD z0)) []) (clr a8) (w8.putObj w5.heap.size (.deferred none)) :=
      rel_mk (boxes_rel (rs := [r1]) (by simp) (by simpa using hm9.lt) ⟨⟨r1, _, rfl, rfl, hm9.c0, rfl⟩, ⟨r1, _, rfl, rfl, hm9.c1, rfl⟩, ⟨r1, _, rfl, rfl, hm9.c2, rfl⟩, ⟨r1, _, rfl, rfl, hm9.c3, rfl⟩, trivial⟩) (boxesL_dom _) (Nat.le_refl _) h8.sz ⟨⟨r1, rfl, h8.t4⟩, t5, trivial⟩
    obtain ⟨v, hv, hx⟩ := resS_ok (P := Tryz.prog) (fn := Tryz.f47) (x := .pv (.tuple #[meetV ((bestOf c X).getD z0), .bool (bestOf c X).isSome])) R9 (by kernel_rfl)
    refine leave_mark (D := w5.heap.size) (by rw [h8.df]; simp only; rw [hd]) (h8.kp.at hD (by omega)) ⟨v, hv, ?_, ?_⟩
    · rw [show v = _ from hx]
    · exact ((h8.kp.mono fun i _ h => by show i ≠ _; have : i < W.heap.size := h; omega).trans (hkp'.mono fun i _ h => by show i ≠ _; have : i < W.heap.size := h; omega)).gr hgr
end Go.Proofs.YtomnmoinahhdmaaGreat
