/-
  slices.AppendSeq: a new list of all that an iterator gives. Conditions: none.
-/
import Derived.Test.YtpngjeloiifgnaaGreatW37
namespace Go.Proofs.YtpngjeloiifgnaaGreat
open Go.RowKit
noncomputable abbrev ac (p : List Nat) : Code := codeOf Tryz.prog 120 p
noncomputable abbrev ao : Array Oper := opsOf (ac [1, 0, 1, 0, 1, 0])
theorem app_code : ac [] = .seq (ac [0]) (.seq (.seq (ac [1, 0, 0]) (.block 0 (.rangeFunc (.tmp 6) #[7] (ac [1, 0, 1, 0, 0]) (.block 1 (.region 3 ao false))))) (ac [1, 1])) := by kernel_rfl
abbrev nilV : Value := .slice none 0 0
abbrev meH (b : Nat) (m : Mt) : List (Nat × Nat × SV) := [(b, 0, .pv (.int .i64 m.n)), (b, 1, .pv (.int .i64 m.d)), (b, 2, .pv (.int .i64 m.i)), (b, 3, .pv (.int .i64 m.j))]
section
variable (g : FuncId) (cap : Array Value) (u : Value) (m : Mt)
set_option maxRecDepth 100000 in
theorem as_box : Seg Tryz.prog 0 0 (ac [0]) 13 0 [(0, .pv nilV), (1, .pv (fv g cap))] [] .normal 1 [(1, .pv (fv g cap)), (2, .pp 0 0)] [(0, 0, .pv nilV)] :=
  seg_of [] 100 [] (by decide) (by kernel_rfl) (round_of True.intro (by kernel_rfl))
set_option maxRecDepth 100000 in
theorem as_seq : Seg Tryz.prog 0 1 (ac [1, 0, 0]) 13 1 [(1, .pv (fv g cap)), (2, .pp 0 0)] [(0, 0, .pv nilV)] .normal 1 [(2, .pp 0 0), (6, .pv (fv g cap))] [(0, 0, .pv nilV)] :=
  seg_of [] 100 [] (by decide) (by kernel_rfl) (round_of True.intro (by kernel_rfl))
set_option maxRecDepth 100000 in
theorem as_assign : Seg Tryz.prog 1 1 (ac [1, 0, 1, 0, 0]) 13 1 [(2, .pp 0 0), (7, .pv (meetV m))] [(0, 0, .pv u)] .normal 2 [(2, .pp 0 0), (5, .pp 1 0)] ((0, 0, .pv u) :: meH 1 m) :=
  seg_of [] 100 [] (by decide) (by kernel_rfl) (round_of True.intro (by kernel_rfl))
set_option maxRecDepth 100000 in
theorem as_load : SegL Tryz.prog 2 2 ao (ao.toList.take 3) 13 2 [(2, .pp 0 0), (5, .pp 1 0)] ((0, 0, .pv u) :: meH 1 m) 3 [(8, .pv u), (10, .ps 2 0 1 1), (2, .pp 0 0)] (meH 2 m) :=
  segl_of [] 100 [] (by decide) (by kernel_rfl) (round_of True.intro (by kernel_rfl))
set_option maxRecDepth 100000 in
theorem as_end : Seg Tryz.prog 1 1 (ac [1, 1]) 13 1 [(2, .pp 0 0)] [(0, 0, .pv u)] .ret 1 [(4, .pv u)] [] :=
  seg_of [] 100 [] (by decide) (by kernel_rfl) (round_of True.intro (by kernel_rfl))
end
theorem ao_list : ao.toList = ao.toList.take 3 ++ ((ao.toList.drop 3).take 1 ++ (ao.toList.drop 4).take 1) := by kernel_rfl
theorem ao_app : ∃ o : Oper, (ao.toList.drop 3).take 1 = [o] ∧ o.op = .call { callee := .builtin .append, args := #[.tmp 8, .tmp 10], argTypes := #[39, 39] } ∧ o.dst = some 11 ∧ o.guard = none :=
  ⟨ao.getD 3 default, by kernel_rfl, by kernel_rfl, by kernel_rfl, by kernel_rfl⟩
theorem ao_store : ∃ o : Oper, (ao.toList.drop 4).take 1 = [o] ∧ o.op = .store 39 (.tmp 2) (.tmp 11) ∧ o.dst = none ∧ o.guard = none :=
  ⟨ao.getD 4 default, by kernel_rfl, by kernel_rfl, by kernel_rfl, by kernel_rfl⟩
theorem info_msl : (Tryz.prog.info? 39).map (fun i => i.size) = some 1 := by kernel_rfl
theorem info_mt : (Tryz.prog.info? 47).map (fun i => (i.zero, i.size, i.bytes)) = some (some (meetV ⟨0, 0, 0, 0⟩), 4, 32) := by kernel_rfl
theorem und_msl : Tryz.prog.underlying 39 = some (.slice 47) := by kernel_rfl
/-- An append to a list of the run's own. -/
theorem app_in {P : Program} {r : Option Nat} {o : Oper} {x y : Operand} {t tx e : TypeId} {a : Act} {w : World} {i : TypeInfo} {z v s : Value} {base n m : Nat} {xs news : List Value} {next : Act → World → Prop} {Q : Exit → Act → World → Prop}
    (ho : o.op = .call { callee := .builtin .append, args := #[x, y], argTypes := #[t, tx] }) (hx : a.eval x = v) (hy : a.eval y = s) (ht : P.underlying t = some (.slice e)) (hi : P.info? e = some i) (hz : i.zero = some z) (hzs : z.cells.size = i.size)
    (hown : w.ownsRow base e i.size v n xs) (hb : base ≤ w.heap.size) (hs : Src P i.size tx s m news w) (hby : i.bytes ≤ 100000000) (hn : n + m ≤ 1000000)
    (h : ∀ u w' row, isSl u (n + m) → Upd w w' row → (row = none ∨ row = v.ownBlock) → w'.ownsRow base e i.size u (n + m) (xs ++ news) → (∀ k, u.ownBlock = some k → row = some k ∨ w.heap.size ≤ k) → next (a.put o.dst u) w') : o.wpIn (FW r) 0 P a w next Q := by
  obtain ⟨u, w', row, hr, h1, h2, h3, h4, h5⟩ := own_app (P := P) (ty := o.type) ht hi hz hzs hown hb hs hby hn
  refine ⟨fun _ _ => trivial, ?_⟩
  rw [Oper.semAt_eq _ _ _ (by simp [ho])]
  have he : (execOp a.eval o).run P w = .ok (.value u) w' := by
    unfold execOp
    simp only [ho, resolve, invoke, builtin, Sem.run_bind, Sem.run_pure, Result.andThen_ok, List.map_toArray, List.map_cons, List.map_nil, hx, hy, hr]
  rw [he, Oper.uponIn_value]
  exact h u w' row h1 h2 h3 h4 h5
theorem Keep.upd {w w' : World} {row : Option Nat} (h : Upd w w' row) : Keep (fun b => some b ≠ row) w w' := ⟨h.g.os, h.g.tape, h.g.output, h.g.size, h.dr, fun k hk hs => h.g.block k hk hs⟩
theorem owns_keep {w w' : World} {base : Nat} {e : TypeId} {es n : Nat} {u : Value} {xs : List Value} (h : w.ownsRow base e es u n xs) {S : Nat → Prop} (k : Keep S w w') (hs : ∀ b, u.ownBlock = some b → S b) : w'.ownsRow base e es u n xs :=
  ownsRow_keep h fun j hj => k.block j (h.lt j hj).2 (hs j hj)
theorem sl_one {u : Value} {n : Nat} (h : isSl u n) : u.oneCell' = true := by obtain ⟨a, c, rfl⟩ := h; rfl
set_option maxRecDepth 100000 in
/-- **A new list of all that an iterator gives.** -/
theorem appendSeq_calls {W : World} {gf : FuncId} {lb : Array Value} {X : List Mt} {B : Nat → Prop} (eg : bodied Tryz.prog gf = true) (hs : SeqC Tryz.prog gf lb (X.map mA) B W) (hB : ∀ b, B b → b < W.heap.size) (hn : X.length ≤ 100000) :
    Calls Tryz.prog 120 #[nilV, fv gf lb] W fun e w' => ∃ v, e = .returned v ∧ Gr W w' ∧ w'.ownsRow W.heap.size 47 4 v X.length (msV X) ∧ (X = [] → v = nilV) := by
  refine calls_in (c := ac []) Tryz.func120 (by kernel_rfl) ?_
  have H0 : HRel W 0 (boxesL []) [] W := boxes_rel (rs := []) (by simp) (by simp) trivial
  have R0 := enter_rel (n := 13) (args := [.pv nilV, .pv (fv gf lb)]) (us := [nilV, fv gf lb]) H0 (boxesL_dom []) ⟨rfl, rfl, trivial⟩ (by simp)
  rw [app_code]
  refine wpIn_seq (as_box gf lb none W _ _ W _ R0 fun β1 a1 w1 hle1 hd1 R1 => ?_)
  refine wpIn_seq (wpIn_seq (as_seq gf lb none W β1 a1 w1 _ R1 fun β5 a5 w5 hle5 hd5 R5 => ?_))
  have hd : a5.defers = [] := hd5.trans hd1
  have hg : Gr W w5 := R5.h.gr
  obtain ⟨rs, es⟩ := lt_of_lookup R5.h (b := 0) (o := 0) rfl rfl
  have cs := cel_of R5.h (b := 0) (o := 0) rfl es
  have ns := R5.h.new 0 rs (by omega) es
  have t6 : a5.tmps.getD 6 undef = fv gf lb := R5.t.tmps 6
  obtain ⟨r', e', t2⟩ : ∃ r, β5 0 = some r ∧ a5.tmps.getD 2 undef = ptr r := R5.t.tmps 2
  rw [es] at e'; cases e'
  have hsz : a5.tmps.size = 13 := R5.t.size
  have hsg := hg.size
  refine wpIn_block (range_inT t6 eg (hs.later (Keep.of_gr hg _)) (· = rs) (fun b hb => ⟨by rw [hb]; exact cs.lt, fun h => by have := hB _ h; omega⟩) (fun b hb => by have := hB b hb; omega) (fun x hx => by
      obtain ⟨m, _, rfl⟩ := List.mem_map.1 hx
      rfl)
    (fun k T w => ∃ u, Cel w rs 0 u ∧ Gr W w ∧ w.ownsRow W.heap.size 47 4 u (X.take k).length (msV (X.take k)) ∧ (∀ b, T b ↔ b = rs ∨ u.ownBlock = some b) ∧ u.ownBlock ≠ some rs ∧ (X.take k = [] → u = nilV)) ?_ ⟨nilV, cs, hg, World.ownsRow_nil _ _ _ _, fun b => ⟨fun h => Or.inl h, fun h => h.elim id fun h => by cases h⟩, (fun h => by cases h), fun _ => rfl⟩ ?_ ?_)
  · rintro k T u1 u2 ⟨u, h1, h2, h3, h4, h5, h6⟩ hk
    exact ⟨u, h1.keep hk (Or.inr ((h4 _).2 (Or.inl rfl))), (hk.mono fun i _ h => Or.inl (by have : i < W.heap.size := h; omega)).gr h2, owns_keep h3 hk fun b hb => Or.inr ((h4 b).2 (Or.inr hb)), h4, h5, h6⟩
  · rintro lr k x Wr T rfl hx hszr hT1 hT2 ⟨u, cu, hgr, ho, hT, hnr, _⟩
    obtain ⟨m, hm, rfl⟩ : ∃ m, X[k]? = some m ∧ x = mA m := by
      rw [List.getElem?_map] at hx
      cases hm : X[k]? with
      | none => rw [hm] at hx; cases hx
      | some m => rw [hm] at hx; cases hx; exact ⟨m, rfl, rfl⟩
    have hk1 := get_lt hm
    have hTs : T rs := (hT rs).2 (Or.inl rfl)
    have hact : ({ tmps := ((#[7] : Array Tmp).zip (mA m)).foldl (fun t (p, v) => t.setIfInBounds p v) a5.tmps, defers := [] } : Act) = clr (a5.put (some 7) (meetV m)) := by simp [mA, clr, Act.put]
    rw [hact]
    have u1 := sl_one (owns_sl ho)
    have R6 : Rel Wr 1 (boxesL [rs]) (rndSt 13 1 [(2, .pp 0 0), (7, .pv (meetV m))] [(0, 0, .pv u)] []) (clr (clr (a5.put (some 7) (meetV m)))) Wr :=
      rel_mk (boxes_rel (rs := [rs]) (by simp) (by simpa using cu.lt) ⟨⟨rs, _, rfl, rfl, cu, u1⟩, trivial⟩) (boxesL_dom [rs]) (Nat.le_refl _) (by simp [clr, Act.put, hsz]) ⟨⟨rs, rfl, by simp [clr, Act.put, Array.getElem?_setIfInBounds_ne]; simpa using t2⟩, by
        show (clr (a5.put (some 7) (meetV m))).tmps.getD 7 undef = meetV m
        simp [clr, Act.put, hsz, Array.getD_eq_getD_getElem?], trivial⟩
    refine as_assign u m (some _) Wr _ (clr (a5.put (some 7) (meetV m))) Wr _ R6 fun β7 a7 w7 hle7 hd7 R7 => ?_
    have hg7 : Gr Wr w7 := R7.h.gr
    refine ⟨Keep.of_gr hg7 _, fun W2 hk2 hs2 => ?_⟩
    have e70 : β7 0 = some rs := Bl.leU_f hle7 (by omega) rfl
    obtain ⟨rv, ev⟩ := lt_of_lookup R7.h (b := 1) (o := 0) rfl rfl
    have nv := R7.h.new 1 rv (by omega) ev
    have hrl := hT1 rs hTs
    have cu2 : Cel W2 rs 0 u := (cu.gr hg7).keep hk2 hrl.2.2
    have v0 : Cel W2 rv 0 (.int .i64 m.n) := (cel_of R7.h (b := 1) (o := 0) rfl ev).keep hk2 (show rv ≠ _ by omega)
    have v1 : Cel W2 rv 1 (.int .i64 m.d) := (cel_of R7.h (b := 1) (o := 1) rfl ev).keep hk2 (show rv ≠ _ by omega)
    have v2 : Cel W2 rv 2 (.int .i64 m.i) := (cel_of R7.h (b := 1) (o := 2) rfl ev).keep hk2 (show rv ≠ _ by omega)
    have v3 : Cel W2 rv 3 (.int .i64 m.j) := (cel_of R7.h (b := 1) (o := 3) rfl ev).keep hk2 (show rv ≠ _ by omega)
    have hne : rs ≠ rv := by omega
    have hsz7 : a7.tmps.size = 13 := R7.t.size
    obtain ⟨r', e', t2'⟩ : ∃ r, β7 0 = some r ∧ a7.tmps.getD 2 undef = ptr r := R7.t.tmps 2
    rw [e70] at e'; cases e'
    obtain ⟨r', e', t5'⟩ : ∃ r, β7 1 = some r ∧ a7.tmps.getD 5 undef = ptr r := R7.t.tmps 5
    rw [ev] at e'; cases e'
    have ho2 : W2.ownsRow W.heap.size 47 4 u (X.take k).length (msV (X.take k)) := owns_keep (owns_keep ho (Keep.of_gr hg7 (fun _ => True)) fun _ _ => trivial) hk2 fun b hb => (hT1 b ((hT b).2 (Or.inr hb))).2.2
    have hgr2 : Gr W W2 := (hk2.mono fun i _ h => by show i ≠ _; have : i < W.heap.size := h; omega).gr (hgr.trans hg7)
    have R8 : Rel W2 2 (boxesL [rs, rv]) (rndSt 13 2 [(2, .pp 0 0), (5, .pp 1 0)] ((0, 0, .pv u) :: meH 1 m) []) (clr a7) W2 :=
      rel_mk (boxes_rel (rs := [rs, rv]) (by simpa using hne) (by simp; exact ⟨cu2.lt, v0.lt⟩) ⟨⟨rs, _, rfl, rfl, cu2, u1⟩, ⟨rv, _, rfl, rfl, v0, rfl⟩, ⟨rv, _, rfl, rfl, v1, rfl⟩, ⟨rv, _, rfl, rfl, v2, rfl⟩, ⟨rv, _, rfl, rfl, v3, rfl⟩, trivial⟩) (boxesL_dom [rs, rv]) (Nat.le_refl _) hsz7 ⟨⟨rs, rfl, t2'⟩, ⟨rv, rfl, t5'⟩, trivial⟩
    refine wpIn_block (wpIn_region_list ?_)
    obtain ⟨o, hol, hoo, hdst, hgd⟩ := ao_app
    obtain ⟨p, hpl, hpo, hpd, hpg⟩ := ao_store
    rw [ao_list, hol, hpl]
    refine as_load u m (some _) W2 _ a7 W2 _ _ R8 fun β9 a9 w9 hle9 hd9 R9 => list_one hgd ?_
    have hg9 : Gr W2 w9 := R9.h.gr
    have t8 : a9.tmps.getD 8 undef = u := R9.t.tmps 8
    obtain ⟨rn, en, t10⟩ : ∃ r, β9 2 = some r ∧ a9.tmps.getD 10 undef = .slice (some ⟨r, 0, none⟩) 1 1 := R9.t.tmps 10
    obtain ⟨r', e', t2''⟩ : ∃ r, β9 0 = some r ∧ a9.tmps.getD 2 undef = ptr r := R9.t.tmps 2
    have e90 : β9 0 = some rs := Bl.leU_f hle9 (by omega) rfl
    rw [e90] at e'; cases e'
    have c0 := cel_of R9.h (b := 2) (o := 0) rfl en
    have c1 := cel_of R9.h (b := 2) (o := 1) rfl en
    have c2 := cel_of R9.h (b := 2) (o := 2) rfl en
    have c3 := cel_of R9.h (b := 2) (o := 3) rfl en
    obtain ⟨inf, hinf, hz, hsi, hby⟩ : ∃ i, Tryz.prog.info? 47 = some i ∧ i.zero = some (meetV ⟨0, 0, 0, 0⟩) ∧ i.size = 4 ∧ i.bytes = 32 := by
      have h := info_mt
      cases hi : Tryz.prog.info? 47 with
      | none => rw [hi] at h; cases h
      | some i => rw [hi] at h; simp only [Option.map_some, Option.some.injEq, Prod.mk.injEq] at h; exact ⟨i, rfl, h.1, h.2.1, h.2.2⟩
    have hlk : (X.take k).length = k := by rw [List.length_take]; omega
    have hsrc : Src Tryz.prog inf.size 39 (.slice (some ⟨rn, 0, none⟩) 1 1) 1 (mcV m) w9 := Src.ofSlice w9 und_msl ⟨rn, 0, none⟩ 1 1 (mcV m) (by rw [hsi]; rfl) (fun j v hj => by
      rw [Addr.add_lit, Nat.zero_add]
      match j, hj with
      | 0, hj => cases hj; exact c0.1
      | 1, hj => cases hj; exact c1.1
      | 2, hj => cases hj; exact c2.1
      | 3, hj => cases hj; exact c3.1
      | j + 4, hj => simp at hj) (fun v hv => by simp at hv; rcases hv with rfl | rfl | rfl | rfl <;> rfl)
    have ho9 := owns_keep ho2 (Keep.of_gr hg9 (fun _ => True)) fun _ _ => trivial
    refine app_in hoo t8 t10 und_msl hinf hz (by rw [hsi]; rfl) (by rw [hsi]; exact ho9) (by have h1 := hgr2.size; have h2 := hg9.size; omega) hsrc (by rw [hby]; decide) (by rw [hlk]; omega) fun u' w10 row hsl hupd hrow hown hnew => list_one hpg ?_
    rw [hsi] at hown
    have k10 := Keep.upd hupd
    have hs9 := hg9.size
    have hs10 := k10.size
    have hrs10 : ∀ b, row = some b → b ≠ rs := fun b hb e => by
      rcases hrow with h | h
      · rw [h] at hb; cases hb
      · rw [h, e] at hb; exact hnr hb
    have cu10 : Cel w10 rs 0 u := (cu2.gr hg9).keep k10 fun e => hrs10 rs e.symm rfl
    have hnr' : u'.ownBlock ≠ some rs := fun e => by
      rcases hnew rs e with h | h
      · exact hrs10 rs h rfl
      · have := cu2.lt; omega
    obtain ⟨inf2, hinf2, hisz⟩ := info_of info_msl
    have u1' := sl_one hsl
    have hcells : u'.cells.toList = [u'] := by obtain ⟨a', c', rfl⟩ := hsl; rfl
    have hsiz : u'.cells.size = 1 := by obtain ⟨a', c', rfl⟩ := hsl; rfl
    have hx2 : (a9.put o.dst u').eval (.tmp 2) = .pointer (some ⟨rs, 0, none⟩) := by
      rw [hdst]
      show (a9.put (some 11) u').tmps.getD 2 undef = _
      rw [getD_put _ _ _ _ _ (by rw [show a9.tmps.size = 13 from R9.t.size]; decide), if_neg (by decide)]
      exact t2''
    have hx11 : (a9.put o.dst u').eval (.tmp 11) = u' := by
      rw [hdst]
      show (a9.put (some 11) u').tmps.getD 11 undef = _
      rw [getD_put _ _ _ _ _ (by rw [show a9.tmps.size = 13 from R9.t.size]; decide), if_pos rfl]
    refine store_in hpo hx2 hx11 (us := [u]) hinf2 (by rw [hisz]; exact hsiz) (by rw [hcells]; simpa using u1') (fun j v hj => ?_) (by rw [hisz]; rfl) ?_
    · match j, hj with
      | 0, hj => cases hj; exact cu10
      | j + 1, hj => simp at hj
    · rw [hcells]
      have hks : Keep (fun b => b ≠ rs) w10 (w10.setCells rs 0 [u']) := Keep.setCells rs _ 0 w10
      have hset := cel_set (w := w10) (r := rs) (o := 0) (us := [u]) (vs := [u']) (fun j v hj => by
        match j, hj with
        | 0, hj => cases hj; exact cu10
        | j + 1, hj => simp at hj) rfl (j := 0) rfl
      have hg10 : Gr W w10 := Upd.gr (hgr2.trans hg9) hupd fun j hj => by
        rcases hrow with h | h
        · rw [h] at hj; cases hj
        · rw [h] at hj; exact (ho.lt j hj).1
      refine ⟨rfl, fun b => b = rs ∨ u'.ownBlock = some b, ⟨u', hset, (hks.mono fun i _ h => by show i ≠ rs; have : i < W.heap.size := h; omega).gr hg10, ?_, fun _ => Iff.rfl, hnr', fun h => by rw [take_next hm] at h; simp at h⟩, ?_, ?_⟩
      · rw [take_next hm, List.length_append, msV_append]
        exact owns_keep hown hks fun b hb e => hnr' (by rw [hb, e])
      · refine ((Keep.of_gr hg9 _).trans (k10.mono fun i _ h => ?_)).trans (hks.mono fun i _ h => fun e => h ((hT i).2 (Or.inl e)))
        intro e
        rcases hrow with h' | h'
        · rw [h'] at e; cases e
        · exact h ((hT i).2 (Or.inr (by rw [← h', e])))
      · intro b hb
        have hsw : (w10.setCells rs 0 [u']).heap.size = w10.heap.size := size_setCells rs _ 0 w10
        show b < (w10.setCells rs 0 [u']).heap.size ∧ _
        rw [hsw]
        rcases hb with rfl | hb
        · exact ⟨cu10.lt, Or.inl hTs⟩
        · refine ⟨(hown.lt b hb).2, ?_⟩
          rcases hnew b hb with h | h
          · rcases hrow with h' | h'
            · rw [h'] at h; cases h
            · exact Or.inl ((hT b).2 (Or.inr (by rw [← h', h])))
          · exact Or.inr (by omega)
  · rintro w6 T ⟨u, cu, hgr, ho, hT, hnr, hem⟩ hG hnT hD hk6
    rw [List.length_map, List.take_length] at ho hem
    have u1 := sl_one (owns_sl ho)
    have R7 : Rel w6 1 (boxesL [rs]) (rndSt 13 1 [(2, .pp 0 0)] [(0, 0, .pv u)] []) (clr { a5 with defers := { target := .collected w5.heap.size, args := #[] } :: a5.defers }) w6 :=
      rel_mk (boxes_rel (rs := [rs]) (by simp) (by simpa using cu.lt) ⟨⟨rs, _, rfl, rfl, cu, u1⟩, trivial⟩) (boxesL_dom [rs]) (Nat.le_refl _) hsz ⟨⟨rs, rfl, t2⟩, trivial⟩
    show (ac [1, 1]).wpIn (FW none) 0 Tryz.prog _ _ w6
    refine as_end u none w6 _ _ w6 _ R7 fun β8 a8 w8 hle8 hd8 R8 => ?_
    have hg8 : Gr w6 w8 := R8.h.gr
    have hkp : Keep (· ≠ w5.heap.size) w8 (w8.putObj w5.heap.size (.deferred none)) := Keep.putObj _ _ _
    have R9 : Rel _ 0 (β8.cut 0) (rndSt 13 0 [(4, .pv u)] [] []) (clr a8) (w8.putObj w5.heap.size (.deferred none)) :=
      R8.later hkp (by kernel_rfl) (by kernel_rfl) (by kernel_rfl) (fun b r hb _ => by omega) (fun b o e es n xs v hl => by cases hl)
    obtain ⟨v, hv, hx⟩ := resS_ok (P := Tryz.prog) (fn := Tryz.f120) (x := .pv u) R9 (by kernel_rfl)
    refine leave_mark (D := w5.heap.size) (by rw [hd8, hd]) ((Keep.of_gr hg8 (fun _ => True)).at hD trivial) ⟨v, hv, v, rfl, ?_, ?_, fun h => (show v = u from hx).trans (hem h)⟩
    · exact (hkp.mono fun i _ h => by show i ≠ _; have : i < W.heap.size := h; omega).gr (hgr.trans hg8)
    · rw [show v = u from hx]
      exact owns_keep (owns_keep ho (Keep.of_gr hg8 (fun _ => True)) fun _ _ => trivial) hkp fun b hb => (hnT b ((hT b).2 (Or.inr hb))).1
end Go.Proofs.YtpngjeloiifgnaaGreat
