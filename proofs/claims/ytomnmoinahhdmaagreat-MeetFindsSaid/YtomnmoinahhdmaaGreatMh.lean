/-
  Swaps of package meet. Conditions: none.
-/
import Derived.Test.YtomnmoinahhdmaaGreatMg
namespace Go.Proofs.YtomnmoinahhdmaaGreat
open Go.RowKit
noncomputable abbrev sc (p : List Nat) : Code := codeOf Tryz.prog 13 p
noncomputable abbrev sv (p : List Nat) : Code := sc ([1, 1, 1, 0, 1, 0, 1, 0] ++ p)
noncomputable abbrev so : Array Oper := opsOf (sv [1, 1, 1, 0])
theorem swaps_code : sc [] = .seq (sc [0]) (.seq (sc [1, 0]) (.seq (sc [1, 1, 0]) (.seq (.seq (sc [1, 1, 1, 0, 0]) (.block 0 (.rangeFunc (.tmp 24) #[25, 26] (sc [1, 1, 1, 0, 1, 0, 0]) (.block 1 (.seq (sv [0]) (.seq (sv [1, 0]) (.seq (sv [1, 1, 0]) (.cond (.tmp 43) (.region 11 so false) .skip)))))))) (sc [1, 1, 1, 1])))) := by kernel_rfl
abbrev sH2 (l : List Pt) (fn fd tn td : Int) : List (Nat × Nat × SV) := [(2, 0, .pv (.int .i64 fn)), (2, 1, .pv (.int .i64 fd)), (3, 0, .pv (.int .i64 tn)), (3, 1, .pv (.int .i64 td)), (4, 0, .pv (.int .i64 0)), (5, 0, .ls 0 l.length), (0, 0, rowP l)]
abbrev sB (fn fd tn td : Int) : List (Nat × Nat × SV) := [(0, 0, .pv (.int .i64 fn)), (0, 1, .pv (.int .i64 fd)), (1, 0, .pv (.int .i64 tn)), (1, 1, .pv (.int .i64 td))]
abbrev sB2 (fn fd tn td : Int) (p q : Pt) : List (Nat × Nat × SV) := [(0, 0, .pv (.int .i64 fn)), (0, 1, .pv (.int .i64 fd)), (1, 0, .pv (.int .i64 tn)), (1, 1, .pv (.int .i64 td)), (2, 0, .pv (.int .i64 p.id)), (2, 1, .pv (.int .i64 p.a)), (2, 2, .pv (.int .i64 p.b)), (3, 0, .pv (.int .i64 q.id)), (3, 1, .pv (.int .i64 q.a)), (3, 2, .pv (.int .i64 q.b))]
abbrev sT2 (v : Value) : List (Nat × SV) := [(4, .pp 0 0), (5, .pp 1 0), (9, .pv v), (10, .pp 2 0), (11, .pp 3 0)]
section
variable (l : List Pt) (fn fd tn td : Int) (p q : Pt) (v : Value)
set_option maxRecDepth 100000 in
theorem sw_box : Seg Tryz.prog 1 1 (sc [0]) 47 1 (argsT 0 (cA l fn fd tn td)) [(0, 0, rowP l)] .normal 4 cT0 (cH0 l fn fd tn td) :=
  seg_of [] 100 [] (by decide) (by kernel_rfl) (round_of True.intro (by kernel_rfl))
set_option maxRecDepth 100000 in
theorem sw_if (hc : FnL Tryz.prog 37 1 [fldS 0 l, .pv (ratioV fn fd), .pv (ratioV tn td)] [(0, 0, rowP l)] (.pv (.int .i64 0)) 0 []) : Seg Tryz.prog 1 4 (sc [1, 0]) 47 4 cT0 (cH0 l fn fd tn td) .normal 4 cT0 (cH0 l fn fd tn td) :=
  seg_of [] 100 [.f [0] [fldS 0 l, .pv (ratioV fn fd), .pv (ratioV tn td)] [(0, 0, rowP l)] (.pv (.int .i64 0)) 0 [], .k] (by decide) (by kernel_rfl)
    (round_of (And.intro hc (And.intro (Eq.refl (List.map (SV.ren (renU [0] 4)) [fldS 0 l, .pv (ratioV fn fd), .pv (ratioV tn td)])) (And.intro (reflH (renU [0] 4) [(0, 0, rowP l)]) True.intro))) (by kernel_rfl))
set_option maxRecDepth 100000 in
theorem sw_n : Seg Tryz.prog 1 4 (sc [1, 1, 0]) 47 4 cT0 (cH0 l fn fd tn td) .normal 5 ((9, .pp 4 0) :: cT0) (cH1 l fn fd tn td) :=
  seg_of [] 100 [] (by decide) (by kernel_rfl) (round_of True.intro (by kernel_rfl))
set_option maxRecDepth 100000 in
theorem sw_seq : Seg Tryz.prog 1 5 (sc [1, 1, 1, 0, 0]) 47 5 ((9, .pp 4 0) :: cT0) (cH1 l fn fd tn td) .normal 6 [(4, .pp 2 0), (5, .pp 3 0), (9, .pp 4 0), (24, .pc 90 [.pp 5 0])] (sH2 l fn fd tn td) :=
  seg_of [] 100 [] (by decide) (by kernel_rfl) (round_of True.intro (by kernel_rfl))
set_option maxRecDepth 100000 in
theorem sw_assign : Seg Tryz.prog 2 2 (sc [1, 1, 1, 0, 1, 0, 0]) 47 2 [(4, .pp 0 0), (5, .pp 1 0), (9, .pv v), (25, .pv (ptV p)), (26, .pv (ptV q))] (sB fn fd tn td) .normal 4 (sT2 v) (sB2 fn fd tn td p q) :=
  seg_of [] 100 [] (by decide) (by kernel_rfl) (round_of True.intro (by kernel_rfl))
set_option maxRecDepth 100000 in
theorem sw_was (b : Bool) (h : Pure Tryz.prog 43 #[ptV p, ptV q, ratioV fn fd] (.tuple #[.bool b, .int .i64 0])) : Seg Tryz.prog 4 4 (sv [0]) 47 4 (sT2 v) (sB2 fn fd tn td p q) .normal 4 ((12, .pv (.bool b)) :: sT2 v) (sB2 fn fd tn td p q) :=
  seg_of [] 100 [.r (.tuple #[.bool b, .int .i64 0])] (by decide) (by kernel_rfl) (round_of (And.intro h True.intro) (by kernel_rfl))
set_option maxRecDepth 100000 in
theorem sw_is (b c : Bool) (h : Pure Tryz.prog 43 #[ptV p, ptV q, ratioV tn td] (.tuple #[.bool c, .int .i64 0])) : Seg Tryz.prog 4 4 (sv [1, 0]) 47 4 ((12, .pv (.bool b)) :: sT2 v) (sB2 fn fd tn td p q) .normal 4 [(9, .pv v), (12, .pv (.bool b)), (14, .pv (.bool c))] [] :=
  seg_of [] 100 [.r (.tuple #[.bool c, .int .i64 0])] (by decide) (by kernel_rfl) (round_of (And.intro h True.intro) (by kernel_rfl))
set_option maxRecDepth 100000 in
theorem sw_cmp (b c : Bool) : Seg Tryz.prog 4 4 (sv [1, 1, 0]) 47 4 [(9, .pv v), (12, .pv (.bool b)), (14, .pv (.bool c))] [] .normal 4 [(9, .pv v), (43, .pv (.bool (b != c)))] [] := by
  cases b <;> cases c
  · exact seg_of [] 100 [] (by decide) (by kernel_rfl) (round_of True.intro (by kernel_rfl))
  · exact seg_of [] 100 [] (by decide) (by kernel_rfl) (round_of True.intro (by kernel_rfl))
  · exact seg_of [] 100 [] (by decide) (by kernel_rfl) (round_of True.intro (by kernel_rfl))
  · exact seg_of [] 100 [] (by decide) (by kernel_rfl) (round_of True.intro (by kernel_rfl))
set_option maxRecDepth 100000 in
theorem sw_inc (k : Nat) (h : Value.int .i64 (IntKind.i64.wrap ((k : Int) + 1)) = .int .i64 ((k + 1 : Nat) : Int)) : SegL Tryz.prog 1 1 so (so.toList.take 2) 47 1 [(9, .pp 0 0)] [(0, 0, .pv (.int .i64 (k : Int)))] 1 [(9, .pp 0 0), (45, .pv (.int .i64 ((k + 1 : Nat) : Int)))] [] :=
  segl_of [] 100 [.r (.int .i64 ((k + 1 : Nat) : Int))] (by decide) (by kernel_rfl) (round_of (And.intro h True.intro) (by kernel_rfl))
set_option maxRecDepth 100000 in
theorem sw_end (k : Nat) : Seg Tryz.prog 1 1 (sc [1, 1, 1, 1]) 47 1 [(9, .pp 0 0)] [(0, 0, .pv (.int .i64 (k : Int)))] .ret 1 [(6, .pv (.int .i64 (k : Int))), (7, .pv (.int .i64 0))] [] :=
  seg_of [] 100 [] (by decide) (by kernel_rfl) (round_of True.intro (by kernel_rfl))
end
theorem so_list : so.toList = so.toList.take 2 ++ (so.toList.drop 2).take 1 := by kernel_rfl
theorem so_store : ∃ o : Oper, (so.toList.drop 2).take 1 = [o] ∧ o.op = .store 3 (.tmp 9) (.tmp 45) ∧ o.dst = none ∧ o.guard = none :=
  ⟨so.getD 2 default, by kernel_rfl, by kernel_rfl, by kernel_rfl, by kernel_rfl⟩
set_option maxRecDepth 100000 in
/-- **Swaps of a valid field between two valid times in order.** -/
theorem Swaps_ok {l : List Pt} {was is : Pt × Pt → Bool} {fn fd tn td : Int} (hl : l.length ≤ 1000000) (hN : (pairsOf l).length ≤ 1000000)
    (h1 : ∀ x ∈ pairsOf l, Pure Tryz.prog 43 #[ptV x.1, ptV x.2, ratioV fn fd] (.tuple #[.bool (was x), .int .i64 0])) (h2 : ∀ x ∈ pairsOf l, Pure Tryz.prog 43 #[ptV x.1, ptV x.2, ratioV tn td] (.tuple #[.bool (is x), .int .i64 0]))
    (hc : FnL Tryz.prog 37 1 [fldS 0 l, .pv (ratioV fn fd), .pv (ratioV tn td)] [(0, 0, rowP l)] (.pv (.int .i64 0)) 0 []) :
    FnL Tryz.prog 13 1 [fldS 0 l, .pv (ratioV fn fd), .pv (ratioV tn td)] [(0, 0, rowP l)] (.pv (.tuple #[.int .i64 (((pairsOf l).filter fun x => was x != is x).length : Int), .int .i64 0])) 0 [] := by
  intro W β us H hdm hu
  obtain ⟨u, hg0, rfl⟩ := fld_args (vs := [ratioV fn fd, ratioV tn td]) hu
  have key : Calls Tryz.prog 13 #[.agg #[u], ratioV fn fd, ratioV tn td] W fun e w' => e = .returned (.tuple #[.int .i64 (((pairsOf l).filter fun x => was x != is x).length : Int), .int .i64 0]) ∧ Gr W w' := by
    refine calls_in (c := sc []) Tryz.func13 (by kernel_rfl) ?_
    have R0 := enter_rel (n := 47) (args := cA l fn fd tn td) (us := [.agg #[u], ratioV fn fd, ratioV tn td]) H hdm hu (by simp)
    rw [swaps_code]
    refine wpIn_seq (sw_box l fn fd tn td none W β _ W _ R0 fun β1 a1 w1 hle1 hd1 R1 => ?_)
    refine wpIn_seq (sw_if l fn fd tn td hc none W β1 a1 w1 _ R1 fun β2 a2 w2 hle2 hd2 R2 => ?_)
    refine wpIn_seq (sw_n l fn fd tn td none W β2 a2 w2 _ R2 fun β3 a3 w3 hle3 hd3 R3 => ?_)
    refine wpIn_seq (wpIn_seq (sw_seq l fn fd tn td none W β3 a3 w3 _ R3 fun β5 a5 w5 hle5 hd5 R5 => ?_))
    have hd : a5.defers = [] := hd5.trans (hd3.trans (hd2.trans hd1))
    have hg : Gr W w5 := R5.h.gr
    have g0 : β5.g 0 = some u := Bl.leU_g hle5 (by omega) (Bl.leU_g hle3 (by omega) (Bl.leU_g hle2 (by omega) (Bl.leU_g hle1 (by omega) hg0)))
    have H5 := R5.h
    obtain ⟨rf, ef⟩ := lt_of_lookup H5 (b := 2) (o := 0) rfl rfl
    obtain ⟨rt, et⟩ := lt_of_lookup H5 (b := 3) (o := 0) rfl rfl
    obtain ⟨rn, en⟩ := lt_of_lookup H5 (b := 4) (o := 0) rfl rfl
    obtain ⟨rb, eb⟩ := lt_of_lookup H5 (b := 5) (o := 0) rfl rfl
    have f0 := cel_of H5 (b := 2) (o := 0) rfl ef
    have f1 := cel_of H5 (b := 2) (o := 1) rfl ef
    have t0 := cel_of H5 (b := 3) (o := 0) rfl et
    have t1 := cel_of H5 (b := 3) (o := 1) rfl et
    have cn := cel_of H5 (b := 4) (o := 0) rfl en
    have cb : Cel w5 rb 0 u := box_of H5 (b := 5) rfl eb g0
    have hrd := row_of H5 (b := 0) (o := 0) rfl g0
    obtain ⟨rb', eb', t24⟩ := pc_one (R5.t.tmps 24)
    rw [eb] at eb'; cases eb'
    obtain ⟨r', e', t9⟩ : ∃ r, β5 4 = some r ∧ a5.tmps.getD 9 undef = ptr r := R5.t.tmps 9
    rw [en] at e'; cases e'
    obtain ⟨r', e', t4⟩ : ∃ r, β5 2 = some r ∧ a5.tmps.getD 4 undef = ptr r := R5.t.tmps 4
    rw [ef] at e'; cases e'
    obtain ⟨r', e', t5⟩ : ∃ r, β5 3 = some r ∧ a5.tmps.getD 5 undef = ptr r := R5.t.tmps 5
    rw [et] at e'; cases e'
    have hsz : a5.tmps.size = 47 := R5.t.size
    have nn : ∀ b r, b ≠ 4 → β5 b = some r → r ≠ rn := fun b r hb e h => by subst h; exact hb (H5.inj b 4 _ e en)
    have nft : rf ≠ rt := fun h => by subst h; have := H5.inj 2 3 _ ef et; omega
    have hWn : W.heap.size ≤ rn := H5.new 4 rn (by omega) en
    have hown : ∀ b, bkF l u rb b → b < w5.heap.size ∧ b ≠ rn := fun b h => by
      rcases h with rfl | ⟨hx, h⟩
      · exact ⟨cb.lt, nn 5 _ (by omega) eb⟩
      · have h1 : b < W.heap.size := by
          obtain ⟨u', h2, h3⟩ := H.rows 0 0 _ _ _ _ rfl
          rw [hg0] at h2; cases h2
          exact h3.rd.lt hx b h
        exact ⟨Nat.lt_of_lt_of_le h1 hg.size, by omega⟩
    refine wpIn_block (range_in (L := pairsV l) t24 (by kernel_rfl) (pairs_seq (B := bkF l u rb) cb.1 cb.2 hrd (Or.inl rfl) (fun hx k hk => Or.inr ⟨hx, hk⟩) hl) (· = rn) (fun b hb => ⟨by rw [hb]; exact cn.lt, fun h => (hown b h).2 hb⟩) (fun b hb => (hown b hb).1) (fun x hx => by
        obtain ⟨z, _, rfl⟩ := List.mem_map.1 hx
        rfl)
      (fun k w => Cel w rn 0 (.int .i64 ((((pairsOf l).take k).filter fun x => was x != is x).length : Int)) ∧ Gr W w ∧ Keep (fun b => b < w5.heap.size ∧ b ≠ rn) w5 w) ?_ ⟨cn, hg, Keep.refl _ _⟩ ?_ ?_)
    · rintro k u1 u2 ⟨h1, h2, h4⟩ h3
      exact ⟨h1.keep h3 cn.lt, (h3.mono fun i _ h => by show i < w5.heap.size; have : i < W.heap.size := h; have := hg.size; omega).gr h2, h4.trans (h3.mono fun i _ h => h.1)⟩
    · rintro lr k x Wr rfl hx hszr ⟨hI, hgr, hkp⟩
      obtain ⟨⟨p, q⟩, hm, rfl⟩ : ∃ z, (pairsOf l)[k]? = some z ∧ x = pairV z := by
        rw [List.getElem?_map] at hx
        cases hm : (pairsOf l)[k]? with
        | none => rw [hm] at hx; cases hx
        | some m => rw [hm] at hx; cases hx; exact ⟨m, rfl, rfl⟩
      have hmem := List.mem_of_getElem? hm
      have hk1 : (((pairsOf l).take k).filter fun x => was x != is x).length < 1000000 := by
        have h1 := get_lt hm
        have h2 := List.length_filter_le (fun x => was x != is x) ((pairsOf l).take k)
        rw [List.length_take] at h2
        omega
      have hact : ({ tmps := ((#[25, 26] : Array Tmp).zip (pairV (p, q))).foldl (fun t (p, v) => t.setIfInBounds p v) a5.tmps, defers := [] } : Act) = clr ((a5.put (some 25) (ptV p)).put (some 26) (ptV q)) := by simp [pairV, clr, Act.put]
      rw [hact]
      have b0 := f0.keep hkp ⟨f0.lt, nn 2 _ (by omega) ef⟩
      have b1 := f1.keep hkp ⟨f0.lt, nn 2 _ (by omega) ef⟩
      have b2 := t0.keep hkp ⟨t0.lt, nn 3 _ (by omega) et⟩
      have b3 := t1.keep hkp ⟨t0.lt, nn 3 _ (by omega) et⟩
      have R6 : Rel Wr 2 (boxesL [rf, rt]) (rndSt 47 2 [(4, .pp 0 0), (5, .pp 1 0), (9, .pv (ptr rn))] (sB fn fd tn td) []) (clr a5) Wr :=
        rel_mk (boxes_rel (rs := [rf, rt]) (by simp [nft]) (by intro r hr; simp at hr; rcases hr with rfl | rfl; exact b0.lt; exact b2.lt) ⟨⟨rf, _, rfl, rfl, b0, rfl⟩, ⟨rf, _, rfl, rfl, b1, rfl⟩, ⟨rt, _, rfl, rfl, b2, rfl⟩, ⟨rt, _, rfl, rfl, b3, rfl⟩, trivial⟩) (boxesL_dom [rf, rt]) (Nat.le_refl _) hsz ⟨⟨rf, rfl, t4⟩, ⟨rt, rfl, t5⟩, t9, trivial⟩
      have R7 := (R6.put (d := 25) (x := .pv (ptV p)) (u := ptV p) (by decide) rfl).put (d := 26) (x := .pv (ptV q)) (u := ptV q) (by decide) rfl
      have R7' : Rel Wr 2 (boxesL [rf, rt]) (rndSt 47 2 [(4, .pp 0 0), (5, .pp 1 0), (9, .pv (ptr rn)), (25, .pv (ptV p)), (26, .pv (ptV q))] (sB fn fd tn td) []) (clr (clr ((a5.put (some 25) (ptV p)).put (some 26) (ptV q)))) Wr :=
        rel_mk R7.h (boxesL_dom [rf, rt]) (Nat.le_refl _) R7.t.size ⟨R7.t.tmps 4, R7.t.tmps 5, R7.t.tmps 9, R7.t.tmps 25, R7.t.tmps 26, trivial⟩
      refine sw_assign fn fd tn td p q (ptr rn) (some _) Wr _ (clr ((a5.put (some 25) (ptV p)).put (some 26) (ptV q))) Wr _ R7' fun β8 a8 w8 hle8 hd8 R8 => ?_
      have hg8 : Gr Wr w8 := R8.h.gr
      refine ⟨Keep.of_gr hg8 _, fun W2 hk2 hs2 => ?_⟩
      obtain ⟨r2, er2⟩ := lt_of_lookup R8.h (b := 2) (o := 0) rfl rfl
      have hn8 : ∀ b r, b < 4 → β8 b = some r → r ≠ w5.heap.size + 1 := fun b r hb e => by
        rcases Nat.lt_or_ge b 2 with h | h
        · match b, h with
          | 0, _ => have : β8 0 = some rf := Bl.leU_f hle8 (by omega) rfl; rw [this] at e; cases e; have := f0.lt; omega
          | 1, _ => have : β8 1 = some rt := Bl.leU_f hle8 (by omega) rfl; rw [this] at e; cases e; have := t0.lt; omega
        · have := R8.h.new b r h e; omega
      have R9 := R8.later hk2 (l := 4) (tm' := sT2 (ptr rn)) (hp' := sB2 fn fd tn td p q) (by kernel_rfl) (by kernel_rfl) (by kernel_rfl) hn8 (fun b o e es n xs v hl => (no_rows (by kernel_rfl) hl).elim)
      have hgr2 : Gr W W2 := (hk2.mono fun i _ h => by show i ≠ _; have : i < W.heap.size := h; have := hg.size; omega).gr (hgr.trans hg8)
      have hI2 : Cel W2 rn 0 (.int .i64 ((((pairsOf l).take k).filter fun x => was x != is x).length : Int)) := (hI.gr hg8).keep hk2 (by have := cn.lt; omega)
      have hkp2 : Keep (fun b => b < w5.heap.size ∧ b ≠ rn) w5 W2 := (hkp.trans (Keep.of_gr hg8 _)).trans (hk2.mono fun i _ h => by show i ≠ _; have := h.1; omega)
      refine wpIn_block (wpIn_seq (sw_was fn fd tn td p q (ptr rn) (was (p, q)) (h1 _ hmem) (some _) W2 _ a8 W2 _ R9 fun β10 a10 w10 hle10 hd10 R10 => ?_))
      refine wpIn_seq (sw_is fn fd tn td p q (ptr rn) (was (p, q)) (is (p, q)) (h2 _ hmem) (some _) W2 β10 a10 w10 _ R10 fun β11 a11 w11 hle11 hd11 R11 => ?_)
      refine wpIn_seq (sw_cmp (ptr rn) (was (p, q)) (is (p, q)) (some _) W2 β11 a11 w11 _ R11 fun β12 a12 w12 hle12 hd12 R12 => ?_)
      have t43 : a12.tmps.getD 43 undef = .bool (was (p, q) != is (p, q)) := R12.t.tmps 43
      have t9' : a12.tmps.getD 9 undef = ptr rn := R12.t.tmps 9
      have hg12 : Gr W2 w12 := R12.h.gr
      have hI12 := hI2.gr hg12
      have hsz12 : a12.tmps.size = 47 := R12.t.size
      rw [take_next hm, List.filter_append]
      cases hb : (was (p, q) != is (p, q)) with
      | false =>
        rw [hb] at t43
        refine wpIn_cond_false t43 (wpIn_skip ⟨rfl, ⟨?_, hgr2.trans hg12, hkp2.trans (Keep.of_gr hg12 _)⟩, Keep.of_gr hg12 _⟩)
        rw [List.filter_cons_of_neg (by simp [hb]), List.filter_nil, List.append_nil]
        exact hI12
      | true =>
        rw [hb] at t43
        refine wpIn_cond_true t43 (wpIn_region_list ?_)
        have R13 : Rel w12 1 (boxesL [rn]) (rndSt 47 1 [(9, .pp 0 0)] [(0, 0, .pv (.int .i64 ((((pairsOf l).take k).filter fun x => was x != is x).length : Int)))] []) (clr a12) w12 :=
          rel_mk (boxes_rel (rs := [rn]) (by simp) (by simpa using hI12.lt) ⟨⟨rn, _, rfl, rfl, hI12, rfl⟩, trivial⟩) (boxesL_dom [rn]) (Nat.le_refl _) hsz12 ⟨⟨rn, rfl, t9'⟩, trivial⟩
        obtain ⟨o, hol, ho, hdst, hgd⟩ := so_store
        rw [so_list, hol]
        refine sw_inc _ (i64_succ (by omega)) (some _) w12 _ a12 w12 _ _ R13 fun β7 a7 w7 hle7 hd7 R14 => list_one hgd ?_
        obtain ⟨r9, e9, t9''⟩ : ∃ r, β7 0 = some r ∧ a7.tmps.getD 9 undef = ptr r := R14.t.tmps 9
        have : β7 0 = some rn := Bl.leU_f hle7 (by omega) rfl
        rw [this] at e9; cases e9
        have t45 := R14.t.tmps 45
        have hg7 : Gr w12 w7 := R14.h.gr
        have hI7 := hI12.gr hg7
        obtain ⟨inf, hinf, hisz⟩ := info_of info_int
        refine store_in ho t9'' t45 (us := [.int .i64 ((((pairsOf l).take k).filter fun x => was x != is x).length : Int)]) hinf (by rw [hisz]; rfl) (by simp [Value.cells, Value.oneCell']) (fun j v hj => ?_) (by rw [hisz]; rfl) ?_
        · match j, hj with
          | 0, hj => cases hj; exact hI7
          | j + 1, hj => simp at hj
        · show _ ∧ _ ∧ _
          have hset := cel_set (w := w7) (r := rn) (o := 0) (us := [.int .i64 ((((pairsOf l).take k).filter fun x => was x != is x).length : Int)]) (vs := [.int .i64 (((((pairsOf l).take k).filter fun x => was x != is x).length + 1 : Nat) : Int)]) (fun j v hj => by
            match j, hj with
            | 0, hj => cases hj; exact hI7
            | j + 1, hj => simp at hj) rfl (j := 0) rfl
          have hks : Keep (fun b => ¬ b = rn) w7 (w7.setCells rn 0 [.int .i64 (((((pairsOf l).take k).filter fun x => was x != is x).length + 1 : Nat) : Int)]) := Keep.setCells rn _ 0 w7
          rw [List.filter_cons_of_pos (by simp [hb]), List.filter_nil, List.length_append]
          exact ⟨rfl, ⟨hset, (hks.mono fun i _ h => by show ¬ i = rn; have : i < W.heap.size := h; omega).gr ((hgr2.trans hg12).trans hg7), ((hkp2.trans (Keep.of_gr hg12 _)).trans (Keep.of_gr hg7 _)).trans (hks.mono fun i _ h => h.2)⟩, ((Keep.of_gr hg12 _).trans (Keep.of_gr hg7 _)).trans hks⟩
    · rintro w6 ⟨hI, hgr, _⟩ hD hk6
      show (sc [1, 1, 1, 1]).wpIn (FW none) 0 Tryz.prog _ _ w6
      rw [List.length_map, List.take_length] at hI
      have R7 : Rel w6 1 (boxesL [rn]) (rndSt 47 1 [(9, .pp 0 0)] [(0, 0, .pv (.int .i64 (((pairsOf l).filter fun x => was x != is x).length : Int)))] []) (clr { a5 with defers := { target := .collected w5.heap.size, args := #[] } :: a5.defers }) w6 :=
        rel_mk (boxes_rel (rs := [rn]) (by simp) (by simpa using hI.lt) ⟨⟨rn, _, rfl, rfl, hI, rfl⟩, trivial⟩) (boxesL_dom [rn]) (Nat.le_refl _) hsz ⟨⟨rn, rfl, t9⟩, trivial⟩
      refine sw_end _ none w6 _ _ w6 _ R7 fun β8 a8 w8 hle8 hd8 R8 => ?_
      have hg8 : Gr w6 w8 := R8.h.gr
      have hkp : Keep (· ≠ w5.heap.size) w8 (w8.putObj w5.heap.size (.deferred none)) := Keep.putObj _ _ _
      have R9 : Rel _ 0 (β8.cut 0) (rndSt 47 0 [(6, .pv (.int .i64 (((pairsOf l).filter fun x => was x != is x).length : Int))), (7, .pv (.int .i64 0))] [] []) (clr a8) (w8.putObj w5.heap.size (.deferred none)) :=
        R8.later hkp (by kernel_rfl) (by kernel_rfl) (by kernel_rfl) (fun b r hb _ => by omega) (fun b o e es n xs v hl => by cases hl)
      obtain ⟨v, hv, hx⟩ := resS_ok (P := Tryz.prog) (fn := Tryz.f13) (x := .pv (.tuple #[.int .i64 (((pairsOf l).filter fun x => was x != is x).length : Int), .int .i64 0])) R9 (by kernel_rfl)
      refine leave_mark (D := w5.heap.size) (by rw [hd8, hd]) ((Keep.of_gr hg8 (fun _ => True)).at hD trivial) ⟨v, hv, ?_, ?_⟩
      · rw [show v = _ from hx]
      · exact (hkp.mono fun i _ h => by show i ≠ _; have : i < W.heap.size := h; have := hg.size; omega).gr (hgr.trans hg8)
  exact key.mono fun e w' ⟨he, hg⟩ => ⟨_, β, he, Bl.le_refl _, rfl, (H.gr_mono hg).imp (fun _ _ _ h => (by cases h)), hdm⟩
end Go.Proofs.YtomnmoinahhdmaaGreat
