/-
  Count of package meet. Conditions: none.
-/
import Derived.Test.YtomnmoinahhdmaaGreatW36
namespace Go.Proofs.YtomnmoinahhdmaaGreat
open Go.RowKit
noncomputable abbrev nc (p : List Nat) : Code := codeOf Tryz.prog 11 p
noncomputable abbrev no : Array Oper := opsOf (nc [1, 1, 1, 0, 1, 0, 1, 0])
theorem count_code : nc [] = .seq (nc [0]) (.seq (nc [1, 0]) (.seq (nc [1, 1, 0]) (.seq (.seq (nc [1, 1, 1, 0, 0]) (.block 0 (.rangeFunc (.tmp 20) #[21] .skip (.block 1 (.region 6 no false))))) (nc [1, 1, 1, 1])))) := by kernel_rfl
abbrev cA (l : List Pt) (fn fd tn td : Int) : List SV := [fldS 0 l, .pv (ratioV fn fd), .pv (ratioV tn td)]
abbrev cT0 : List (Nat × SV) := [(3, .pp 1 0), (4, .pp 2 0), (5, .pp 3 0)]
abbrev cH0 (l : List Pt) (fn fd tn td : Int) : List (Nat × Nat × SV) := [(1, 0, .ls 0 l.length), (2, 0, .pv (.int .i64 fn)), (2, 1, .pv (.int .i64 fd)), (3, 0, .pv (.int .i64 tn)), (3, 1, .pv (.int .i64 td)), (0, 0, rowP l)]
abbrev cH1 (l : List Pt) (fn fd tn td : Int) : List (Nat × Nat × SV) := [(1, 0, .ls 0 l.length), (2, 0, .pv (.int .i64 fn)), (2, 1, .pv (.int .i64 fd)), (3, 0, .pv (.int .i64 tn)), (3, 1, .pv (.int .i64 td)), (4, 0, .pv (.int .i64 0)), (0, 0, rowP l)]
abbrev cH2 (l : List Pt) (fn fd tn td : Int) : List (Nat × Nat × SV) := [(4, 0, .pv (.int .i64 0)), (7, 0, .pv (.int .i64 tn)), (7, 1, .pv (.int .i64 td)), (9, 0, .pv (.int .i64 fn)), (9, 1, .pv (.int .i64 fd)), (10, 0, .ls 0 l.length), (11, 0, .pc 97 [.pp 10 0]), (12, 0, .pc 99 [.pp 9 0]),
  (13, 0, .pc 137 [.pp 11 0, .pp 12 0]), (14, 0, .pc 86 [.pp 7 0]), (0, 0, rowP l)]
section
variable (l : List Pt) (fn fd tn td : Int)
set_option maxRecDepth 100000 in
theorem cn_box : Seg Tryz.prog 1 1 (nc [0]) 25 1 (argsT 0 (cA l fn fd tn td)) [(0, 0, rowP l)] .normal 4 cT0 (cH0 l fn fd tn td) :=
  seg_of [] 100 [] (by decide) (by kernel_rfl) (round_of True.intro (by kernel_rfl))
set_option maxRecDepth 100000 in
theorem cn_if (hc : FnL Tryz.prog 37 1 [fldS 0 l, .pv (ratioV fn fd), .pv (ratioV tn td)] [(0, 0, rowP l)] (.pv (.int .i64 0)) 0 []) : Seg Tryz.prog 1 4 (nc [1, 0]) 25 4 cT0 (cH0 l fn fd tn td) .normal 4 cT0 (cH0 l fn fd tn td) :=
  seg_of [] 100 [.f [0] [fldS 0 l, .pv (ratioV fn fd), .pv (ratioV tn td)] [(0, 0, rowP l)] (.pv (.int .i64 0)) 0 [], .k] (by decide) (by kernel_rfl)
    (round_of (And.intro hc (And.intro (Eq.refl (List.map (SV.ren (renU [0] 4)) [fldS 0 l, .pv (ratioV fn fd), .pv (ratioV tn td)])) (And.intro (reflH (renU [0] 4) [(0, 0, rowP l)]) True.intro))) (by kernel_rfl))
set_option maxRecDepth 100000 in
theorem cn_n : Seg Tryz.prog 1 4 (nc [1, 1, 0]) 25 4 cT0 (cH0 l fn fd tn td) .normal 5 ((9, .pp 4 0) :: cT0) (cH1 l fn fd tn td) :=
  seg_of [] 100 [] (by decide) (by kernel_rfl) (round_of True.intro (by kernel_rfl))
set_option maxRecDepth 100000 in
theorem cn_seq : Seg Tryz.prog 1 5 (nc [1, 1, 1, 0, 0]) 25 5 ((9, .pp 4 0) :: cT0) (cH1 l fn fd tn td) .normal 15 [(9, .pp 4 0), (20, .pc 137 [.pp 13 0, .pp 14 0])] (cH2 l fn fd tn td) :=
  seg_of [] 100 [] (by decide) (by kernel_rfl) (round_of True.intro (by kernel_rfl))
set_option maxRecDepth 100000 in
theorem cn_inc (k : Nat) (h : Value.int .i64 (IntKind.i64.wrap ((k : Int) + 1)) = .int .i64 ((k + 1 : Nat) : Int)) : SegL Tryz.prog 1 1 no (no.toList.take 2) 25 1 [(9, .pp 0 0)] [(0, 0, .pv (.int .i64 (k : Int)))] 1 [(9, .pp 0 0), (23, .pv (.int .i64 ((k + 1 : Nat) : Int)))] [] :=
  segl_of [] 100 [.r (.int .i64 ((k + 1 : Nat) : Int))] (by decide) (by kernel_rfl) (round_of (And.intro h True.intro) (by kernel_rfl))
set_option maxRecDepth 100000 in
theorem cn_end (k : Nat) : Seg Tryz.prog 1 1 (nc [1, 1, 1, 1]) 25 1 [(9, .pp 0 0)] [(0, 0, .pv (.int .i64 (k : Int)))] .ret 1 [(6, .pv (.int .i64 (k : Int))), (7, .pv (.int .i64 0))] [] :=
  seg_of [] 100 [] (by decide) (by kernel_rfl) (round_of True.intro (by kernel_rfl))
end
theorem no_list : no.toList = no.toList.take 2 ++ (no.toList.drop 2).take 1 := by kernel_rfl
theorem no_store : ∃ o : Oper, (no.toList.drop 2).take 1 = [o] ∧ o.op = .store 3 (.tmp 9) (.tmp 23) ∧ o.dst = none ∧ o.guard = none :=
  ⟨no.getD 2 default, by kernel_rfl, by kernel_rfl, by kernel_rfl, by kernel_rfl⟩
theorem info_int : (Tryz.prog.info? 3).map (fun i => i.size) = some 1 := by kernel_rfl
theorem info_of {t : TypeId} {n : Nat} (h : (Tryz.prog.info? t).map (fun i => i.size) = some n) : ∃ i, Tryz.prog.info? t = some i ∧ i.size = n := by
  cases hi : Tryz.prog.info? t with
  | none => rw [hi] at h; cases h
  | some i => rw [hi] at h; exact ⟨i, rfl, by simpa using h⟩
theorem fld_args {β : Bl} {l : List Pt} {vs us : List Value} (h : SV.isl β (fldS 0 l :: vs.map .pv) us) : ∃ u, β.g 0 = some u ∧ us = .agg #[u] :: vs := by
  match us, h with
  | v :: us', ⟨⟨ws, hw, hv⟩, h2⟩ =>
    match ws, hw with
    | [x], ⟨⟨hx, _⟩, _⟩ => exact ⟨x, hx, by rw [hv, SV.isl_v_eq h2]⟩
theorem lt_of_lookup {W0 : World} {lo : Nat} {β : Bl} {hp : List (Nat × Nat × SV)} {w : World} (H : HRel W0 lo β hp w) {b o : Nat} {s : SV} (h : lookH hp b o = some s) (hs : s.isRow = false) : ∃ r, β b = some r := by
  obtain ⟨r, u, h1, _⟩ := H.cells b o s h hs
  exact ⟨r, h1⟩
set_option maxRecDepth 100000 in
/-- **Count of a valid field between two valid times in order.** -/
theorem Count_ok {l : List Pt} {f : Pt × Pt → Option Mt} {fn fd tn td : Int} (hM : Meets l f) (ht : TmOk fn fd) (hs : TmOk tn td) (hN : (((pairsOf l).filterMap f).filter (kpA fn fd)).length ≤ 1000000)
    (hc : FnL Tryz.prog 37 1 [fldS 0 l, .pv (ratioV fn fd), .pv (ratioV tn td)] [(0, 0, rowP l)] (.pv (.int .i64 0)) 0 []) :
    FnL Tryz.prog 11 1 [fldS 0 l, .pv (ratioV fn fd), .pv (ratioV tn td)] [(0, 0, rowP l)] (.pv (.tuple #[.int .i64 (((((pairsOf l).filterMap f).filter (kpA fn fd)).filter (kpB tn td)).length : Int), .int .i64 0])) 0 [] := by
  intro W β us H hdm hu
  obtain ⟨u, hg0, rfl⟩ := fld_args (vs := [ratioV fn fd, ratioV tn td]) hu
  have key : Calls Tryz.prog 11 #[.agg #[u], ratioV fn fd, ratioV tn td] W fun e w' => e = .returned (.tuple #[.int .i64 (((((pairsOf l).filterMap f).filter (kpA fn fd)).filter (kpB tn td)).length : Int), .int .i64 0]) ∧ Gr W w' := by
    refine calls_in (c := nc []) Tryz.func11 (by kernel_rfl) ?_
    have R0 := enter_rel (n := 25) (args := cA l fn fd tn td) (us := [.agg #[u], ratioV fn fd, ratioV tn td]) H hdm hu (by simp)
    rw [count_code]
    refine wpIn_seq (cn_box l fn fd tn td none W β _ W _ R0 fun β1 a1 w1 hle1 hd1 R1 => ?_)
    refine wpIn_seq (cn_if l fn fd tn td hc none W β1 a1 w1 _ R1 fun β2 a2 w2 hle2 hd2 R2 => ?_)
    refine wpIn_seq (cn_n l fn fd tn td none W β2 a2 w2 _ R2 fun β3 a3 w3 hle3 hd3 R3 => ?_)
    refine wpIn_seq (wpIn_seq (cn_seq l fn fd tn td none W β3 a3 w3 _ R3 fun β5 a5 w5 hle5 hd5 R5 => ?_))
    have hd : a5.defers = [] := hd5.trans (hd3.trans (hd2.trans hd1))
    have hg : Gr W w5 := R5.h.gr
    have g0 : β5.g 0 = some u := Bl.leU_g hle5 (by omega) (Bl.leU_g hle3 (by omega) (Bl.leU_g hle2 (by omega) (Bl.leU_g hle1 (by omega) hg0)))
    have H5 := R5.h
    obtain ⟨rn, en⟩ := lt_of_lookup H5 (b := 4) (o := 0) rfl rfl
    obtain ⟨rt, et⟩ := lt_of_lookup H5 (b := 7) (o := 0) rfl rfl
    obtain ⟨rf, ef⟩ := lt_of_lookup H5 (b := 9) (o := 0) rfl rfl
    obtain ⟨rb, eb⟩ := lt_of_lookup H5 (b := 10) (o := 0) rfl rfl
    obtain ⟨ra, ea⟩ := lt_of_lookup H5 (b := 11) (o := 0) rfl rfl
    obtain ⟨rk, ek⟩ := lt_of_lookup H5 (b := 12) (o := 0) rfl rfl
    obtain ⟨rc, ec⟩ := lt_of_lookup H5 (b := 13) (o := 0) rfl rfl
    obtain ⟨rj, ej⟩ := lt_of_lookup H5 (b := 14) (o := 0) rfl rfl
    have cn := cel_of H5 (b := 4) (o := 0) rfl en
    have t0 := cel_of H5 (b := 7) (o := 0) rfl et
    have t1 := cel_of H5 (b := 7) (o := 1) rfl et
    have f0 := cel_of H5 (b := 9) (o := 0) rfl ef
    have f1 := cel_of H5 (b := 9) (o := 1) rfl ef
    have cb : Cel w5 rb 0 u := box_of H5 (b := 10) rfl eb g0
    have hrd := row_of H5 (b := 0) (o := 0) rfl g0
    obtain ⟨_, p1, ca⟩ := cel_pc H5 (b := 11) (o := 0) rfl ea
    obtain ⟨r', e', rfl⟩ := pps_one p1; rw [eb] at e'; cases e'
    obtain ⟨_, p2, ck⟩ := cel_pc H5 (b := 12) (o := 0) rfl ek
    obtain ⟨r', e', rfl⟩ := pps_one p2; rw [ef] at e'; cases e'
    obtain ⟨_, p3, cc⟩ := cel_pc H5 (b := 13) (o := 0) rfl ec
    obtain ⟨r', s', e', e'', rfl⟩ := pps_two p3; rw [ea] at e'; rw [ek] at e''; cases e'; cases e''
    obtain ⟨_, p4, cj⟩ := cel_pc H5 (b := 14) (o := 0) rfl ej
    obtain ⟨r', e', rfl⟩ := pps_one p4; rw [et] at e'; cases e'
    obtain ⟨_, p5, t20⟩ : ∃ vs, S0.isl β5 [.pp 13 0, .pp 14 0] vs ∧ a5.tmps.getD 20 undef = .func (.func 137) #[] vs.toArray := R5.t.tmps 20
    obtain ⟨r', s', e', e'', rfl⟩ := pps_two p5; rw [ec] at e'; rw [ej] at e''; cases e'; cases e''
    obtain ⟨r', e', t9⟩ : ∃ r, β5 4 = some r ∧ a5.tmps.getD 9 undef = ptr r := R5.t.tmps 9
    rw [en] at e'; cases e'
    have hsz : a5.tmps.size = 25 := R5.t.size
    have ne1 : ra ≠ rk := fun h => by subst h; have := H5.inj 11 12 _ ea ek; omega
    have ne2 : rc ≠ rj := fun h => by subst h; have := H5.inj 13 14 _ ec ej; omega
    have nn : ∀ b r, b ≠ 4 → β5 b = some r → r ≠ rn := fun b r hb e h => by subst h; exact hb (H5.inj b 4 _ e en)
    have hWn : W.heap.size ≤ rn := H5.new 4 rn (by omega) en
    have hown : ∀ b, bkB l u rb rf ra rk rt rc rj b → b < w5.heap.size ∧ b ≠ rn := fun b h => by
      rcases h with ((((rfl | ⟨hx, h⟩) | rfl) | rfl | rfl) | rfl) | rfl | rfl
      · exact ⟨cb.lt, nn 10 _ (by omega) eb⟩
      · have h1 : b < W.heap.size := by
          obtain ⟨u', h2, h3⟩ := H.rows 0 0 _ _ _ _ rfl
          rw [hg0] at h2; cases h2
          exact h3.rd.lt hx b h
        exact ⟨Nat.lt_of_lt_of_le h1 hg.size, by omega⟩
      · exact ⟨f0.lt, nn 9 _ (by omega) ef⟩
      · exact ⟨ca.lt, nn 11 _ (by omega) ea⟩
      · exact ⟨ck.lt, nn 12 _ (by omega) ek⟩
      · exact ⟨t0.lt, nn 7 _ (by omega) et⟩
      · exact ⟨cc.lt, nn 13 _ (by omega) ec⟩
      · exact ⟨cj.lt, nn 14 _ (by omega) ej⟩
    refine wpIn_block (range_in t20 (by kernel_rfl) (betw_at hM ht hs cb hrd f0 f1 ca ck ne1 t0 t1 cc cj ne2) (· = rn) (fun b hb => ⟨by rw [hb]; exact cn.lt, fun h => (hown b h).2 hb⟩) (fun b hb => (hown b hb).1) (fun x hx => by
        obtain ⟨m, _, rfl⟩ := List.mem_map.1 hx
        rfl)
      (fun k w => Cel w rn 0 (.int .i64 (k : Int)) ∧ Gr W w) ?_ ⟨cn, hg⟩ ?_ ?_)
    · rintro k u1 u2 ⟨h1, h2⟩ h3
      exact ⟨h1.keep h3 cn.lt, h3.mono (fun i _ h => by show i < w5.heap.size; have : i < W.heap.size := h; have := hg.size; omega) |>.gr h2⟩
    · rintro lr k x Wr rfl hx hszr ⟨hI, hgr⟩
      obtain ⟨m, hm, rfl⟩ : ∃ m, ((((pairsOf l).filterMap f).filter (kpA fn fd)).filter (kpB tn td))[k]? = some m ∧ x = mA m := by
        rw [List.getElem?_map] at hx
        cases hm : ((((pairsOf l).filterMap f).filter (kpA fn fd)).filter (kpB tn td))[k]? with
        | none => rw [hm] at hx; cases hx
        | some m => rw [hm] at hx; cases hx; exact ⟨m, rfl, rfl⟩
      have hk1 : k < 1000000 := by
        have h1 := get_lt hm
        have h2 := List.length_filter_le (kpB tn td) (((pairsOf l).filterMap f).filter (kpA fn fd))
        omega
      have hact : ({ tmps := ((#[21] : Array Tmp).zip (mA m)).foldl (fun t (p, v) => t.setIfInBounds p v) a5.tmps, defers := [] } : Act) = clr (a5.put (some 21) (meetV m)) := by simp [mA, clr, Act.put]
      rw [hact]
      refine wpIn_skip ⟨Keep.refl _ _, fun W2 hk2 hs2 => ?_⟩
      have hI2 : Cel W2 rn 0 (.int .i64 (k : Int)) := hI.keep hk2 (by have := cn.lt; omega)
      have hgr2 : Gr W W2 := (hk2.mono fun i _ h => by show i ≠ _; have : i < W.heap.size := h; have := hg.size; omega).gr hgr
      have R6 : Rel W2 1 (boxesL [rn]) (rndSt 25 1 [(9, .pp 0 0)] [(0, 0, .pv (.int .i64 (k : Int)))] []) (clr (clr (a5.put (some 21) (meetV m)))) W2 :=
        rel_mk (boxes_rel (rs := [rn]) (by simp) (by simpa using hI2.lt) ⟨⟨rn, _, rfl, rfl, hI2, rfl⟩, trivial⟩) (boxesL_dom [rn]) (Nat.le_refl _) (by simp [clr, Act.put, hsz]) ⟨⟨rn, rfl, by simp [clr, Act.put, Array.getElem?_setIfInBounds_ne]; simpa using t9⟩, trivial⟩
      refine wpIn_block (wpIn_region_list ?_)
      obtain ⟨o, hol, ho, hdst, hgd⟩ := no_store
      rw [no_list, hol]
      refine cn_inc k (i64_succ (by omega)) (some _) W2 _ _ W2 _ _ R6 fun β7 a7 w7 hle7 hd7 R7 => list_one hgd ?_
      obtain ⟨r9, e9, t9'⟩ : ∃ r, β7 0 = some r ∧ a7.tmps.getD 9 undef = ptr r := R7.t.tmps 9
      have : β7 0 = some rn := Bl.leU_f hle7 (by omega) rfl
      rw [this] at e9; cases e9
      have t23 : a7.tmps.getD 23 undef = .int .i64 ((k + 1 : Nat) : Int) := R7.t.tmps 23
      have hg7 : Gr W2 w7 := R7.h.gr
      have hI7 := hI2.gr hg7
      obtain ⟨inf, hinf, hisz⟩ := info_of info_int
      refine store_in ho t9' t23 (us := [.int .i64 (k : Int)]) hinf (by rw [hisz]; rfl) (by simp [Value.cells, Value.oneCell']) (fun j v hj => ?_) (by rw [hisz]; rfl) ?_
      · match j, hj with
        | 0, hj => cases hj; exact hI7
        | j + 1, hj => simp at hj
      · show _ ∧ _ ∧ _
        have hset := cel_set (w := w7) (r := rn) (o := 0) (us := [.int .i64 (k : Int)]) (vs := [.int .i64 ((k + 1 : Nat) : Int)]) (fun j v hj => by
          match j, hj with
          | 0, hj => cases hj; exact hI7
          | j + 1, hj => simp at hj) rfl (j := 0) rfl
        have hks : Keep (fun b => ¬ b = rn) w7 (w7.setCells rn 0 [.int .i64 ((k + 1 : Nat) : Int)]) := Keep.setCells rn _ 0 w7
        exact ⟨rfl, ⟨hset, (hks.mono fun i _ h => by show ¬ i = rn; have : i < W.heap.size := h; omega).gr (hgr2.trans hg7)⟩, (Keep.of_gr hg7 _).trans hks⟩
    · rintro w6 ⟨hI, hgr⟩ hD hk6
      show (nc [1, 1, 1, 1]).wpIn (FW none) 0 Tryz.prog _ _ w6
      have R7 : Rel w6 1 (boxesL [rn]) (rndSt 25 1 [(9, .pp 0 0)] [(0, 0, .pv (.int .i64 ((((((pairsOf l).filterMap f).filter (kpA fn fd)).filter (kpB tn td)).map mA).length : Int)))] []) (clr { a5 with defers := { target := .collected w5.heap.size, args := #[] } :: a5.defers }) w6 :=
        rel_mk (boxes_rel (rs := [rn]) (by simp) (by simpa using hI.lt) ⟨⟨rn, _, rfl, rfl, hI, rfl⟩, trivial⟩) (boxesL_dom [rn]) (Nat.le_refl _) hsz ⟨⟨rn, rfl, t9⟩, trivial⟩
      refine cn_end _ none w6 _ _ w6 _ R7 fun β8 a8 w8 hle8 hd8 R8 => ?_
      have hg8 : Gr w6 w8 := R8.h.gr
      have hkp : Keep (· ≠ w5.heap.size) w8 (w8.putObj w5.heap.size (.deferred none)) := Keep.putObj _ _ _
      have R9 : Rel _ 0 (β8.cut 0) (rndSt 25 0 [(6, .pv (.int .i64 ((((((pairsOf l).filterMap f).filter (kpA fn fd)).filter (kpB tn td)).map mA).length : Int))), (7, .pv (.int .i64 0))] [] []) (clr a8) (w8.putObj w5.heap.size (.deferred none)) :=
        R8.later hkp (by kernel_rfl) (by kernel_rfl) (by kernel_rfl) (fun b r hb _ => by omega) (fun b o e es n xs v hl => by cases hl)
      obtain ⟨v, hv, hx⟩ := resS_ok (P := Tryz.prog) (fn := Tryz.f11) (x := .pv (.tuple #[.int .i64 ((((((pairsOf l).filterMap f).filter (kpA fn fd)).filter (kpB tn td)).map mA).length : Int), .int .i64 0])) R9 (by kernel_rfl)
      refine leave_mark (D := w5.heap.size) (by rw [hd8, hd]) ((Keep.of_gr hg8 (fun _ => True)).at hD trivial) ⟨v, hv, ?_, ?_⟩
      · rw [show v = _ from hx, List.length_map]
      · exact (hkp.mono fun i _ h => by show i ≠ _; have : i < W.heap.size := h; have := hg.size; omega).gr (hgr.trans hg8)
  exact key.mono fun e w' ⟨he, hg⟩ => ⟨_, β, he, Bl.le_refl _, rfl, (H.gr_mono hg).imp (fun _ _ _ h => (by cases h)), hdm⟩
end Go.Proofs.YtomnmoinahhdmaaGreat
