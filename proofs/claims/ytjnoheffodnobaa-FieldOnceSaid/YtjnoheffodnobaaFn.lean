/-
  What Find, Put, Take and Change of package field and of the reference return, for a list of points whatever. Conditions: none.
-/
import Derived.Test.YtjnoheffodnobaaFm
import Derived.Test.YtjnoheffodnobaaFe
namespace Go.Proofs.Ytjnoheffodnobaa
open Go.RowKit

theorem Great_any (l : List Pt) : (¬ (l.length ≤ 16 ∨ 64 ≤ l.length ∧ l.length ≤ 70) ∧ FnL Try.prog 22 1 [fldS 0 l] [(0, 0, rowP l)] (.pv (.bool true)) 0 []) ∨
    ((l.length ≤ 16 ∨ 64 ≤ l.length ∧ l.length ≤ 70) ∧ FnL Try.prog 22 1 [fldS 0 l] [(0, 0, rowP l)] (.pv (.bool false)) 0 []) := by
  by_cases h1 : l.length > 16
  · by_cases h2 : l.length < 64
    · exact Or.inl ⟨by omega, great_t (dt (by omega)) (dt (by omega))⟩
    · by_cases h3 : l.length > 70
      · exact Or.inl ⟨by omega, great_t2 (dt (by omega)) (df (by omega)) (dt (by omega))⟩
      · exact Or.inr ⟨by omega, great_f2 (dt (by omega)) (df (by omega)) (df (by omega))⟩
  · exact Or.inr ⟨by omega, great_f (df (by omega)) (df (by omega))⟩
theorem Twin_any {l : List Pt} (hn : l.length ≤ 1000000) : FnL Try.prog 23 1 [fldS 0 l] [(0, 0, rowP l)] (.ag [.ls 1 l.length]) 1 [(1, 0, rowP l)] := twin_path (by omega)
theorem i64_any (n : Nat) (h : n ≤ 1000000) : Value.int .i64 (IntKind.i64.wrap ((n : Int) + 1)) = .int .i64 ((n + 1 : Nat) : Int) := i64_succ h

/-! ### Find -/
abbrev FindIs (f : FuncId) (l : List Pt) (id : Int) (p : Pt) (e : Int) : Prop := FnL Try.prog f 1 [fldS 0 l, .pv (.int .i64 id)] [(0, 0, rowP l)] (.pv (.tuple #[ptV p, .int .i64 e])) 0 []
theorem Find_any (l : List Pt) (id : Int) : ∃ p e, FindIs 10 l id p e ∧ FindIs 24 l id p e ∧
    ((errL l ≠ 0 ∧ e = errL l) ∨ (Val l ∧ (∀ p ∈ l, p.id ≠ id) ∧ e = 6) ∨ (Val l ∧ e = 0 ∧ p.id = id ∧ ∃ k : Nat, l[k]? = some p)) := by
  by_cases h0 : errL l = 0
  · have hv := err_val.1 h0
    have c1 := PCheck_any l
    have c2 := RCheck_any l
    rw [h0] at c1 c2
    rcases place l hv id with ⟨k, p, hk, he⟩ | ⟨hno, k, hkl, hlo, hhi⟩
    · exact ⟨p, 0, pfind_yes hk (in_of (get_lt hk)) c1 (find_yes hv hk he), rfind_yes hk (in_of (get_lt hk)) c2 (At_yes hv hk he) (df (by omega)), Or.inr (Or.inr ⟨hv, rfl, he, k, hk⟩)⟩
    · exact ⟨⟨0, 0, 0⟩, 6, pfind_no c1 (find_no hv hkl hlo hhi), rfind_no c2 (At_no hv.len hno), Or.inr (Or.inl ⟨hv, hno, rfl⟩)⟩
  · exact ⟨⟨0, 0, 0⟩, errL l, pfind_err (PCheck_any l) (by simp [h0]), rfind_err (RCheck_any l) (by simp [h0]), Or.inl ⟨h0, rfl⟩⟩

/-! ### Without -/
abbrev woT (id : Int) (k : Nat) : List (Nat × SV) := [(1, .pv (.int .i64 id)), (2, .pp 1 0), (4, .pp 2 0), (5, .pp 3 0), (6, .pv (.int .i64 (k : Int)))]
abbrev woH (l m : List Pt) : List (Nat × Nat × SV) := [(1, 0, .ls 0 l.length), (0, 0, rowP l), (3, 0, .ls 4 m.length), (4, 0, rowP m), (2, 0, .pv (.slice none 0 0))]
theorem take_succ {α : Type} {l : List α} {k : Nat} {p : α} (h : l[k]? = some p) : l.take (k + 1) = l.take k ++ [p] := by rw [List.take_add_one, h]; rfl
theorem Without_any {l : List Pt} (hn : l.length ≤ 64) (id : Int) : FnL Try.prog 47 1 [fldS 0 l, .pv (.int .i64 id)] [(0, 0, rowP l)] (.ag [.ls 1 (l.filter fun p => decide (p.id ≠ id)).length]) 1 [(1, 0, rowP (l.filter fun p => decide (p.id ≠ id)))] := by
  refine wo_path (RunsL.rounds (woT id) (fun k => woH l ((l.take k).filter fun p => decide (p.id ≠ id))) l.length 0 (Nat.zero_add _) (fun k _ hk r => ?_) ?_)
  · obtain ⟨p, hp⟩ := get_some hk
    rw [take_succ hp, List.filter_append] at r
    by_cases he : p.id = id
    · have : List.filter (fun p => decide (p.id ≠ id)) [p] = [] := by simp [he]
      rw [this, List.append_nil] at r
      exact wo_skip hp (in_of hk) (dt (by omega)) (by simp [he]) (i64s hk hn) r
    · have : List.filter (fun p => decide (p.id ≠ id)) [p] = [p] := by simp [he]
      rw [this] at r
      refine wo_keep hp (in_of hk) (dt (by omega)) (by simp [he]) ?_ (i64s hk hn) r
      have := List.length_filter_le (fun p : Pt => decide (p.id ≠ id)) (l.take k)
      rw [List.length_take] at this
      omega
  · simp only [List.take_length]
    exact wo_end (df (by omega))
theorem filter_at {l : List Pt} (hv : Val l) {k : Nat} {p : Pt} (hk : l[k]? = some p) : (l.filter fun q => decide (q.id ≠ p.id)) = l.take k ++ l.drop (k + 1) := by
  have hl := get_lt hk
  have e : l = l.take k ++ p :: l.drop (k + 1) := by
    conv => lhs; rw [← List.take_append_drop k l]
    rw [List.drop_eq_getElem_cons hl]
    have : l[k] = p := by rw [List.getElem?_eq_getElem hl] at hk; exact Option.some.inj hk
    rw [this]
  conv => lhs; rw [e]
  rw [List.filter_append, List.filter_cons_of_neg (by simp)]
  congr 1
  · refine List.filter_eq_self.2 fun q hq => ?_
    obtain ⟨j, hj, rfl⟩ := List.getElem_of_mem hq
    have hjk : j < k := by rw [List.length_take] at hj; omega
    have h2 : l[j]? = some ((l.take k)[j]) := by rw [List.getElem_take]; exact List.getElem?_eq_getElem _
    have := hv.up.mono hjk h2 hk
    exact decide_eq_true (fun e => by omega)
  · refine List.filter_eq_self.2 fun q hq => ?_
    obtain ⟨j, hj, rfl⟩ := List.getElem_of_mem hq
    have h2 : l[k + 1 + j]? = some ((l.drop (k + 1))[j]) := by rw [List.getElem_drop]; exact List.getElem?_eq_getElem _
    have := hv.up.mono (show k < k + 1 + j by omega) hk h2
    exact decide_eq_true (fun e => by omega)

/-! ### Take -/
abbrev ErrIs (f : FuncId) (l : List Pt) (x : Value) (e : Int) : Prop := FnL Try.prog f 1 [fldS 0 l, .pv x] [(0, 0, rowP l)] (.pv (.tuple #[.agg #[.slice none 0 0], .int .i64 e])) 0 []
abbrev ListIs (f : FuncId) (l : List Pt) (x : Value) (m : List Pt) : Prop := FnL Try.prog f 1 [fldS 0 l, .pv x] [(0, 0, rowP l)] (.tu [.ag [.ls 1 m.length], .one (.pv (.int .i64 0))]) 1 [(1, 0, rowP m)]
theorem wrap_sum {a b c : Int} (h : a + b = c) (h0 : 0 ≤ c) (h1 : c ≤ 1000000) : Value.int .i64 (IntKind.i64.wrap (a + b)) = .int .i64 c := by rw [h, wrap_i64_in (by omega) (by omega)]
theorem Grow_pos {s : Int} (h0 : 0 < s) (h1 : s ≤ 1000000) : FnL Try.prog 74 0 [.pv (.slice none 0 0), .pv (.int .i64 s)] [] (.ls 0 0) 1 [(0, 0, rowP ([] : List Pt))] :=
  grow_s (df (by omega)) (by rw [Int.sub_zero, wrap_i64_in (by omega) (by omega)]) (dt (by omega)) (by omega) h1
theorem Grow_zero : FnL Try.prog 74 0 [.pv (.slice none 0 0), .pv (.int .i64 0)] [] (.pv (.slice none 0 0)) 0 [] :=
  grow_0 (df (by omega)) (by rw [Int.sub_zero, wrap_i64_in (by omega) (by omega)]) (df (by omega))
theorem Take_any (l : List Pt) (id : Int) : (∃ e, ErrIs 12 l (.int .i64 id) e ∧ ErrIs 26 l (.int .i64 id) e ∧ ((errL l ≠ 0 ∧ e = errL l) ∨ (Val l ∧ (∀ p ∈ l, p.id ≠ id) ∧ e = 6))) ∨
    (∃ k p, Val l ∧ l[k]? = some p ∧ p.id = id ∧ ListIs 12 l (.int .i64 id) (l.take k ++ l.drop (k + 1)) ∧ ListIs 26 l (.int .i64 id) (l.take k ++ l.drop (k + 1))) := by
  by_cases h0 : errL l = 0
  · have hv := err_val.1 h0
    have c1 := PCheck_any l
    have c2 := RCheck_any l
    rw [h0] at c1 c2
    rcases place l hv id with ⟨k, p, hk, he⟩ | ⟨hno, k, hkl, hlo, hhi⟩
    · refine Or.inr ⟨k, p, hv, hk, he, ?_, ?_⟩
      · have hl := get_lt hk
        have hn := hv.len
        by_cases h1 : l.length = 1
        · exact ptake_one (s1 := 0) (s2 := 0) (by omega) (by omega) c1 (find_yes hv hk he) (by rw [wrap_i64_in (by omega) (by omega)]; rfl) (wrap_sum (by omega) (by omega) (by omega)) (df (by omega)) (wrap_sum (by omega) (by omega) (by omega)) (df (by omega)) Grow_zero (by omega) (by omega)
        · exact ptake_yes (s1 := (k : Int)) (s2 := (l.length : Int) - 1) (by omega) (by omega) c1 (find_yes hv hk he) (by rw [wrap_i64_in (by omega) (by omega)]; rfl) (wrap_sum (by omega) (by omega) (by omega)) (df (by omega)) (wrap_sum (by omega) (by omega) (by omega)) (df (by omega)) (Grow_pos (by omega) (by omega)) (by omega) (by omega)
      · have hw := Without_any hv.len id
        rw [← he, filter_at hv hk, he] at hw
        exact rtake_yes c2 (At_yes hv hk he) (df (by omega)) hw
    · exact Or.inl ⟨6, ptake_no c1 (find_no hv hkl hlo hhi), rtake_no c2 (At_no hv.len hno), Or.inr ⟨hv, hno, rfl⟩⟩
  · exact Or.inl ⟨errL l, ptake_err (PCheck_any l) (by simp [h0]), rtake_err (RCheck_any l) (by simp [h0]), Or.inl ⟨h0, rfl⟩⟩

/-! ### Change -/
theorem CWP_any (l : List Pt) (pi pa pb : Int) : FnL Try.prog 38 1 [fldS 0 l, .pv (pointV pi pa pb)] [(0, 0, rowP l)] (.pv (.int .i64 (if errL l = 0 then (if okP pi pa pb then 0 else 8) else errL l))) 0 [] := by
  by_cases h0 : errL l = 0
  · have c1 := PCheck_any l
    rw [h0] at c1
    rw [if_pos h0]
    by_cases hp : okP pi pa pb = true
    · rw [if_pos hp]; exact cwp_ok c1 (Check02_ok hp)
    · rw [if_neg hp]; exact cwp_ok c1 (Check02_bad hp)
  · rw [if_neg h0]
    exact cwp_err (PCheck_any l) (by simp [h0])
theorem set_eq {l : List Pt} {k : Nat} (h : k < l.length) (p : Pt) : l.set k p = l.take k ++ p :: l.drop (k + 1) := by rw [List.set_eq_take_append_cons_drop, if_pos h]
theorem Change_any (l : List Pt) (pi pa pb : Int) : (∃ e, ErrIs 13 l (pointV pi pa pb) e ∧ ErrIs 27 l (pointV pi pa pb) e ∧ ((errL l ≠ 0 ∧ e = errL l) ∨ (Val l ∧ ¬ okP pi pa pb = true ∧ e = 8) ∨ (Val l ∧ okP pi pa pb = true ∧ (∀ p ∈ l, p.id ≠ pi) ∧ e = 6))) ∨
    (∃ k p, Val l ∧ okP pi pa pb = true ∧ l[k]? = some p ∧ p.id = pi ∧ ListIs 13 l (pointV pi pa pb) (l.set k ⟨pi, pa, pb⟩) ∧ ListIs 27 l (pointV pi pa pb) (l.set k ⟨pi, pa, pb⟩)) := by
  have cw := CWP_any l pi pa pb
  by_cases h0 : errL l = 0
  · have hv := err_val.1 h0
    have c2 := RCheck_any l
    rw [h0] at c2
    rw [if_pos h0] at cw
    by_cases hp : okP pi pa pb = true
    · rw [if_pos hp] at cw
      rcases place l hv pi with ⟨k, p, hk, he⟩ | ⟨hno, k, hkl, hlo, hhi⟩
      · have hl := get_lt hk
        have hn := hv.len
        refine Or.inr ⟨k, p, hv, hp, hk, he, ?_, rchange_yes c2 (RCheck02_ok hp) (At_yes hv hk he) (df (by omega)) (Twin_any (by omega)) (in_of hl) hl⟩
        rw [set_eq hl]
        exact pchange_yes (s1 := (k : Int)) (s2 := (k : Int) + 1) (s3 := (l.length : Int)) (by omega) (by omega) cw (find_yes hv hk he) (by rw [wrap_i64_in (by omega) (by omega)]; rfl) (wrap_sum (by omega) (by omega) (by omega)) (df (by omega)) (wrap_sum (by omega) (by omega) (by omega)) (df (by omega)) (wrap_sum (by omega) (by omega) (by omega)) (df (by omega)) (Grow_pos (by omega) (by omega)) (by omega) (by omega) (by omega)
      · exact Or.inl ⟨6, pchange_no cw (find_no hv hkl hlo hhi), rchange_no c2 (RCheck02_ok hp) (At_no hv.len hno), Or.inr (Or.inr ⟨hv, hp, hno, rfl⟩)⟩
    · rw [if_neg hp] at cw
      exact Or.inl ⟨8, pchange_err cw (by decide), rchange_bad c2 (RCheck02_bad hp), Or.inr (Or.inl ⟨hv, hp, rfl⟩)⟩
  · rw [if_neg h0] at cw
    exact Or.inl ⟨errL l, pchange_err cw (by simp [h0]), rchange_err (RCheck_any l) (by simp [h0]), Or.inl ⟨h0, rfl⟩⟩

/-! ### Put -/
abbrev puT (b : Bool) (k : Nat) : List (Nat × SV) := [(2, .pp 1 0), (3, .pp 2 0), (4, .pp 3 0), (7, .pp 4 0), (8, .pv (.bool b)), (9, .pv (.int .i64 (k : Int)))]
abbrev puH (l m : List Pt) (pi pa pb : Int) : List (Nat × Nat × SV) := [(1, 0, .ls 0 l.length), (0, 0, rowP l), (2, 0, .pv (.int .i64 pi)), (2, 1, .pv (.int .i64 pa)), (2, 2, .pv (.int .i64 pb)), (3, 0, .pv (.slice none 0 0)), (4, 0, .ls 5 m.length), (5, 0, rowP m)]
theorem RPut_ok {l : List Pt} (hv : Val l) (hn : l.length < 64) {pi pa pb : Int} (hp : okP pi pa pb = true) (hno : ∀ p ∈ l, p.id ≠ pi) {k : Nat} (hkl : k ≤ l.length) (hlo : ∀ (t : Nat) (p : Pt), t < k → l[t]? = some p → p.id < pi) (hhi : ∀ (t : Nat) (p : Pt), k ≤ t → l[t]? = some p → pi < p.id) :
    ListIs 25 l (pointV pi pa pb) (l.take k ++ ⟨pi, pa, pb⟩ :: l.drop k) := by
  have c2 := RCheck_any l
  rw [err_val.2 hv] at c2
  have a := At_no hv.len hno
  have h64 : ((l.length : Int) == 64) = false := by simp; omega
  have first : ∀ {e : Exit} {tm2 : List (Nat × SV)} {hp2 : List (Nat × Nat × SV)}, RunsL Try.prog 1 1 (loopOf Try.prog 25 0) 76 6 (puT false k) (puH l (l.take k) pi pa pb) e tm2 hp2 →
      RunsL Try.prog 1 1 (loopOf Try.prog 25 0) 76 6 (puT false 0) (puH l [] pi pa pb) e tm2 hp2 := by
    intro e tm2 hp2 last
    refine RunsL.rounds (puT false) (fun j => puH l (l.take j) pi pa pb) k 0 (Nat.zero_add _) (fun j _ hj r => ?_) last
    obtain ⟨q, hq⟩ := get_some (l := l) (k := j) (by omega)
    rw [take_succ hq] at r
    exact pu_bef hq (in_of (get_lt hq)) (by rw [List.length_take]; omega) (dt (by omega)) (df (by have := hlo j q hj hq; omega)) (i64s (get_lt hq) hv.len) r
  by_cases hk : k < l.length
  · obtain ⟨q, hq⟩ := get_some hk
    refine rput_ok_t c2 (RCheck02_ok hp) a h64 (first ?_)
    have hacc : ∀ j, (l.take k ++ [(⟨pi, pa, pb⟩ : Pt)] ++ (l.drop k).take j).length ≤ 65 := by intro j; simp only [List.length_append, List.length_take, List.length_drop, List.length_cons, List.length_nil]; omega
    have hrest : RunsL Try.prog 1 1 (loopOf Try.prog 25 0) 76 6 (puT true (k + 1)) (puH l (l.take k ++ [(⟨pi, pa, pb⟩ : Pt)] ++ [q]) pi pa pb) (.exit 0) [(3, .pp 2 0), (4, .pp 3 0), (7, .pp 4 0), (8, .pv (.bool true))] (puH l (l.take k ++ ⟨pi, pa, pb⟩ :: l.drop k) pi pa pb) := by
      have hq1 : (l.drop k).take 1 = [q] := by rw [List.drop_eq_getElem_cons hk]; have : l[k] = q := by rw [List.getElem?_eq_getElem hk] at hq; exact Option.some.inj hq
                                               rw [this]; rfl
      rw [← hq1]
      refine RunsL.rounds (puT true) (fun j => puH l (l.take k ++ [(⟨pi, pa, pb⟩ : Pt)] ++ (l.drop k).take (j - k)) pi pa pb) (N := l.length) (l.length - (k + 1)) (k + 1) (by omega) (fun j h1 hj r => ?_) ?_ |> fun h => by simpa using h
      · obtain ⟨y, hy⟩ := get_some hj
        have hd : (l.drop k)[j - k]? = some y := by rw [List.getElem?_drop, show k + (j - k) = j by omega]; exact hy
        rw [show j + 1 - k = (j - k) + 1 by omega, take_succ hd, ← List.append_assoc] at r
        exact pu_aft hy (in_of hj) (by have := hacc (j - k); omega) (dt (by omega)) (i64s hj hv.len) r
      · have : (l.drop k).take (l.length - k) = l.drop k := List.take_of_length_le (by simp)
        simp only [this]
        rw [show l.take k ++ [(⟨pi, pa, pb⟩ : Pt)] ++ l.drop k = l.take k ++ ⟨pi, pa, pb⟩ :: l.drop k by simp]
        exact pu_end_t (df (by omega))
    exact pu_ins hq (in_of hk) (by rw [List.length_take]; omega) (dt (by omega)) (dt (by have := hhi k q (Nat.le_refl _) hq; omega)) (by rw [List.length_take]; omega) (i64s hk hv.len) hrest
  · have hk' : k = l.length := by omega
    subst hk'
    rw [List.drop_length]
    refine rput_ok_f c2 (RCheck02_ok hp) a h64 (first (pu_end_f (df (by omega)))) (by rw [List.length_take]; omega)
theorem Put_any (l : List Pt) (pi pa pb : Int) : (∃ e, ErrIs 11 l (pointV pi pa pb) e ∧ ErrIs 25 l (pointV pi pa pb) e ∧ ((errL l ≠ 0 ∧ e = errL l) ∨ (Val l ∧ ¬ okP pi pa pb = true ∧ e = 8) ∨ (Val l ∧ okP pi pa pb = true ∧ (∃ p ∈ l, p.id = pi) ∧ e = 14) ∨ (Val l ∧ okP pi pa pb = true ∧ (∀ p ∈ l, p.id ≠ pi) ∧ l.length = 64 ∧ e = 18))) ∨
    (∃ k, Val l ∧ okP pi pa pb = true ∧ l.length < 64 ∧ (∀ p ∈ l, p.id ≠ pi) ∧ k ≤ l.length ∧ (∀ (t : Nat) (p : Pt), t < k → l[t]? = some p → p.id < pi) ∧ (∀ (t : Nat) (p : Pt), k ≤ t → l[t]? = some p → pi < p.id) ∧
      ListIs 11 l (pointV pi pa pb) (l.take k ++ ⟨pi, pa, pb⟩ :: l.drop k) ∧ ListIs 25 l (pointV pi pa pb) (l.take k ++ ⟨pi, pa, pb⟩ :: l.drop k)) := by
  have cw := CWP_any l pi pa pb
  by_cases h0 : errL l = 0
  · have hv := err_val.1 h0
    have c2 := RCheck_any l
    rw [h0] at c2
    rw [if_pos h0] at cw
    by_cases hp : okP pi pa pb = true
    · rw [if_pos hp] at cw
      rcases place l hv pi with ⟨k, p, hk, he⟩ | ⟨hno, k, hkl, hlo, hhi⟩
      · exact Or.inl ⟨14, pput_twice cw (find_yes hv hk he), rput_twice c2 (RCheck02_ok hp) (At_yes hv hk he) (dt (by omega)), Or.inr (Or.inr (Or.inl ⟨hv, hp, ⟨p, List.mem_of_getElem? hk, he⟩, rfl⟩))⟩
      · have hn := hv.len
        by_cases h64 : l.length = 64
        · exact Or.inl ⟨18, pput_full cw (find_no hv hkl hlo hhi) (by simp [h64]), rput_full c2 (RCheck02_ok hp) (At_no hv.len hno) (by simp [h64]), Or.inr (Or.inr (Or.inr ⟨hv, hp, hno, h64, rfl⟩))⟩
        · refine Or.inr ⟨k, hv, hp, by omega, hno, hkl, hlo, hhi, ?_, RPut_ok hv (by omega) hp hno hkl hlo hhi⟩
          exact pput_ok (s1 := (k : Int)) (s2 := (k : Int) + 1) (s3 := (l.length : Int) + 1) hkl cw (find_no hv hkl hlo hhi) (by simp; omega) (wrap_sum (by omega) (by omega) (by omega)) (df (by omega)) (wrap_sum (by omega) (by omega) (by omega)) (df (by omega)) (wrap_sum (by omega) (by omega) (by omega)) (df (by omega)) (Grow_pos (by omega) (by omega)) (by omega) (by omega) (by omega)
    · rw [if_neg hp] at cw
      exact Or.inl ⟨8, pput_err cw (by decide), rput_bad c2 (RCheck02_bad hp), Or.inr (Or.inl ⟨hv, hp, rfl⟩)⟩
  · rw [if_neg h0] at cw
    exact Or.inl ⟨errL l, pput_err cw (by simp [h0]), rput_err (RCheck_any l) (by simp [h0]), Or.inl ⟨h0, rfl⟩⟩

/-! ### Same -/
abbrev saT (k : Nat) : List (Nat × SV) := [(2, .pp 2 0), (3, .pp 3 0), (5, .pv (.int .i64 (k : Int)))]
theorem Same_ok {l : List Pt} (hn : l.length ≤ 1000000) : FnL Try.prog 29 2 [fldS 0 l, fldS 1 l] [(0, 0, rowP l), (1, 0, rowP l)] (.pv (.bool true)) 0 [] :=
  same_yes (by simp) (RunsL.rounds saT (fun _ => [(2, 0, .ls 0 l.length), (3, 0, .ls 1 l.length), (0, 0, rowP l), (1, 0, rowP l)]) l.length 0 (Nat.zero_add _)
    (fun k _ hk r => by
      obtain ⟨p, hp⟩ := get_some hk
      exact same_next hp (in_of hk) hp (in_of hk) (dt (by omega)) (by simp) (i64_succ (by omega)) r)
    (same_end (df (by omega))))
end Go.Proofs.Ytjnoheffodnobaa
