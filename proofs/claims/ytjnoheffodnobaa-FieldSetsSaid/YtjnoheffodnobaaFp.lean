/-
  FieldSets, for all arguments. Conditions: none.
-/
import Derived.Test.YtjnoheffodnobaaFo
import Derived.Test.YtjnoheffodnobaaFq
namespace Go.Proofs.Ytjnoheffodnobaa
open Go.RowKit

set_option linter.unusedSimpArgs false in
theorem Sets_any (l : List Pt) (pi pa pb id : Int) : FnL Try.prog 4 1 [fldS 0 l, .pv (pointV pi pa pb), .pv (.int .i64 id)] [(0, 0, rowP l)] (.pv (.bool true)) 0 [] := by
  rcases Great_any l with ⟨_, hg⟩ | ⟨hl, hg⟩
  · exact sets_great hg
  have hn : l.length ≤ 1000000 := by omega
  have ht := Twin_any hn
  obtain ⟨fp, e1, f1, f2, _⟩ := Find_any l id
  have c1 := PCheck_any l
  have c2 := RCheck_any l
  have sm := Same_ok hn
  rcases Put_any l pi pa pb with ⟨_, put0, put1, _⟩ | ⟨k, hv, _, h64, _, hk, _, _, put0, put1⟩
  ·
    rcases Take_any l id with ⟨_, take0, take1, _⟩ | ⟨k, p, hv, hk, _, take0, take1⟩
    ·
      rcases Change_any l pi pa pb with ⟨_, chg0, chg1, _⟩ | ⟨k, p, hv, _, hk, _, chg0, chg1⟩
      ·
        exact sets_nnn hg ht f1 f2 put0 put1 take0 take1 chg0 chg1 c1 c2 sm (setsl_nnn hn l.length 0 l rfl (Nat.zero_add _))
      ·
        have s_chg := Same_ok (l := l.set k ⟨pi, pa, pb⟩) (by have := hv.len; simp only [List.length_append, List.length_cons, List.length_take, List.length_drop, List.length_set]; omega)
        exact sets_nny hg ht f1 f2 put0 put1 take0 take1 chg0 chg1 c1 c2 sm (setsl_nny hn l.length 0 l rfl (Nat.zero_add _)) s_chg
    ·
      have s_take := Same_ok (l := l.take k ++ l.drop (k + 1)) (by have := hv.len; simp only [List.length_append, List.length_cons, List.length_take, List.length_drop, List.length_set]; omega)
      rcases Change_any l pi pa pb with ⟨_, chg0, chg1, _⟩ | ⟨k, p, hv, _, hk, _, chg0, chg1⟩
      ·
        exact sets_nyn hg ht f1 f2 put0 put1 take0 take1 chg0 chg1 c1 c2 sm (setsl_nyn hn l.length 0 l rfl (Nat.zero_add _)) s_take
      ·
        have s_chg := Same_ok (l := l.set k ⟨pi, pa, pb⟩) (by have := hv.len; simp only [List.length_append, List.length_cons, List.length_take, List.length_drop, List.length_set]; omega)
        exact sets_nyy hg ht f1 f2 put0 put1 take0 take1 chg0 chg1 c1 c2 sm (setsl_nyy hn l.length 0 l rfl (Nat.zero_add _)) s_take s_chg
  ·
    have s_put := Same_ok (l := l.take k ++ ⟨pi, pa, pb⟩ :: l.drop k) (by have := hv.len; simp only [List.length_append, List.length_cons, List.length_take, List.length_drop, List.length_set]; omega)
    rcases Take_any l id with ⟨_, take0, take1, _⟩ | ⟨k, p, hv, hk, _, take0, take1⟩
    ·
      rcases Change_any l pi pa pb with ⟨_, chg0, chg1, _⟩ | ⟨k, p, hv, _, hk, _, chg0, chg1⟩
      ·
        exact sets_ynn hg ht f1 f2 put0 put1 take0 take1 chg0 chg1 c1 c2 sm (setsl_ynn hn l.length 0 l rfl (Nat.zero_add _)) s_put
      ·
        have s_chg := Same_ok (l := l.set k ⟨pi, pa, pb⟩) (by have := hv.len; simp only [List.length_append, List.length_cons, List.length_take, List.length_drop, List.length_set]; omega)
        exact sets_yny hg ht f1 f2 put0 put1 take0 take1 chg0 chg1 c1 c2 sm (setsl_yny hn l.length 0 l rfl (Nat.zero_add _)) s_put s_chg
    ·
      have s_take := Same_ok (l := l.take k ++ l.drop (k + 1)) (by have := hv.len; simp only [List.length_append, List.length_cons, List.length_take, List.length_drop, List.length_set]; omega)
      rcases Change_any l pi pa pb with ⟨_, chg0, chg1, _⟩ | ⟨k, p, hv, _, hk, _, chg0, chg1⟩
      ·
        exact sets_yyn hg ht f1 f2 put0 put1 take0 take1 chg0 chg1 c1 c2 sm (setsl_yyn hn l.length 0 l rfl (Nat.zero_add _)) s_put s_take
      ·
        have s_chg := Same_ok (l := l.set k ⟨pi, pa, pb⟩) (by have := hv.len; simp only [List.length_append, List.length_cons, List.length_take, List.length_drop, List.length_set]; omega)
        exact sets_yyy hg ht f1 f2 put0 put1 take0 take1 chg0 chg1 c1 c2 sm (setsl_yyy hn l.length 0 l rfl (Nat.zero_add _)) s_put s_take s_chg
theorem sets_walk {u : Value} {l : List Pt} {W : World} (hr : Rd W 3 u l.length (ptsV l)) {pi pa pb id : Int} (_ : -9223372036854775808 ≤ pi ∧ pi ≤ 9223372036854775807) (_ : -9223372036854775808 ≤ pa ∧ pa ≤ 9223372036854775807) (_ : -9223372036854775808 ≤ pb ∧ pb ≤ 9223372036854775807) (_ : -9223372036854775808 ≤ id ∧ id ≤ 9223372036854775807) :
    Calls Try.prog 4 #[.agg #[u], pointV pi pa pb, .int .i64 id] W fun e W' => e = .returned (.bool true) ∧ Gr W W' :=
  fld_run (vs := [pointV pi pa pb, .int .i64 id]) (Sets_any l pi pa pb id) hr
end Go.Proofs.Ytjnoheffodnobaa
