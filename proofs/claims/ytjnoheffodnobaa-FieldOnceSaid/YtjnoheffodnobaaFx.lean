/-
  FieldBack, for all arguments. Conditions: none.
-/
import Derived.Test.YtjnoheffodnobaaFw
namespace Go.Proofs.Ytjnoheffodnobaa
open Go.RowKit

theorem eqp_self (a b c : Int) : (a == a && (b == b && (c == c && true))) = true := by simp
theorem up_iff {l : List Pt} : Up l ↔ l.Pairwise (fun p q => p.id < q.id) := by
  constructor
  · intro h
    rw [List.pairwise_iff_getElem]
    intro i j hi hj hij
    exact h.mono hij (List.getElem?_eq_getElem hi) (List.getElem?_eq_getElem hj)
  · intro h k p q h1 h2
    rw [List.pairwise_iff_getElem] at h
    obtain ⟨hk, rfl⟩ := List.getElem?_eq_some_iff.1 h1
    obtain ⟨hk2, rfl⟩ := List.getElem?_eq_some_iff.1 h2
    exact h k (k + 1) hk hk2 (by omega)
theorem split_at {l : List Pt} {k : Nat} {p : Pt} (hk : l[k]? = some p) : l = l.take k ++ p :: l.drop (k + 1) := by
  have hl := get_lt hk
  conv => lhs; rw [← List.take_append_drop k l]
  rw [List.drop_eq_getElem_cons hl]
  have : l[k] = p := by rw [List.getElem?_eq_getElem hl] at hk; exact Option.some.inj hk
  rw [this]
theorem val_set {l : List Pt} (hv : Val l) {k : Nat} {p : Pt} (hk : l[k]? = some p) {pi pa pb : Int} (he : p.id = pi) (hp : okP pi pa pb = true) : Val (l.set k ⟨pi, pa, pb⟩) := by
  have hl := get_lt hk
  refine ⟨by rw [List.length_set]; exact hv.len, fun q hq => ?_, ?_⟩
  · rcases List.mem_or_eq_of_mem_set hq with h | rfl
    · exact hv.ok q h
    · exact hp
  · rw [set_eq hl, up_iff]
    have h := up_iff.1 hv.up
    rw [split_at hk, List.pairwise_append, List.pairwise_cons] at h
    rw [List.pairwise_append, List.pairwise_cons]
    refine ⟨h.1, ⟨fun q hq => by have := h.2.1.1 q hq; simp only; omega, h.2.1.2⟩, fun a ha b hb => ?_⟩
    rcases List.mem_cons.1 hb with rfl | hb
    · have := h.2.2 a ha p (List.mem_cons_self ..); simp only; omega
    · exact h.2.2 a ha b (List.mem_cons_of_mem _ hb)
theorem val_ins {l : List Pt} (hv : Val l) {k : Nat} (hn : l.length < 64) {pi pa pb : Int} (hp : okP pi pa pb = true) (hkl : k ≤ l.length) (hlo : ∀ (t : Nat) (p : Pt), t < k → l[t]? = some p → p.id < pi) (hhi : ∀ (t : Nat) (p : Pt), k ≤ t → l[t]? = some p → pi < p.id) :
    Val (l.take k ++ ⟨pi, pa, pb⟩ :: l.drop k) := by
  refine ⟨by simp only [List.length_append, List.length_cons, List.length_take, List.length_drop]; omega, fun q hq => ?_, ?_⟩
  · rcases List.mem_append.1 hq with h | h
    · exact hv.ok q (List.mem_of_mem_take h)
    · rcases List.mem_cons.1 h with rfl | h
      · exact hp
      · exact hv.ok q (List.mem_of_mem_drop h)
  · rw [up_iff, List.pairwise_append, List.pairwise_cons]
    have h := up_iff.1 hv.up
    rw [← List.take_append_drop k l, List.pairwise_append] at h
    refine ⟨h.1, ⟨fun q hq => ?_, h.2.1⟩, fun a ha b hb => ?_⟩
    · obtain ⟨j, hj, rfl⟩ := List.getElem_of_mem hq
      rw [List.getElem_drop]
      exact hhi (k + j) _ (by omega) (List.getElem?_eq_getElem _)
    · rcases List.mem_cons.1 hb with rfl | hb
      · obtain ⟨j, hj, rfl⟩ := List.getElem_of_mem ha
        have hjk : j < k := by rw [List.length_take] at hj; omega
        rw [List.getElem_take]
        exact hlo j _ hjk (List.getElem?_eq_getElem _)
      · exact h.2.2 a ha b hb
theorem idx_uniq {l : List Pt} (hv : Val l) {i j : Nat} {p q : Pt} (h1 : l[i]? = some p) (h2 : l[j]? = some q) (e : p.id = q.id) : i = j := by
  rcases Nat.lt_trichotomy i j with h | h | h
  · have := hv.up.mono h h1 h2; omega
  · exact h
  · have := hv.up.mono h h2 h1; omega
theorem FindP_yes {l : List Pt} (hv : Val l) {k : Nat} {p : Pt} {id : Int} (hk : l[k]? = some p) (he : p.id = id) : FindIs 10 l id p 0 := by
  have c := PCheck_any l
  rw [err_val.2 hv] at c
  exact pfind_yes hk (in_of (get_lt hk)) c (find_yes hv hk he)
theorem FindP_no {l : List Pt} (hv : Val l) {id : Int} (hno : ∀ p ∈ l, p.id ≠ id) : FindIs 10 l id ⟨0, 0, 0⟩ 6 := by
  have c := PCheck_any l
  rw [err_val.2 hv] at c
  rcases place l hv id with ⟨k, p, hk, he⟩ | ⟨_, k, hkl, hlo, hhi⟩
  · exact (hno p (List.mem_of_getElem? hk) he).elim
  · exact pfind_no c (find_no hv hkl hlo hhi)

set_option maxRecDepth 100000 in
theorem back_great {l : List Pt} {pi pa pb : Int} (hg : FnL Try.prog 22 1 [fldS 0 l] [(0, 0, rowP l)] (.pv (.bool true)) 0 []) :
    FnL Try.prog 7 1 [fldS 0 l, .pv (pointV pi pa pb)] [(0, 0, rowP l)] (.pv (.bool true)) 0 [] :=
  fnl_run 300 [] [.f [0] [fldS 0 l] [(0, 0, rowP l)] (.pv (.bool true)) 0 [], .f [] [] [] (.pv (.bool true)) 0 []]
     True.intro (And.intro hg (And.intro (Eq.refl (List.map (SV.ren (renU [0] 3)) [fldS 0 l])) (And.intro (reflH (renU [0] 3) [(0, 0, rowP l)]) (And.intro alive_path (And.intro (Eq.refl (List.map (SV.ren (renU [] 3)) [])) (And.intro (reflH (renU [] 3) []) True.intro)))))) (by kernel_rfl)

set_option maxRecDepth 100000 in
theorem back_err {l : List Pt} {ec : Int} {pi pa pb : Int} (hg : FnL Try.prog 22 1 [fldS 0 l] [(0, 0, rowP l)] (.pv (.bool false)) 0 []) (hc : FnL Try.prog 28 1 [fldS 0 l] [(0, 0, rowP l)] (.pv (.int .i64 (ec))) 0 []) (he : (ec != 0) = true) :
    FnL Try.prog 7 1 [fldS 0 l, .pv (pointV pi pa pb)] [(0, 0, rowP l)] (.pv (.bool true)) 0 [] :=
  fnl_run 300 [] [.f [0] [fldS 0 l] [(0, 0, rowP l)] (.pv (.bool false)) 0 [], .f [0] [fldS 0 l] [(0, 0, rowP l)] (.pv (.int .i64 (ec))) 0 [], .t true, .f [] [] [] (.pv (.bool true)) 0 []]
     True.intro (And.intro hg (And.intro (Eq.refl (List.map (SV.ren (renU [0] 3)) [fldS 0 l])) (And.intro (reflH (renU [0] 3) [(0, 0, rowP l)]) (And.intro hc (And.intro (Eq.refl (List.map (SV.ren (renU [0] 3)) [fldS 0 l])) (And.intro (reflH (renU [0] 3) [(0, 0, rowP l)]) (And.intro he (And.intro alive_path (And.intro (Eq.refl (List.map (SV.ren (renU [] 3)) [])) (And.intro (reflH (renU [] 3) []) True.intro)))))))))) (by kernel_rfl)

set_option maxRecDepth 100000 in
theorem back_bad {l : List Pt} {pi pa pb : Int} (hg : FnL Try.prog 22 1 [fldS 0 l] [(0, 0, rowP l)] (.pv (.bool false)) 0 []) (hc : FnL Try.prog 28 1 [fldS 0 l] [(0, 0, rowP l)] (.pv (.int .i64 (0))) 0 []) (hp : Pure Try.prog 36 #[pointV pi pa pb] (.int .i64 (8))) :
    FnL Try.prog 7 1 [fldS 0 l, .pv (pointV pi pa pb)] [(0, 0, rowP l)] (.pv (.bool true)) 0 [] :=
  fnl_run 300 [] [.f [0] [fldS 0 l] [(0, 0, rowP l)] (.pv (.bool false)) 0 [], .f [0] [fldS 0 l] [(0, 0, rowP l)] (.pv (.int .i64 (0))) 0 [], .k, .r (.int .i64 (8)), .k, .f [] [] [] (.pv (.bool true)) 0 []]
     True.intro (And.intro hg (And.intro (Eq.refl (List.map (SV.ren (renU [0] 3)) [fldS 0 l])) (And.intro (reflH (renU [0] 3) [(0, 0, rowP l)]) (And.intro hc (And.intro (Eq.refl (List.map (SV.ren (renU [0] 3)) [fldS 0 l])) (And.intro (reflH (renU [0] 3) [(0, 0, rowP l)]) (And.intro hp (And.intro alive_path (And.intro (Eq.refl (List.map (SV.ren (renU [] 3)) [])) (And.intro (reflH (renU [] 3) []) True.intro)))))))))) (by kernel_rfl)

set_option maxRecDepth 100000 in
theorem back_chg {l : List Pt} {m b : List Pt} {p : Pt} {pi pa pb : Int} (hg : FnL Try.prog 22 1 [fldS 0 l] [(0, 0, rowP l)] (.pv (.bool false)) 0 []) (hc : FnL Try.prog 28 1 [fldS 0 l] [(0, 0, rowP l)] (.pv (.int .i64 (0))) 0 []) (hp : Pure Try.prog 36 #[pointV pi pa pb] (.int .i64 (0))) (f1 : FnL Try.prog 10 1 [fldS 0 l, .pv (.int .i64 (pi))] [(0, 0, rowP l)] (.pv (.tuple #[ptV p, .int .i64 (0)])) 0 []) (ch : FnL Try.prog 13 1 [fldS 0 l, .pv (pointV pi pa pb)] [(0, 0, rowP l)] (.tu [.ag [.ls 1 (m).length], .one (.pv (.int .i64 0))]) 1 [(1, 0, rowP m)]) (f2 : FnL Try.prog 10 1 [fldS 0 m, .pv (.int .i64 (pi))] [(0, 0, rowP m)] (.pv (.tuple #[pointV pi pa pb, .int .i64 (0)])) 0 []) (cb : FnL Try.prog 13 1 [fldS 0 m, .pv (ptV p)] [(0, 0, rowP m)] (.tu [.ag [.ls 1 (b).length], .one (.pv (.int .i64 0))]) 1 [(1, 0, rowP b)]) (pe : FnL Try.prog 11 1 [fldS 0 l, .pv (pointV pi pa pb)] [(0, 0, rowP l)] (.pv (.tuple #[.agg #[.slice none 0 0], .int .i64 (14)])) 0 []) (sm : FnL Try.prog 29 2 [fldS 0 b, fldS 1 l] [(0, 0, rowP b), (1, 0, rowP l)] (.pv (.bool true)) 0 []) (hml : ((m.length : Int) == (l.length : Int)) = true) :
    FnL Try.prog 7 1 [fldS 0 l, .pv (pointV pi pa pb)] [(0, 0, rowP l)] (.pv (.bool true)) 0 [] :=
  fnl_run 400 [] [.f [0] [fldS 0 l] [(0, 0, rowP l)] (.pv (.bool false)) 0 [], .f [0] [fldS 0 l] [(0, 0, rowP l)] (.pv (.int .i64 (0))) 0 [], .k, .r (.int .i64 (0)), .k, .f [0] [fldS 0 l, .pv (.int .i64 (pi))] [(0, 0, rowP l)] (.pv (.tuple #[ptV p, .int .i64 (0)])) 0 [], .k, .f [0] [fldS 0 l, .pv (pointV pi pa pb)] [(0, 0, rowP l)] (.tu [.ag [.ls 1 (m).length], .one (.pv (.int .i64 0))]) 1 [(1, 0, rowP m)], .f [4] [fldS 0 m, .pv (.int .i64 (pi))] [(0, 0, rowP m)] (.pv (.tuple #[pointV pi pa pb, .int .i64 (0)])) 0 [], .f [4] [fldS 0 m, .pv (ptV p)] [(0, 0, rowP m)] (.tu [.ag [.ls 1 (b).length], .one (.pv (.int .i64 0))]) 1 [(1, 0, rowP b)], .f [0] [fldS 0 l, .pv (pointV pi pa pb)] [(0, 0, rowP l)] (.pv (.tuple #[.agg #[.slice none 0 0], .int .i64 (14)])) 0 [], .k, .k, .t true, .k, .f [7,0] [fldS 0 b, fldS 1 l] [(0, 0, rowP b), (1, 0, rowP l)] (.pv (.bool true)) 0 [], .k, .t true, .f [] [] [] (.pv (.bool true)) 0 []]
     True.intro (And.intro hg (And.intro (Eq.refl (List.map (SV.ren (renU [0] 3)) [fldS 0 l])) (And.intro (reflH (renU [0] 3) [(0, 0, rowP l)]) (And.intro hc (And.intro (Eq.refl (List.map (SV.ren (renU [0] 3)) [fldS 0 l])) (And.intro (reflH (renU [0] 3) [(0, 0, rowP l)]) (And.intro hp (And.intro f1 (And.intro (Eq.refl (List.map (SV.ren (renU [0] 3)) [fldS 0 l, .pv (.int .i64 (pi))])) (And.intro (reflH (renU [0] 3) [(0, 0, rowP l)]) (And.intro ch (And.intro (Eq.refl (List.map (SV.ren (renU [0] 4)) [fldS 0 l, .pv (pointV pi pa pb)])) (And.intro (reflH (renU [0] 4) [(0, 0, rowP l)]) (And.intro f2 (And.intro (Eq.refl (List.map (SV.ren (renU [4] 6)) [fldS 0 m, .pv (.int .i64 (pi))])) (And.intro (reflH (renU [4] 6) [(0, 0, rowP m)]) (And.intro cb (And.intro (Eq.refl (List.map (SV.ren (renU [4] 7)) [fldS 0 m, .pv (ptV p)])) (And.intro (reflH (renU [4] 7) [(0, 0, rowP m)]) (And.intro pe (And.intro (Eq.refl (List.map (SV.ren (renU [0] 9)) [fldS 0 l, .pv (pointV pi pa pb)])) (And.intro (reflH (renU [0] 9) [(0, 0, rowP l)]) (And.intro (eqp_self pi pa pb) (And.intro sm (And.intro (Eq.refl (List.map (SV.ren (renU [7,0] 10)) [fldS 0 b, fldS 1 l])) (And.intro (reflH (renU [7,0] 10) [(0, 0, rowP b), (1, 0, rowP l)]) (And.intro hml (And.intro alive_path (And.intro (Eq.refl (List.map (SV.ren (renU [] 10)) [])) (And.intro (reflH (renU [] 10) []) True.intro)))))))))))))))))))))))))))))) (by kernel_rfl)

set_option maxRecDepth 100000 in
theorem back_full {l : List Pt} {fp : Pt} {pi pa pb : Int} (hg : FnL Try.prog 22 1 [fldS 0 l] [(0, 0, rowP l)] (.pv (.bool false)) 0 []) (hc : FnL Try.prog 28 1 [fldS 0 l] [(0, 0, rowP l)] (.pv (.int .i64 (0))) 0 []) (hp : Pure Try.prog 36 #[pointV pi pa pb] (.int .i64 (0))) (f1 : FnL Try.prog 10 1 [fldS 0 l, .pv (.int .i64 (pi))] [(0, 0, rowP l)] (.pv (.tuple #[ptV fp, .int .i64 (6)])) 0 []) (pe : FnL Try.prog 11 1 [fldS 0 l, .pv (pointV pi pa pb)] [(0, 0, rowP l)] (.pv (.tuple #[.agg #[.slice none 0 0], .int .i64 (18)])) 0 []) (h64 : ((l.length : Int) == 64) = true) :
    FnL Try.prog 7 1 [fldS 0 l, .pv (pointV pi pa pb)] [(0, 0, rowP l)] (.pv (.bool true)) 0 [] :=
  fnl_run 400 [] [.f [0] [fldS 0 l] [(0, 0, rowP l)] (.pv (.bool false)) 0 [], .f [0] [fldS 0 l] [(0, 0, rowP l)] (.pv (.int .i64 (0))) 0 [], .k, .r (.int .i64 (0)), .k, .f [0] [fldS 0 l, .pv (.int .i64 (pi))] [(0, 0, rowP l)] (.pv (.tuple #[ptV fp, .int .i64 (6)])) 0 [], .k, .f [0] [fldS 0 l, .pv (pointV pi pa pb)] [(0, 0, rowP l)] (.pv (.tuple #[.agg #[.slice none 0 0], .int .i64 (18)])) 0 [], .k, .k, .k, .t true, .f [] [] [] (.pv (.bool true)) 0 []]
     True.intro (And.intro hg (And.intro (Eq.refl (List.map (SV.ren (renU [0] 3)) [fldS 0 l])) (And.intro (reflH (renU [0] 3) [(0, 0, rowP l)]) (And.intro hc (And.intro (Eq.refl (List.map (SV.ren (renU [0] 3)) [fldS 0 l])) (And.intro (reflH (renU [0] 3) [(0, 0, rowP l)]) (And.intro hp (And.intro f1 (And.intro (Eq.refl (List.map (SV.ren (renU [0] 3)) [fldS 0 l, .pv (.int .i64 (pi))])) (And.intro (reflH (renU [0] 3) [(0, 0, rowP l)]) (And.intro pe (And.intro (Eq.refl (List.map (SV.ren (renU [0] 4)) [fldS 0 l, .pv (pointV pi pa pb)])) (And.intro (reflH (renU [0] 4) [(0, 0, rowP l)]) (And.intro h64 (And.intro alive_path (And.intro (Eq.refl (List.map (SV.ren (renU [] 5)) [])) (And.intro (reflH (renU [] 5) []) True.intro))))))))))))))))) (by kernel_rfl)

set_option maxRecDepth 100000 in
theorem back_put {l : List Pt} {m b : List Pt} {fp : Pt} {pi pa pb : Int} (hg : FnL Try.prog 22 1 [fldS 0 l] [(0, 0, rowP l)] (.pv (.bool false)) 0 []) (hc : FnL Try.prog 28 1 [fldS 0 l] [(0, 0, rowP l)] (.pv (.int .i64 (0))) 0 []) (hp : Pure Try.prog 36 #[pointV pi pa pb] (.int .i64 (0))) (f1 : FnL Try.prog 10 1 [fldS 0 l, .pv (.int .i64 (pi))] [(0, 0, rowP l)] (.pv (.tuple #[ptV fp, .int .i64 (6)])) 0 []) (pu : FnL Try.prog 11 1 [fldS 0 l, .pv (pointV pi pa pb)] [(0, 0, rowP l)] (.tu [.ag [.ls 1 (m).length], .one (.pv (.int .i64 0))]) 1 [(1, 0, rowP m)]) (f2 : FnL Try.prog 10 1 [fldS 0 m, .pv (.int .i64 (pi))] [(0, 0, rowP m)] (.pv (.tuple #[pointV pi pa pb, .int .i64 (0)])) 0 []) (tb : FnL Try.prog 12 1 [fldS 0 m, .pv (.int .i64 pi)] [(0, 0, rowP m)] (.tu [.ag [.ls 1 (b).length], .one (.pv (.int .i64 0))]) 1 [(1, 0, rowP b)]) (te : FnL Try.prog 12 1 [fldS 0 l, .pv (.int .i64 pi)] [(0, 0, rowP l)] (.pv (.tuple #[.agg #[.slice none 0 0], .int .i64 (6)])) 0 []) (sm : FnL Try.prog 29 2 [fldS 0 b, fldS 1 l] [(0, 0, rowP b), (1, 0, rowP l)] (.pv (.bool true)) 0 []) (cm : FnL Try.prog 17 1 [fldS 0 m] [(0, 0, rowP m)] (.pv (.int .i64 (0))) 0 []) (ha : Value.int .i64 (IntKind.i64.wrap ((l.length : Int) + 1)) = .int .i64 (((l.length + 1 : Nat) : Int))) (hml : ((m.length : Int) == ((l.length + 1 : Nat) : Int)) = true) :
    FnL Try.prog 7 1 [fldS 0 l, .pv (pointV pi pa pb)] [(0, 0, rowP l)] (.pv (.bool true)) 0 [] :=
  fnl_run 400 [] [.f [0] [fldS 0 l] [(0, 0, rowP l)] (.pv (.bool false)) 0 [], .f [0] [fldS 0 l] [(0, 0, rowP l)] (.pv (.int .i64 (0))) 0 [], .k, .r (.int .i64 (0)), .k, .f [0] [fldS 0 l, .pv (.int .i64 (pi))] [(0, 0, rowP l)] (.pv (.tuple #[ptV fp, .int .i64 (6)])) 0 [], .k, .f [0] [fldS 0 l, .pv (pointV pi pa pb)] [(0, 0, rowP l)] (.tu [.ag [.ls 1 (m).length], .one (.pv (.int .i64 0))]) 1 [(1, 0, rowP m)], .k, .f [4] [fldS 0 m, .pv (.int .i64 (pi))] [(0, 0, rowP m)] (.pv (.tuple #[pointV pi pa pb, .int .i64 (0)])) 0 [], .f [4] [fldS 0 m, .pv (.int .i64 pi)] [(0, 0, rowP m)] (.tu [.ag [.ls 1 (b).length], .one (.pv (.int .i64 0))]) 1 [(1, 0, rowP b)], .f [0] [fldS 0 l, .pv (.int .i64 pi)] [(0, 0, rowP l)] (.pv (.tuple #[.agg #[.slice none 0 0], .int .i64 (6)])) 0 [], .k, .k, .t true, .k, .f [7,0] [fldS 0 b, fldS 1 l] [(0, 0, rowP b), (1, 0, rowP l)] (.pv (.bool true)) 0 [], .k, .f [4] [fldS 0 m] [(0, 0, rowP m)] (.pv (.int .i64 (0))) 0 [], .k, .r (.int .i64 (((l.length + 1 : Nat) : Int))), .t true, .f [] [] [] (.pv (.bool true)) 0 []]
     True.intro (And.intro hg (And.intro (Eq.refl (List.map (SV.ren (renU [0] 3)) [fldS 0 l])) (And.intro (reflH (renU [0] 3) [(0, 0, rowP l)]) (And.intro hc (And.intro (Eq.refl (List.map (SV.ren (renU [0] 3)) [fldS 0 l])) (And.intro (reflH (renU [0] 3) [(0, 0, rowP l)]) (And.intro hp (And.intro f1 (And.intro (Eq.refl (List.map (SV.ren (renU [0] 3)) [fldS 0 l, .pv (.int .i64 (pi))])) (And.intro (reflH (renU [0] 3) [(0, 0, rowP l)]) (And.intro pu (And.intro (Eq.refl (List.map (SV.ren (renU [0] 4)) [fldS 0 l, .pv (pointV pi pa pb)])) (And.intro (reflH (renU [0] 4) [(0, 0, rowP l)]) (And.intro f2 (And.intro (Eq.refl (List.map (SV.ren (renU [4] 6)) [fldS 0 m, .pv (.int .i64 (pi))])) (And.intro (reflH (renU [4] 6) [(0, 0, rowP m)]) (And.intro tb (And.intro (Eq.refl (List.map (SV.ren (renU [4] 7)) [fldS 0 m, .pv (.int .i64 pi)])) (And.intro (reflH (renU [4] 7) [(0, 0, rowP m)]) (And.intro te (And.intro (Eq.refl (List.map (SV.ren (renU [0] 9)) [fldS 0 l, .pv (.int .i64 pi)])) (And.intro (reflH (renU [0] 9) [(0, 0, rowP l)]) (And.intro (eqp_self pi pa pb) (And.intro sm (And.intro (Eq.refl (List.map (SV.ren (renU [7,0] 10)) [fldS 0 b, fldS 1 l])) (And.intro (reflH (renU [7,0] 10) [(0, 0, rowP b), (1, 0, rowP l)]) (And.intro cm (And.intro (Eq.refl (List.map (SV.ren (renU [4] 10)) [fldS 0 m])) (And.intro (reflH (renU [4] 10) [(0, 0, rowP m)]) (And.intro ha (And.intro hml (And.intro alive_path (And.intro (Eq.refl (List.map (SV.ren (renU [] 10)) [])) (And.intro (reflH (renU [] 10) []) True.intro)))))))))))))))))))))))))))))))))) (by kernel_rfl)

theorem Back_any (l : List Pt) (pi pa pb : Int) : FnL Try.prog 7 1 [fldS 0 l, .pv (pointV pi pa pb)] [(0, 0, rowP l)] (.pv (.bool true)) 0 [] := by
  rcases Great_any l with ⟨_, hg⟩ | ⟨hl, hg⟩
  · exact back_great hg
  have hx : l.length ≤ 1000000 := by omega
  have hc := RCheck_any l
  by_cases h0 : errL l = 0
  rotate_left
  · exact back_err hg hc (by simp [h0])
  have hv := err_val.1 h0
  rw [h0] at hc
  by_cases hp : okP pi pa pb = true
  rotate_left
  · exact back_bad hg hc (RCheck02_bad hp)
  have hq := RCheck02_ok hp
  rcases Change_any l pi pa pb with ⟨_, _, _, ⟨h, _⟩ | ⟨_, h, _⟩ | ⟨_, _, hno, _⟩⟩ | ⟨k, p, _, _, hk, he, ch, _⟩
  · exact (h h0).elim
  · exact (h hp).elim
  · have f1 := FindP_no hv hno
    rcases Put_any l pi pa pb with ⟨_, pe, _, ⟨h, _⟩ | ⟨_, h, _⟩ | ⟨_, _, ⟨p, hpm, hpi⟩, _⟩ | ⟨_, _, _, h64, rfl⟩⟩ | ⟨k, _, _, h64, _, hkl, hlo, hhi, pu, _⟩
    · exact (h h0).elim
    · exact (h hp).elim
    · exact (hno p hpm hpi).elim
    · exact back_full hg hc hq f1 pe (by simp [h64])
    · have hm := val_ins hv h64 hp hkl hlo hhi
      have hlen : (l.take k).length = k := by rw [List.length_take]; omega
      have hmk : (l.take k ++ (⟨pi, pa, pb⟩ : Pt) :: l.drop k)[k]? = some ⟨pi, pa, pb⟩ := by
        rw [List.getElem?_append_right (by omega), hlen, Nat.sub_self]; rfl
      have cm := PCheck_any (l.take k ++ (⟨pi, pa, pb⟩ : Pt) :: l.drop k)
      rw [err_val.2 hm] at cm
      rcases Take_any l pi with ⟨_, te, _, ⟨h, _⟩ | ⟨_, _, rfl⟩⟩ | ⟨k2, p2, _, hk2, he2, _⟩
      · exact (h h0).elim
      · rcases Take_any (l.take k ++ (⟨pi, pa, pb⟩ : Pt) :: l.drop k) pi with ⟨_, _, _, ⟨h, _⟩ | ⟨_, h, _⟩⟩ | ⟨k2, p2, _, hk2, he2, tb, _⟩
        · exact (h (err_val.2 hm)).elim
        · exact (h _ (List.mem_of_getElem? hmk) rfl).elim
        · have : k2 = k := idx_uniq hm hk2 hmk he2
          subst this
          have eb : (l.take k2 ++ (⟨pi, pa, pb⟩ : Pt) :: l.drop k2).take k2 ++ (l.take k2 ++ (⟨pi, pa, pb⟩ : Pt) :: l.drop k2).drop (k2 + 1) = l := by
            rw [List.take_append_of_le_length (by omega), List.take_of_length_le (by omega), List.drop_append, List.drop_of_length_le (by omega), hlen, show k2 + 1 - k2 = 1 by omega]
            simp
          rw [eb] at tb
          exact back_put hg hc hq f1 pu (FindP_yes hm hmk rfl) tb te (Same_ok hx) cm (i64_succ hx) (by simp only [List.length_append, List.length_cons, List.length_take, List.length_drop, beq_iff_eq]; omega)
      · exact (hno p2 (List.mem_of_getElem? hk2) he2).elim
  · have hm := val_set hv hk he hp
    have hkl := get_lt hk
    have hmk : (l.set k ⟨pi, pa, pb⟩)[k]? = some ⟨pi, pa, pb⟩ := List.getElem?_set_self hkl
    rcases Put_any l pi pa pb with ⟨_, pe, _, ⟨h, _⟩ | ⟨_, h, _⟩ | ⟨_, _, _, rfl⟩ | ⟨_, _, hno, _⟩⟩ | ⟨_, _, _, _, hno, _⟩
    · exact (h h0).elim
    · exact (h hp).elim
    · rcases Change_any (l.set k ⟨pi, pa, pb⟩) p.id p.a p.b with ⟨_, _, _, ⟨h, _⟩ | ⟨_, h, _⟩ | ⟨_, _, hno, _⟩⟩ | ⟨k2, p2, _, _, hk2, he2, cb, _⟩
      · exact (h (err_val.2 hm)).elim
      · exact (h (hv.ok p (List.mem_of_getElem? hk))).elim
      · exact (hno _ (List.mem_of_getElem? hmk) he.symm).elim
      · have : k2 = k := idx_uniq hm hk2 hmk (he2.trans he)
        subst this
        have eb : (l.set k2 (⟨pi, pa, pb⟩ : Pt)).set k2 ⟨p.id, p.a, p.b⟩ = l := by
          rw [List.set_set]
          apply List.ext_getElem?
          intro j
          by_cases e : k2 = j
          · subst e; rw [List.getElem?_set_self hkl, hk]
          · rw [List.getElem?_set_ne e]
        rw [eb] at cb
        exact back_chg hg hc hq (FindP_yes hv hk he) ch (FindP_yes hm hmk rfl) cb pe (Same_ok hx) (by simp)
    · exact (hno p (List.mem_of_getElem? hk) he).elim
    · exact (hno p (List.mem_of_getElem? hk) he).elim
theorem back_walk {u : Value} {l : List Pt} {W : World} (hr : Rd W 3 u l.length (ptsV l)) {pi pa pb : Int} (_ : -9223372036854775808 ≤ pi ∧ pi ≤ 9223372036854775807) (_ : -9223372036854775808 ≤ pa ∧ pa ≤ 9223372036854775807) (_ : -9223372036854775808 ≤ pb ∧ pb ≤ 9223372036854775807) :
    Calls Try.prog 7 #[.agg #[u], pointV pi pa pb] W fun e W' => e = .returned (.bool true) ∧ Gr W W' :=
  fld_run (vs := [pointV pi pa pb]) (Back_any l pi pa pb) hr

end Go.Proofs.Ytjnoheffodnobaa
