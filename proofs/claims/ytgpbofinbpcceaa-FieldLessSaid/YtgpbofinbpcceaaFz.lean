/-
  FieldLess, for all arguments. Conditions: none.
-/
import Derived.Test.YtgpbofinbpcceaaFy
namespace Go.Proofs.Ytgpbofinbpcceaa
open Go.RowKit
set_option maxRecDepth 100000 in
theorem less_not {l : List Pt} {tn td id : Int} (hf : FnL Try.prog 22 1 [fldS 0 l, .pv (ratioV tn td)] [(0, 0, rowP l)] (.pv (.bool false)) 0 []) :
    FnL Try.prog 4 1 [fldS 0 l, .pv (ratioV tn td), .pv (.int .i64 (id))] [(0, 0, rowP l)] (.pv (.bool true)) 0 [] :=
  fnl_run 300 [] [.f [0] [fldS 0 l, .pv (ratioV tn td)] [(0, 0, rowP l)] (.pv (.bool false)) 0 [], .k, .f [] [] [] (.pv (.bool true)) 0 []]
     True.intro (And.intro hf (And.intro (Eq.refl (List.map (SV.ren (renU [0] 3)) [fldS 0 l, .pv (ratioV tn td)])) (And.intro (reflH (renU [0] 3) [(0, 0, rowP l)]) (And.intro alive_path (And.intro (Eq.refl (List.map (SV.ren (renU [] 3)) [])) (And.intro (reflH (renU [] 3) []) True.intro)))))) (by kernel_rfl)

set_option maxRecDepth 100000 in
theorem less_none {l : List Pt} {fp : Pt} {tn td id : Int} (hf : FnL Try.prog 22 1 [fldS 0 l, .pv (ratioV tn td)] [(0, 0, rowP l)] (.pv (.bool true)) 0 []) (hr : FnL Try.prog 16 1 [fldS 0 l, .pv (.int .i64 (id)), .pv (ratioV tn td)] [(0, 0, rowP l)] (.pv (.tuple #[.int .i64 (0), .int .i64 (6)])) 0 []) (hp : FnL Try.prog 10 1 [fldS 0 l, .pv (.int .i64 (id))] [(0, 0, rowP l)] (.pv (.tuple #[ptV fp, .int .i64 (6)])) 0 []) :
    FnL Try.prog 4 1 [fldS 0 l, .pv (ratioV tn td), .pv (.int .i64 (id))] [(0, 0, rowP l)] (.pv (.bool true)) 0 [] :=
  fnl_run 300 [] [.f [0] [fldS 0 l, .pv (ratioV tn td)] [(0, 0, rowP l)] (.pv (.bool true)) 0 [], .k, .f [0] [fldS 0 l, .pv (.int .i64 (id)), .pv (ratioV tn td)] [(0, 0, rowP l)] (.pv (.tuple #[.int .i64 (0), .int .i64 (6)])) 0 [], .k, .f [0] [fldS 0 l, .pv (.int .i64 (id))] [(0, 0, rowP l)] (.pv (.tuple #[ptV fp, .int .i64 (6)])) 0 [], .k, .k, .f [] [] [] (.pv (.bool true)) 0 []]
     True.intro (And.intro hf (And.intro (Eq.refl (List.map (SV.ren (renU [0] 3)) [fldS 0 l, .pv (ratioV tn td)])) (And.intro (reflH (renU [0] 3) [(0, 0, rowP l)]) (And.intro hr (And.intro (Eq.refl (List.map (SV.ren (renU [0] 3)) [fldS 0 l, .pv (.int .i64 (id)), .pv (ratioV tn td)])) (And.intro (reflH (renU [0] 3) [(0, 0, rowP l)]) (And.intro hp (And.intro (Eq.refl (List.map (SV.ren (renU [0] 3)) [fldS 0 l, .pv (.int .i64 (id))])) (And.intro (reflH (renU [0] 3) [(0, 0, rowP l)]) (And.intro alive_path (And.intro (Eq.refl (List.map (SV.ren (renU [] 4)) [])) (And.intro (reflH (renU [] 4) []) True.intro)))))))))))) (by kernel_rfl)

set_option maxRecDepth 100000 in
theorem less_yes {l : List Pt} {m : List Pt} {n : Nat} {g g2 : List Int} {tn td id : Int} (hf : FnL Try.prog 22 1 [fldS 0 l, .pv (ratioV tn td)] [(0, 0, rowP l)] (.pv (.bool true)) 0 []) (hr : FnL Try.prog 16 1 [fldS 0 l, .pv (.int .i64 (id)), .pv (ratioV tn td)] [(0, 0, rowP l)] (.pv (.tuple #[.int .i64 (n : Int), .int .i64 (0)])) 0 []) (ht : FnL Try.prog 12 1 [fldS 0 l, .pv (.int .i64 id)] [(0, 0, rowP l)] (.tu [.ag [.ls 1 (m).length], .one (.pv (.int .i64 0))]) 1 [(1, 0, rowP m)]) (o1 : FnL Try.prog 15 1 [fldS 0 l, .pv (ratioV tn td)] [(0, 0, rowP l)] (.tu [.one (.ls 1 l.length), .one (.pv (.int .i64 0))]) 1 [(1, 0, .row 3 1 l.length (idsV g))]) (o2 : FnL Try.prog 15 1 [fldS 0 m, .pv (ratioV tn td)] [(0, 0, rowP m)] (.tu [.one (.ls 1 m.length), .one (.pv (.int .i64 0))]) 1 [(1, 0, .row 3 1 m.length (idsV g2))]) (hn0 : decide ((n : Int) < 0) = false) (hn1 : decide ((n : Int) ≥ (l.length : Int)) = false) (hl1 : Value.int .i64 (IntKind.i64.wrap ((l.length : Int) - 1)) = .int .i64 ((m.length : Int))) (hin : 0 ≤ (n : Int) ∧ (n : Int) < (l.length : Int)) (hid : g[n]? = some id) (hnl : n ≤ l.length) (hnl1 : n + 1 ≤ l.length) (m1 : 0 + n ≤ 1000000) (m2 : 0 + n + (l.length - (n + 1)) ≤ 1000000) (hk1 : Value.int .i64 (IntKind.i64.wrap ((n : Int) + 1)) = .int .i64 (((n + 1 : Nat) : Int))) (sd : FnL Try.prog 23 2 [.ls 0 m.length, .ls 1 (0 + n + (l.length - (n + 1)))] [(0, 0, .row 3 1 m.length (idsV g2)), (1, 0, .row 3 1 (0 + n + (l.length - (n + 1))) ([] ++ ((idsV g).drop ((0 + 0) * 1)).take (n * 1) ++ ((idsV g).drop ((0 + (n + 1)) * 1)).take ((l.length - (n + 1)) * 1)))] (.pv (.bool true)) 0 []) :
    FnL Try.prog 4 1 [fldS 0 l, .pv (ratioV tn td), .pv (.int .i64 (id))] [(0, 0, rowP l)] (.pv (.bool true)) 0 [] :=
  fnl_run 400 [] [.f [0] [fldS 0 l, .pv (ratioV tn td)] [(0, 0, rowP l)] (.pv (.bool true)) 0 [], .k, .f [0] [fldS 0 l, .pv (.int .i64 (id)), .pv (ratioV tn td)] [(0, 0, rowP l)] (.pv (.tuple #[.int .i64 (n : Int), .int .i64 (0)])) 0 [], .k, .f [0] [fldS 0 l, .pv (.int .i64 id)] [(0, 0, rowP l)] (.tu [.ag [.ls 1 (m).length], .one (.pv (.int .i64 0))]) 1 [(1, 0, rowP m)], .f [0] [fldS 0 l, .pv (ratioV tn td)] [(0, 0, rowP l)] (.tu [.one (.ls 1 l.length), .one (.pv (.int .i64 0))]) 1 [(1, 0, .row 3 1 l.length (idsV g))], .f [3] [fldS 0 m, .pv (ratioV tn td)] [(0, 0, rowP m)] (.tu [.one (.ls 1 m.length), .one (.pv (.int .i64 0))]) 1 [(1, 0, .row 3 1 m.length (idsV g2))], .k, .k, .k, .t false, .t false, .r (.int .i64 ((m.length : Int))), .t false, .gr, .r (.int .i64 id), .t true, .k, .r (.int .i64 (((n + 1 : Nat) : Int))), .k, .f [6,9] [.ls 0 m.length, .ls 1 (0 + n + (l.length - (n + 1)))] [(0, 0, .row 3 1 m.length (idsV g2)), (1, 0, .row 3 1 (0 + n + (l.length - (n + 1))) ([] ++ ((idsV g).drop ((0 + 0) * 1)).take (n * 1) ++ ((idsV g).drop ((0 + (n + 1)) * 1)).take ((l.length - (n + 1)) * 1)))] (.pv (.bool true)) 0 [], .f [] [] [] (.pv (.bool true)) 0 []]
     True.intro (And.intro hf (And.intro (Eq.refl (List.map (SV.ren (renU [0] 3)) [fldS 0 l, .pv (ratioV tn td)])) (And.intro (reflH (renU [0] 3) [(0, 0, rowP l)]) (And.intro hr (And.intro (Eq.refl (List.map (SV.ren (renU [0] 3)) [fldS 0 l, .pv (.int .i64 (id)), .pv (ratioV tn td)])) (And.intro (reflH (renU [0] 3) [(0, 0, rowP l)]) (And.intro ht (And.intro (Eq.refl (List.map (SV.ren (renU [0] 3)) [fldS 0 l, .pv (.int .i64 id)])) (And.intro (reflH (renU [0] 3) [(0, 0, rowP l)]) (And.intro o1 (And.intro (Eq.refl (List.map (SV.ren (renU [0] 5)) [fldS 0 l, .pv (ratioV tn td)])) (And.intro (reflH (renU [0] 5) [(0, 0, rowP l)]) (And.intro o2 (And.intro (Eq.refl (List.map (SV.ren (renU [3] 6)) [fldS 0 m, .pv (ratioV tn td)])) (And.intro (reflH (renU [3] 6) [(0, 0, rowP m)]) (And.intro hn0 (And.intro hn1 (And.intro hl1 (And.intro (ne_self (m.length : Int)) (And.intro hin (And.intro (ra_int hid) (And.intro (eq_self id) (And.intro True.intro (And.intro (Int.natCast_nonneg n) (And.intro (Nat.zero_le n) (And.intro hnl (And.intro hk1 (And.intro (Int.natCast_nonneg (n + 1)) (And.intro True.intro (And.intro hnl1 (And.intro (Nat.le_refl l.length) (And.intro m1 (And.intro m2 (And.intro sd (And.intro (Eq.refl (List.map (SV.ren (renU [6,9] 10)) [.ls 0 m.length, .ls 1 (0 + n + (l.length - (n + 1)))])) (And.intro (reflH (renU [6,9] 10) [(0, 0, .row 3 1 m.length (idsV g2)), (1, 0, .row 3 1 (0 + n + (l.length - (n + 1))) ([] ++ ((idsV g).drop ((0 + 0) * 1)).take (n * 1) ++ ((idsV g).drop ((0 + (n + 1)) * 1)).take ((l.length - (n + 1)) * 1)))]) (And.intro alive_path (And.intro (Eq.refl (List.map (SV.ren (renU [] 10)) [])) (And.intro (reflH (renU [] 10) []) True.intro))))))))))))))))))))))))))))))))))))))) (by kernel_rfl)


theorem less_sid {l m : List Pt} {g g2 : List Int} {n : Nat} (hg : g.length = l.length) (hm : m.length + 1 = l.length) (hn : n < l.length) (h : g2 = g.take n ++ g.drop (n + 1)) (hx : l.length ≤ 64) :
    FnL Try.prog 23 2 [.ls 0 m.length, .ls 1 (0 + n + (l.length - (n + 1)))] [(0, 0, .row 3 1 m.length (idsV g2)), (1, 0, .row 3 1 (0 + n + (l.length - (n + 1))) ([] ++ ((idsV g).drop ((0 + 0) * 1)).take (n * 1) ++ ((idsV g).drop ((0 + (n + 1)) * 1)).take ((l.length - (n + 1)) * 1)))] (.pv (.bool true)) 0 [] := by
  have e1 : 0 + n + (l.length - (n + 1)) = m.length := by omega
  have e2 : [] ++ ((idsV g).drop ((0 + 0) * 1)).take (n * 1) ++ ((idsV g).drop ((0 + (n + 1)) * 1)).take ((l.length - (n + 1)) * 1) = idsV g2 := by
    rw [h]
    unfold idsV
    rw [List.map_append, List.map_take, List.map_drop, Nat.mul_one, Nat.mul_one, Nat.mul_one, Nat.mul_one, Nat.zero_add, Nat.zero_add, List.drop_zero, List.nil_append]
    congr 1
    exact List.take_of_length_le (by rw [List.length_drop, List.length_map]; omega)
  rw [e1, e2]
  exact SameIDs_ok (by rw [h, List.length_append, List.length_take, List.length_drop]; omega) (by omega)
theorem val_take {l : List Pt} (hv : Val l) {k : Nat} (hk : k < l.length) : Val (l.take k ++ l.drop (k + 1)) := by
  refine ⟨by have := hv.len; simp only [List.length_append, List.length_take, List.length_drop]; omega, fun q hq => ?_, ?_⟩
  · rcases List.mem_append.1 hq with h | h
    · exact hv.ok q (List.mem_of_mem_take h)
    · exact hv.ok q (List.mem_of_mem_drop h)
  · obtain ⟨p, hp⟩ := get_some hk
    have h := up_iff.1 hv.up
    rw [split_at hp] at h
    rw [up_iff]
    exact h.sublist ((List.sublist_cons_self p (l.drop (k + 1))).append_left (l.take k))
theorem srt_take {l s : List Pt} {tn td : Int} (hs : Srt l tn td s) {k n : Nat} {p : Pt} (hk : l[k]? = some p) (hn : s[n]? = some p) : Srt (l.take k ++ l.drop (k + 1)) tn td (s.take n ++ s.drop (n + 1)) := by
  have e1 := split_at hk
  have e2 := split_at hn
  constructor
  · have h := hs.perm
    rw [e1, e2] at h
    have h2 := (List.perm_middle.symm.trans h).trans List.perm_middle
    exact (h2.cons_inv)
  · have h := hs.pw
    rw [e2] at h
    exact h.sublist ((List.sublist_cons_self p (s.drop (n + 1))).append_left (s.take n))
theorem Less_any {tn td : Int} (hn : I64 tn) (hd : I64 td) (l : List Pt) (id : Int) : FnL Try.prog 4 1 [fldS 0 l, .pv (ratioV tn td), .pv (.int .i64 id)] [(0, 0, rowP l)] (.pv (.bool true)) 0 [] := by
  rcases fit_any hn hd l with hf | ⟨hv, ht, hf⟩
  · exact less_not hf
  have h64 := hv.len
  rcases PTake_any l id with ⟨_, _, ⟨h, _⟩ | ⟨_, hno, _⟩⟩ | ⟨k, p, _, hk, he, tk⟩
  · exact (h (err_val.2 hv)).elim
  · exact less_none hf (PRank_none hv ht hno) (FindP_no hv hno)
  · subst he
    obtain ⟨s, hs⟩ := Srt_ex hv ht
    have hpm := List.mem_of_getElem? hk
    have hsn := hs.at hpm
    have hlt := hs.lt hpm
    have hkl := get_lt hk
    have hml : (l.take k ++ l.drop (k + 1)).length + 1 = l.length := by simp only [List.length_append, List.length_take, List.length_drop]; omega
    have hgl : (s.map Pt.id).length = l.length := by rw [ids_len, hs.len]
    exact less_yes hf (PRank_yes hv ht hk) tk (POrder_ok hv ht hs) (POrder_ok (val_take hv hkl) ht (srt_take hs hk hsn)) (df (by omega)) (df (by omega))
      (by rw [show (l.length : Int) - 1 = ((l.take k ++ l.drop (k + 1)).length : Int) by omega, wrap_i64_in (by omega) (by omega)])
      (in_of hlt) (by rw [List.getElem?_map, hsn]; rfl) (by omega) (by omega) (by omega) (by omega) (i64s hlt h64)
      (less_sid hgl hml hlt (by rw [List.map_append, List.map_take, List.map_drop]) h64)
theorem less_walk {u : Value} {l : List Pt} {W : World} (hr : Rd W 3 u l.length (ptsV l)) {tn td id : Int} (hn : -9223372036854775808 ≤ tn ∧ tn ≤ 9223372036854775807) (hd : -9223372036854775808 ≤ td ∧ td ≤ 9223372036854775807) (_ : -9223372036854775808 ≤ id ∧ id ≤ 9223372036854775807) :
    Calls Try.prog 4 #[.agg #[u], ratioV tn td, .int .i64 id] W fun e W' => e = .returned (.bool true) ∧ Gr W W' :=
  fld_run (vs := [ratioV tn td, .int .i64 id]) (Less_any hn hd l id) hr

end Go.Proofs.Ytgpbofinbpcceaa
