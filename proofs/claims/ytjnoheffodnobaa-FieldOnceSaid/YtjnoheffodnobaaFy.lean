/-
  FieldOnce, for all arguments. Conditions: none.
-/
import Derived.Test.YtjnoheffodnobaaFx
namespace Go.Proofs.Ytjnoheffodnobaa
open Go.RowKit

set_option maxRecDepth 100000 in
theorem fit_great {l : List Pt} {tn td : Int} (hg : FnL Try.prog 22 1 [fldS 0 l] [(0, 0, rowP l)] (.pv (.bool true)) 0 []) :
    FnL Try.prog 34 1 [fldS 0 l, .pv (ratioV tn td)] [(0, 0, rowP l)] (.pv (.bool false)) 0 [] :=
  fnl_run 300 [] [.f [0] [fldS 0 l] [(0, 0, rowP l)] (.pv (.bool true)) 0 [], .k]
     True.intro (And.intro hg (And.intro (Eq.refl (List.map (SV.ren (renU [0] 3)) [fldS 0 l])) (And.intro (reflH (renU [0] 3) [(0, 0, rowP l)]) True.intro))) (by kernel_rfl)

set_option maxRecDepth 100000 in
theorem fit_no {l : List Pt} {ec : Int} {tn td : Int} (hg : FnL Try.prog 22 1 [fldS 0 l] [(0, 0, rowP l)] (.pv (.bool false)) 0 []) (ht : FnL Try.prog 48 1 [fldS 0 l, .pv (ratioV tn td)] [(0, 0, rowP l)] (.pv (.int .i64 (ec))) 0 []) (he : (ec == 0) = false) :
    FnL Try.prog 34 1 [fldS 0 l, .pv (ratioV tn td)] [(0, 0, rowP l)] (.pv (.bool false)) 0 [] :=
  fnl_run 300 [] [.f [0] [fldS 0 l] [(0, 0, rowP l)] (.pv (.bool false)) 0 [], .k, .f [0] [fldS 0 l, .pv (ratioV tn td)] [(0, 0, rowP l)] (.pv (.int .i64 (ec))) 0 [], .t false]
     True.intro (And.intro hg (And.intro (Eq.refl (List.map (SV.ren (renU [0] 3)) [fldS 0 l])) (And.intro (reflH (renU [0] 3) [(0, 0, rowP l)]) (And.intro ht (And.intro (Eq.refl (List.map (SV.ren (renU [0] 3)) [fldS 0 l, .pv (ratioV tn td)])) (And.intro (reflH (renU [0] 3) [(0, 0, rowP l)]) (And.intro he True.intro))))))) (by kernel_rfl)

set_option maxRecDepth 100000 in
theorem fit_yes {l : List Pt} {ec : Int} {tn td : Int} (hg : FnL Try.prog 22 1 [fldS 0 l] [(0, 0, rowP l)] (.pv (.bool false)) 0 []) (ht : FnL Try.prog 48 1 [fldS 0 l, .pv (ratioV tn td)] [(0, 0, rowP l)] (.pv (.int .i64 (ec))) 0 []) (he : (ec == 0) = true) :
    FnL Try.prog 34 1 [fldS 0 l, .pv (ratioV tn td)] [(0, 0, rowP l)] (.pv (.bool true)) 0 [] :=
  fnl_run 300 [] [.f [0] [fldS 0 l] [(0, 0, rowP l)] (.pv (.bool false)) 0 [], .k, .f [0] [fldS 0 l, .pv (ratioV tn td)] [(0, 0, rowP l)] (.pv (.int .i64 (ec))) 0 [], .t true]
     True.intro (And.intro hg (And.intro (Eq.refl (List.map (SV.ren (renU [0] 3)) [fldS 0 l])) (And.intro (reflH (renU [0] 3) [(0, 0, rowP l)]) (And.intro ht (And.intro (Eq.refl (List.map (SV.ren (renU [0] 3)) [fldS 0 l, .pv (ratioV tn td)])) (And.intro (reflH (renU [0] 3) [(0, 0, rowP l)]) (And.intro he True.intro))))))) (by kernel_rfl)

set_option maxRecDepth 100000 in
theorem once_not {l : List Pt} {tn td : Int} (hf : FnL Try.prog 34 1 [fldS 0 l, .pv (ratioV tn td)] [(0, 0, rowP l)] (.pv (.bool false)) 0 []) :
    FnL Try.prog 6 1 [fldS 0 l, .pv (ratioV tn td)] [(0, 0, rowP l)] (.pv (.bool true)) 0 [] :=
  fnl_run 300 [] [.f [0] [fldS 0 l, .pv (ratioV tn td)] [(0, 0, rowP l)] (.pv (.bool false)) 0 [], .k, .f [] [] [] (.pv (.bool true)) 0 []]
     True.intro (And.intro hf (And.intro (Eq.refl (List.map (SV.ren (renU [0] 3)) [fldS 0 l, .pv (ratioV tn td)])) (And.intro (reflH (renU [0] 3) [(0, 0, rowP l)]) (And.intro alive_path (And.intro (Eq.refl (List.map (SV.ren (renU [] 3)) [])) (And.intro (reflH (renU [] 3) []) True.intro)))))) (by kernel_rfl)

set_option maxRecDepth 100000 in
theorem once_path {l : List Pt} {g : List Int} {tn td : Int} (hf : FnL Try.prog 34 1 [fldS 0 l, .pv (ratioV tn td)] [(0, 0, rowP l)] (.pv (.bool true)) 0 []) (ho : FnL Try.prog 15 1 [fldS 0 l, .pv (ratioV tn td)] [(0, 0, rowP l)] (.tu [.one (.ls 1 l.length), .one (.pv (.int .i64 0))]) 1 [(1, 0, .row 3 1 l.length (idsV g))]) (r0 : RunsL Try.prog 1 1 (loopOf Try.prog 6 0) 120 4 ([(2, .pp 1 0), (3, .pp 2 0), (5, .ls 3 l.length), (7, .pv (.int .i64 ((0 : Nat) : Int)))]) ([(1, 0, .ls 0 l.length), (0, 0, rowP l), (2, 0, .pv (.int .i64 tn)), (2, 1, .pv (.int .i64 td)), (3, 0, .row 3 1 l.length (idsV g))]) (.exit 0) ([]) ([])) :
    FnL Try.prog 6 1 [fldS 0 l, .pv (ratioV tn td)] [(0, 0, rowP l)] (.pv (.bool true)) 0 [] :=
  fnl_run 300 [] [.f [0] [fldS 0 l, .pv (ratioV tn td)] [(0, 0, rowP l)] (.pv (.bool true)) 0 [], .k, .f [0] [fldS 0 l, .pv (ratioV tn td)] [(0, 0, rowP l)] (.tu [.one (.ls 1 l.length), .one (.pv (.int .i64 0))]) 1 [(1, 0, .row 3 1 l.length (idsV g))], .k, .t false, .l (.exit 0) ([(2, .pp 1 0), (3, .pp 2 0), (5, .ls 3 l.length), (7, .pv (.int .i64 ((0 : Nat) : Int)))]) ([(1, 0, .ls 0 l.length), (0, 0, rowP l), (2, 0, .pv (.int .i64 tn)), (2, 1, .pv (.int .i64 td)), (3, 0, .row 3 1 l.length (idsV g))]) ([]) ([]), .f [] [] [] (.pv (.bool true)) 0 []]
     True.intro (And.intro hf (And.intro (Eq.refl (List.map (SV.ren (renU [0] 3)) [fldS 0 l, .pv (ratioV tn td)])) (And.intro (reflH (renU [0] 3) [(0, 0, rowP l)]) (And.intro ho (And.intro (Eq.refl (List.map (SV.ren (renU [0] 3)) [fldS 0 l, .pv (ratioV tn td)])) (And.intro (reflH (renU [0] 3) [(0, 0, rowP l)]) (And.intro (ne_self (l.length : Int)) (And.intro (reflT (renN []) ([(2, .pp 1 0), (3, .pp 2 0), (5, .ls 3 l.length), (7, .pv (.int .i64 ((0 : Nat) : Int)))])) (And.intro (reflH (renN []) ([(1, 0, .ls 0 l.length), (0, 0, rowP l), (2, 0, .pv (.int .i64 tn)), (2, 1, .pv (.int .i64 td)), (3, 0, .row 3 1 l.length (idsV g))])) (And.intro r0 (And.intro alive_path (And.intro (Eq.refl (List.map (SV.ren (renU [] 4)) [])) (And.intro (reflH (renU [] 4) []) True.intro))))))))))))) (by kernel_rfl)

set_option maxRecDepth 100000 in
theorem once_first {l : List Pt} {k : Nat} {g : List Int} {p : Pt} {x z : Int} {tn td : Int} (hx : g[k]? = some x) (hin : 0 ≤ ((k : Nat) : Int) ∧ ((k : Nat) : Int) < (l.length : Int)) (hlt : decide (((k : Nat) : Int) < (l.length : Int)) = true) (hr : FnL Try.prog 16 1 [fldS 0 l, .pv (.int .i64 (x)), .pv (ratioV tn td)] [(0, 0, rowP l)] (.pv (.tuple #[.int .i64 (((k : Nat) : Int)), .int .i64 (0)])) 0 []) (hp : FnL Try.prog 10 1 [fldS 0 l, .pv (.int .i64 (x))] [(0, 0, rowP l)] (.pv (.tuple #[ptV p, .int .i64 (0)])) 0 []) (hk0 : (((k : Nat) : Int) == 0) = true) (hl : FnL Try.prog 14 1 [fldS 0 l, .pv (ratioV tn td)] [(0, 0, rowP l)] (.pv (.tuple #[.int .i64 (z), .int .i64 (0)])) 0 []) (hz : g[0]? = some z) (hi0 : 0 ≤ (0 : Int) ∧ (0 : Int) < (l.length : Int)) (hs : Value.int .i64 (IntKind.i64.wrap (((k : Nat) : Int) + 1)) = .int .i64 (((k + 1 : Nat) : Int))) {e : Exit} {tm2 : List (Nat × SV)} {hp2 : List (Nat × Nat × SV)}
    (r : RunsL Try.prog 1 1 (loopOf Try.prog 6 0) 120 4 ([(2, .pp 1 0), (3, .pp 2 0), (5, .ls 3 l.length), (7, .pv (.int .i64 ((k + 1 : Nat) : Int)))]) ([(1, 0, .ls 0 l.length), (0, 0, rowP l), (2, 0, .pv (.int .i64 tn)), (2, 1, .pv (.int .i64 td)), (3, 0, .row 3 1 l.length (idsV g))]) e tm2 hp2) : RunsL Try.prog 1 1 (loopOf Try.prog 6 0) 120 4 ([(2, .pp 1 0), (3, .pp 2 0), (5, .ls 3 l.length), (7, .pv (.int .i64 ((k : Nat) : Int)))]) ([(1, 0, .ls 0 l.length), (0, 0, rowP l), (2, 0, .pv (.int .i64 tn)), (2, 1, .pv (.int .i64 td)), (3, 0, .row 3 1 l.length (idsV g))]) e tm2 hp2 :=
  RunsL.next [] 300 [.t true, .r (.int .i64 x), .f [0] [fldS 0 l, .pv (.int .i64 (x)), .pv (ratioV tn td)] [(0, 0, rowP l)] (.pv (.tuple #[.int .i64 (((k : Nat) : Int)), .int .i64 (0)])) 0 [], .r (.int .i64 x), .f [0] [fldS 0 l, .pv (.int .i64 (x))] [(0, 0, rowP l)] (.pv (.tuple #[ptV p, .int .i64 (0)])) 0 [], .k, .t false, .k, .t true, .f [0] [fldS 0 l, .pv (ratioV tn td)] [(0, 0, rowP l)] (.pv (.tuple #[.int .i64 (z), .int .i64 (0)])) 0 [], .k, .r (.int .i64 z), .t false, .r (.int .i64 (((k + 1 : Nat) : Int)))]
    (round_of (And.intro hlt (And.intro hin (And.intro (ra_int hx) (And.intro hr (And.intro (Eq.refl (List.map (SV.ren (renU [0] 4)) [fldS 0 l, .pv (.int .i64 (x)), .pv (ratioV tn td)])) (And.intro (reflH (renU [0] 4) [(0, 0, rowP l)]) (And.intro hin (And.intro (ra_int hx) (And.intro hp (And.intro (Eq.refl (List.map (SV.ren (renU [0] 4)) [fldS 0 l, .pv (.int .i64 (x))])) (And.intro (reflH (renU [0] 4) [(0, 0, rowP l)]) (And.intro (ne_self ((k : Nat) : Int)) (And.intro hk0 (And.intro hl (And.intro (Eq.refl (List.map (SV.ren (renU [0] 5)) [fldS 0 l, .pv (ratioV tn td)])) (And.intro (reflH (renU [0] 5) [(0, 0, rowP l)]) (And.intro hi0 (And.intro (ra_int hz) (And.intro (ne_self z) (And.intro hs True.intro)))))))))))))))))))) (by kernel_rfl)) r

set_option maxRecDepth 100000 in
theorem once_next {l : List Pt} {j : Nat} {g : List Int} {p q : Pt} {x x0 : Int} {tn td : Int} (hx : g[j + 1]? = some x) (hin : 0 ≤ ((j + 1 : Nat) : Int) ∧ ((j + 1 : Nat) : Int) < (l.length : Int)) (hlt : decide (((j + 1 : Nat) : Int) < (l.length : Int)) = true) (hr : FnL Try.prog 16 1 [fldS 0 l, .pv (.int .i64 (x)), .pv (ratioV tn td)] [(0, 0, rowP l)] (.pv (.tuple #[.int .i64 (((j + 1 : Nat) : Int)), .int .i64 (0)])) 0 []) (hp : FnL Try.prog 10 1 [fldS 0 l, .pv (.int .i64 (x))] [(0, 0, rowP l)] (.pv (.tuple #[ptV p, .int .i64 (0)])) 0 []) (hk0 : (((j + 1 : Nat) : Int) == 0) = false) (hm : Value.int .i64 (IntKind.i64.wrap (((j + 1 : Nat) : Int) - 1)) = .int .i64 ((j : Int))) (hx0 : g[j]? = some x0) (hij : 0 ≤ (j : Int) ∧ (j : Int) < (l.length : Int)) (hq : FnL Try.prog 10 1 [fldS 0 l, .pv (.int .i64 (x0))] [(0, 0, rowP l)] (.pv (.tuple #[ptV q, .int .i64 (0)])) 0 []) (ha : Pure Try.prog 35 #[ptV q, ptV p, ratioV tn td] (.tuple #[.bool true, .int .i64 0])) (hs : Value.int .i64 (IntKind.i64.wrap (((j + 1 : Nat) : Int) + 1)) = .int .i64 (((j + 1 + 1 : Nat) : Int))) {e : Exit} {tm2 : List (Nat × SV)} {hp2 : List (Nat × Nat × SV)}
    (r : RunsL Try.prog 1 1 (loopOf Try.prog 6 0) 120 4 ([(2, .pp 1 0), (3, .pp 2 0), (5, .ls 3 l.length), (7, .pv (.int .i64 ((j + 1 + 1 : Nat) : Int)))]) ([(1, 0, .ls 0 l.length), (0, 0, rowP l), (2, 0, .pv (.int .i64 tn)), (2, 1, .pv (.int .i64 td)), (3, 0, .row 3 1 l.length (idsV g))]) e tm2 hp2) : RunsL Try.prog 1 1 (loopOf Try.prog 6 0) 120 4 ([(2, .pp 1 0), (3, .pp 2 0), (5, .ls 3 l.length), (7, .pv (.int .i64 ((j + 1 : Nat) : Int)))]) ([(1, 0, .ls 0 l.length), (0, 0, rowP l), (2, 0, .pv (.int .i64 tn)), (2, 1, .pv (.int .i64 td)), (3, 0, .row 3 1 l.length (idsV g))]) e tm2 hp2 :=
  RunsL.next [] 300 [.t true, .r (.int .i64 x), .f [0] [fldS 0 l, .pv (.int .i64 (x)), .pv (ratioV tn td)] [(0, 0, rowP l)] (.pv (.tuple #[.int .i64 (((j + 1 : Nat) : Int)), .int .i64 (0)])) 0 [], .r (.int .i64 x), .f [0] [fldS 0 l, .pv (.int .i64 (x))] [(0, 0, rowP l)] (.pv (.tuple #[ptV p, .int .i64 (0)])) 0 [], .k, .t false, .k, .t false, .r (.int .i64 ((j : Int))), .r (.int .i64 x0), .f [0] [fldS 0 l, .pv (.int .i64 (x0))] [(0, 0, rowP l)] (.pv (.tuple #[ptV q, .int .i64 (0)])) 0 [], .r (.tuple #[.bool true, .int .i64 0]), .k, .k, .k, .r (.int .i64 (((j + 1 + 1 : Nat) : Int)))]
    (round_of (And.intro hlt (And.intro hin (And.intro (ra_int hx) (And.intro hr (And.intro (Eq.refl (List.map (SV.ren (renU [0] 4)) [fldS 0 l, .pv (.int .i64 (x)), .pv (ratioV tn td)])) (And.intro (reflH (renU [0] 4) [(0, 0, rowP l)]) (And.intro hin (And.intro (ra_int hx) (And.intro hp (And.intro (Eq.refl (List.map (SV.ren (renU [0] 4)) [fldS 0 l, .pv (.int .i64 (x))])) (And.intro (reflH (renU [0] 4) [(0, 0, rowP l)]) (And.intro (ne_self ((j + 1 : Nat) : Int)) (And.intro hk0 (And.intro hm (And.intro hij (And.intro (ra_int hx0) (And.intro hq (And.intro (Eq.refl (List.map (SV.ren (renU [0] 5)) [fldS 0 l, .pv (.int .i64 (x0))])) (And.intro (reflH (renU [0] 5) [(0, 0, rowP l)]) (And.intro ha (And.intro hs True.intro))))))))))))))))))))) (by kernel_rfl)) r

set_option maxRecDepth 100000 in
theorem once_end {l : List Pt} {k : Nat} {g : List Int} {tn td : Int} (hge : decide ((k : Int) < (l.length : Int)) = false) : RunsL Try.prog 1 1 (loopOf Try.prog 6 0) 120 4 ([(2, .pp 1 0), (3, .pp 2 0), (5, .ls 3 l.length), (7, .pv (.int .i64 (k : Int)))]) ([(1, 0, .ls 0 l.length), (0, 0, rowP l), (2, 0, .pv (.int .i64 tn)), (2, 1, .pv (.int .i64 td)), (3, 0, .row 3 1 l.length (idsV g))]) (.exit 0) ([]) ([]) :=
  RunsL.stop [] 300 [.t false] (fun h => by cases h)
    (round_of (And.intro hge True.intro) (by kernel_rfl))


theorem fit_any {tn td : Int} (hn : I64 tn) (hd : I64 td) (l : List Pt) : FnL Try.prog 34 1 [fldS 0 l, .pv (ratioV tn td)] [(0, 0, rowP l)] (.pv (.bool false)) 0 [] ∨ (Val l ∧ Tm tn td ∧ FnL Try.prog 34 1 [fldS 0 l, .pv (ratioV tn td)] [(0, 0, rowP l)] (.pv (.bool true)) 0 []) := by
  rcases Great_any l with ⟨_, hg⟩ | ⟨hl, hg⟩
  · exact Or.inl (fit_great hg)
  by_cases h : tE l tn td = 0
  · obtain ⟨hv, hb⟩ := tE_val h
    exact Or.inr ⟨hv, ⟨hn, hd, hb⟩, fit_yes hg (Timed_any hn hd l) (by simp [h])⟩
  · exact Or.inl (fit_no hg (Timed_any hn hd l) (by simp [h]))
theorem Ahead_ld {l : List Pt} {tn td : Int} (hv : Val l) (ht : Tm tn td) {p q : Pt} (hp : p ∈ l) (hq : q ∈ l) (h : ld tn td p q = true) : Pure Try.prog 35 #[ptV p, ptV q, ratioV tn td] (.tuple #[.bool true, .int .i64 0]) := by
  have hne : p.id ≠ q.id := fun e => by
    have := val_id hv hp hq e
    subst this
    rw [ld_irr] at h; cases h
  have a := Ahead_ok ht.hn ht.hd (hv.ok p hp) (hv.ok q hq) ht.ok hne
  have e : leadsB (p.a * td + p.b * tn) (q.a * td + q.b * tn) p.b q.b p.id q.id = true := h
  rw [e] at a
  exact a
theorem Once_any {tn td : Int} (hn : I64 tn) (hd : I64 td) (l : List Pt) : FnL Try.prog 6 1 [fldS 0 l, .pv (ratioV tn td)] [(0, 0, rowP l)] (.pv (.bool true)) 0 [] := by
  rcases fit_any hn hd l with hf | ⟨hv, ht, hf⟩
  · exact once_not hf
  obtain ⟨s, hs⟩ := Srt_ex hv ht
  have h64 := hv.len
  have hsl := hs.len
  have get : ∀ (k : Nat) (p : Pt), s[k]? = some p → (s.map Pt.id)[k]? = some p.id := fun k p h => by rw [List.getElem?_map, h]; rfl
  have rank : ∀ (k : Nat) (p : Pt), s[k]? = some p → RankIs 16 l p.id tn td ((k : Nat) : Int) 0 ∧ FindIs 10 l p.id p 0 := fun k p h => by
    obtain ⟨i, hi, e⟩ := List.getElem_of_mem (hs.perm.mem_iff.1 (List.mem_of_getElem? h))
    have hi' : l[i]? = some p := by rw [List.getElem?_eq_getElem hi, e]
    have r := (Rank_ok hv ht hi').1
    rw [hs.rank h] at r
    exact ⟨r, FindP_yes hv hi' rfl⟩
  refine once_path hf (POrder_ok hv ht hs) ?_
  refine RunsL.rounds (fun k => [(2, .pp 1 0), (3, .pp 2 0), (5, .ls 3 l.length), (7, .pv (.int .i64 (k : Int)))]) (fun _ => [(1, 0, .ls 0 l.length), (0, 0, rowP l), (2, 0, .pv (.int .i64 tn)), (2, 1, .pv (.int .i64 td)), (3, 0, .row 3 1 l.length (idsV (s.map Pt.id)))]) l.length 0 (Nat.zero_add _) (fun k _ hk r => ?_) (once_end (df (by omega)))
  obtain ⟨p, hp⟩ := get_some (l := s) (k := k) (by omega)
  obtain ⟨hr, hf⟩ := rank k p hp
  match k, hk, r, hp, hr with
  | 0, hk, r, hp, hr =>
    exact once_first (get 0 p hp) (in_of hk) (dt (by omega)) hr hf (by rfl) (Leader_ok hv ht hs hp).1 (get 0 p hp) (in_of (k := 0) hk) (i64s hk h64) r
  | j + 1, hk, r, hp, hr =>
    obtain ⟨q, hq⟩ := get_some (l := s) (k := j) (by omega)
    have hl : ld tn td q p = true := by
      have h := hs.pw
      rw [List.pairwise_iff_getElem] at h
      obtain ⟨h1, rfl⟩ := List.getElem?_eq_some_iff.1 hp
      obtain ⟨h2, rfl⟩ := List.getElem?_eq_some_iff.1 hq
      exact h j (j + 1) h2 h1 (by omega)
    exact once_next (get (j + 1) p hp) (in_of hk) (dt (by omega)) hr hf (by rw [beq_eq_false_iff_ne]; omega) (i64_pred j (by omega)) (get j q hq) (in_of (by omega)) (rank j q hq).2
      (Ahead_ld hv ht (hs.perm.mem_iff.1 (List.mem_of_getElem? hq)) (hs.perm.mem_iff.1 (List.mem_of_getElem? hp)) hl) (i64s hk h64) r
theorem once_walk {u : Value} {l : List Pt} {W : World} (hr : Rd W 3 u l.length (ptsV l)) {tn td : Int} (hn : -9223372036854775808 ≤ tn ∧ tn ≤ 9223372036854775807) (hd : -9223372036854775808 ≤ td ∧ td ≤ 9223372036854775807) :
    Calls Try.prog 6 #[.agg #[u], ratioV tn td] W fun e W' => e = .returned (.bool true) ∧ Gr W W' :=
  fld_run (vs := [ratioV tn td]) (Once_any hn hd l) hr

end Go.Proofs.Ytjnoheffodnobaa
