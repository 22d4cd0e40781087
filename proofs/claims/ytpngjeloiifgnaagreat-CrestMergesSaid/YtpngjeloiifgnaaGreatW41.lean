/-
  Joined: Hg, Hi. Conditions: none.
-/
import Derived.Test.YtpngjeloiifgnaaGreatHe
import Derived.Test.YtpngjeloiifgnaaGreatW36
namespace Go.Proofs.YtpngjeloiifgnaaGreat
open Go.RowKit
section
variable {l : List Pt}
theorem Cr.at {p : Pt} {x : Ld} {t : List Ld} (h : Cr l p x t) : ∀ (k : Nat) (y : Ld), (x :: t)[k]? = some y → ∃ q, Cr l q y ((x :: t).drop (k + 1)) := by
  induction h with
  | stop b e =>
    intro k y hy
    cases k with
    | zero => cases hy; exact ⟨_, .stop b e⟩
    | succ k => simp at hy
  | step b e r ih =>
    intro k y hy
    cases k with
    | zero => cases hy; exact ⟨_, .step b e r⟩
    | succ k => exact ih k y (by simpa using hy)
theorem Cr.next {q : Pt} {y z : Ld} {t : List Ld} (hv : Val l) (h : Cr l q y (z :: t)) : ∃ m, nextM q l = some m ∧ z = nxL l m ∧ Cr l (ldr l m.n m.d) z t := by
  cases h with
  | step b e r => exact ⟨_, e, rfl, r⟩
end
end Go.Proofs.YtpngjeloiifgnaaGreat

namespace Go.Proofs.YtpngjeloiifgnaaGreat
open Go.RowKit
theorem Same5r {t : List Ld} {m : Nat} (h : t.length = m) (hn : t.length ≤ 100000) : FnL Tryz.prog 9 2 [.ls 0 t.length, .ls 1 m] [(0, 0, rowL t), (1, 0, .row 57 3 m (ldsV t))] (.pv (.bool true)) 0 [] := by
  subst h
  exact Same5 hn
/-- The reference's place of a time in a crest. -/
theorem Place_ok {s : List Ld} (hi : ∀ x ∈ s, I64L x) (hn : s.length ≤ 100000) {tn td : Int} (h3 : I64 tn) (h4 : I64 td) {k : Nat} {x : Ld} (h : AtK s tn td k x) : FnL Tryz.prog 64 1 [.ls 0 s.length, .pv (ratioV tn td)] [(0, 0, rowL s)] (.pv (.int .i64 (k : Int))) 0 [] := by
  have hk := get_lt h.get
  have hlast : min (s.length - 1) k = k := by omega
  have L := RunsL.rounds (P := Tryz.prog) (lo := 1) (fr := 1) (c := loopOf Tryz.prog 64 0) (n := 23) (nb := 2) (fun j => [(0, .ls 0 s.length), (3, .pp 1 0), (5, .pv (.int .i64 ((min (j - 1) k : Nat) : Int))), (6, .pv (.int .i64 (j : Int)))])
    (fun _ => [(1, 0, .pv (.int .i64 tn)), (1, 1, .pv (.int .i64 td)), (0, 0, rowL s)]) s.length 0 (Nat.zero_add _) (fun j _ hj r => by
      obtain ⟨y, hy⟩ := get_some (l := s) (k := j) hj
      have hm := List.mem_of_getElem? hy
      have hc := RCompare_any (hi y hm).n (hi y hm).d h3 h4
      by_cases hjk : j ≤ k
      · have hle : cv y tn td ≤ 0 := by
          rcases Nat.lt_or_ge j k with g | g
          · have := h.lo j y g hy; omega
          · have : j = k := by omega
            subst this
            rw [h.get] at hy; cases hy; exact h.le
        rw [show min (j + 1 - 1) k = j by omega] at r
        exact plc_up hy ⟨by omega, by omega⟩ (dt (by omega)) hc (dt hle) (i64_succ (by omega)) r
      · have hgt := h.hi j y (by omega) hy
        rw [show min (j + 1 - 1) k = min (j - 1) k by omega] at r
        exact plc_no hy ⟨by omega, by omega⟩ (dt (by omega)) hc (df (by unfold cv at hgt; omega)) (i64_succ (by omega)) r) (plc_end (df (by omega)))
  have r := plc_path L
  rw [hlast] at r
  exact r
end Go.Proofs.YtpngjeloiifgnaaGreat
