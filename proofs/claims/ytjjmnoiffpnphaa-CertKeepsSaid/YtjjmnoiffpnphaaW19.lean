/-
  Joined: B, F, D, P, Q, Cp, Num, Con, Cr, Fa, Fe, Fq, Fm, Fn. Conditions: none.
-/
import Derived.Test.YtjjmnoiffpnphaaRows
import Derived.Test.YtjjmnoiffpnphaaSxA
import Derived.BigQuiet
import Derived.Deep.QuietTactic
import Derived.Lib.Hide
import Derived.RegionTactic
import Derived.WalkKit
import Derived.WalkLawsBesides
import Derived.WalkSpells
import Derived.BigGuardPart
import Derived.Test.YtjjmnoiffpnphaaProg
import Derived.Shelf.Bits.Mul64
import Derived.Shelf.Small.Bits
import Derived.Shelf.Strconv.Itoa0
import Derived.Laws.BitsAllLaws
import Derived.Laws.Externs
import Derived.Laws.MathBits
import Derived.Lib.BitFns
import Derived.Test.YtjjmnoiffpnphaaSxJ
import Derived.Laws.Bits64b
import Derived.ProofKit
import Derived.OpenShut
import Derived.Lib.SmallJoins
import Derived.Deep.Slices
import Derived.Deep.Strs
import Derived.Deep.Fields
import Derived.Carry
namespace Go.Proofs.Ytjjmnoiffpnphaa
open Go.RowKit
/-- Is a fraction valid? -/
def okB (n d : Int) : Bool := decide (1 ≤ d ∧ n ≠ -9223372036854775808 ∧ Nat.gcd n.natAbs d.natAbs = 1)
end Go.Proofs.Ytjjmnoiffpnphaa

namespace Go.Proofs.Ytjjmnoiffpnphaa
open Go.RowKit
theorem Gr.cells {a w : World} (h : Gr a w) : ∀ b o, b < a.heap.size → w.cell? ⟨b, o, none⟩ = a.cell? ⟨b, o, none⟩ := fun b o hb => h.cell b o hb
def I64 (n : Int) : Prop := -9223372036854775808 ≤ n ∧ n ≤ 9223372036854775807

end Go.Proofs.Ytjjmnoiffpnphaa

namespace Go.Proofs.Ytjjmnoiffpnphaa
open Go.RowKit
theorem wrap_in {n : Int} (h0 : 0 ≤ n) (h1 : n < 18446744073709551616) : IntKind.u64.wrap n = n := by rw [IntKind.wrap_u64]; omega
end Go.Proofs.Ytjjmnoiffpnphaa

namespace Go.Proofs.Ytjjmnoiffpnphaa
open Go.RowKit
theorem wrap_i64_in {n : Int} (h0 : -9223372036854775808 ≤ n) (h1 : n ≤ 9223372036854775807) : IntKind.i64.wrap n = n := by
  rw [IntKind.wrap_i64]; omega
end Go.Proofs.Ytjjmnoiffpnphaa

namespace Go.Proofs.Ytjjmnoiffpnphaa
open Go.RowKit
theorem pure_run {P : Program} (n : Nat) {f : FuncId} {args : List Value} (ch : List Ch) {v : Value} {T : Prop} (ht : v = v ∧ T) (e : Good v (runS P n f args ch) = (v = v ∧ T)) : Pure P f args.toArray v := pure_of n ch (e ▸ ht)
end Go.Proofs.Ytjjmnoiffpnphaa

namespace Go.Proofs.Ytjjmnoiffpnphaa
open Go.RowKit
abbrev pointV (n a b : Int) : Value := .agg #[.int .i64 n, .int .i64 a, .int .i64 b]

end Go.Proofs.Ytjjmnoiffpnphaa

namespace Go.Proofs.Ytjjmnoiffpnphaa
/-- What a result has to do with p / q: the fraction in lowest terms; or out of range, and no valid fraction is it. -/
def IsRes (p q N D E : Int) : Prop :=
  (E = 0 ∧ okB N D = true ∧ I64 N ∧ I64 D ∧ N * q = p * D) ∨ (E = 16 ∧ N = 0 ∧ D = 0 ∧ ∀ n d, okB n d = true → I64 n → I64 d → n * q ≠ p * d)

theorem natAbs_gcd_dvd {T U n d : Int} (hU : 0 < U) (hd : 0 < d) (h1 : Nat.gcd T.natAbs U.natAbs = 1) (h2 : Nat.gcd n.natAbs d.natAbs = 1) (h : T * d = n * U) : T = n ∧ U = d := by
  have e : T.natAbs * d.natAbs = n.natAbs * U.natAbs := by rw [← Int.natAbs_mul, ← Int.natAbs_mul, h]
  have a1 : U.natAbs ∣ d.natAbs := Nat.Coprime.dvd_of_dvd_mul_left (show Nat.Coprime U.natAbs T.natAbs by rw [Nat.coprime_comm]; exact h1) ⟨n.natAbs, by rw [e, Nat.mul_comm]⟩
  have a2 : d.natAbs ∣ U.natAbs := Nat.Coprime.dvd_of_dvd_mul_left (show Nat.Coprime d.natAbs n.natAbs by rw [Nat.coprime_comm]; exact h2) ⟨T.natAbs, by rw [← e, Nat.mul_comm]⟩
  have a3 := Nat.dvd_antisymm a1 a2
  have hUd : U = d := by omega
  subst hUd
  exact ⟨Int.eq_of_mul_eq_mul_right (by omega) h, rfl⟩
theorem okB_iff {n d : Int} : okB n d = true ↔ 1 ≤ d ∧ n ≠ -9223372036854775808 ∧ Nat.gcd n.natAbs d.natAbs = 1 := by simp [okB]
theorem okB_one {n d n' d' : Int} (h1 : okB n d = true) (h2 : okB n' d' = true) (h : n * d' = n' * d) : n = n' ∧ d = d' := by
  obtain ⟨a1, _, a2⟩ := okB_iff.1 h1
  obtain ⟨b1, _, b2⟩ := okB_iff.1 h2
  exact natAbs_gcd_dvd (by omega) (by omega) a2 b2 h
end Go.Proofs.Ytjjmnoiffpnphaa

namespace Go.Proofs.Ytjjmnoiffpnphaa
open Go.RowKit
theorem IsRes.one {p q N D E n d : Int} (h : IsRes p q N D E) (hq : q ≠ 0) (hk : okB n d = true) (hn : I64 n) (hd : I64 d) (he : n * q = p * d) : N = n ∧ D = d ∧ E = 0 := by
  rcases h with ⟨h1, h2, _, _, h5⟩ | ⟨_, _, _, h4⟩
  · have : N * d = n * D := by
      refine Int.eq_of_mul_eq_mul_right hq ?_
      rw [Int.mul_right_comm, h5, Int.mul_right_comm n D q, he, Int.mul_right_comm]
    obtain ⟨a1, a2⟩ := okB_one h2 hk this
    exact ⟨a1, a2, h1⟩
  · exact absurd he (h4 n d hk hn hd)
end Go.Proofs.Ytjjmnoiffpnphaa

namespace Go.Proofs.Ytjjmnoiffpnphaa
open Go.RowKit
/-- Is a point valid? -/
def okP (n a b : Int) : Bool := decide (0 ≤ n ∧ n ≤ 65535 ∧ -1048576 ≤ a ∧ a ≤ 1048576 ∧ -1048576 ≤ b ∧ b ≤ 1048576)
theorem dt {p : Prop} [Decidable p] (h : p) : decide p = true := by simp [h]
theorem df {p : Prop} [Decidable p] (h : ¬ p) : decide p = false := by simp [h]
/-- Ahead, by the places over the denominator. -/
def leadsB (P Q pb qb pi qi : Int) : Bool := decide (P > Q ∨ P = Q ∧ (pb > qb ∨ pb = qb ∧ pi < qi))
end Go.Proofs.Ytjjmnoiffpnphaa

namespace Go.Proofs.Ytjjmnoiffpnphaa
open Go.RowKit
structure Pt where
  id : Int
  a : Int
  b : Int
abbrev ptV (p : Pt) : Value := pointV p.id p.a p.b
def ptsV : List Pt → List Value
  | [] => []
  | p :: r => .int .i64 p.id :: .int .i64 p.a :: .int .i64 p.b :: ptsV r
theorem ptsV_append : ∀ (a b : List Pt), ptsV (a ++ b) = ptsV a ++ ptsV b
  | [], _ => rfl
  | p :: r, b => by simp [ptsV, ptsV_append r b]
theorem ptsV_length : ∀ (l : List Pt), (ptsV l).length = l.length * 3
  | [] => rfl
  | p :: r => by simp [ptsV, ptsV_length r]; omega
theorem ptsV_get : ∀ {l : List Pt} {k : Nat} {p : Pt}, l[k]? = some p → (ptsV l)[k * 3]? = some (.int .i64 p.id) ∧ (ptsV l)[k * 3 + 1]? = some (.int .i64 p.a) ∧ (ptsV l)[k * 3 + 2]? = some (.int .i64 p.b)
  | [], k, p, h => by simp at h
  | q :: r, 0, p, h => by simp at h; subst h; exact ⟨rfl, rfl, rfl⟩
  | q :: r, k + 1, p, h => by
    have := ptsV_get (l := r) (k := k) (p := p) (by simpa using h)
    rw [show (k + 1) * 3 = k * 3 + 1 + 1 + 1 by omega]
    exact this
theorem ra_pt {l : List Pt} {k : Nat} {p : Pt} (h : l[k]? = some p) : rowAt (ptsV l) (0 * 3 + k * 3) [.int .i64 p.id, .int .i64 p.a, .int .i64 p.b] := by
  obtain ⟨h1, h2, h3⟩ := ptsV_get h
  intro j v hj
  rw [show 0 * 3 + k * 3 + j = k * 3 + j by omega]
  match j, hj with
  | 0, hj => cases hj; exact h1
  | 1, hj => cases hj; exact h2
  | 2, hj => cases hj; exact h3
  | j + 3, hj => simp at hj
theorem ra_id {l : List Pt} {k : Nat} {p : Pt} (h : l[k]? = some p) : rowAt (ptsV l) (0 * 3 + k * 3) [.int .i64 p.id] := by
  intro j v hj
  rw [show 0 * 3 + k * 3 + j = k * 3 + j by omega]
  match j, hj with
  | 0, hj => cases hj; exact (ptsV_get h).1
  | j + 1, hj => simp at hj

/-- Rounds, one after another. -/
theorem RunsL.rounds {P : Program} {lo fr : Nat} {c : Code} {n nb : Nat} (tm : Nat → List (Nat × SV)) (hp : Nat → List (Nat × Nat × SV)) {e : Exit} {tm2 : List (Nat × SV)} {hp2 : List (Nat × Nat × SV)} {N : Nat} :
    ∀ (d i : Nat), i + d = N → (∀ j, i ≤ j → j < N → RunsL P lo fr c n nb (tm (j + 1)) (hp (j + 1)) e tm2 hp2 → RunsL P lo fr c n nb (tm j) (hp j) e tm2 hp2) → RunsL P lo fr c n nb (tm N) (hp N) e tm2 hp2 → RunsL P lo fr c n nb (tm i) (hp i) e tm2 hp2
  | 0, i, h, _, last => by have : i = N := by omega
                           subst this; exact last
  | d + 1, i, h, step, last => step i (Nat.le_refl i) (by omega) (RunsL.rounds tm hp d (i + 1) (by omega) (fun j h1 h2 => step j (by omega) h2) last)

theorem i64_succ {k : Nat} (h : k ≤ 1000000) : Value.int .i64 (IntKind.i64.wrap ((k : Int) + 1)) = .int .i64 ((k + 1 : Nat) : Int) := by rw [wrap_i64_in (by omega) (by omega)]; rfl

theorem snoc_pts (m : List Pt) (p : Pt) : ptsV m ++ [.int .i64 p.id, .int .i64 p.a, .int .i64 p.b] = ptsV (m ++ [p]) := by rw [ptsV_append]; rfl
theorem snoc_ls (b : Nat) (m : List Pt) (p : Pt) : some (SV.ls b (m.length + 1)) = some (SV.ls b (m ++ [p]).length) := by rw [List.length_append]; rfl
theorem ptsV_drop : ∀ (l : List Pt) (k : Nat), (ptsV l).drop (k * 3) = ptsV (l.drop k)
  | l, 0 => by simp
  | [], k + 1 => by simp [ptsV]
  | p :: r, k + 1 => by rw [show (k + 1) * 3 = k * 3 + 1 + 1 + 1 by omega, List.drop_succ_cons]; exact ptsV_drop r k
theorem ptsV_take : ∀ (l : List Pt) (k : Nat), (ptsV l).take (k * 3) = ptsV (l.take k)
  | l, 0 => by simp [ptsV]
  | [], k + 1 => by simp [ptsV]
  | p :: r, k + 1 => by rw [show (k + 1) * 3 = k * 3 + 1 + 1 + 1 by omega, List.take_succ_cons]; exact congrArg (fun z => Value.int .i64 p.id :: .int .i64 p.a :: .int .i64 p.b :: z) (ptsV_take r k)
theorem part_lo (l : List Pt) (k : Nat) : ((ptsV l).drop ((0 + 0) * 3)).take (k * 3) = ptsV (l.take k) := by rw [Nat.zero_add, ptsV_drop, ptsV_take]; rfl
theorem part_hi (l : List Pt) (k : Nat) : ((ptsV l).drop ((0 + k) * 3)).take ((l.length - k) * 3) = ptsV (l.drop k) := by rw [Nat.zero_add, ptsV_drop, ptsV_take, List.take_of_length_le (by simp)]
theorem take_len (l : List Pt) (k : Nat) (h : k + 1 ≤ l.length) : (l.take k ++ l.drop (k + 1)).length = 0 + k + (l.length - (k + 1)) := by simp; omega
theorem ne_self (x : Int) : (!(x == x)) = false := by simp
theorem eq_self (x : Int) : (x == x) = true := by simp
def idsV (l : List Int) : List Value := l.map fun x => .int .i64 x
abbrev rowI (l : List Int) : SV := .row 3 1 l.length (idsV l)
theorem ra_int {l : List Int} {k : Nat} {x : Int} (h : l[k]? = some x) : rowAt (idsV l) (0 * 1 + k * 1) [.int .i64 x] := by
  intro j v hj
  match j, hj with
  | 0, hj => cases hj; simp [idsV, h]
  | j + 1, hj => simp at hj
end Go.Proofs.Ytjjmnoiffpnphaa

namespace Go.Proofs.Ytjjmnoiffpnphaa
open Go.RowKit
set_option maxRecDepth 100000 in
theorem sid_next {l m : List Int} {k : Nat} {x y : Int} (hk : l[k]? = some x) (hin : 0 ≤ (k : Int) ∧ (k : Int) < (l.length : Int)) (hq : m[k]? = some y) (hin2 : 0 ≤ (k : Int) ∧ (k : Int) < (m.length : Int)) (hlt : decide ((k : Int) < (l.length : Int)) = true) (hne : (!(x == y)) = false) (hs : Value.int .i64 (IntKind.i64.wrap ((k : Int) + 1)) = .int .i64 (((k + 1 : Nat) : Int))) {e : Exit} {tm2 : List (Nat × SV)} {hp2 : List (Nat × Nat × SV)}
    (r : RunsL Try.prog 2 2 (loopOf Try.prog 27 0) 26 2 ([(0, .ls 0 l.length), (1, .ls 1 m.length), (5, .pv (.int .i64 ((k + 1 : Nat) : Int)))]) ([(0, 0, rowI l), (1, 0, rowI m)]) e tm2 hp2) : RunsL Try.prog 2 2 (loopOf Try.prog 27 0) 26 2 ([(0, .ls 0 l.length), (1, .ls 1 m.length), (5, .pv (.int .i64 (k : Int)))]) ([(0, 0, rowI l), (1, 0, rowI m)]) e tm2 hp2 :=
  RunsL.next [] 300 [.t true, .r (Value.int .i64 x), .r (Value.int .i64 y), .t false, .r (.int .i64 (((k + 1 : Nat) : Int)))]
    (round_of (And.intro hlt (And.intro hin (And.intro (ra_int hk) (And.intro hin2 (And.intro (ra_int hq) (And.intro hne (And.intro hs True.intro))))))) (by kernel_rfl)) r

set_option maxRecDepth 100000 in
theorem sid_end {l m : List Int} {k : Nat} (hge : decide ((k : Int) < (l.length : Int)) = false) : RunsL Try.prog 2 2 (loopOf Try.prog 27 0) 26 2 ([(0, .ls 0 l.length), (1, .ls 1 m.length), (5, .pv (.int .i64 (k : Int)))]) ([(0, 0, rowI l), (1, 0, rowI m)]) (.exit 0) ([]) ([]) :=
  RunsL.stop [] 300 [.t false] (fun h => by cases h)
    (round_of (And.intro hge True.intro) (by kernel_rfl))

set_option maxRecDepth 100000 in
theorem sid_yes {l m : List Int} (hl : (!((l.length : Int) == (m.length : Int))) = false) (r0 : RunsL Try.prog 2 2 (loopOf Try.prog 27 0) 26 2 ([(0, .ls 0 l.length), (1, .ls 1 m.length), (5, .pv (.int .i64 ((0 : Nat) : Int)))]) ([(0, 0, rowI l), (1, 0, rowI m)]) (.exit 0) ([]) ([])) :
    FnL Try.prog 27 2 [.ls 0 l.length, .ls 1 m.length] [(0, 0, rowI l), (1, 0, rowI m)] (.pv (.bool true)) 0 [] :=
  fnl_run 300 [] [.t false, .l (.exit 0) ([(0, .ls 0 l.length), (1, .ls 1 m.length), (5, .pv (.int .i64 ((0 : Nat) : Int)))]) ([(0, 0, rowI l), (1, 0, rowI m)]) ([]) ([])]
     True.intro (And.intro hl (And.intro (reflT (renN []) ([(0, .ls 0 l.length), (1, .ls 1 m.length), (5, .pv (.int .i64 ((0 : Nat) : Int)))])) (And.intro (reflH (renN []) ([(0, 0, rowI l), (1, 0, rowI m)])) (And.intro r0 True.intro)))) (by kernel_rfl)

end Go.Proofs.Ytjjmnoiffpnphaa

namespace Go.Proofs.Ytjjmnoiffpnphaa
open Go.ChangeShapes Go.WideShapes Go.ChangeAt Go.RowKit Go.Joins Go.Deep
section
variable {H : Type} {enc : TypeId × Value → H} {W : World} {base : Nat} {spare : Nat → Bool} {held : Bool}
theorem pts_of (f : Nat → Pt) : ∀ (n j : Nat) (v : Value), (ptsV ((List.range n).map f))[j]? = some v → j / 3 < n ∧ [Value.int .i64 (f (j / 3)).id, .int .i64 (f (j / 3)).a, .int .i64 (f (j / 3)).b][j % 3]? = some v := by
  intro n j v h
  have hj : j < n * 3 := by
    have := (List.getElem?_eq_some_iff.1 h).1
    rw [ptsV_length] at this
    simpa using this
  have hk : j / 3 < n := by omega
  have hg := ptsV_get (l := (List.range n).map f) (k := j / 3) (p := f (j / 3)) (by simp [hk])
  refine ⟨hk, ?_⟩
  have h3 : j % 3 = 0 ∨ j % 3 = 1 ∨ j % 3 = 2 := by omega
  have e : j = j / 3 * 3 + j % 3 := by omega
  rw [e] at h
  rcases h3 with e3 | e3 | e3 <;> rw [e3] at h ⊢
  · rw [Nat.add_zero, hg.1] at h; exact h
  · rw [hg.2.1] at h; exact h
  · rw [hg.2.2] at h; exact h
end
theorem pts_one : ∀ (l : List Pt) (v : Value), v ∈ ptsV l → v.oneCell' = true
  | [], _, h => by simp [ptsV] at h
  | p :: r, v, h => by
    simp only [ptsV, List.mem_cons] at h
    rcases h with rfl | rfl | rfl | h
    · rfl
    · rfl
    · rfl
    · exact pts_one r v h
end Go.Proofs.Ytjjmnoiffpnphaa

namespace Go.Proofs.Ytjjmnoiffpnphaa
open Go.RowKit
def okPt (p : Pt) : Bool := okP p.id p.a p.b
def Up (l : List Pt) : Prop := ∀ (k : Nat) (p q : Pt), l[k]? = some p → l[k + 1]? = some q → p.id < q.id
theorem first_nat (P : Nat → Prop) : ∀ (N : Nat), (∀ k, k < N → P k) ∨ ∃ j, j < N ∧ ¬ P j ∧ ∀ i, i < j → P i
  | 0 => Or.inl fun k hk => by omega
  | N + 1 => by
    rcases first_nat P N with h | ⟨j, h1, h2⟩
    · by_cases hN : P N
      · exact Or.inl fun k hk => by
          rcases Nat.lt_or_ge k N with h' | h'
          · exact h k h'
          · have : k = N := by omega
            subst this; exact hN
      · exact Or.inr ⟨N, by omega, hN, h⟩
    · exact Or.inr ⟨j, by omega, h2⟩
theorem get_some {α : Type} {l : List α} {k : Nat} (h : k < l.length) : ∃ p, l[k]? = some p := ⟨l[k], List.getElem?_eq_getElem h⟩
theorem get_lt {α : Type} {l : List α} {k : Nat} {p : α} (h : l[k]? = some p) : k < l.length := (List.getElem?_eq_some_iff.1 h).1
theorem in_of {k n : Nat} (h : k < n) : 0 ≤ (k : Int) ∧ (k : Int) < (n : Int) := ⟨by omega, by omega⟩
theorem Up.mono {l : List Pt} (h : Up l) : ∀ {i j : Nat} {p q : Pt}, i < j → l[i]? = some p → l[j]? = some q → p.id < q.id := by
  intro i j
  induction j with
  | zero => intro p q hij; omega
  | succ j ih =>
    intro p q hij hp hq
    by_cases e : i = j
    · subst e; exact h i p q hp hq
    · obtain ⟨r, hr⟩ := get_some (l := l) (k := j) (by have := get_lt hq; omega)
      exact Int.lt_trans (ih (by omega) hp hr) (h j r q hr hq)
theorem i64_pred (k : Nat) (h : k ≤ 1000000) : Value.int .i64 (IntKind.i64.wrap (((k + 1 : Nat) : Int) - 1)) = .int .i64 (k : Int) := by rw [show ((k + 1 : Nat) : Int) - 1 = (k : Int) by omega, wrap_i64_in (by omega) (by omega)]
structure Val (l : List Pt) : Prop where
  len : l.length ≤ 64
  ok : ∀ p ∈ l, okPt p = true
  up : Up l
/-- Where an ID is, or where it would be. -/
theorem place (l : List Pt) (hv : Val l) (id : Int) : (∃ (k : Nat) (p : Pt), l[k]? = some p ∧ p.id = id) ∨ ((∀ p ∈ l, p.id ≠ id) ∧ ∃ k, k ≤ l.length ∧ (∀ (t : Nat) (p : Pt), t < k → l[t]? = some p → p.id < id) ∧ ∀ (t : Nat) (p : Pt), k ≤ t → l[t]? = some p → id < p.id) := by
  by_cases h : ∃ (k : Nat) (p : Pt), l[k]? = some p ∧ p.id = id
  · exact Or.inl h
  · refine Or.inr ⟨fun p hp e => ?_, ?_⟩
    · obtain ⟨k, hk, rfl⟩ := List.getElem_of_mem hp
      exact h ⟨k, _, List.getElem?_eq_getElem hk, e⟩
    · rcases first_nat (fun k => ∀ p, l[k]? = some p → p.id < id) l.length with hh | ⟨j, hj, hn, hb⟩
      · exact ⟨l.length, Nat.le_refl _, fun t p ht hp => hh t ht p hp, fun t p ht hp => by have := get_lt hp; omega⟩
      · refine ⟨j, by omega, fun t p ht hp => hb t ht p hp, fun t p ht hp => ?_⟩
        simp only [Classical.not_forall, not_imp] at hn
        obtain ⟨q, hq, hlt⟩ := hn
        have hne : q.id ≠ id := fun e => h ⟨j, q, hq, e⟩
        rcases Nat.lt_or_ge j t with h' | h'
        · have := hv.up.mono h' hq hp; omega
        · have : t = j := by omega
          subst this
          rw [hq] at hp
          cases hp
          omega

end Go.Proofs.Ytjjmnoiffpnphaa

namespace Go.Proofs.Ytjjmnoiffpnphaa
open Go.RowKit
theorem take_succ {α : Type} {l : List α} {k : Nat} {p : α} (h : l[k]? = some p) : l.take (k + 1) = l.take k ++ [p] := by rw [List.take_add_one, h]; rfl
end Go.Proofs.Ytjjmnoiffpnphaa
