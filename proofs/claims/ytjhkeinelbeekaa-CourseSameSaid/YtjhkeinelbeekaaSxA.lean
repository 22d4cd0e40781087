/-
  A run of Go code over plain values and blocks of its own, worked out by reduction: what an operation yields. Conditions: none.
-/
import Derived.StillTail
import Derived.Deep.MidRow
import Derived.ChangeKeysEq
import Derived.Laws.IdiomCopy
import Derived.Laws.StructEq
import Derived.KernelRfl
import Derived.RowKit3
import Derived.Below
import Derived.Deep.Draws
namespace Go.Proofs.Ytjhkeinelbeekaa
open Go.RowKit

/-! ### At most new blocks -/
/-- At most new blocks: what was there is as it was, frozen marks too. -/
def Gr (w w' : World) : Prop := Below w.heap.size w w' ∧ ∀ a, w'.frozen? a = w.frozen? a
theorem Gr.refl (w : World) : Gr w w := ⟨Below.refl _ _, fun _ => rfl⟩
theorem Gr.of_eq {w w' : World} (h : w = w') : Gr w w' := by subst h; exact Gr.refl _
theorem Gr.trans {a b c : World} (h : Gr a b) (k : Gr b c) : Gr a c := ⟨h.1.trans (k.1.mono h.1.size), fun x => (k.2 x).trans (h.2 x)⟩
theorem Gr.drew {a w : World} (h : Gr a w) : Gr a w.drew := ⟨h.1.drew, h.2⟩
theorem Gr.drewN {a w : World} (h : Gr a w) (n : Nat) : Gr a (w.drewN n) := ⟨⟨h.1.os, h.1.tape, h.1.output, h.1.size, h.1.block⟩, h.2⟩
theorem Gr.grown {a w : World} (h : Gr a w) : Grown a w := ⟨h.1.frame _, h.2, h.1.size⟩
theorem Gr.alloc {a w : World} (h : Gr a w) (c : Array Value) (t : TypeId) : Gr a (w.alloc (.cells c t)) := ⟨h.1.alloc h.1.size _, (h.grown.alloc c t).2.1⟩
theorem Gr.setCell {a w : World} (h : Gr a w) {p : Addr} (hp : a.heap.size ≤ p.block) (v : Value) : Gr a (w.setCell p v) := ⟨h.1.setCell hp v, (h.grown.setCell hp v).2.1⟩
theorem Gr.cell {a w : World} (h : Gr a w) (b o : Nat) (hb : b < a.heap.size) : w.cell? ⟨b, o, none⟩ = a.cell? ⟨b, o, none⟩ := h.1.cell (p := ⟨b, o, none⟩) hb
theorem Gr.size {a w : World} (h : Gr a w) : a.heap.size ≤ w.heap.size := h.1.size
theorem Gr.setCells {a : World} (b : Nat) (hb : a.heap.size ≤ b) : ∀ (vs : List Value) (o : Nat) (w : World), Gr a w → Gr a (w.setCells b o vs)
  | [], _, _, h => h
  | v :: r, o, _, h => Gr.setCells b hb r (o + 1) _ (h.setCell hb v)
theorem size_setCell (w : World) (p : Addr) (v : Value) : (w.setCell p v).heap.size = w.heap.size := by simp [World.setCell]
theorem size_setCells (b : Nat) : ∀ (vs : List Value) (o : Nat) (w : World), (w.setCells b o vs).heap.size = w.heap.size
  | [], _, _ => rfl
  | v :: r, o, w => by rw [World.setCells, size_setCells b r, size_setCell]

/-- For all worlds the call returns v, with at most new blocks. -/
def Pure (P : Program) (f : FuncId) (args : Array Value) (v : Value) : Prop := ∀ w, Calls P f args w fun e w' => e = .returned v ∧ Gr w w'

/-! ### Values with blocks by name -/
/-- A plain value, a pointer into a block, a slice of one. -/
inductive S0 where
  | pv (x : Value)
  | pp (b o : Nat)
  | ps (b o len cap : Nat)
/-- The same, or a function value with what it has captured, or a value that is not told. -/
inductive SV where
  | pv (x : Value)
  | pp (b o : Nat)
  | ps (b o len cap : Nat)
  | pc (f : FuncId) (cap : List S0)
  | any
/-- Which real block a name stands for. -/
abbrev Bl := Nat → Option Nat
def Bl.le (β γ : Bl) : Prop := ∀ b r, β b = some r → γ b = some r
def Bl.set (β : Bl) (n r : Nat) : Bl := fun b => if b = n then some r else β b
theorem Bl.le_refl (β : Bl) : β.le β := fun _ _ h => h
theorem Bl.le_trans {β γ δ : Bl} (h : β.le γ) (k : γ.le δ) : β.le δ := fun b r e => k b r (h b r e)
theorem Bl.le_set {β : Bl} {n r : Nat} (h : β n = none) : β.le (β.set n r) := fun b q e => by
  unfold Bl.set
  split
  · rename_i hb; subst hb; rw [h] at e; cases e
  · exact e
theorem Bl.set_same (β : Bl) (n r : Nat) : β.set n r n = some r := by simp [Bl.set]

def S0.is (β : Bl) : S0 → Value → Prop
  | .pv y, x => x = y
  | .pp b o, x => ∃ r, β b = some r ∧ x = .pointer (some ⟨r, o, none⟩)
  | .ps b o l c, x => ∃ r, β b = some r ∧ x = .slice (some ⟨r, o, none⟩) l c
def S0.isl (β : Bl) : List S0 → List Value → Prop
  | [], [] => True
  | s :: ss, v :: vs => s.is β v ∧ S0.isl β ss vs
  | _, _ => False
def S0.up : S0 → SV
  | .pv x => .pv x
  | .pp b o => .pp b o
  | .ps b o l c => .ps b o l c
def SV.down : SV → Option S0
  | .pv x => some (.pv x)
  | .pp b o => some (.pp b o)
  | .ps b o l c => some (.ps b o l c)
  | .pc _ _ => none
  | .any => none
def SV.is (β : Bl) : SV → Value → Prop
  | .pv y, x => x = y
  | .pp b o, x => ∃ r, β b = some r ∧ x = .pointer (some ⟨r, o, none⟩)
  | .ps b o l c, x => ∃ r, β b = some r ∧ x = .slice (some ⟨r, o, none⟩) l c
  | .pc f cap, x => ∃ vs, S0.isl β cap vs ∧ x = .func (.func f) #[] vs.toArray
  | .any, _ => True
def SV.isl (β : Bl) : List SV → List Value → Prop
  | [], [] => True
  | s :: ss, v :: vs => s.is β v ∧ SV.isl β ss vs
  | _, _ => False
theorem S0.is_mono {β γ : Bl} (h : β.le γ) {s : S0} {x : Value} (k : s.is β x) : s.is γ x := by
  cases s with
  | pv y => exact k
  | pp b o => obtain ⟨r, h1, h2⟩ := k; exact ⟨r, h _ _ h1, h2⟩
  | ps b o l c => obtain ⟨r, h1, h2⟩ := k; exact ⟨r, h _ _ h1, h2⟩
theorem S0.isl_mono {β γ : Bl} (h : β.le γ) : ∀ {ss : List S0} {vs : List Value}, S0.isl β ss vs → S0.isl γ ss vs
  | [], [], _ => trivial
  | [], _ :: _, k => k.elim
  | _ :: _, [], k => k.elim
  | _ :: _, _ :: _, k => ⟨S0.is_mono h k.1, S0.isl_mono h k.2⟩
theorem SV.is_mono {β γ : Bl} (h : β.le γ) {s : SV} {x : Value} (k : s.is β x) : s.is γ x := by
  cases s with
  | pv y => exact k
  | pp b o => obtain ⟨r, h1, h2⟩ := k; exact ⟨r, h _ _ h1, h2⟩
  | ps b o l c => obtain ⟨r, h1, h2⟩ := k; exact ⟨r, h _ _ h1, h2⟩
  | pc f cap => obtain ⟨vs, h1, h2⟩ := k; exact ⟨vs, S0.isl_mono h h1, h2⟩
  | any => trivial
theorem SV.isl_mono {β γ : Bl} (h : β.le γ) : ∀ {ss : List SV} {vs : List Value}, SV.isl β ss vs → SV.isl γ ss vs
  | [], [], _ => trivial
  | [], _ :: _, k => k.elim
  | _ :: _, [], k => k.elim
  | _ :: _, _ :: _, k => ⟨SV.is_mono h k.1, SV.isl_mono h k.2⟩
theorem S0.up_is {β : Bl} {s : S0} {x : Value} : s.up.is β x ↔ s.is β x := by cases s <;> exact Iff.rfl
theorem SV.down_is {β : Bl} {s : SV} {d : S0} {x : Value} (h : s.down = some d) : s.is β x ↔ d.is β x := by
  cases s <;> simp [SV.down] at h <;> subst h <;> exact Iff.rfl
theorem SV.isl_append {β : Bl} : ∀ {a b : List SV} {x y : List Value}, SV.isl β a x → SV.isl β b y → SV.isl β (a ++ b) (x ++ y)
  | [], _, [], _, _, k => k
  | [], _, _ :: _, _, h, _ => h.elim
  | _ :: _, _, [], _, h, _ => h.elim
  | _ :: _, _, _ :: _, _, h, k => ⟨h.1, SV.isl_append h.2 k⟩
theorem S0.isl_up {β : Bl} : ∀ {a : List S0} {x : List Value}, S0.isl β a x → SV.isl β (a.map S0.up) x
  | [], [], _ => trivial
  | [], _ :: _, h => h.elim
  | _ :: _, [], h => h.elim
  | _ :: _, _ :: _, h => ⟨S0.up_is.2 h.1, S0.isl_up h.2⟩
theorem SV.isl_v {β : Bl} : ∀ (l : List Value), SV.isl β (l.map .pv) l
  | [] => trivial
  | _ :: l => ⟨rfl, SV.isl_v l⟩
theorem SV.isl_v_eq {β : Bl} : ∀ {l x : List Value}, SV.isl β (l.map .pv) x → x = l
  | [], [], _ => rfl
  | [], _ :: _, h => h.elim
  | _ :: _, [], h => h.elim
  | _ :: _, _ :: _, h => by rw [SV.isl_v_eq h.2, show _ = _ from h.1]
theorem SV.isl_get {β : Bl} : ∀ {a : List SV} {x : List Value}, SV.isl β a x → a.length = x.length ∧ ∀ (j : Nat) (s : SV), a[j]? = some s → ∃ u, x[j]? = some u ∧ s.is β u
  | [], [], _ => ⟨rfl, fun j s h => by simp at h⟩
  | [], _ :: _, h => h.elim
  | _ :: _, [], h => h.elim
  | s :: a, u :: x, h => by
    obtain ⟨h1, h2⟩ := SV.isl_get h.2
    refine ⟨by simp [h1], fun j t hj => ?_⟩
    cases j with
    | zero => simp at hj; subst hj; exact ⟨u, by simp, h.1⟩
    | succ j => simpa using h2 j t (by simpa using hj)

/-! ### The state -/
/-- What is said ahead: leave it to the reduction; a test's outcome (or that no division fails); a call's result; how a loop ends, from which slots and cells to which. -/
inductive Ch where
  | k
  | t (b : Bool)
  | r (v : Value)
  | l (e : Exit) (tm0 : List (Nat × SV)) (hp0 : List (Nat × Nat × SV)) (tm1 : List (Nat × SV)) (hp1 : List (Nat × Nat × SV))
structure St where
  tm : List (Nat × SV)
  n : Nat
  hp : List (Nat × Nat × SV)
  nb : Nat
  ch : List Ch
def lookT : List (Nat × SV) → Nat → SV
  | [], _ => .pv undef
  | (d, x) :: r, k => bif Nat.beq d k then x else lookT r k
def lookH : List (Nat × Nat × SV) → Nat → Nat → Option SV
  | [], _, _ => none
  | (b, o, x) :: r, c, k => bif Nat.beq b c && Nat.beq o k then some x else lookH r c k
def St.ev (st : St) : Operand → SV
  | .tmp t => lookT st.tm t
  | .const v => .pv v
  | .global g => .pv (.pointer (some ⟨g, 0, none⟩))
  | .func f => .pv (.func (.func f) #[] #[])
def SV.raw : SV → Value
  | .pv x => x
  | _ => undef
def SV.isV : SV → Bool
  | .pv _ => true
  | _ => false
def SV.get? : SV → Option Value
  | .pv x => some x
  | _ => none
def allGet : List SV → Option (List Value)
  | [] => some []
  | .pv x :: r => match allGet r with
    | some l => some (x :: l)
    | none => none
  | _ :: _ => none
def allDown : List SV → Option (List S0)
  | [] => some []
  | s :: r => match s.down, allDown r with
    | some d, some l => some (d :: l)
    | _, _ => none
theorem allGet_eq : ∀ {ss : List SV} {l : List Value}, allGet ss = some l → ss = l.map .pv
  | [], l, h => by simp [allGet] at h; subst h; rfl
  | .pv x :: r, l, h => by
    simp only [allGet] at h
    split at h
    · rename_i m hm; simp at h; subst h; rw [allGet_eq hm]; rfl
    · cases h
  | .pp .. :: _, _, h => by simp [allGet] at h
  | .ps .. :: _, _, h => by simp [allGet] at h
  | .pc .. :: _, _, h => by simp [allGet] at h
  | .any :: _, _, h => by simp [allGet] at h
theorem allDown_isl {β : Bl} : ∀ {ss : List SV} {l : List S0} {vs : List Value}, allDown ss = some l → SV.isl β ss vs → S0.isl β l vs
  | [], l, [], h, _ => by simp [allDown] at h; subst h; trivial
  | [], _, _ :: _, _, k => k.elim
  | _ :: _, _, [], _, k => k.elim
  | s :: r, l, v :: vs, h, k => by
    simp only [allDown] at h
    split at h
    · rename_i d m hd hm
      simp at h
      subst h
      exact ⟨(SV.down_is hd).1 k.1, allDown_isl hm k.2⟩
    · cases h

/-- An operation that asks the world nothing. -/
def prun (P : Program) {α : Type} : Sem α → Option α
  | .pure a => some a
  | .program k => prun P (k P)
  | .mark _ k => prun P k
  | _ => none
theorem prun_run {P : Program} {α : Type} {s : Sem α} : ∀ {a : α}, prun P s = some a → ∀ w, s.run P w = .ok a w := by
  induction s with
  | pure b => intro a h w; simp [prun] at h; subst h; rfl
  | program k ih => intro a h w; exact ih P (a := a) (by simpa [prun] using h) w
  | mark m k ih => intro a h w; exact ih (a := a) (by simpa [prun] using h) w
  | _ => intro a h; simp [prun] at h

/-- All of a list of conditions. -/
def AllP : List Prop → Prop
  | [] => True
  | q :: r => q ∧ AllP r
theorem AllP_append : ∀ {a b : List Prop}, AllP (a ++ b) → AllP a ∧ AllP b
  | [], _, h => ⟨trivial, h⟩
  | _ :: _, _, h => ⟨⟨h.1, (AllP_append h.2).1⟩, (AllP_append h.2).2⟩

/-- What the blocks by name have to do with a world. -/
structure HRelP (W0 : World) (lo : Nat) (β : Bl) (Hc : Nat → Nat → SV → Prop) (w : World) : Prop where
  gr : Gr W0 w
  live : ∀ b r, β b = some r → r < w.heap.size
  inj : ∀ b c r, β b = some r → β c = some r → b = c
  new : ∀ b r, lo ≤ b → β b = some r → W0.heap.size ≤ r
  cells : ∀ b o sv, Hc b o sv → ∃ r u, β b = some r ∧ sv.is β u ∧ u.oneCell' = true ∧ w.cell? ⟨r, o, none⟩ = some u ∧ w.frozen? ⟨r, o, none⟩ = false

abbrev HRel (W0 : World) (lo : Nat) (β : Bl) (hp : List (Nat × Nat × SV)) (w : World) : Prop := HRelP W0 lo β (fun b o sv => lookH hp b o = some sv) w
theorem HRelP.gr_mono {W0 : World} {lo : Nat} {β : Bl} {Hc : Nat → Nat → SV → Prop} {w w' : World} (h : HRelP W0 lo β Hc w) (k : Gr w w') : HRelP W0 lo β Hc w' :=
  ⟨h.gr.trans k, fun b r e => Nat.lt_of_lt_of_le (h.live b r e) k.size, h.inj, h.new, fun b o sv e => by
    obtain ⟨r, u, h1, h2, h3, h4, h5⟩ := h.cells b o sv e
    exact ⟨r, u, h1, h2, h3, (k.cell r o (h.live b r h1)).trans h4, (k.2 _).trans h5⟩⟩
end Go.Proofs.Ytjhkeinelbeekaa
