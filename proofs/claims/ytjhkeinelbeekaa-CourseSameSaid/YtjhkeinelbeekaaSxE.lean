/-
  Operations one after another over blocks by name: a real run does what was worked out. Conditions: none.
-/
import Derived.Test.YtjhkeinelbeekaaSxD
namespace Go.Proofs.Ytjhkeinelbeekaa
open Go.RowKit

/-- A new block's pointer, or the slice of it, by name. -/
def ptrS (n : Nat) : Option Nat → SV
  | none => .pp n 0
  | some m => .ps n 0 m m
/-- A slot is set. -/
def putS (st : St) (dst : Option Tmp) (x : SV) : Option St :=
  match dst with
  | none => some st
  | some d => bif Nat.ble (d + 1) st.n then some { st with tm := (d, x) :: st.tm } else none
def addCells (b : Nat) : Nat → List SV → List (Nat × Nat × SV) → List (Nat × Nat × SV)
  | _, [], hp => hp
  | o, s :: r, hp => (b, o, s) :: addCells b (o + 1) r hp
def wantS (ops : Array Oper) (st : St) (o : Oper) : Option Bool :=
  match o.guard with
  | none => some true
  | some (j, want) => match (ops[j]?).bind (·.dst) with
    | some d => match lookT st.tm d with
      | .pv (.bool b) => some (b == want)
      | .pv (.tuple _) => some false
      | _ => none
    | none => none
def popS (op : Op) (st : St) : Ch × St :=
  bif pops op then
    match st.ch with
    | [] => (.k, st)
    | c :: r => (c, { st with ch := r })
  else (.k, st)
abbrev CallF := Nat → FuncId → List SV → Ch → St → Option (SV × St × List Prop)
def effS (call : CallF) (lo : Nat) (o : Oper) (c : Ch) (st : St) : Out → Option (St × List Prop)
  | .val x => match putS st o.dst x with
    | some s => some (s, [])
    | none => none
  | .new _ cells len =>
    match putS { st with hp := addCells st.nb 0 cells st.hp, nb := st.nb + 1 } o.dst (ptrS st.nb len) with
    | some s => some (s, [])
    | none => none
  | .sto b i cells => bif Nat.ble lo b then
      match putS { st with hp := addCells b i cells st.hp } o.dst (.pv undef) with
      | some s => some (s, [])
      | none => none
    else none
  | .call f args => match call lo f args c st with
    | some (x, s, q) => match putS s o.dst x with
      | some s' => some (s', q)
      | none => none
    | none => none
def seqS (P : Program) (call : CallF) (lo : Nat) (ops : Array Oper) : List Oper → St → Option (St × List Prop)
  | [], st => some (st, [])
  | o :: r, st => match wantS ops st o with
    | some true => match opS P (popS o.op st).2 o (popS o.op st).1 with
      | some (out, q1) => match effS call lo o (popS o.op st).1 (popS o.op st).2 out with
        | some (st2, q2) => match seqS P call lo ops r st2 with
          | some (st3, q3) => some (st3, q1 ++ (q2 ++ q3))
          | none => none
        | none => none
      | none => none
    | some false => match putS st o.dst (.pv undef) with
      | some st2 => seqS P call lo ops r st2
      | none => none
    | none => none

/-! ### What slots and blocks have to do with a real frame and world -/
structure TRel (β : Bl) (tm : List (Nat × SV)) (n : Nat) (a : Act) : Prop where
  size : a.tmps.size = n
  defers : a.defers = []
  tmps : ∀ d, (lookT tm d).is β (a.tmps.getD d undef)
structure Rel (W0 : World) (lo : Nat) (β : Bl) (st : St) (a : Act) (w : World) : Prop where
  t : TRel β st.tm st.n a
  h : HRel W0 lo β st.hp w
  dom : ∀ b, st.nb ≤ b → β b = none
  lo : lo ≤ st.nb
def CallOk (P : Program) (call : CallF) : Prop :=
  ∀ {lo : Nat} {f : FuncId} {args : List SV} {c : Ch} {st : St} {x : SV} {st' : St} {q : List Prop}, call lo f args c st = some (x, st', q) → AllP q →
    st'.tm = st.tm ∧ st'.n = st.n ∧ ∀ (W0 : World) (β : Bl) (us : List Value) (w : World), HRel W0 lo β st.hp w → (∀ b, st.nb ≤ b → β b = none) → lo ≤ st.nb → SV.isl β args us →
      Calls P f us.toArray w fun e w' => ∃ v β', e = .returned v ∧ β.le β' ∧ x.is β' v ∧ HRel W0 lo β' st'.hp w' ∧ (∀ b, st'.nb ≤ b → β' b = none) ∧ lo ≤ st'.nb

theorem TRel.mono {β γ : Bl} {tm : List (Nat × SV)} {n : Nat} {a : Act} (h : TRel β tm n a) (k : β.le γ) : TRel γ tm n a := ⟨h.size, h.defers, fun d => SV.is_mono k (h.tmps d)⟩
theorem lookT_cons (d : Nat) (x : SV) (tm : List (Nat × SV)) (k : Nat) : lookT ((d, x) :: tm) k = if d = k then x else lookT tm k := by
  simp only [lookT]
  by_cases h : d = k
  · subst h; simp [Nat.beq_refl]
  · rw [if_neg h]
    have : Nat.beq d k = false := by cases hb : Nat.beq d k; rfl; exact absurd (Nat.eq_of_beq_eq_true hb) h
    rw [this]; rfl
theorem getD_put (a : Act) (d k : Nat) (u v : Value) (h : d < a.tmps.size) : (a.put (some d) u).tmps.getD k v = if d = k then u else a.tmps.getD k v := by
  simp only [Act.put, Array.getD_eq_getD_getElem?, Array.getElem?_setIfInBounds]
  by_cases e : d = k
  · subst e; simp [h]
  · simp [e]
theorem TRel.put {β : Bl} {st : St} {s : St} {a : Act} {x : SV} {u : Value} {dst : Option Tmp} (h : TRel β st.tm st.n a) (hp : putS st dst x = some s) (hx : x.is β u) : TRel β s.tm s.n (a.put dst u) ∧ s.hp = st.hp ∧ s.nb = st.nb ∧ s.n = st.n := by
  unfold putS at hp
  split at hp
  · simp only [Option.some.injEq] at hp; subst hp; exact ⟨h, rfl, rfl, rfl⟩
  · rename_i d
    cases hb : Nat.ble (d + 1) st.n
    · rw [hb] at hp; cases hp
    · rw [hb, cond_true] at hp
      simp only [Option.some.injEq] at hp
      subst hp
      have hd : d < a.tmps.size := by rw [h.size]; exact Nat.le_of_ble_eq_true hb
      refine ⟨⟨by simp [Act.put, h.size], h.defers, fun k => ?_⟩, rfl, rfl, rfl⟩
      rw [lookT_cons, getD_put _ _ _ _ _ hd]
      split
      · exact hx
      · exact h.tmps k
theorem TRel.ev {β : Bl} {st : St} {a : Act} (h : TRel β st.tm st.n a) (x : Operand) : (st.ev x).is β (a.eval x) := by
  cases x with
  | tmp t => exact h.tmps t
  | const v => rfl
  | global g => rfl
  | func f => rfl
theorem popS_st {op : Op} {st s : St} (h : (popS op st).2 = s) : s.tm = st.tm ∧ s.n = st.n ∧ s.hp = st.hp ∧ s.nb = st.nb := by
  unfold popS at h
  cases hb : pops op
  · rw [hb, cond_false] at h; subst h; exact ⟨rfl, rfl, rfl, rfl⟩
  · rw [hb, cond_true] at h
    split at h
    · subst h; exact ⟨rfl, rfl, rfl, rfl⟩
    · subst h; exact ⟨rfl, rfl, rfl, rfl⟩
theorem wanted_of {β : Bl} {ops : Array Oper} {st : St} {o : Oper} {a : Act} {r : Bool} (h : wantS ops st o = some r) (ht : ∀ d, d ∈ o.looksAt ops → (lookT st.tm d).is β (a.tmps.getD d undef)) : Region.wanted o (yielded ops a.tmps) = r := by
  unfold wantS at h
  unfold Region.wanted
  split at h
  · rename_i hg; simp only [Option.some.injEq] at h; subst h; simp [hg]
  · rename_i j want hg
    split at h
    · rename_i d hd
      split at h
      · rename_i b hb
        simp only [Option.some.injEq] at h
        subst h
        have k := ht d (by unfold Oper.looksAt; simp [hg, hd])
        rw [hb] at k
        have k' : a.tmps.getD d undef = .bool b := k
        have hs : a.tmps[d]? = some (.bool b) := by
          rw [Array.getD_eq_getD_getElem?] at k'
          cases e : a.tmps[d]? with
          | none => rw [e] at k'; simp [undef] at k'
          | some y => rw [e] at k'; simp at k'; rw [k']
        have hy : yielded ops a.tmps j = some b := by
          unfold yielded
          rw [hd, Option.bind_some, hs]
        simp only [hg, hy]
        cases b <;> cases want <;> rfl
      · rename_i vs hb
        simp only [Option.some.injEq] at h
        subst h
        have k := ht d (by unfold Oper.looksAt; simp [hg, hd])
        rw [hb] at k
        have k' : a.tmps.getD d undef = .tuple vs := k
        have hy : yielded ops a.tmps j = none := by
          unfold yielded
          rw [hd, Option.bind_some]
          rw [Array.getD_eq_getD_getElem?] at k'
          cases e : a.tmps[d]? with
          | none => rfl
          | some y => rw [e] at k'; simp at k'; rw [k']
        simp only [hg, hy]
        cases want <;> rfl
      · cases h
    · cases h
theorem lookH_cons (b o : Nat) (x : SV) (hp : List (Nat × Nat × SV)) (c k : Nat) : lookH ((b, o, x) :: hp) c k = if b = c ∧ o = k then some x else lookH hp c k := by
  simp only [lookH]
  by_cases h : b = c ∧ o = k
  · obtain ⟨rfl, rfl⟩ := h; simp [Nat.beq_refl]
  · rw [if_neg h]
    have : (Nat.beq b c && Nat.beq o k) = false := by
      cases hb : (Nat.beq b c && Nat.beq o k)
      · rfl
      · simp only [Bool.and_eq_true] at hb; exact absurd ⟨Nat.eq_of_beq_eq_true hb.1, Nat.eq_of_beq_eq_true hb.2⟩ h
    rw [this]; rfl
theorem lookH_add {b : Nat} {hp : List (Nat × Nat × SV)} {c k : Nat} {s : SV} : ∀ {cells : List SV} {o : Nat}, lookH (addCells b o cells hp) c k = some s →
    (b = c ∧ ∃ j, k = o + j ∧ cells[j]? = some s) ∨ (lookH hp c k = some s ∧ ¬ (b = c ∧ o ≤ k ∧ k < o + cells.length))
  | [], o, h => Or.inr ⟨h, fun h3 => by simp at h3; omega⟩
  | x :: r, o, h => by
    rw [addCells, lookH_cons] at h
    split at h
    · rename_i hk
      simp only [Option.some.injEq] at h
      exact Or.inl ⟨hk.1, 0, by omega, by simp [h]⟩
    · rename_i hk
      rcases lookH_add h with ⟨h1, j, h2, h3⟩ | ⟨h1, h2⟩
      · exact Or.inl ⟨h1, j + 1, by omega, by simpa using h3⟩
      · refine Or.inr ⟨h1, fun h3 => ?_⟩
        have : ¬ o = k := fun e => hk ⟨h3.1, e⟩
        exact h2 ⟨h3.1, by omega, by simp at h3; omega⟩

section
variable {P : Program} {W0 : World} {lo : Nat} {β : Bl} {w : World}
theorem HRelP.mono_lo {Hc : Nat → Nat → SV → Prop} {W : World} {l : Nat} (h : HRelP W0 lo β Hc w) (hg : Gr W w) (hn : ∀ b r, l ≤ b → β b = some r → W.heap.size ≤ r) : HRelP W l β Hc w := ⟨hg, h.live, h.inj, hn, h.cells⟩
theorem HRelP.imp {Hc Hd : Nat → Nat → SV → Prop} (h : HRelP W0 lo β Hc w) (k : ∀ b o s, Hd b o s → Hc b o s) : HRelP W0 lo β Hd w := ⟨h.gr, h.live, h.inj, h.new, fun b o s e => h.cells b o s (k b o s e)⟩
theorem frozen_fresh {w : World} {b o : Nat} (h : w.heap.size ≤ b) : w.frozen? ⟨b, o, none⟩ = false := by simp [World.frozen?, Array.getElem?_eq_none h]
theorem cell_fresh (w : World) (c : Array Value) (t : TypeId) (j : Nat) : (w.alloc (.cells c t)).cell? ⟨w.heap.size, j, none⟩ = c[j]? := by
  have e : (w.alloc (.cells c t)).heap[w.heap.size]? = some (.cells c t) := (MapKept.heap_alloc w _).1
  simp only [World.cell?, e]
  rfl
/-- A new block. -/
theorem HRelP.alloc {Hc : Nat → Nat → SV → Prop} (h : HRelP W0 lo β Hc w) {n : Nat} (hn : β n = none) {t : TypeId} {cells : List SV} {us : List Value} (hc : SV.isl β cells us) (h1 : ∀ u ∈ us, u.oneCell' = true) :
    HRelP W0 lo (β.set n w.heap.size) (fun b o s => Hc b o s ∨ (b = n ∧ cells[o]? = some s)) (w.alloc (.cells us.toArray t)) := by
  have hle : β.le (β.set n w.heap.size) := Bl.le_set hn
  have hgr : Gr w (w.alloc (.cells us.toArray t)) := (Gr.refl w).alloc _ _
  have hsz : (w.alloc (.cells us.toArray t)).heap.size = w.heap.size + 1 := by show (w.heap.push _).size = _; simp
  refine ⟨h.gr.trans hgr, fun b r e => ?_, fun b c r e1 e2 => ?_, fun b r hb e => ?_, fun b o s e => ?_⟩
  · unfold Bl.set at e
    rw [hsz]
    split at e
    · simp at e; omega
    · have := h.live b r e; omega
  · unfold Bl.set at e1 e2
    split at e1 <;> split at e2
    · rename_i x y; rw [x, y]
    · simp only [Option.some.injEq] at e1; have := h.live c r e2; omega
    · simp only [Option.some.injEq] at e2; have := h.live b r e1; omega
    · exact h.inj b c r e1 e2
  · unfold Bl.set at e
    split at e
    · simp only [Option.some.injEq] at e; have := h.gr.size; omega
    · exact h.new b r hb e
  · rcases e with e | ⟨rfl, e⟩
    · obtain ⟨r, u, a1, a2, a3, a4, a5⟩ := h.cells b o s e
      exact ⟨r, u, hle _ _ a1, SV.is_mono hle a2, a3, (hgr.cell r o (h.live b r a1)).trans a4, (hgr.2 _).trans a5⟩
    · obtain ⟨u, hu, hs⟩ := (SV.isl_get hc).2 o s e
      refine ⟨w.heap.size, u, Bl.set_same _ _ _, SV.is_mono hle hs, h1 u (List.mem_of_getElem? hu), ?_, ?_⟩
      · rw [cell_fresh]; simpa using hu
      · rw [frozen?_alloc_cells]; exact frozen_fresh (Nat.le_refl _)
/-- A store. -/
theorem HRel.store {hp : List (Nat × Nat × SV)} (h : HRel W0 lo β hp w) {b o r : Nat} (hr : β b = some r) (hb : lo ≤ b) {cells : List SV} {us : List Value} (hc : SV.isl β cells us) (h1 : ∀ u ∈ us, u.oneCell' = true) (ht : w.there r o us.length) :
    HRel W0 lo β (addCells b o cells hp) (w.setCells r o us) := by
  refine ⟨Gr.setCells r (h.new b r hb hr) us o w h.gr, fun b' r' e => by rw [size_setCells]; exact h.live b' r' e, h.inj, h.new, fun c k s e => ?_⟩
  obtain ⟨hl, hg⟩ := SV.isl_get hc
  rcases lookH_add e with ⟨rfl, j, rfl, hj⟩ | ⟨e1, e2⟩
  · obtain ⟨u, hu, hs⟩ := hg j s hj
    have hjl : j < us.length := (List.getElem?_eq_some_iff.1 hu).1
    refine ⟨r, u, hr, hs, h1 u (List.mem_of_getElem? hu), ?_, ?_⟩
    · rw [World.cell?_setCells_in r us o w (fun i hi => (ht i hi).1) j hjl]
      rw [List.getElem?_eq_getElem hjl] at hu; exact hu
    · rw [World.frozen?_setCells]; exact (ht j hjl).2
  · obtain ⟨r', u, a1, a2, a3, a4, a5⟩ := h.cells c k s e1
    refine ⟨r', u, a1, a2, a3, ?_, by rw [World.frozen?_setCells]; exact a5⟩
    rw [World.cell?_setCells_out r us o w ⟨r', k, none⟩ (fun x _ => ?_)]
    · exact a4
    · have hbc : b = c := h.inj b c r hr (by rw [a1]; exact congrArg some x)
      have := e2
      simp only [hbc, true_and] at this
      simp
      omega
end

theorem effS_ok {P : Program} {call : CallF} (hcall : CallOk P call) {W0 : World} {lo : Nat} {β : Bl} {st st' : St} {o : Oper} {c : Ch} {a : Act} {w : World} {out : Out} {q : List Prop} {next : Act → World → Prop} {Q : Exit → Act → World → Prop}
    (h : effS call lo o c st out = some (st', q)) (hq : AllP q) (R : Rel W0 lo β st a w) (ho : OutOk P β w (execOp a.eval o) out)
    (hk : ∀ β' a' w', β.le β' → Rel W0 lo β' st' a' w' → next a' w') : o.wp P a w next Q := by
  unfold Oper.wp
  unfold effS at h
  split at h
  · rename_i x
    obtain ⟨u, hu, hrun⟩ := ho
    split at h
    · rename_i s hs
      simp only [Option.some.injEq, Prod.mk.injEq] at h
      obtain ⟨rfl, rfl⟩ := h
      obtain ⟨t1, t2, t3, t4⟩ := R.t.put hs hu
      rw [hrun, Oper.upon_value]
      exact hk β _ _ (Bl.le_refl _) ⟨t1, by rw [t2]; exact R.h, by rw [t3]; exact R.dom, by rw [t3]; exact R.lo⟩
    · cases h
  · rename_i t cells len
    obtain ⟨us, hu, h1, hrun⟩ := ho
    split at h
    · rename_i s hs
      simp only [Option.some.injEq, Prod.mk.injEq] at h
      obtain ⟨rfl, rfl⟩ := h
      have hn : β st.nb = none := R.dom _ (Nat.le_refl _)
      have hle : β.le (β.set st.nb w.heap.size) := Bl.le_set hn
      have hx : (ptrS st.nb len).is (β.set st.nb w.heap.size) (realP w.heap.size len) := by
        cases len
        · exact ⟨_, Bl.set_same _ _ _, rfl⟩
        · exact ⟨_, Bl.set_same _ _ _, rfl⟩
      obtain ⟨t1, t2, t3, t4⟩ := TRel.put (st := { st with hp := addCells st.nb 0 cells st.hp, nb := st.nb + 1 }) (R.t.mono hle) hs hx
      rw [hrun, Oper.upon_value]
      refine hk (β.set st.nb w.heap.size) _ _ hle ⟨t1, ?_, ?_, by rw [t3]; have := R.lo; simp; omega⟩
      · rw [t2]
        refine (R.h.alloc hn hu h1).imp fun b o s e => ?_
        rcases lookH_add e with ⟨rfl, j, rfl, hj⟩ | ⟨e1, _⟩
        · exact Or.inr ⟨rfl, by simpa using hj⟩
        · exact Or.inl e1
      · rw [t3]
        intro b hb
        simp only at hb
        unfold Bl.set
        rw [if_neg (by omega)]
        exact R.dom b (by omega)
    · cases h
  · rename_i b i cells
    obtain ⟨r, us, hr, hu, h1, ht, hrun⟩ := ho
    cases hb : Nat.ble lo b
    · rw [hb] at h; cases h
    · rw [hb, cond_true] at h
      split at h
      · rename_i s hs
        simp only [Option.some.injEq, Prod.mk.injEq] at h
        obtain ⟨rfl, rfl⟩ := h
        obtain ⟨t1, t2, t3, t4⟩ := TRel.put (st := { st with hp := addCells b i cells st.hp }) R.t hs (show (SV.pv undef).is β undef from rfl)
        rw [hrun, Oper.upon_skip]
        refine hk β _ _ (Bl.le_refl _) ⟨t1, ?_, by rw [t3]; exact R.dom, by rw [t3]; exact R.lo⟩
        rw [t2]
        exact R.h.store hr (Nat.le_of_ble_eq_true hb) hu h1 ht
      · cases h
  · rename_i f args
    obtain ⟨us, hu, hrun⟩ := ho
    split at h
    · rename_i x s q' hc
      split at h
      · rename_i s' hs
        simp only [Option.some.injEq, Prod.mk.injEq] at h
        obtain ⟨rfl, rfl⟩ := h
        obtain ⟨e1, e2, e4⟩ := hcall hc hq
        rw [hrun, Oper.upon_enter]
        refine (e4 W0 β us w R.h R.dom R.lo hu).mono fun e w' hh => ?_
        obtain ⟨v, β', rfl, hle, hx, hH, hd, hl⟩ := hh
        have T := R.t.mono hle
        rw [← e1, ← e2] at T
        obtain ⟨t1, t2, t3, t4⟩ := T.put hs hx
        exact hk β' _ _ hle ⟨t1, by rw [t2]; exact hH, by rw [t3]; exact hd, by rw [t3]; exact hl⟩
      · cases h
    · cases h

theorem seqS_ok {P : Program} {call : CallF} (hcall : CallOk P call) {W0 : World} {lo : Nat} {ops : Array Oper} {Q : Exit → Act → World → Prop} :
    ∀ {l : List Oper} {st st' : St} {q : List Prop} {β : Bl} {a : Act} {w : World}, seqS P call lo ops l st = some (st', q) → AllP q → Rel W0 lo β st a w →
      (∀ β' a' w', β.le β' → Rel W0 lo β' st' a' w' → Q .normal a' w') → wpList P ops Q l a w
  | [], st, st', q, β, a, w, h, _, R, hQ => by
    simp only [seqS, Option.some.injEq, Prod.mk.injEq] at h
    obtain ⟨rfl, rfl⟩ := h
    exact hQ β a w (Bl.le_refl _) R
  | o :: r, st, st', q, β, a, w, h, hq, R, hQ => by
    simp only [seqS] at h
    have hlooks : ∀ d, d ∈ o.looksAt ops → (lookT st.tm d).is β (a.tmps.getD d undef) := fun d _ => R.t.tmps d
    simp only [wpList]
    split at h
    · rename_i hw
      rw [wanted_of hw hlooks, if_pos rfl]
      generalize hc : (popS o.op st).1 = c at h
      generalize hp : (popS o.op st).2 = st1 at h
      obtain ⟨p1, p2, p3, p4⟩ := popS_st hp
      have R1 : Rel W0 lo β st1 a w := ⟨by rw [p1, p2]; exact R.t, by rw [p3]; exact R.h, by rw [p4]; exact R.dom, by rw [p4]; exact R.lo⟩
      split at h
      · rename_i out q1 h1
        split at h
        · rename_i st2 q2 h2
          split at h
          · rename_i st3 q3 h3
            simp only [Option.some.injEq, Prod.mk.injEq] at h
            obtain ⟨rfl, rfl⟩ := h
            obtain ⟨a1, a2⟩ := AllP_append hq
            obtain ⟨a2, a3⟩ := AllP_append a2
            refine Or.inl (effS_ok hcall h2 a2 R1 (opS_ok h1 a1 R1.h (fun x _ => R1.t.ev x)) fun β' a' w' hle R2 => ?_)
            exact seqS_ok hcall h3 a3 R2 fun β'' a'' w'' hle' R3 => hQ β'' a'' w'' (Bl.le_trans hle hle') R3
          · cases h
        · cases h
      · cases h
    · rename_i hw
      rw [wanted_of hw hlooks, if_neg (by decide)]
      split at h
      · rename_i st2 hs
        obtain ⟨t1, t2, t3, t4⟩ := R.t.put hs (show (SV.pv undef).is β undef from rfl)
        exact seqS_ok hcall h hq ⟨t1, by rw [t2]; exact R.h, by rw [t3]; exact R.dom, by rw [t3]; exact R.lo⟩ hQ
      · cases h
    · cases h
end Go.Proofs.Ytjhkeinelbeekaa
