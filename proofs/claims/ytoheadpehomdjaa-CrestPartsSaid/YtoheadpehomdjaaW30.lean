/-
  Joined: Fn, Me, Mb, Md, Mf, Mg, Mh, Mi, Mj, Mk, Mn, Mo. Conditions: none.
-/
import Derived.Test.YtoheadpehomdjaaFm
import Derived.Test.YtoheadpehomdjaaW25
import Derived.Test.YtoheadpehomdjaaMc
import Derived.Test.YtoheadpehomdjaaMa
import Derived.Test.YtoheadpehomdjaaFq
import Derived.Test.YtoheadpehomdjaaSxU
import Derived.Test.YtoheadpehomdjaaW24
namespace Go.Proofs.Ytoheadpehomdjaa
open Go.RowKit
theorem Great_any (l : List Pt) : (¬ (l.length ≤ 16 ∨ 64 ≤ l.length ∧ l.length ≤ 70) ∧ FnL Try.prog 27 1 [fldS 0 l] [(0, 0, rowP l)] (.pv (.bool true)) 0 []) ∨
    ((l.length ≤ 16 ∨ 64 ≤ l.length ∧ l.length ≤ 70) ∧ FnL Try.prog 27 1 [fldS 0 l] [(0, 0, rowP l)] (.pv (.bool false)) 0 []) := by
  by_cases h1 : l.length > 16
  · by_cases h2 : l.length < 64
    · exact Or.inl ⟨by omega, great_t (dt (by omega)) (dt (by omega))⟩
    · by_cases h3 : l.length > 70
      · exact Or.inl ⟨by omega, great_t2 (dt (by omega)) (df (by omega)) (dt (by omega))⟩
      · exact Or.inr ⟨by omega, great_f2 (dt (by omega)) (df (by omega)) (df (by omega))⟩
  · exact Or.inr ⟨by omega, great_f (df (by omega)) (df (by omega))⟩
abbrev FindIs (f : FuncId) (l : List Pt) (id : Int) (p : Pt) (e : Int) : Prop := FnL Try.prog f 1 [fldS 0 l, .pv (.int .i64 id)] [(0, 0, rowP l)] (.pv (.tuple #[ptV p, .int .i64 e])) 0 []
end Go.Proofs.Ytoheadpehomdjaa

namespace Go.Proofs.Ytoheadpehomdjaa
open Go.RowKit
/-- The error of a field and two times. -/
noncomputable def mE (l : List Pt) (fn fd tn td : Int) : Int := if errL l = 0 then (if okB fn fd = true ∧ okB tn td = true then (if fn * td - tn * fd > 0 then 2 else 0) else 8) else errL l
end Go.Proofs.Ytoheadpehomdjaa

namespace Go.Proofs.Ytoheadpehomdjaa
open Go.RowKit
/-- A box that holds the list. -/
def boxB (rb : Nat) (u : Value) : Bl := ⟨fun b => if b = 1 then some rb else none, fun b => if b = 0 then some u else none⟩
theorem box_dom (rb : Nat) (u : Value) : (boxB rb u).dom 2 := fun b hb => by
  unfold boxB
  simp only
  rw [if_neg (by omega), if_neg (by omega)]
  exact ⟨rfl, rfl⟩
theorem pair_drop {l : List Pt} {i : Nat} {p : Pt} (h : l[i]? = some p) : pairsOf (l.drop i) = (l.drop (i + 1)).map (fun q => (p, q)) ++ pairsOf (l.drop (i + 1)) := by
  obtain ⟨hl, rfl⟩ := List.getElem?_eq_some_iff.1 h
  rw [List.drop_eq_getElem_cons hl]
  rfl

section
variable {y : Nat} {M B : Nat → Prop} {J : Nat → (Nat → Prop) → World → Prop} {W : World} {rb : Nat} {u : Value} {l : List Pt}
/-- What the loops keep: the names, what has come. -/
structure PInv (M : Nat → Prop) (J : Nat → (Nat → Prop) → World → Prop) (W : World) (rb : Nat) (u : Value) (l : List Pt) (rem : List (Array Value)) (β : Bl) (a : Act) (w : World) (k : Nat) (T : Nat → Prop) : Prop where
  df : a.defers = []
  b1 : β 1 = some rb
  g0 : β.g 0 = some u
  kp : Keep (fun b => b < W.heap.size ∧ ¬ M b) W w
  j : J k T w
  gro : Gro M W T w
  pre : ∃ pre, pairsV l = pre ++ rem ∧ pre.length = k
theorem PInv.on {rem : List (Array Value)} {β γ : Bl} {a a' : Act} {w w' : World} {k : Nat} {T : Nat → Prop} (h : PInv M J W rb u l rem β a w k T) (hJ : ∀ k T w w', J k T w → Keep (fun b => b < W.heap.size ∨ T b) w w' → J k T w') (hd : a'.defers = a.defers) (h1 : γ 1 = β 1) (h0 : γ.g 0 = β.g 0) (hg : Gr w w') : PInv M J W rb u l rem γ a' w' k T :=
  ⟨hd.trans h.df, h1.trans h.b1, h0.trans h.g0, h.kp.trans (Keep.of_gr hg _), hJ _ _ _ _ h.j (Keep.of_gr hg _), h.gro.on (Nat.le_refl _) hg.size, h.pre⟩

end
end Go.Proofs.Ytoheadpehomdjaa

namespace Go.Proofs.Ytoheadpehomdjaa
open Go.RowKit
theorem fm_at {α β : Type} {X : List α} {f : α → Option β} {k : Nat} {x : α} {y : β} (h : X[k]? = some x) (hf : f x = some y) : (X.filterMap f)[((X.take k).filterMap f).length]? = some y := by
  have e : X = X.take k ++ x :: X.drop (k + 1) := by
    obtain ⟨hl, rfl⟩ := List.getElem?_eq_some_iff.1 h
    rw [← List.drop_eq_getElem_cons hl, List.take_append_drop]
  have : X.filterMap f = (X.take k).filterMap f ++ y :: (X.drop (k + 1)).filterMap f := by
    conv => lhs; rw [e]
    rw [List.filterMap_append, List.filterMap_cons_some hf]
  rw [this, List.getElem?_append_right (Nat.le_refl _), Nat.sub_self]
  rfl
abbrev eH1 (y : Nat) (l : List Pt) : List (Nat × Nat × SV) := [(1, 0, .ls 0 l.length), (2, 0, yv y), (0, 0, rowP l)]
abbrev eH2 (y : Nat) (l : List Pt) : List (Nat × Nat × SV) := [(1, 0, .ls 0 l.length), (2, 0, yv y), (3, 0, .ls 0 l.length), (0, 0, rowP l)]
abbrev eH3 (y : Nat) (p q : Pt) : List (Nat × Nat × SV) := [(2, 0, yv y), (4, 0, .pv (.int .i64 p.id)), (4, 1, .pv (.int .i64 p.a)), (4, 2, .pv (.int .i64 p.b)), (5, 0, .pv (.int .i64 q.id)), (5, 1, .pv (.int .i64 q.a)), (5, 2, .pv (.int .i64 q.b))]
abbrev eH4 (y : Nat) (p q : Pt) (n d : Int) : List (Nat × Nat × SV) := [(2, 0, yv y), (4, 0, .pv (.int .i64 p.id)), (4, 1, .pv (.int .i64 p.a)), (4, 2, .pv (.int .i64 p.b)), (5, 0, .pv (.int .i64 q.id)), (5, 1, .pv (.int .i64 q.a)), (5, 2, .pv (.int .i64 q.b)), (6, 0, .pv (.int .i64 n)), (6, 1, .pv (.int .i64 d))]
abbrev eT1 : List (Nat × SV) := [(1, .pp 1 0), (2, .pp 2 0)]
abbrev eT3 : List (Nat × SV) := [(2, .pp 2 0), (3, .pp 4 0), (4, .pp 5 0)]
abbrev eT4 : List (Nat × SV) := [(2, .pp 2 0), (3, .pp 4 0), (4, .pp 5 0), (5, .pp 6 0)]
section
variable (y : Nat) (l : List Pt) (p q : Pt) (n d e : Int)
end
theorem pc_one {β : Bl} {f : FuncId} {b o : Nat} {v : Value} (h : (SV.pc f [.pp b o]).is β v) : ∃ r, β b = some r ∧ v = .func (.func f) #[] #[.pointer (some ⟨r, o, none⟩)] := by
  obtain ⟨vs, h1, rfl⟩ := h
  match vs, h1 with
  | [x], ⟨⟨r, hr, hx⟩, _⟩ => exact ⟨r, hr, by rw [hx]⟩
/-- A list of the relation: its real slice. -/
theorem row_of {W0 : World} {lo : Nat} {β : Bl} {hp : List (Nat × Nat × SV)} {w : World} (H : HRel W0 lo β hp w) {b o : Nat} {l : List Pt} {u : Value} (h : lookH hp b o = some (rowP l)) (hg : β.g b = some u) : Rd w 3 u l.length (ptsV l) := by
  obtain ⟨u', h1, h2⟩ := H.rows b o _ _ _ _ h
  rw [hg] at h1
  cases h1
  exact h2.rd
/-- A box of the relation that holds a whole list. -/
theorem box_of {W0 : World} {lo : Nat} {β : Bl} {hp : List (Nat × Nat × SV)} {w : World} (H : HRel W0 lo β hp w) {b c n r : Nat} {u : Value} (h : lookH hp b 0 = some (.ls c n)) (hb : β b = some r) (hg : β.g c = some u) : w.cell? ⟨r, 0, none⟩ = some u ∧ w.frozen? ⟨r, 0, none⟩ = false := by
  obtain ⟨r', u', h1, h2, _, h4, h5⟩ := H.cells b 0 _ h rfl
  rw [hb] at h1
  cases h1
  have h3 : β.g c = some u' := h2.1
  rw [hg] at h3
  cases h3
  exact ⟨h4, h5⟩
end Go.Proofs.Ytoheadpehomdjaa

namespace Go.Proofs.Ytoheadpehomdjaa
open Go.RowKit
abbrev ptr (r : Nat) : Value := .pointer (some ⟨r, 0, none⟩)
def kpA (fn fd : Int) (m : Mt) : Bool := decide ((m.n * fd - fn * m.d).sign > 0)
def kpB (tn td : Int) (m : Mt) : Bool := decide ((m.n * td - tn * m.d).sign ≤ 0)
/-- A meeting at a valid time. -/
structure MtOk (m : Mt) : Prop where
  n : I64 m.n
  d : I64 m.d
  ok : okB m.n m.d = true
structure TmOk (tn td : Int) : Prop where
  n : I64 tn
  d : I64 td
  ok : okB tn td = true
def bkF (l : List Pt) (u : Value) (rb : Nat) : Nat → Prop := fun b => b = rb ∨ (ptsV l ≠ [] ∧ u.ownBlock = some b)
def bkA (l : List Pt) (u : Value) (rb rf ra rk : Nat) : Nat → Prop := fun b => (bkF l u rb b ∨ b = rf) ∨ b = ra ∨ b = rk
theorem bkF_lt {w : World} {rb : Nat} {u : Value} {l : List Pt} (cb : Cel w rb 0 u) (hr : Rd w 3 u l.length (ptsV l)) : ∀ b, bkF l u rb b → b < w.heap.size := fun b h => by
  rcases h with rfl | ⟨hx, h⟩
  · exact cb.lt
  · exact hr.lt hx b h
def bkB (l : List Pt) (u : Value) (rb rf ra rk rt rc rj : Nat) : Nat → Prop := fun b => (bkA l u rb rf ra rk b ∨ b = rt) ∨ b = rc ∨ b = rj
end Go.Proofs.Ytoheadpehomdjaa

namespace Go.Proofs.Ytoheadpehomdjaa
open Go.RowKit
abbrev cA (l : List Pt) (fn fd tn td : Int) : List SV := [fldS 0 l, .pv (ratioV fn fd), .pv (ratioV tn td)]
abbrev cT0 : List (Nat × SV) := [(3, .pp 1 0), (4, .pp 2 0), (5, .pp 3 0)]
abbrev cH0 (l : List Pt) (fn fd tn td : Int) : List (Nat × Nat × SV) := [(1, 0, .ls 0 l.length), (2, 0, .pv (.int .i64 fn)), (2, 1, .pv (.int .i64 fd)), (3, 0, .pv (.int .i64 tn)), (3, 1, .pv (.int .i64 td)), (0, 0, rowP l)]
abbrev cH1 (l : List Pt) (fn fd tn td : Int) : List (Nat × Nat × SV) := [(1, 0, .ls 0 l.length), (2, 0, .pv (.int .i64 fn)), (2, 1, .pv (.int .i64 fd)), (3, 0, .pv (.int .i64 tn)), (3, 1, .pv (.int .i64 td)), (4, 0, .pv (.int .i64 0)), (0, 0, rowP l)]
section
variable (l : List Pt) (fn fd tn td : Int)
end
theorem info_int : (Try.prog.info? 3).map (fun i => i.size) = some 1 := by kernel_rfl
theorem info_of {t : TypeId} {n : Nat} (h : (Try.prog.info? t).map (fun i => i.size) = some n) : ∃ i, Try.prog.info? t = some i ∧ i.size = n := by
  cases hi : Try.prog.info? t with
  | none => rw [hi] at h; cases h
  | some i => rw [hi] at h; exact ⟨i, rfl, by simpa using h⟩
theorem fld_args {β : Bl} {l : List Pt} {vs us : List Value} (h : SV.isl β (fldS 0 l :: vs.map .pv) us) : ∃ u, β.g 0 = some u ∧ us = .agg #[u] :: vs := by
  match us, h with
  | v :: us', ⟨⟨ws, hw, hv⟩, h2⟩ =>
    match ws, hw with
    | [x], ⟨⟨hx, _⟩, _⟩ => exact ⟨x, hx, by rw [hv, SV.isl_v_eq h2]⟩
theorem lt_of_lookup {W0 : World} {lo : Nat} {β : Bl} {hp : List (Nat × Nat × SV)} {w : World} (H : HRel W0 lo β hp w) {b o : Nat} {s : SV} (h : lookH hp b o = some s) (hs : s.isRow = false) : ∃ r, β b = some r := by
  obtain ⟨r, u, h1, _⟩ := H.cells b o s h hs
  exact ⟨r, h1⟩
end Go.Proofs.Ytoheadpehomdjaa

namespace Go.Proofs.Ytoheadpehomdjaa
open Go.RowKit
abbrev sB (fn fd tn td : Int) : List (Nat × Nat × SV) := [(0, 0, .pv (.int .i64 fn)), (0, 1, .pv (.int .i64 fd)), (1, 0, .pv (.int .i64 tn)), (1, 1, .pv (.int .i64 td))]
section
variable (l : List Pt) (fn fd tn td : Int) (p q : Pt) (v : Value)
end
end Go.Proofs.Ytoheadpehomdjaa

namespace Go.Proofs.Ytoheadpehomdjaa
open Go.RowKit
def bestStep (c : Mt → Mt → Int) (acc : Option Mt) (m : Mt) : Option Mt :=
  match acc with
  | none => some m
  | some b => if c m b < 0 then some m else some b
def bestOf (c : Mt → Mt → Int) (X : List Mt) : Option Mt := X.foldl (bestStep c) none
theorem bestOf_snoc (c : Mt → Mt → Int) (X : List Mt) (m : Mt) : bestOf c (X ++ [m]) = bestStep c (bestOf c X) m := by
  unfold bestOf
  rw [List.foldl_append]; rfl
theorem bestOf_mem {c : Mt → Mt → Int} {X : List Mt} {b : Mt} (h : bestOf c X = some b) : b ∈ X := by
  have key : ∀ (X : List Mt) (acc : Option Mt) (b : Mt), X.foldl (bestStep c) acc = some b → b ∈ X ∨ acc = some b := by
    intro X
    induction X with
    | nil => intro acc b h; exact Or.inr h
    | cons m r ih =>
      intro acc b h
      rw [List.foldl_cons] at h
      rcases ih _ b h with h1 | h1
      · exact Or.inl (List.mem_cons_of_mem _ h1)
      · unfold bestStep at h1
        split at h1
        · cases h1; exact Or.inl List.mem_cons_self
        · split at h1
          · cases h1; exact Or.inl List.mem_cons_self
          · exact Or.inr h1
  rcases key X none b h with h1 | h1
  · exact h1
  · cases h1
def z0 : Mt := ⟨0, 0, 0, 0⟩
abbrev mH (b : Nat) (m : Mt) : List (Nat × Nat × SV) := [(b, 0, .pv (.int .i64 m.n)), (b, 1, .pv (.int .i64 m.d)), (b, 2, .pv (.int .i64 m.i)), (b, 3, .pv (.int .i64 m.j))]
abbrev gH (go : FuncId) (b : Mt) (fd : Bool) (m : Mt) : List (Nat × Nat × SV) := [(0, 0, .pv (fv go #[])), (1, 0, .pv (.int .i64 b.n)), (1, 1, .pv (.int .i64 b.d)), (1, 2, .pv (.int .i64 b.i)), (1, 3, .pv (.int .i64 b.j)), (2, 0, .pv (.bool fd)),
  (3, 0, .pv (.int .i64 m.n)), (3, 1, .pv (.int .i64 m.d)), (3, 2, .pv (.int .i64 m.i)), (3, 3, .pv (.int .i64 m.j))]
abbrev fT : List (Nat × SV) := [(3, .pp 0 0), (6, .pp 1 0), (7, .pp 2 0), (8, .pp 3 0)]
section
variable (av : Value) (go : FuncId) (m b : Mt)
end
end Go.Proofs.Ytoheadpehomdjaa

namespace Go.Proofs.Ytoheadpehomdjaa
open Go.RowKit
theorem info_bool : (Try.prog.info? 4).map (fun i => i.size) = some 1 := by kernel_rfl
structure MCel (w : World) (r : Nat) (m : Mt) : Prop where
  c0 : Cel w r 0 (.int .i64 m.n)
  c1 : Cel w r 1 (.int .i64 m.d)
  c2 : Cel w r 2 (.int .i64 m.i)
  c3 : Cel w r 3 (.int .i64 m.j)
theorem MCel.keep {S : Nat → Prop} {w w' : World} {r : Nat} {m : Mt} (h : MCel w r m) (k : Keep S w w') (hs : S r) : MCel w' r m := ⟨h.c0.keep k hs, h.c1.keep k hs, h.c2.keep k hs, h.c3.keep k hs⟩
theorem MCel.gr {w w' : World} {r : Nat} {m : Mt} (h : MCel w r m) (k : Gr w w') : MCel w' r m := h.keep (Keep.of_gr k (fun _ => True)) trivial
theorem MCel.lt {w : World} {r : Nat} {m : Mt} (h : MCel w r m) : r < w.heap.size := h.c0.lt
theorem MCel.us {w : World} {r : Nat} {m : Mt} (h : MCel w r m) : ∀ j u, [Value.int .i64 m.n, .int .i64 m.d, .int .i64 m.i, .int .i64 m.j][j]? = some u → Cel w r (0 + j) u := fun j u hj => by
  match j, hj with
  | 0, hj => cases hj; exact h.c0
  | 1, hj => cases hj; exact h.c1
  | 2, hj => cases hj; exact h.c2
  | 3, hj => cases hj; exact h.c3
  | j + 4, hj => simp at hj
theorem MCel.set {w : World} {r : Nat} {b : Mt} (h : MCel w r b) (m : Mt) : MCel (w.setCells r 0 [.int .i64 m.n, .int .i64 m.d, .int .i64 m.i, .int .i64 m.j]) r m := by
  have key : ∀ j v, [Value.int .i64 m.n, .int .i64 m.d, .int .i64 m.i, .int .i64 m.j][j]? = some v → Cel (w.setCells r 0 [.int .i64 m.n, .int .i64 m.d, .int .i64 m.i, .int .i64 m.j]) r (0 + j) v :=
    fun j v hj => cel_set (us := [.int .i64 b.n, .int .i64 b.d, .int .i64 b.i, .int .i64 b.j]) h.us (by simp) hj
  exact ⟨key 0 _ rfl, key 1 _ rfl, key 2 _ rfl, key 3 _ rfl⟩
/-- An operation that yields a value. -/
theorem val_in {P : Program} {r : Option Nat} {o : Oper} {st : St} {β : Bl} {W0 : World} {lo : Nat} {v : Value} {a : Act} {w : World} {next : Act → World → Prop} {Q : Exit → Act → World → Prop}
    (h : opS P st o .k = some (.val (.pv v), [])) (hd : ∀ c, o.op ≠ .defer c) (H : HRel W0 lo β st.hp w) (hx : ∀ x ∈ o.op.operands, (st.ev x).is β (a.eval x)) (k : next (a.put o.dst v) w) : o.wpIn (FW r) 0 P a w next Q := by
  refine ⟨fun _ _ => trivial, ?_⟩
  rw [Oper.semAt_eq _ _ _ hd]
  obtain ⟨u, hu, he⟩ := opS_ok (ρ := a.eval) h trivial H hx
  rw [he, Oper.uponIn_value]
  rw [show u = v from hu]
  exact k
theorem op_in {P : Program} {F : Fence} {n : Nat} {ops : Array Oper} {Q : Exit → Act → World → Prop} {i : Nat} {o : Oper} {K : Act → World → Prop} {a : Act} {w : World} (hi : ops[i]? = some o) (hg : o.guard = none) (h : o.wpIn F n P a w K Q) : wpOpIn F n P ops Q i K a w := by
  unfold wpOpIn
  rw [hi]
  simp only [Region.wanted, hg, if_true]
  exact h
/-- In the midst of the last region: what was loaded (0, 1) and stored (2). -/
structure FE (w6 : World) (df : List Deferred) (rb rf r1 : Nat) (b : Mt) (fd s0 s1 s2 : Bool) (a : Act) (w : World) : Prop where
  sz : a.tmps.size = 23
  df : a.defers = df
  t4 : a.tmps.getD 4 undef = ptr r1
  t6 : a.tmps.getD 6 undef = ptr rb
  t7 : a.tmps.getD 7 undef = ptr rf
  t21 : s0 = true → a.tmps.getD 21 undef = meetV b
  t22 : s1 = true → a.tmps.getD 22 undef = .bool fd
  kp : Keep (· ≠ r1) w6 w
  mr : ∃ m, MCel w r1 m ∧ (s2 = true → m = b)
theorem put_ne {a : Act} {d e : Nat} {v : Value} (h : d ≠ e) : (a.put (some d) v).tmps.getD e undef = a.tmps.getD e undef := by
  simp [Act.put, Array.getD_eq_getD_getElem?, Array.getElem?_setIfInBounds_ne h]
theorem put_eq {a : Act} {d : Nat} {v : Value} (h : d < a.tmps.size) : (a.put (some d) v).tmps.getD d undef = v := by
  simp [Act.put, Array.getD_eq_getD_getElem?, h]
theorem put_sz {a : Act} {d : Nat} {v : Value} : (a.put (some d) v).tmps.size = a.tmps.size := by simp [Act.put]
section
variable {w6 : World} {df : List Deferred} {rb rf r1 : Nat} {b : Mt} {fd s0 s1 s2 : Bool} {a : Act} {w : World} {Q : Exit → Act → World → Prop} {K : Act → World → Prop}
end
theorem Bl.at_boxes {rs : List Nat} {β : Bl} {k b q : Nat} (h : (boxesL rs).leU k β) (hb : b < k) (e : rs[b]? = some q) : β b = some q := Bl.leU_f (β := boxesL rs) h hb e

end Go.Proofs.Ytoheadpehomdjaa

namespace Go.Proofs.Ytoheadpehomdjaa
open Go.RowKit
def cI (x y : Int) : Int := if x < y then -1 else if x > y then 1 else 0
def ordM (a b : Mt) : Int := if (a.n * b.d - b.n * a.d).sign ≠ 0 then (a.n * b.d - b.n * a.d).sign else if cI a.i b.i ≠ 0 then cI a.i b.i else cI a.j b.j
def latM (a b : Mt) : Int := (b.n * a.d - a.n * b.d).sign
set_option maxRecDepth 100000 in
theorem nan_int (x : Int) : Pure Try.prog 81 #[.int .i64 x] (.bool false) :=
  pure_run (args := [.int .i64 x]) 100 [.t false] (And.intro rfl (And.intro (show (x != x) = false by simp) True.intro)) (by kernel_rfl)
set_option maxRecDepth 100000 in
theorem cmpI_lt {x y : Int} (h : decide (x < y) = true) : Pure Try.prog 69 #[.int .i64 x, .int .i64 y] (.int .i64 (-1)) :=
  pure_run (args := [.int .i64 x, .int .i64 y]) 100 [.r (.bool false), .r (.bool false), .t true] (And.intro rfl (And.intro (nan_int x) (And.intro (nan_int y) (And.intro h True.intro)))) (by kernel_rfl)
set_option maxRecDepth 100000 in
theorem cmpI_gt {x y : Int} (h : decide (x < y) = false) (h2 : decide (x > y) = true) : Pure Try.prog 69 #[.int .i64 x, .int .i64 y] (.int .i64 1) :=
  pure_run (args := [.int .i64 x, .int .i64 y]) 100 [.r (.bool false), .r (.bool false), .t false, .t true] (And.intro rfl (And.intro (nan_int x) (And.intro (nan_int y) (And.intro h (And.intro h2 True.intro))))) (by kernel_rfl)
set_option maxRecDepth 100000 in
theorem cmpI_eq {x y : Int} (h : decide (x < y) = false) (h2 : decide (x > y) = false) : Pure Try.prog 69 #[.int .i64 x, .int .i64 y] (.int .i64 0) :=
  pure_run (args := [.int .i64 x, .int .i64 y]) 100 [.r (.bool false), .r (.bool false), .t false, .t false] (And.intro rfl (And.intro (nan_int x) (And.intro (nan_int y) (And.intro h (And.intro h2 True.intro))))) (by kernel_rfl)
theorem cmpI_any (x y : Int) : Pure Try.prog 69 #[.int .i64 x, .int .i64 y] (.int .i64 (cI x y)) := by
  unfold cI
  by_cases h : x < y
  · rw [if_pos h]; exact cmpI_lt (decide_eq_true h)
  · rw [if_neg h]
    by_cases h2 : x > y
    · rw [if_pos h2]; exact cmpI_gt (decide_eq_false h) (decide_eq_true h2)
    · rw [if_neg h2]; exact cmpI_eq (decide_eq_false h) (decide_eq_false h2)
section
variable {a b : Mt} {k c1 c2 : Int}
end
abbrev fmB (r : Option Mt) : SV := .pv (.tuple #[meetV (r.getD z0), .bool r.isSome])
abbrev laH (l : List Pt) : List (Nat × Nat × SV) := [(1, 0, .ls 0 l.length), (0, 0, rowP l)]
theorem row_g {W0 : World} {lo : Nat} {β : Bl} {hp : List (Nat × Nat × SV)} {w : World} (H : HRel W0 lo β hp w) {b o : Nat} {l : List Pt} (h : lookH hp b o = some (rowP l)) : ∃ u, β.g b = some u := by
  obtain ⟨u, h1, _⟩ := H.rows _ _ _ _ _ _ h
  exact ⟨u, h1⟩
end Go.Proofs.Ytoheadpehomdjaa

namespace Go.Proofs.Ytoheadpehomdjaa
open Go.RowKit
/-- The meeting of two points that meet. -/
structure MSpec (p q : Pt) (m : Mt) : Prop where
  n : I64 m.n
  d : I64 m.d
  ok : okB m.n m.d = true
  eq : m.n * (p.b - q.b) = (q.a - p.a) * m.d
  i : m.i = p.id
  j : m.j = q.id
  run : Pure Try.prog 61 #[ptV p, ptV q] (ratioV m.n m.d)
noncomputable def fM (x : Pt × Pt) : Option Mt := open Classical in if x.1.b = x.2.b then none else if h : ∃ m, MSpec x.1 x.2 m then some h.choose else none
theorem fM_same {x : Pt × Pt} (h : x.1.b = x.2.b) : fM x = none := by unfold fM; rw [if_pos h]
theorem fM_diff {x : Pt × Pt} (h1 : okPt x.1 = true) (h2 : okPt x.2 = true) (h : x.1.b ≠ x.2.b) : ∃ m, fM x = some m ∧ MSpec x.1 x.2 m := by
  have hex : ∃ m, MSpec x.1 x.2 m := by
    obtain ⟨n, d, k1, k2, k3, k4, k5, _⟩ := meeting_both h1 h2 h
    exact ⟨⟨n, d, x.1.id, x.2.id⟩, k2, k3, k1, k4, rfl, rfl, k5⟩
  unfold fM
  rw [if_neg h, dif_pos hex]
  exact ⟨_, rfl, hex.choose_spec⟩
theorem up_tail {p : Pt} {r : List Pt} (h : Up (p :: r)) : Up r := fun k a b h1 h2 => h (k + 1) a b (by simpa using h1) (by simpa using h2)
theorem pairs_mem {l : List Pt} {x : Pt × Pt} (h : x ∈ pairsOf l) : x.1 ∈ l ∧ x.2 ∈ l := by
  induction l with
  | nil => cases h
  | cons p r ih =>
    rw [pairsOf] at h
    rcases List.mem_append.1 h with h | h
    · obtain ⟨q, hq, rfl⟩ := List.mem_map.1 h
      exact ⟨List.mem_cons_self, List.mem_cons_of_mem _ hq⟩
    · exact ⟨List.mem_cons_of_mem _ (ih h).1, List.mem_cons_of_mem _ (ih h).2⟩
theorem pairs_lt {l : List Pt} (hu : Up l) {x : Pt × Pt} (h : x ∈ pairsOf l) : x.1.id < x.2.id := by
  induction l with
  | nil => cases h
  | cons p r ih =>
    rw [pairsOf] at h
    rcases List.mem_append.1 h with h | h
    · obtain ⟨q, hq, rfl⟩ := List.mem_map.1 h
      obtain ⟨k, hk, rfl⟩ := List.getElem_of_mem hq
      exact hu.mono (i := 0) (j := k + 1) (by omega) rfl (by simp [hk])
    · exact ih (up_tail hu) h
theorem fM_any {l : List Pt} (hv : Val l) {x : Pt × Pt} (h : x ∈ pairsOf l) : (x.1.b = x.2.b ∧ fM x = none) ∨ (x.1.b ≠ x.2.b ∧ ∃ m, fM x = some m ∧ MSpec x.1 x.2 m) := by
  by_cases hb : x.1.b = x.2.b
  · exact Or.inl ⟨hb, fM_same hb⟩
  · exact Or.inr ⟨hb, fM_diff (hv.ok _ (pairs_mem h).1) (hv.ok _ (pairs_mem h).2) hb⟩
/-- All meetings, pair by pair. -/
noncomputable abbrev msOf (l : List Pt) : List Mt := (pairsOf l).filterMap fM
theorem ms_mem {l : List Pt} (hv : Val l) {m : Mt} (h : m ∈ msOf l) : ∃ x ∈ pairsOf l, MSpec x.1 x.2 m ∧ x.1.b ≠ x.2.b := by
  obtain ⟨x, hx, e⟩ := List.mem_filterMap.1 h
  rcases fM_any hv hx with ⟨_, h1⟩ | ⟨hb, m', h1, h2⟩
  · rw [h1] at e; cases e
  · rw [h1] at e; cases e; exact ⟨x, hx, h2, hb⟩
theorem ms_ok {l : List Pt} (hv : Val l) : ∀ m ∈ msOf l, MtOk m := fun m h => by
  obtain ⟨x, _, h2, _⟩ := ms_mem hv h
  exact ⟨h2.n, h2.d, h2.ok⟩
noncomputable def nextV (l : List Pt) (fn fd : Int) : Value := if errL l = 0 then (if okB fn fd = true then (match bestOf ordM ((msOf l).filter (kpA fn fd)) with | some m => .tuple #[meetV m, .int .i64 0] | none => .tuple #[meetV z0, .int .i64 6]) else .tuple #[meetV z0, .int .i64 8]) else .tuple #[meetV z0, .int .i64 (errL l)]
noncomputable def lastV (l : List Pt) : Value := if errL l = 0 then (match bestOf latM (msOf l) with | some m => .tuple #[ratioV m.n m.d, .int .i64 0] | none => .tuple #[ratioV 0 0, .int .i64 6]) else .tuple #[ratioV 0 0, .int .i64 (errL l)]
end Go.Proofs.Ytoheadpehomdjaa

namespace Go.Proofs.Ytoheadpehomdjaa
open Go.RowKit
abbrev mcV (m : Mt) : List Value := [.int .i64 m.n, .int .i64 m.d, .int .i64 m.i, .int .i64 m.j]
def msV : List Mt → List Value
  | [] => []
  | m :: r => .int .i64 m.n :: .int .i64 m.d :: .int .i64 m.i :: .int .i64 m.j :: msV r
theorem msV_append : ∀ (a b : List Mt), msV (a ++ b) = msV a ++ msV b
  | [], _ => rfl
  | p :: r, b => by simp [msV, msV_append r b]
theorem msV_length : ∀ (l : List Mt), (msV l).length = l.length * 4
  | [] => rfl
  | p :: r => by simp [msV, msV_length r]; omega
theorem msV_get : ∀ {l : List Mt} {k : Nat} {m : Mt}, l[k]? = some m → (msV l)[k * 4]? = some (.int .i64 m.n) ∧ (msV l)[k * 4 + 1]? = some (.int .i64 m.d) ∧ (msV l)[k * 4 + 2]? = some (.int .i64 m.i) ∧ (msV l)[k * 4 + 3]? = some (.int .i64 m.j)
  | [], k, p, h => by simp at h
  | q :: r, 0, p, h => by simp at h; subst h; exact ⟨rfl, rfl, rfl, rfl⟩
  | q :: r, k + 1, p, h => by
    have := msV_get (l := r) (k := k) (m := p) (by simpa using h)
    rw [show (k + 1) * 4 = k * 4 + 1 + 1 + 1 + 1 by omega]
    exact this
theorem ra_mt {l : List Mt} {k : Nat} {m : Mt} (h : l[k]? = some m) : rowAt (msV l) (0 * 4 + k * 4) (mcV m) := by
  obtain ⟨h1, h2, h3, h4⟩ := msV_get h
  intro j v hj
  rw [show 0 * 4 + k * 4 + j = k * 4 + j by omega]
  match j, hj with
  | 0, hj => cases hj; exact h1
  | 1, hj => cases hj; exact h2
  | 2, hj => cases hj; exact h3
  | 3, hj => cases hj; exact h4
  | j + 4, hj => simp at hj
def befB (a b : Mt) : Bool := if (a.n * b.d - b.n * a.d).sign = 0 then (if a.i = b.i then decide (a.j < b.j) else decide (a.i < b.i)) else decide ((a.n * b.d - b.n * a.d).sign < 0)
section
variable {a b : Mt} {c : Int} {t : Bool}
end
/-- Into a list, the last one first. -/
def insD (x : Mt) : List Mt → List Mt
  | [] => [x]
  | a :: R => if befB x a = true then a :: insD x R else x :: a :: R
theorem insD_len (x : Mt) : ∀ (R : List Mt), (insD x R).length = R.length + 1
  | [] => rfl
  | a :: R => by
    unfold insD
    split
    · simp [insD_len x R]
    · rfl
def sortD (S : List Mt) (C : List Mt) : List Mt := C.foldl (fun S x => insD x S) S
theorem insD_mem {x y : Mt} : ∀ {R : List Mt}, y ∈ insD x R ↔ y = x ∨ y ∈ R
  | [] => by simp [insD]
  | a :: R => by
    unfold insD
    split
    · rw [List.mem_cons, insD_mem, List.mem_cons]; constructor <;> rintro (h | h | h) <;> simp [h]
    · simp
/-- All meetings of a valid field, in order. -/
noncomputable def srt (l : List Pt) : List Mt := (sortD [] (msOf l)).reverse
theorem sortD_len : ∀ (C S : List Mt), (sortD S C).length = S.length + C.length
  | [], S => rfl
  | x :: C, S => by
    show (sortD (insD x S) C).length = _
    rw [sortD_len C, insD_len, List.length_cons]; omega
theorem srt_len (l : List Pt) : (srt l).length = (msOf l).length := by
  unfold srt
  rw [List.length_reverse, sortD_len]; simp
theorem pairs_len : ∀ (l : List Pt), (pairsOf l).length ≤ l.length * l.length
  | [] => Nat.le_refl _
  | p :: r => by
    have := pairs_len r
    rw [pairsOf, List.length_append, List.length_map, List.length_cons, Nat.add_mul, Nat.mul_add]
    omega
theorem ms_len {l : List Pt} (hv : Val l) : (msOf l).length ≤ 4096 := by
  refine Nat.le_trans (List.length_filterMap_le _ _) (Nat.le_trans (pairs_len l) ?_)
  exact Nat.mul_le_mul hv.len hv.len
end Go.Proofs.Ytoheadpehomdjaa
