/-
  CrestParts. Conditions: none.
-/
import Derived.Test.YtoheadpehomdjaaW46
import Derived.Test.YtoheadpehomdjaaW32
import Derived.Test.YtoheadpehomdjaaFq
import Derived.ProofKit
import Derived.OpenShut
import Derived.Lib.SmallJoins
import Derived.Deep.Slices
import Derived.Deep.Strs
import Derived.Deep.Fields
import Derived.Carry
namespace Go.Proofs.Ytoheadpehomdjaa
open Go.ChangeShapes Go.WideShapes Go.ChangeAt Go.RowKit Go.Joins Go.Deep
theorem isl_i : Try.prog.cellsOf 3 = 1 := by kernel_rfl
theorem isl_read : Try.prog.readableRec 44 = true := by kernel_rfl
theorem isl_row : 44 < Try.prog.types.size := of_decide_eq_true (by kernel_rfl)
section
variable {H : Type} {enc : TypeId × Value → H} {W : World} {base : Nat} {spare : Nat → Bool} {held : Bool}
theorem iopen_rd {a : Addr} {len cap : Nat} {vs : List Value} (hl : vs.length = len) (hc : len ≤ cap) (h : ∀ i v, vs[i]? = some v → W.cell? (a.add i) = some v) : Rd W 1 (.slice (some a) len cap) len vs := by
  refine ⟨by omega, some a, cap, rfl, hc, fun j v hv => ?_⟩
  have hj := h j v hv
  have hpos : 0 < vs.length := by have := (List.getElem?_eq_some_iff.1 hv).1; omega
  have h0 := h 0 _ (List.getElem?_eq_getElem hpos)
  obtain ⟨b, off, spot⟩ := a
  have hs : spot = none := by simpa [Addr.add] using World.cell?_spot h0
  subst hs
  exact ⟨b, off, rfl, by rw [← Go.WideShapes.add_plain]; exact hj⟩
set_option maxRecDepth 100000 in
theorem iopen_ints {fuel : Nat} {cs : List Value} {x : DataW H × List MemPlace} (h : DataW.trod enc Try.prog W base spare held fuel 44 cs = some x) :
    ∃ (u : Value) (l : List Int), cs = [u] ∧ Rd W 1 u l.length (idsV l) ∧ ∀ p ∈ l, (Lit.int .i64 p).wf = true := by
  rcases open_slice1 Try.underlying44 isl_i h with ⟨rfl, _⟩ | ⟨a, len, cap, m, n, V, D, Pl, rfl, _, hlc, _, hm, _, hi⟩
  · exact ⟨_, [], rfl, ⟨rfl, none, 0, rfl, Nat.le_refl _, fun j v hv => by simp [idsV] at hv⟩, fun p hp => by simp at hp⟩
  have hlm : len ≤ m := by rw [hm]; split <;> omega
  have each : ∀ i, i < len → ∃ p : Int, W.cell? (a.add i) = some (.int .i64 p) ∧ (Lit.int .i64 p).wf = true := by
    intro i hil
    obtain ⟨hc, ht⟩ := hi i (by omega)
    obtain ⟨p, e, _, w⟩ := DataW.trod_int Try.underlying3 ht
    simp at e
    exact ⟨p, by rw [hc, e], w⟩
  obtain ⟨f, hf⟩ := choose_lt (α := Int) each
  refine ⟨_, (List.range len).map f, rfl, ?_, fun p hp => ?_⟩
  · have := iopen_rd (W := W) (a := a) (len := len) (cap := cap) (vs := idsV ((List.range len).map f)) (by simp [idsV]) hlc (fun i v hv => by
      have hk : i < len := by have := (List.getElem?_eq_some_iff.1 hv).1; simpa [idsV] using this
      have e : v = .int .i64 (f i) := by simp [idsV, hk] at hv; exact hv.symm
      rw [e]; exact (hf i hk).1)
    simpa using this
  · obtain ⟨i, hi', rfl⟩ := List.mem_map.1 hp
    exact (hf i (List.mem_range.1 hi')).2
set_option maxRecDepth 100000 in
theorem open_ints {r : Reach} {b0 : Nat} {v : Value} {d : DataW H} {p : List MemPlace} (hv : Value.okWide Try.prog W r b0 44 v) (h : DataW.Trod enc Try.prog W base spare held 44 v d p) :
    ∃ l : List Int, Rd W 1 v l.length (idsV l) ∧ ∀ p ∈ l, (Lit.int .i64 p).wf = true := by
  obtain ⟨a, len, cap, rfl⟩ := okWide_slice Try.underlying44 hv
  obtain ⟨fuel, hf⟩ := h
  obtain ⟨u, l, hc, hr, hb⟩ := iopen_ints hf
  simp [Value.cells] at hc
  subst hc
  exact ⟨l, hr, hb⟩
end
theorem idsq_one : ∀ (l : List Int), ∀ v ∈ idsV l, v.oneCell' = true := by
  intro l v hv
  unfold idsV at hv
  obtain ⟨x, _, rfl⟩ := List.mem_map.1 hv
  rfl
theorem Among_any {is : List Int} (hn : is.length ≤ 1000) (xx : Int) : FnL Try.prog 15 1 [.ls 0 is.length, .pv (.int .i64 xx)] [(0, 0, rowI is)] (.pv (.bool (decide (xx ∈ is)))) 0 [] := by
  have key : ∀ (r : List Int) (k : Nat), is.drop k = r →
      (xx ∈ r → RunsL Try.prog 1 1 (loopOf Try.prog 15 0) 18 1 [(0, .ls 0 is.length), (1, .pv (.int .i64 xx)), (5, .pv (.int .i64 (k : Int)))] [(0, 0, rowI is)] .ret [(4, .pv (.bool true))] []) ∧
      (xx ∉ r → RunsL Try.prog 1 1 (loopOf Try.prog 15 0) 18 1 [(0, .ls 0 is.length), (1, .pv (.int .i64 xx)), (5, .pv (.int .i64 (k : Int)))] [(0, 0, rowI is)] (.exit 0) [] []) := by
    intro r
    induction r with
    | nil =>
      intro k hd
      have hle := List.drop_eq_nil_iff.1 hd
      exact ⟨fun h => (by cases h), fun _ => am_end (df (by omega))⟩
    | cons y r ih =>
      intro k hd
      have hk : is[k]? = some y := by have := congrArg (·[0]?) hd; simpa using this
      have hd' : is.drop (k + 1) = r := by rw [← List.drop_drop, hd]; rfl
      have hkl := get_lt hk
      have hin : 0 ≤ (k : Int) ∧ (k : Int) < (is.length : Int) := ⟨by omega, by omega⟩
      by_cases e : y = xx
      · subst e
        exact ⟨fun _ => am_hit hk hin (dt hin.2) (by simp), fun h => (h List.mem_cons_self).elim⟩
      · have hy : (y == xx) = false := by simpa using e
        refine ⟨fun h => ?_, fun h => ?_⟩
        · refine am_next hk hin (dt hin.2) hy (i64_succ (by omega)) ((ih (k + 1) hd').1 ?_)
          rcases List.mem_cons.1 h with h | h
          · exact (e h.symm).elim
          · exact h
        · exact am_next hk hin (dt hin.2) hy (i64_succ (by omega)) ((ih (k + 1) hd').2 fun g => h (List.mem_cons_of_mem _ g))
  have h := key is 0 rfl
  by_cases hm : xx ∈ is
  · rw [dt hm]; exact am_yes (h.1 hm)
  · rw [df hm]; exact am_no (h.2 hm)
theorem val_sub {l la : List Pt} (hv : Val l) (h : la.Sublist l) : Val la := by
  refine ⟨Nat.le_trans h.length_le hv.len, fun p hp => hv.ok p (h.subset hp), fun k p q hp hq => ?_⟩
  have pw : l.Pairwise (fun p q => p.id < q.id) := by
    rw [List.pairwise_iff_getElem]
    intro i j hi hj hij
    exact hv.up.mono hij (List.getElem?_eq_getElem hi) (List.getElem?_eq_getElem hj)
  have pa := List.pairwise_iff_getElem.1 (pw.sublist h) k (k + 1) (get_lt hp) (get_lt hq) (by omega)
  rw [List.getElem?_eq_getElem (get_lt hp)] at hp
  rw [List.getElem?_eq_getElem (get_lt hq)] at hq
  rw [Option.some.inj hp, Option.some.inj hq] at pa
  exact pa
abbrev ptT (i1 i2 : List Int) (k : Nat) : List (Nat × SV) := [(2, .ls 1 i1.length), (3, .ls 2 i2.length), (4, .pp 3 0), (5, .pp 4 0), (9, .pp 5 0), (10, .pp 6 0), (11, .pv (.int .i64 (k : Int)))]
abbrev ptH (l : List Pt) (i1 i2 : List Int) (fn fd : Int) (la lb : List Pt) : List (Nat × Nat × SV) := [(3, 0, .ls 0 l.length), (4, 0, .pv (.int .i64 fn)), (4, 1, .pv (.int .i64 fd)), (5, 0, .ls 7 (la).length), (6, 0, .ls 8 (lb).length), (0, 0, rowP l), (1, 0, rowI i1), (2, 0, rowI i2), (7, 0, rowP (la)), (8, 0, rowP (lb))]
abbrev ptE : List (Nat × SV) := [(4, .pp 3 0), (5, .pp 4 0), (9, .pp 5 0), (10, .pp 6 0)]
theorem parts_loop {l : List Pt} {i1 i2 : List Int} {fn fd : Int} (hl : l.length ≤ 64) (h1 : i1.length ≤ 16) (h2 : i2.length ≤ 16) : ∀ (r : List Pt) (k : Nat) (la lb : List Pt), l.drop k = r → la.Sublist (l.take k) → lb.Sublist (l.take k) → (∀ q ∈ l.take k, q ∈ la ∨ q ∈ lb) →
    RunsL Try.prog 3 3 (loopOf Try.prog 4 0) 155 9 (ptT i1 i2 k) (ptH l i1 i2 fn fd la lb) .ret [(8, .pv (.bool true))] [] ∨
    ∃ la' lb', la'.Sublist l ∧ lb'.Sublist l ∧ (∀ q ∈ l, q ∈ la' ∨ q ∈ lb') ∧ RunsL Try.prog 3 3 (loopOf Try.prog 4 0) 155 9 (ptT i1 i2 k) (ptH l i1 i2 fn fd la lb) (.exit 0) ptE (ptH l i1 i2 fn fd la' lb') := by
  intro r
  induction r with
  | nil =>
    intro k la lb hd sa sb cov
    have hle := List.drop_eq_nil_iff.1 hd
    rw [List.take_of_length_le hle] at sa sb cov
    exact Or.inr ⟨la, lb, sa, sb, cov, pt_end (df (by omega))⟩
  | cons p r ih =>
    intro k la lb hd sa sb cov
    have hk : l[k]? = some p := by have := congrArg (·[0]?) hd; simpa using this
    have hd' : l.drop (k + 1) = r := by rw [← List.drop_drop, hd]; rfl
    have hkl := get_lt hk
    have hin : 0 ≤ (k : Int) ∧ (k : Int) < (l.length : Int) := ⟨by omega, by omega⟩
    have et : l.take (k + 1) = l.take k ++ [p] := by rw [List.take_add_one, hk]; rfl
    have la1 : la.length + 1 ≤ 1000000 := by have := sa.length_le; rw [List.length_take] at this; omega
    have lb1 : lb.length + 1 ≤ 1000000 := by have := sb.length_le; rw [List.length_take] at this; omega
    have a := Among_any (is := i1) (by omega) (k : Int)
    have b := Among_any (is := i2) (by omega) (k : Int)
    have sk : Value.int .i64 (IntKind.i64.wrap ((k : Int) + 1)) = .int .i64 ((k + 1 : Nat) : Int) := i64_succ (by omega)
    have sA : (la ++ [p]).Sublist (l.take (k + 1)) := by rw [et]; exact sa.append (List.Sublist.refl _)
    have sB : (lb ++ [p]).Sublist (l.take (k + 1)) := by rw [et]; exact sb.append (List.Sublist.refl _)
    have sA0 : la.Sublist (l.take (k + 1)) := by rw [et]; exact sa.trans (List.sublist_append_left _ _)
    have sB0 : lb.Sublist (l.take (k + 1)) := by rw [et]; exact sb.trans (List.sublist_append_left _ _)
    by_cases ma : (k : Int) ∈ i1
    · rw [dt ma] at a
      by_cases mb : (k : Int) ∈ i2
      · rw [dt mb] at b
        rcases ih (k + 1) (la ++ [p]) (lb ++ [p]) hd' sA sB (fun q hq => by
          rw [et] at hq
          rcases List.mem_append.1 hq with hq | hq
          · rcases cov q hq with h | h
            · exact Or.inl (List.mem_append_left _ h)
            · exact Or.inr (List.mem_append_left _ h)
          · exact Or.inl (List.mem_append_right _ hq)) with g | ⟨la', lb', g1, g2, g3, g4⟩
        · exact Or.inl (pt_tt (hlt := dt hin.2) (ha := a) (hb := b) (hk := hk) (hin := hin) (hla := la1) (hlb := lb1) (hs := sk) g)
        · exact Or.inr ⟨la', lb', g1, g2, g3, pt_tt (hlt := dt hin.2) (ha := a) (hb := b) (hk := hk) (hin := hin) (hla := la1) (hlb := lb1) (hs := sk) g4⟩
      · rw [df mb] at b
        rcases ih (k + 1) (la ++ [p]) lb hd' sA sB0 (fun q hq => by
          rw [et] at hq
          rcases List.mem_append.1 hq with hq | hq
          · rcases cov q hq with h | h
            · exact Or.inl (List.mem_append_left _ h)
            · exact Or.inr h
          · exact Or.inl (List.mem_append_right _ hq)) with g | ⟨la', lb', g1, g2, g3, g4⟩
        · exact Or.inl (pt_tf (hlt := dt hin.2) (ha := a) (hb := b) (hk := hk) (hin := hin) (hla := la1) (hs := sk) g)
        · exact Or.inr ⟨la', lb', g1, g2, g3, pt_tf (hlt := dt hin.2) (ha := a) (hb := b) (hk := hk) (hin := hin) (hla := la1) (hs := sk) g4⟩
    · rw [df ma] at a
      by_cases mb : (k : Int) ∈ i2
      · rw [dt mb] at b
        rcases ih (k + 1) la (lb ++ [p]) hd' sA0 sB (fun q hq => by
          rw [et] at hq
          rcases List.mem_append.1 hq with hq | hq
          · rcases cov q hq with h | h
            · exact Or.inl h
            · exact Or.inr (List.mem_append_left _ h)
          · exact Or.inr (List.mem_append_right _ hq)) with g | ⟨la', lb', g1, g2, g3, g4⟩
        · exact Or.inl (pt_ft (hlt := dt hin.2) (ha := a) (hb := b) (hk := hk) (hin := hin) (hlb := lb1) (hs := sk) g)
        · exact Or.inr ⟨la', lb', g1, g2, g3, pt_ft (hlt := dt hin.2) (ha := a) (hb := b) (hk := hk) (hin := hin) (hlb := lb1) (hs := sk) g4⟩
      · rw [df mb] at b
        exact Or.inl (pt_ff (hlt := dt hin.2) (ha := a) (hb := b) (hal := Alive5))
theorem Merge_parts {l la lb : List Pt} (hv : Val l) (ha : Val la) (hb : Val lb) (na : la ≠ []) (nb : lb ≠ []) (sa : ∀ q ∈ la, q ∈ l) (sb : ∀ q ∈ lb, q ∈ l) (cov : ∀ q ∈ l, q ∈ la ∨ q ∈ lb) {n d : Int} (h0 : Tm n d) :
    FnL Try.prog 10 3 [fldS 0 l, .ls 1 (crest la n d).length, .ls 2 (crest lb n d).length] [(0, 0, rowP l), (1, 0, rowL (crest la n d)), (2, 0, rowL (crest lb n d))] (.tu [.one (.ls 3 (crest l n d).length), .one (.pv (.int .i64 0))]) 1 [(3, 0, rowL (crest l n d))] := by
  have fk : FnL Try.prog 22 1 [fldS 0 l] [(0, 0, rowP l)] (.pv (.int .i64 0)) 0 [] := by
    have := PCheck_any l
    rw [err_val.2 hv] at this
    exact this
  have fa : ∀ {la : List Pt}, Val la → la ≠ [] → (∀ q ∈ la, q ∈ l) → HasAll l (crest la n d) := fun ha na sa x hx => by
    obtain ⟨q, b⟩ := crest_base ha na h0 x hx
    exact ⟨q, sa q b.mem, b.id⟩
  have la' := crest_len ha na h0
  have lb' := crest_len hb nb h0
  have va := (crest_vc ha na h0).len
  have vb := (crest_vc hb nb h0).len
  exact mg_ok (s := crest l n d) fk (PCk_ok (crest_i64 ha na h0) (crest_vc ha na h0)) (PCk_ok (crest_i64 hb nb h0) (crest_vc hb nb h0)) (crest_zero ha na h0) ⟨by omega, by omega⟩ (crest_zero hb nb h0) ⟨by omega, by omega⟩ (by simp)
    (FindAll_yes hv (by omega) (fa ha na sa)) (FindAll_yes hv (by omega) (fa hb nb sb)) (Mgd_parts hv ha hb na nb sa sb cov h0)
theorem Parts5_any {fn fd : Int} (h1 : I64 fn) (h2 : I64 fd) (l : List Pt) (i1 i2 : List Int) : FnL Try.prog 4 3 [fldS 0 l, .pv (ratioV fn fd), .ls 1 i1.length, .ls 2 i2.length] [(0, 0, rowP l), (1, 0, rowI i1), (2, 0, rowI i2)] (.pv (.bool true)) 0 [] := by
  obtain ⟨b, hf, hb⟩ := Fit5_any h1 h2 l
  cases b with
  | false => exact pt_no hf Alive5
  | true =>
    obtain ⟨hne, ht⟩ := hb rfl
    have he : errL l = 0 ∧ okB fn fd = true := by
      unfold tE at ht
      by_cases g : errL l = 0
      · rw [if_pos g] at ht
        by_cases g2 : okB fn fd = true
        · exact ⟨g, g2⟩
        · rw [if_neg g2] at ht; exact absurd ht (by decide)
      · rw [if_neg g] at ht; exact (g ht).elim
    have hv := err_val.1 he.1
    have tm : Tm fn fd := ⟨h1, h2, he.2⟩
    by_cases g1 : (i1.length : Int) > 16
    · exact pt_l1 hf (dt g1) Alive5
    by_cases g2 : (i2.length : Int) > 16
    · exact pt_l2 hf (df g1) (dt g2) Alive5
    rcases parts_loop (i1 := i1) (i2 := i2) (fn := fn) (fd := fd) hv.len (by omega) (by omega) l 0 [] [] rfl (List.nil_sublist _) (List.nil_sublist _) (by simp) with r | ⟨la, lb, sa, sb, cov, r⟩
    · exact pt_ret hf (df g1) (df g2) r
    · have va := val_sub hv sa
      have vb := val_sub hv sb
      by_cases ea : la = []
      · subst ea
        exact pt_e1 hf (df g1) (df g2) r rfl Alive5
      by_cases eb : lb = []
      · subst eb
        exact pt_e2 hf (df g1) (df g2) r (by simpa using ea) rfl Alive5
      have ic := (crest_vc hv hne tm).len
      exact pt_all (ca := crest la fn fd) (cb := crest lb fn fd) (cc := crest l fn fd) hf (df g1) (df g2) r (by simpa using ea) (by simpa using eb) (Of_ok va ea tm) (Of_ok vb eb tm) (Of_ok hv hne tm)
        (Merge_parts hv va vb ea eb (fun q h => sa.subset h) (fun q h => sb.subset h) cov tm) (Merge_parts hv vb va eb ea (fun q h => sb.subset h) (fun q h => sa.subset h) (fun q h => (cov q h).symm) tm) (Same5 (by omega)) Alive5
theorem parts_walk {W : World} {u u2 u3 : Value} {l : List Pt} {i1 i2 : List Int} (hr : Rd W 3 u l.length (ptsV l)) {fn fd : Int} (h1 : -9223372036854775808 ≤ fn ∧ fn ≤ 9223372036854775807) (h2 : -9223372036854775808 ≤ fd ∧ fd ≤ 9223372036854775807) (r2 : Rd W 1 u2 i1.length (idsV i1)) (r3 : Rd W 1 u3 i2.length (idsV i2)) :
    Calls Try.prog 4 #[.agg #[u], ratioV fn fd, u2, u3] W fun e W' => e = .returned (.bool true) ∧ Gr W W' := by
  have hI : Ins W [u, u2, u3] [(41, 3, l.length, ptsV l), (3, 1, i1.length, idsV i1), (3, 1, i2.length, idsV i2)] := .cons hr (pts_one l) (.cons r2 (idsq_one i1) (.cons r3 (idsq_one i2) .nil))
  have k1 := hr.sl
  have k2 := r2.sl
  have k3 := r3.sl
  exact ins_run (rs := [(41, 3, l.length, ptsV l), (3, 1, i1.length, idsV i1), (3, 1, i2.length, idsV i2)]) (args := [fldS 0 l, .pv (ratioV fn fd), .ls 1 i1.length, .ls 2 i2.length]) (vs := [.agg #[u], ratioV fn fd, u2, u3]) (Parts5_any h1 h2 l i1 i2) hI ⟨⟨[u], ⟨⟨rfl, k1⟩, trivial⟩, rfl⟩, rfl, ⟨rfl, k2⟩, ⟨rfl, k3⟩, trivial⟩
end Go.Proofs.Ytoheadpehomdjaa
