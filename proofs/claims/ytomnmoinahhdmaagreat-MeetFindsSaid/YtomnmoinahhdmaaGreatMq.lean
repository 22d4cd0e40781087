/-
  Orders of meetings: the reference's sort and the program's choice name the same meeting. Conditions: none.
-/
import Derived.Test.YtomnmoinahhdmaaGreatMp
namespace Go.Proofs.YtomnmoinahhdmaaGreat
open Go.RowKit
theorem cI_cases (x y : Int) : (x < y ∧ cI x y = -1) ∨ (x = y ∧ cI x y = 0) ∨ (x > y ∧ cI x y = 1) := by
  unfold cI
  by_cases h1 : x < y
  · rw [if_pos h1]; exact Or.inl ⟨h1, rfl⟩
  · by_cases h2 : x > y
    · rw [if_neg h1, if_pos h2]; exact Or.inr (Or.inr ⟨h2, rfl⟩)
    · rw [if_neg h1, if_neg h2]; exact Or.inr (Or.inl ⟨by omega, rfl⟩)
theorem sg_cases (x : Int) : (x < 0 ∧ x.sign = -1) ∨ (x = 0 ∧ x.sign = 0) ∨ (0 < x ∧ x.sign = 1) := by
  rcases Int.lt_trichotomy x 0 with h | h | h
  · exact Or.inl ⟨h, Int.sign_eq_neg_one_of_neg h⟩
  · exact Or.inr (Or.inl ⟨h, by rw [h]; rfl⟩)
  · exact Or.inr (Or.inr ⟨h, Int.sign_eq_one_of_pos h⟩)
/-- The order of two meetings, case by case. -/
theorem ord_cases (a b : Mt) : (a.n * b.d - b.n * a.d < 0 ∧ ordM a b = -1) ∨ (a.n * b.d - b.n * a.d > 0 ∧ ordM a b = 1) ∨
    (a.n * b.d - b.n * a.d = 0 ∧ ((a.i < b.i ∧ ordM a b = -1) ∨ (a.i > b.i ∧ ordM a b = 1) ∨ (a.i = b.i ∧ ((a.j < b.j ∧ ordM a b = -1) ∨ (a.j > b.j ∧ ordM a b = 1) ∨ (a.j = b.j ∧ ordM a b = 0))))) := by
  unfold ordM
  rcases sg_cases (a.n * b.d - b.n * a.d) with ⟨h, e⟩ | ⟨h, e⟩ | ⟨h, e⟩
  · rw [e, if_pos (by decide)]; exact Or.inl ⟨h, rfl⟩
  · rw [e, if_neg (by decide)]
    refine Or.inr (Or.inr ⟨h, ?_⟩)
    rcases cI_cases a.i b.i with ⟨h1, e1⟩ | ⟨h1, e1⟩ | ⟨h1, e1⟩
    · rw [e1, if_pos (by decide)]; exact Or.inl ⟨h1, rfl⟩
    · rw [e1, if_neg (by decide)]
      refine Or.inr (Or.inr ⟨h1, ?_⟩)
      rcases cI_cases a.j b.j with ⟨h2, e2⟩ | ⟨h2, e2⟩ | ⟨h2, e2⟩
      · exact Or.inl ⟨h2, e2⟩
      · exact Or.inr (Or.inr ⟨h2, e2⟩)
      · exact Or.inr (Or.inl ⟨h2, e2⟩)
    · rw [e1, if_pos (by decide)]; exact Or.inr (Or.inl ⟨h1, rfl⟩)
  · rw [e, if_pos (by decide)]; exact Or.inr (Or.inl ⟨h, rfl⟩)
theorem bef_ord (a b : Mt) : befB a b = decide (ordM a b < 0) := by
  unfold befB
  rcases ord_cases a b with ⟨h, e⟩ | ⟨h, e⟩ | ⟨h, ⟨h1, e⟩ | ⟨h1, e⟩ | ⟨h1, ⟨h2, e⟩ | ⟨h2, e⟩ | ⟨h2, e⟩⟩⟩ <;> rw [e]
  · rw [Int.sign_eq_neg_one_of_neg h]; rfl
  · rw [Int.sign_eq_one_of_pos h]; rfl
  · rw [h, Int.sign_zero, if_pos rfl, if_neg (by omega), dt h1]; rfl
  · rw [h, Int.sign_zero, if_pos rfl, if_neg (by omega), df (by omega)]; rfl
  · rw [h, Int.sign_zero, if_pos rfl, if_pos h1, dt h2]; rfl
  · rw [h, Int.sign_zero, if_pos rfl, if_pos h1, df (by omega)]; rfl
  · rw [h, Int.sign_zero, if_pos rfl, if_pos h1, df (by omega)]; rfl
theorem ord_neg (a b : Mt) : ordM a b = -ordM b a := by
  rcases ord_cases a b with ⟨h, e⟩ | ⟨h, e⟩ | ⟨h, ⟨h1, e⟩ | ⟨h1, e⟩ | ⟨h1, ⟨h2, e⟩ | ⟨h2, e⟩ | ⟨h2, e⟩⟩⟩ <;> rcases ord_cases b a with ⟨g, f⟩ | ⟨g, f⟩ | ⟨g, ⟨g1, f⟩ | ⟨g1, f⟩ | ⟨g1, ⟨g2, f⟩ | ⟨g2, f⟩ | ⟨g2, f⟩⟩⟩ <;> omega
theorem frac_tr {an ad bn bd cn cd : Int} (h1 : 0 < ad) (h2 : 0 < bd) (h3 : 0 < cd) :
    (an * bd - bn * ad > 0 → bn * cd - cn * bd ≥ 0 → an * cd - cn * ad > 0) ∧ (an * bd - bn * ad ≥ 0 → bn * cd - cn * bd > 0 → an * cd - cn * ad > 0) ∧ (an * bd - bn * ad = 0 → bn * cd - cn * bd = 0 → an * cd - cn * ad = 0) := by
  have key : (an * cd - cn * ad) * bd = (an * bd - bn * ad) * cd + (bn * cd - cn * bd) * ad := by
    rw [Int.sub_mul, Int.sub_mul, Int.sub_mul, Int.mul_right_comm an cd bd, Int.mul_right_comm bn ad cd, Int.mul_right_comm cn ad bd]
    omega
  generalize an * bd - bn * ad = A at *
  generalize bn * cd - cn * bd = B at *
  generalize an * cd - cn * ad = C at *
  have pos : ∀ {x : Int}, 0 < x * bd → 0 < x := fun {x} h => by
    rcases Int.lt_trichotomy x 0 with g | g | g
    · have := Int.mul_neg_of_neg_of_pos g h2; omega
    · rw [g, Int.zero_mul] at h; omega
    · exact g
  refine ⟨fun a b => pos ?_, fun a b => pos ?_, fun a b => ?_⟩
  · have := Int.mul_pos a h3; have := Int.mul_nonneg b (Int.le_of_lt h1); omega
  · have := Int.mul_nonneg a (Int.le_of_lt h3); have := Int.mul_pos b h1; omega
  · rw [a, b, Int.zero_mul, Int.zero_mul, Int.add_zero] at key
    rcases Int.mul_eq_zero.1 key with h | h
    · exact h
    · omega
theorem ord_tr {a b c : Mt} (ha : MtOk a) (hb : MtOk b) (hc : MtOk c) (h1 : 0 ≤ ordM a b) (h2 : 0 ≤ ordM b c) : 0 ≤ ordM a c := by
  obtain ⟨t1, t2, t3⟩ := frac_tr (an := a.n) (bn := b.n) (cn := c.n) (by have := okB_den ha.ok; omega) (by have := okB_den hb.ok; omega) (by have := okB_den hc.ok; omega) (ad := a.d) (bd := b.d) (cd := c.d)
  rcases ord_cases a b with ⟨h, e⟩ | ⟨h, e⟩ | ⟨h, ⟨h3, e⟩ | ⟨h3, e⟩ | ⟨h3, ⟨h4, e⟩ | ⟨h4, e⟩ | ⟨h4, e⟩⟩⟩ <;> rcases ord_cases b c with ⟨g, f⟩ | ⟨g, f⟩ | ⟨g, ⟨g3, f⟩ | ⟨g3, f⟩ | ⟨g3, ⟨g4, f⟩ | ⟨g4, f⟩ | ⟨g4, f⟩⟩⟩ <;>
    first
    | omega
    | (have k := t1 h (by omega); rcases ord_cases a c with ⟨w, z⟩ | ⟨w, z⟩ | ⟨w, _⟩ <;> omega)
    | (have k := t2 (by omega) g; rcases ord_cases a c with ⟨w, z⟩ | ⟨w, z⟩ | ⟨w, _⟩ <;> omega)
    | (have k := t3 h g; rcases ord_cases a c with ⟨w, z⟩ | ⟨w, z⟩ | ⟨w, ⟨w3, z⟩ | ⟨w3, z⟩ | ⟨w3, ⟨w4, z⟩ | ⟨w4, z⟩ | ⟨w4, z⟩⟩⟩ <;> omega)
theorem ord_eq {a b : Mt} (ha : MtOk a) (hb : MtOk b) (h : ordM a b = 0) : a = b := by
  rcases ord_cases a b with ⟨_, e⟩ | ⟨_, e⟩ | ⟨h0, ⟨_, e⟩ | ⟨_, e⟩ | ⟨h1, ⟨_, e⟩ | ⟨_, e⟩ | ⟨h2, e⟩⟩⟩ <;> try omega
  obtain ⟨e1, e2⟩ := okB_one ha.ok hb.ok (by omega)
  cases a; cases b
  simp_all
theorem lat_neg (a b : Mt) : latM a b = -latM b a := by
  unfold latM
  rw [← Int.sign_neg]; congr 1; omega
theorem lat_tr {a b c : Mt} (ha : MtOk a) (hb : MtOk b) (hc : MtOk c) (h1 : 0 ≤ latM a b) (h2 : 0 ≤ latM b c) : 0 ≤ latM a c := by
  unfold latM at *
  obtain ⟨t1, t2, t3⟩ := frac_tr (an := c.n) (bn := b.n) (cn := a.n) (by have := okB_den hc.ok; omega) (by have := okB_den hb.ok; omega) (by have := okB_den ha.ok; omega) (ad := c.d) (bd := b.d) (cd := a.d)
  rcases sg_cases (b.n * a.d - a.n * b.d) with ⟨h, e⟩ | ⟨h, e⟩ | ⟨h, e⟩ <;> rcases sg_cases (c.n * b.d - b.n * c.d) with ⟨g, f⟩ | ⟨g, f⟩ | ⟨g, f⟩ <;> rcases sg_cases (c.n * a.d - a.n * c.d) with ⟨w, z⟩ | ⟨w, z⟩ | ⟨w, z⟩ <;>
    first
    | omega
    | (have k := t1 g (by omega); omega)
    | (have k := t2 (by omega) h; omega)
    | (have k := t3 g h; omega)

theorem best_min {c : Mt → Mt → Int} (hneg : ∀ a b, c a b = -c b a) : ∀ (X : List Mt) (acc : Option Mt) (b : Mt) (all : List Mt), (∀ a ∈ all, ∀ b ∈ all, ∀ d ∈ all, 0 ≤ c a b → 0 ≤ c b d → 0 ≤ c a d) → (∀ a ∈ X, a ∈ all) → (∀ a, acc = some a → a ∈ all) →
    X.foldl (bestStep c) acc = some b → b ∈ all ∧ (∀ a, acc = some a → 0 ≤ c a b) ∧ ∀ a ∈ X, 0 ≤ c a b
  | [], acc, b, all, _, _, hacc, h => by
    have h' : acc = some b := h
    refine ⟨hacc b h', fun a ha => ?_, fun a ha => by cases ha⟩
    rw [h'] at ha; cases ha
    have := hneg b b; omega
  | m :: r, acc, b, all, tr, hX, hacc, h => by
    rw [List.foldl_cons] at h
    have hm := hX m List.mem_cons_self
    have hst : ∀ a, bestStep c acc m = some a → a ∈ all := fun a ha => by
      unfold bestStep at ha
      split at ha
      · cases ha; exact hm
      · rename_i b0
        split at ha <;> cases ha
        · exact hm
        · exact hacc _ rfl
    obtain ⟨h1, h2, h3⟩ := best_min hneg r _ b all tr (fun a ha => hX a (List.mem_cons_of_mem _ ha)) hst h
    have hmid : ∃ z, bestStep c acc m = some z ∧ z ∈ all ∧ 0 ≤ c m z ∧ ∀ a, acc = some a → 0 ≤ c a z := by
      unfold bestStep
      cases acc with
      | none => exact ⟨m, rfl, hm, by have := hneg m m; omega, fun a ha => by cases ha⟩
      | some b0 =>
        simp only
        split
        · rename_i hlt
          exact ⟨m, rfl, hm, by have := hneg m m; omega, fun a ha => by cases ha; have := hneg b0 m; omega⟩
        · exact ⟨b0, rfl, hacc b0 rfl, by omega, fun a ha => by cases ha; have := hneg b0 b0; omega⟩
    obtain ⟨z, e, hz, z1, z2⟩ := hmid
    have hzb := h2 z e
    refine ⟨h1, fun a ha => tr a (hacc a ha) z hz b h1 (z2 a ha) hzb, fun a ha => ?_⟩
    rcases List.mem_cons.1 ha with rfl | ha
    · exact tr _ hm z hz b h1 z1 hzb
    · exact h3 a ha
theorem best_some {c : Mt → Mt → Int} : ∀ (X : List Mt) (acc : Option Mt), (acc.isSome = true ∨ X ≠ []) → (X.foldl (bestStep c) acc).isSome = true
  | [], acc, h => by
    rcases h with h | h
    · exact h
    · exact (h rfl).elim
  | m :: r, acc, _ => by
    rw [List.foldl_cons]
    refine best_some r _ (Or.inl ?_)
    unfold bestStep
    split
    · rfl
    · split <;> rfl

theorem insD_desc {x : Mt} (hx : MtOk x) : ∀ {R : List Mt}, (∀ a ∈ R, MtOk a) → R.Pairwise (fun a b => 0 ≤ ordM a b) → (insD x R).Pairwise (fun a b => 0 ≤ ordM a b)
  | [], _, _ => by simp [insD]
  | a :: R, hR, hp => by
    have ha := hR a List.mem_cons_self
    obtain ⟨p1, p2⟩ := List.pairwise_cons.1 hp
    unfold insD
    rw [bef_ord]
    by_cases h : ordM x a < 0
    · rw [if_pos (decide_eq_true h)]
      refine List.pairwise_cons.2 ⟨fun y hy => ?_, insD_desc hx (fun b hb => hR b (List.mem_cons_of_mem _ hb)) p2⟩
      rcases insD_mem.1 hy with rfl | hy
      · have := ord_neg a y; omega
      · exact p1 y hy
    · rw [if_neg (by simpa using h)]
      refine List.pairwise_cons.2 ⟨fun y hy => ?_, hp⟩
      rcases List.mem_cons.1 hy with rfl | hy
      · omega
      · exact ord_tr hx ha (hR y (List.mem_cons_of_mem _ hy)) (by omega) (p1 y hy)
theorem sortD_mem {y : Mt} : ∀ {C S : List Mt}, y ∈ sortD S C ↔ y ∈ S ∨ y ∈ C
  | [], S => by simp [sortD]
  | x :: C, S => by
    show y ∈ sortD (insD x S) C ↔ _
    rw [sortD_mem, insD_mem, List.mem_cons]
    exact ⟨fun h => by rcases h with (h | h) | h <;> simp [h], fun h => by rcases h with h | h | h <;> simp [h]⟩
theorem sortD_desc : ∀ {C S : List Mt}, (∀ a ∈ S, MtOk a) → (∀ a ∈ C, MtOk a) → S.Pairwise (fun a b => 0 ≤ ordM a b) → (sortD S C).Pairwise (fun a b => 0 ≤ ordM a b)
  | [], S, _, _, h => h
  | x :: C, S, hS, hC, h => by
    have hx := hC x List.mem_cons_self
    exact sortD_desc (C := C) (S := insD x S) (fun a ha => by
      rcases insD_mem.1 ha with rfl | h
      · exact hx
      · exact hS _ h) (fun a ha => hC a (List.mem_cons_of_mem _ ha)) (insD_desc hx hS h)
theorem srt_mem {l : List Pt} {m : Mt} : m ∈ srt l ↔ m ∈ msOf l := by
  unfold srt
  rw [List.mem_reverse, sortD_mem]; simp
theorem srt_ok {l : List Pt} (hv : Val l) : ∀ m ∈ srt l, MtOk m := fun m h => ms_ok hv m (srt_mem.1 h)
end Go.Proofs.YtomnmoinahhdmaaGreat
