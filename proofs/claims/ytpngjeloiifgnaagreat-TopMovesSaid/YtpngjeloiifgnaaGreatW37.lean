/-
  Joined: Mq, Mr, Mu, Mv, Mx, Fr, Fs. Conditions: none.
-/
import Derived.Test.YtpngjeloiifgnaaGreatW36
import Derived.Test.YtpngjeloiifgnaaGreatFq
import Derived.Test.YtpngjeloiifgnaaGreatFm
import Derived.Test.YtpngjeloiifgnaaGreatW29
import Derived.Test.YtpngjeloiifgnaaGreatW27
import Derived.Test.YtpngjeloiifgnaaGreatW30
namespace Go.Proofs.YtpngjeloiifgnaaGreat
open Go.RowKit
theorem cI_cases (x y : Int) : (x < y ∧ cI x y = -1) ∨ (x = y ∧ cI x y = 0) ∨ (x > y ∧ cI x y = 1) := by
  unfold cI
  by_cases h1 : x < y
  · rw [if_pos h1]; exact Or.inl ⟨h1, rfl⟩
  · by_cases h2 : x > y
    · rw [if_neg h1, if_pos h2]; exact Or.inr (Or.inr ⟨h2, rfl⟩)
    · rw [if_neg h1, if_neg h2]; exact Or.inr (Or.inl ⟨by omega, rfl⟩)
theorem sg_cases (x : Int) : (x < 0 ∧ x.sign = -1) ∨ (x = 0 ∧ x.sign = 0) ∨ (0 < x ∧ x.sign = 1) := by
  rcases Int.lt_trichotomy x 0 with h | h | h
  · exact Or.inl ⟨h, Int.sign_eq_neg_one_of_neg h⟩
  · exact Or.inr (Or.inl ⟨h, by rw [h]; rfl⟩)
  · exact Or.inr (Or.inr ⟨h, Int.sign_eq_one_of_pos h⟩)
/-- The order of two meetings, case by case. -/
theorem ord_cases (a b : Mt) : (a.n * b.d - b.n * a.d < 0 ∧ ordM a b = -1) ∨ (a.n * b.d - b.n * a.d > 0 ∧ ordM a b = 1) ∨
    (a.n * b.d - b.n * a.d = 0 ∧ ((a.i < b.i ∧ ordM a b = -1) ∨ (a.i > b.i ∧ ordM a b = 1) ∨ (a.i = b.i ∧ ((a.j < b.j ∧ ordM a b = -1) ∨ (a.j > b.j ∧ ordM a b = 1) ∨ (a.j = b.j ∧ ordM a b = 0))))) := by
  unfold ordM
  rcases sg_cases (a.n * b.d - b.n * a.d) with ⟨h, e⟩ | ⟨h, e⟩ | ⟨h, e⟩
  · rw [e, if_pos (by decide)]; exact Or.inl ⟨h, rfl⟩
  · rw [e, if_neg (by decide)]
    refine Or.inr (Or.inr ⟨h, ?_⟩)
    rcases cI_cases a.i b.i with ⟨h1, e1⟩ | ⟨h1, e1⟩ | ⟨h1, e1⟩
    · rw [e1, if_pos (by decide)]; exact Or.inl ⟨h1, rfl⟩
    · rw [e1, if_neg (by decide)]
      refine Or.inr (Or.inr ⟨h1, ?_⟩)
      rcases cI_cases a.j b.j with ⟨h2, e2⟩ | ⟨h2, e2⟩ | ⟨h2, e2⟩
      · exact Or.inl ⟨h2, e2⟩
      · exact Or.inr (Or.inr ⟨h2, e2⟩)
      · exact Or.inr (Or.inl ⟨h2, e2⟩)
    · rw [e1, if_pos (by decide)]; exact Or.inr (Or.inl ⟨h1, rfl⟩)
  · rw [e, if_pos (by decide)]; exact Or.inr (Or.inl ⟨h, rfl⟩)
theorem bef_ord (a b : Mt) : befB a b = decide (ordM a b < 0) := by
  unfold befB
  rcases ord_cases a b with ⟨h, e⟩ | ⟨h, e⟩ | ⟨h, ⟨h1, e⟩ | ⟨h1, e⟩ | ⟨h1, ⟨h2, e⟩ | ⟨h2, e⟩ | ⟨h2, e⟩⟩⟩ <;> rw [e]
  · rw [Int.sign_eq_neg_one_of_neg h]; rfl
  · rw [Int.sign_eq_one_of_pos h]; rfl
  · rw [h, Int.sign_zero, if_pos rfl, if_neg (by omega), dt h1]; rfl
  · rw [h, Int.sign_zero, if_pos rfl, if_neg (by omega), df (by omega)]; rfl
  · rw [h, Int.sign_zero, if_pos rfl, if_pos h1, dt h2]; rfl
  · rw [h, Int.sign_zero, if_pos rfl, if_pos h1, df (by omega)]; rfl
  · rw [h, Int.sign_zero, if_pos rfl, if_pos h1, df (by omega)]; rfl
theorem ord_neg (a b : Mt) : ordM a b = -ordM b a := by
  rcases ord_cases a b with ⟨h, e⟩ | ⟨h, e⟩ | ⟨h, ⟨h1, e⟩ | ⟨h1, e⟩ | ⟨h1, ⟨h2, e⟩ | ⟨h2, e⟩ | ⟨h2, e⟩⟩⟩ <;> rcases ord_cases b a with ⟨g, f⟩ | ⟨g, f⟩ | ⟨g, ⟨g1, f⟩ | ⟨g1, f⟩ | ⟨g1, ⟨g2, f⟩ | ⟨g2, f⟩ | ⟨g2, f⟩⟩⟩ <;> omega
theorem frac_tr {an ad bn bd cn cd : Int} (h1 : 0 < ad) (h2 : 0 < bd) (h3 : 0 < cd) :
    (an * bd - bn * ad > 0 → bn * cd - cn * bd ≥ 0 → an * cd - cn * ad > 0) ∧ (an * bd - bn * ad ≥ 0 → bn * cd - cn * bd > 0 → an * cd - cn * ad > 0) ∧ (an * bd - bn * ad = 0 → bn * cd - cn * bd = 0 → an * cd - cn * ad = 0) := by
  have key : (an * cd - cn * ad) * bd = (an * bd - bn * ad) * cd + (bn * cd - cn * bd) * ad := by
    rw [Int.sub_mul, Int.sub_mul, Int.sub_mul, Int.mul_right_comm an cd bd, Int.mul_right_comm bn ad cd, Int.mul_right_comm cn ad bd]
    omega
  generalize an * bd - bn * ad = A at *
  generalize bn * cd - cn * bd = B at *
  generalize an * cd - cn * ad = C at *
  have pos : ∀ {x : Int}, 0 < x * bd → 0 < x := fun {x} h => by
    rcases Int.lt_trichotomy x 0 with g | g | g
    · have := Int.mul_neg_of_neg_of_pos g h2; omega
    · rw [g, Int.zero_mul] at h; omega
    · exact g
  refine ⟨fun a b => pos ?_, fun a b => pos ?_, fun a b => ?_⟩
  · have := Int.mul_pos a h3; have := Int.mul_nonneg b (Int.le_of_lt h1); omega
  · have := Int.mul_nonneg a (Int.le_of_lt h3); have := Int.mul_pos b h1; omega
  · rw [a, b, Int.zero_mul, Int.zero_mul, Int.add_zero] at key
    rcases Int.mul_eq_zero.1 key with h | h
    · exact h
    · omega
theorem ord_tr {a b c : Mt} (ha : MtOk a) (hb : MtOk b) (hc : MtOk c) (h1 : 0 ≤ ordM a b) (h2 : 0 ≤ ordM b c) : 0 ≤ ordM a c := by
  obtain ⟨t1, t2, t3⟩ := frac_tr (an := a.n) (bn := b.n) (cn := c.n) (by have := okB_den ha.ok; omega) (by have := okB_den hb.ok; omega) (by have := okB_den hc.ok; omega) (ad := a.d) (bd := b.d) (cd := c.d)
  rcases ord_cases a b with ⟨h, e⟩ | ⟨h, e⟩ | ⟨h, ⟨h3, e⟩ | ⟨h3, e⟩ | ⟨h3, ⟨h4, e⟩ | ⟨h4, e⟩ | ⟨h4, e⟩⟩⟩ <;> rcases ord_cases b c with ⟨g, f⟩ | ⟨g, f⟩ | ⟨g, ⟨g3, f⟩ | ⟨g3, f⟩ | ⟨g3, ⟨g4, f⟩ | ⟨g4, f⟩ | ⟨g4, f⟩⟩⟩ <;>
    first
    | omega
    | (have k := t1 h (by omega); rcases ord_cases a c with ⟨w, z⟩ | ⟨w, z⟩ | ⟨w, _⟩ <;> omega)
    | (have k := t2 (by omega) g; rcases ord_cases a c with ⟨w, z⟩ | ⟨w, z⟩ | ⟨w, _⟩ <;> omega)
    | (have k := t3 h g; rcases ord_cases a c with ⟨w, z⟩ | ⟨w, z⟩ | ⟨w, ⟨w3, z⟩ | ⟨w3, z⟩ | ⟨w3, ⟨w4, z⟩ | ⟨w4, z⟩ | ⟨w4, z⟩⟩⟩ <;> omega)
theorem ord_eq {a b : Mt} (ha : MtOk a) (hb : MtOk b) (h : ordM a b = 0) : a = b := by
  rcases ord_cases a b with ⟨_, e⟩ | ⟨_, e⟩ | ⟨h0, ⟨_, e⟩ | ⟨_, e⟩ | ⟨h1, ⟨_, e⟩ | ⟨_, e⟩ | ⟨h2, e⟩⟩⟩ <;> try omega
  obtain ⟨e1, e2⟩ := okB_one ha.ok hb.ok (by omega)
  cases a; cases b
  simp_all
theorem insD_desc {x : Mt} (hx : MtOk x) : ∀ {R : List Mt}, (∀ a ∈ R, MtOk a) → R.Pairwise (fun a b => 0 ≤ ordM a b) → (insD x R).Pairwise (fun a b => 0 ≤ ordM a b)
  | [], _, _ => by simp [insD]
  | a :: R, hR, hp => by
    have ha := hR a List.mem_cons_self
    obtain ⟨p1, p2⟩ := List.pairwise_cons.1 hp
    unfold insD
    rw [bef_ord]
    by_cases h : ordM x a < 0
    · rw [if_pos (decide_eq_true h)]
      refine List.pairwise_cons.2 ⟨fun y hy => ?_, insD_desc hx (fun b hb => hR b (List.mem_cons_of_mem _ hb)) p2⟩
      rcases insD_mem.1 hy with rfl | hy
      · have := ord_neg a y; omega
      · exact p1 y hy
    · rw [if_neg (by simpa using h)]
      refine List.pairwise_cons.2 ⟨fun y hy => ?_, hp⟩
      rcases List.mem_cons.1 hy with rfl | hy
      · omega
      · exact ord_tr hx ha (hR y (List.mem_cons_of_mem _ hy)) (by omega) (p1 y hy)
theorem sortD_mem {y : Mt} : ∀ {C S : List Mt}, y ∈ sortD S C ↔ y ∈ S ∨ y ∈ C
  | [], S => by simp [sortD]
  | x :: C, S => by
    show y ∈ sortD (insD x S) C ↔ _
    rw [sortD_mem, insD_mem, List.mem_cons]
    exact ⟨fun h => by rcases h with (h | h) | h <;> simp [h], fun h => by rcases h with h | h | h <;> simp [h]⟩
theorem sortD_desc : ∀ {C S : List Mt}, (∀ a ∈ S, MtOk a) → (∀ a ∈ C, MtOk a) → S.Pairwise (fun a b => 0 ≤ ordM a b) → (sortD S C).Pairwise (fun a b => 0 ≤ ordM a b)
  | [], S, _, _, h => h
  | x :: C, S, hS, hC, h => by
    have hx := hC x List.mem_cons_self
    exact sortD_desc (C := C) (S := insD x S) (fun a ha => by
      rcases insD_mem.1 ha with rfl | h
      · exact hx
      · exact hS _ h) (fun a ha => hC a (List.mem_cons_of_mem _ ha)) (insD_desc hx hS h)
theorem srt_mem {l : List Pt} {m : Mt} : m ∈ srt l ↔ m ∈ msOf l := by
  unfold srt
  rw [List.mem_reverse, sortD_mem]; simp
end Go.Proofs.YtpngjeloiifgnaaGreat

namespace Go.Proofs.YtpngjeloiifgnaaGreat
open Go.RowKit
noncomputable def nE (l : List Pt) (fn fd : Int) : Int := if errL l = 0 then (if okB fn fd = true then 0 else 8) else errL l
section
variable {fn fd : Int} (h1 : I64 fn) (h2 : I64 fd) {s : List Mt} {n : Nat} (hn : s.length = n) (hl : n ≤ 100000) (hs : ∀ m ∈ s, MtOk m)
include h1 h2 hn hl hs
end
end Go.Proofs.YtpngjeloiifgnaaGreat

namespace Go.Proofs.YtpngjeloiifgnaaGreat
open Go.RowKit
theorem mE_ok {l : List Pt} {fn fd tn td : Int} (h : mE l fn fd tn td = 0) : Val l ∧ okB fn fd = true ∧ okB tn td = true ∧ ¬ fn * td - tn * fd > 0 := by
  unfold mE at h
  split at h
  · rename_i h0
    split at h
    · rename_i g
      split at h
      · cases h
      · rename_i g3; exact ⟨err_val.1 h0, g.1, g.2, g3⟩
    · cases h
  · rename_i h0; exact (h0 h).elim
/-- Those between two times, pair by pair. -/
noncomputable abbrev btw (l : List Pt) (fn fd tn td : Int) : List Mt := ((msOf l).filter (kpA fn fd)).filter (kpB tn td)
/-- Who of a pair leads at a time. -/
def ldB (n d : Int) (x : Pt × Pt) : Bool := leadsB (x.1.a * d + x.1.b * n) (x.2.a * d + x.2.b * n) x.1.b x.2.b x.1.id x.2.id
/-- **A pair is swapped exactly if it meets after the one time and up to the other.** -/
theorem swap_meets {l : List Pt} (hv : Val l) {fn fd tn td : Int} (g1 : okB fn fd = true) (g2 : okB tn td = true) (hle : ¬ fn * td - tn * fd > 0) {x : Pt × Pt} (hx : x ∈ pairsOf l) :
    (ldB fn fd x != ldB tn td x) = ((fM x).elim false fun m => kpA fn fd m && kpB tn td m) := by
  have d1 := okB_den g1
  have d2 := okB_den g2
  rcases fM_any hv hx with ⟨hb, h⟩ | ⟨hb, m, h, hm⟩
  · rw [h]
    have e1 : ldB fn fd x = leadsB x.1.a x.2.a x.1.b x.1.b x.1.id x.2.id := by unfold ldB; rw [← hb]; exact leads_same (by omega)
    have e2 : ldB tn td x = leadsB x.1.a x.2.a x.1.b x.1.b x.1.id x.2.id := by unfold ldB; rw [← hb]; exact leads_same (by omega)
    rw [e1, e2]; simp
  · rw [h]
    have k0 : 0 < m.d := by have := okB_den hm.ok; omega
    have e1 : ldB fn fd x = (decide (x.1.b > x.2.b) == decide ((fn * m.d - m.n * fd).sign ≥ 0)) := leads_meet k0 hm.eq hb
    have e2 : ldB tn td x = (decide (x.1.b > x.2.b) == decide ((tn * m.d - m.n * td).sign ≥ 0)) := leads_meet k0 hm.eq hb
    show _ = (kpA fn fd m && kpB tn td m)
    rw [e1, e2]
    unfold kpA kpB
    obtain ⟨t1, t2, t3⟩ := frac_tr (an := tn) (bn := fn) (cn := m.n) (ad := td) (bd := fd) (cd := m.d) (by omega) (by omega) k0
    have n1 : m.n * fd - fn * m.d = -(fn * m.d - m.n * fd) := by omega
    have n2 : m.n * td - tn * m.d = -(tn * m.d - m.n * td) := by omega
    rw [n1, n2, Int.sign_neg, Int.sign_neg]
    rcases sg_cases (fn * m.d - m.n * fd) with ⟨w, z⟩ | ⟨w, z⟩ | ⟨w, z⟩ <;> rcases sg_cases (tn * m.d - m.n * td) with ⟨u, v⟩ | ⟨u, v⟩ | ⟨u, v⟩ <;> rw [z, v] <;>
      first
      | (cases decide (x.1.b > x.2.b) <;> rfl)
      | (exfalso; have k := t2 (by omega) w; omega)
      | (exfalso; rcases Int.lt_trichotomy (tn * fd - fn * td) 0 with q | q | q
         · omega
         · have k := t3 q w; omega
         · have k := t1 q (by omega); omega)
theorem swaps_len {l : List Pt} (hv : Val l) {fn fd tn td : Int} (g1 : okB fn fd = true) (g2 : okB tn td = true) (hle : ¬ fn * td - tn * fd > 0) :
    ((pairsOf l).filter fun x => ldB fn fd x != ldB tn td x).length = (btw l fn fd tn td).length := by
  have key : ∀ (X : List (Pt × Pt)), (∀ x ∈ X, x ∈ pairsOf l) → (X.filter fun x => ldB fn fd x != ldB tn td x).length = (((X.filterMap fM).filter (kpA fn fd)).filter (kpB tn td)).length := by
    intro X
    induction X with
    | nil => intro _; rfl
    | cons x r ih =>
      intro h
      have e := swap_meets hv g1 g2 hle (h x List.mem_cons_self)
      have i := ih fun y hy => h y (List.mem_cons_of_mem _ hy)
      cases hf : fM x with
      | none =>
        rw [hf] at e
        rw [List.filterMap_cons_none hf, List.filter_cons_of_neg (by rw [e]; exact Bool.false_ne_true)]
        exact i
      | some m =>
        rw [hf] at e
        rw [List.filterMap_cons_some hf]
        have e' : (ldB fn fd x != ldB tn td x) = (kpA fn fd m && kpB tn td m) := e
        cases ha : kpA fn fd m with
        | false =>
          rw [ha, Bool.false_and] at e'
          rw [List.filter_cons_of_neg (by rw [e']; decide), List.filter_cons_of_neg (p := kpA fn fd) (by rw [ha]; decide)]
          exact i
        | true =>
          rw [ha, Bool.true_and] at e'
          rw [List.filter_cons_of_pos (p := kpA fn fd) ha]
          cases hb : kpB tn td m with
          | false =>
            rw [hb] at e'
            rw [List.filter_cons_of_neg (by rw [e']; decide), List.filter_cons_of_neg (p := kpB tn td) (by rw [hb]; decide)]
            exact i
          | true =>
            rw [hb] at e'
            rw [List.filter_cons_of_pos (p := fun x => ldB fn fd x != ldB tn td x) e', List.filter_cons_of_pos (p := kpB tn td) hb, List.length_cons, List.length_cons, i]
  exact key _ fun x hx => hx
end Go.Proofs.YtpngjeloiifgnaaGreat

namespace Go.Proofs.YtpngjeloiifgnaaGreat
open Go.RowKit
theorem RTimes_any {fn fd tn td : Int} (h1 : I64 fn) (h2 : I64 fd) (h3 : I64 tn) (h4 : I64 td) (l : List Pt) : FnL Tryz.prog 10 1 [fldS 0 l, .pv (ratioV fn fd), .pv (ratioV tn td)] [(0, 0, rowP l)] (.pv (.int .i64 (mE l fn fd tn td))) 0 [] := by
  unfold mE
  have c := RCheck_any l
  by_cases h0 : errL l = 0
  · rw [if_pos h0]
    rw [h0] at c
    by_cases g : okB fn fd = true ∧ okB tn td = true
    · rw [if_pos g]
      have k := RCompare_any h1 h2 h3 h4
      have b := RBoth_ok h1 h2 h3 h4 g.1 g.2
      by_cases g3 : fn * td - tn * fd > 0
      · rw [if_pos g3]; exact ti_arg c b k (dt (by rw [Int.sign_eq_one_of_pos g3]; decide))
      · rw [if_neg g3]
        refine ti_ok c b k (df ?_)
        rcases sg_cases (fn * td - tn * fd) with ⟨w, z⟩ | ⟨w, z⟩ | ⟨w, z⟩ <;> omega
    · rw [if_neg g]; exact ti_bad c (RBoth_bad h1 h2 h3 h4 g)
  · rw [if_neg h0]; exact ti_field c (by simpa using h0)
end Go.Proofs.YtpngjeloiifgnaaGreat

namespace Go.Proofs.YtpngjeloiifgnaaGreat
open Go.RowKit
theorem frac_ge {an ad bn bd cn cd : Int} (h1 : 0 < ad) (h2 : 0 < bd) (h3 : 0 < cd) (a : an * bd - bn * ad ≥ 0) (b : bn * cd - cn * bd ≥ 0) : an * cd - cn * ad ≥ 0 := by
  obtain ⟨t1, t2, t3⟩ := frac_tr (an := an) (bn := bn) (cn := cn) h1 h2 h3
  by_cases a0 : an * bd - bn * ad = 0
  · by_cases b0 : bn * cd - cn * bd = 0
    · have := t3 a0 b0; omega
    · have := t2 a (by omega); omega
  · have := t1 (by omega) b; omega
noncomputable def btwS (l : List Pt) (fn fd tn td : Int) : List Mt := ((srt l).filter (kpA fn fd)).filter (kpB tn td)
theorem btwS_mem {l : List Pt} {fn fd tn td : Int} {m : Mt} : m ∈ btwS l fn fd tn td ↔ m ∈ msOf l ∧ kpA fn fd m = true ∧ kpB tn td m = true := by
  unfold btwS
  rw [List.mem_filter, List.mem_filter, srt_mem, and_assoc]
theorem btwS_len {l : List Pt} (hv : Val l) (fn fd tn td : Int) : (btwS l fn fd tn td).length ≤ 4096 :=
  Nat.le_trans (List.length_filter_le _ _) (Nat.le_trans (List.length_filter_le _ _) (by rw [srt_len]; exact ms_len hv))
theorem srt_pw {l : List Pt} (hv : Val l) : (srt l).Pairwise (fun a b => 0 ≤ ordM b a) := List.pairwise_reverse.2 (sortD_desc (by simp) (ms_ok hv) (by simp))
theorem srt_time {l : List Pt} (hv : Val l) : (srt l).Pairwise (fun a b => 0 ≤ b.n * a.d - a.n * b.d) := (srt_pw hv).imp fun {a b} h => by
  rcases ord_cases b a with ⟨w, z⟩ | ⟨w, z⟩ | ⟨w, _⟩ <;> omega
end Go.Proofs.YtpngjeloiifgnaaGreat

namespace Go.Proofs.YtpngjeloiifgnaaGreat
open Go.RowKit
def ld (tn td : Int) (p q : Pt) : Bool := leadsB (p.a * td + p.b * tn) (q.a * td + q.b * tn) p.b q.b p.id q.id
theorem leadsB_iff {P Q pb qb pi qi : Int} : leadsB P Q pb qb pi qi = true ↔ (P > Q ∨ P = Q ∧ (pb > qb ∨ pb = qb ∧ pi < qi)) := by unfold leadsB; exact decide_eq_true_iff
theorem leadsB_niff {P Q pb qb pi qi : Int} : leadsB P Q pb qb pi qi = false ↔ ¬ (P > Q ∨ P = Q ∧ (pb > qb ∨ pb = qb ∧ pi < qi)) := by unfold leadsB; exact decide_eq_false_iff_not
section
variable {tn td : Int} {p q r : Pt}
theorem ld_irr (p : Pt) : ld tn td p p = false := leadsB_niff.2 (by omega)
theorem ld_trans (h : ld tn td p q = true) (k : ld tn td q r = true) : ld tn td p r = true := by
  unfold ld at *
  generalize p.a * td + p.b * tn = P at *
  generalize q.a * td + q.b * tn = Q at *
  generalize r.a * td + r.b * tn = R at *
  rw [leadsB_iff] at *
  omega
theorem ld_ntrans (h : ld tn td p q = false) (k : ld tn td q r = false) : ld tn td p r = false := by
  unfold ld at *
  generalize p.a * td + p.b * tn = P at *
  generalize q.a * td + q.b * tn = Q at *
  generalize r.a * td + r.b * tn = R at *
  rw [leadsB_niff] at *
  omega
theorem ld_asym (h : ld tn td p q = true) : ld tn td q p = false := by
  cases hh : ld tn td q p
  · rfl
  · have := ld_trans h hh; rw [ld_irr] at this; cases this
theorem ld_tot (hi : p.id ≠ q.id) (h : ld tn td p q = false) : ld tn td q p = true := by
  unfold ld at *
  generalize p.a * td + p.b * tn = P at *
  generalize q.a * td + q.b * tn = Q at *
  rw [leadsB_niff] at h
  rw [leadsB_iff]
  omega
end
/-- How many lead. -/
def rk (tn td : Int) (l : List Pt) (p : Pt) : Nat := l.countP fun q => ld tn td q p
theorem rk_aux {tn td : Int} : ∀ (s : List Pt) (k : Nat) (p : Pt), s.Pairwise (fun p q => ld tn td p q = true) → s[k]? = some p → rk tn td s p = k
  | [], _, _, _, h => by simp at h
  | a :: r, 0, p, hp, h => by
    simp only [List.getElem?_cons_zero, Option.some.injEq] at h
    subst h
    rw [List.pairwise_cons] at hp
    unfold rk
    rw [List.countP_eq_zero]
    intro q hq
    rcases List.mem_cons.1 hq with rfl | hq
    · rw [ld_irr]; decide
    · rw [ld_asym (hp.1 q hq)]; decide
  | a :: r, k + 1, p, hp, h => by
    rw [List.getElem?_cons_succ] at h
    rw [List.pairwise_cons] at hp
    have := rk_aux r k p hp.2 h
    unfold rk at this ⊢
    rw [List.countP_cons, this, if_pos (hp.1 p (List.mem_of_getElem? h))]
structure Srt (l : List Pt) (tn td : Int) (s : List Pt) : Prop where
  perm : s.Perm l
  pw : s.Pairwise (fun p q => ld tn td p q = true)
theorem Srt.len {l s : List Pt} {tn td : Int} (h : Srt l tn td s) : s.length = l.length := h.perm.length_eq
theorem Srt.rank {l s : List Pt} {tn td : Int} (h : Srt l tn td s) {k : Nat} {p : Pt} (hk : s[k]? = some p) : rk tn td l p = k := by
  have := rk_aux s k p h.pw hk
  unfold rk at this ⊢
  rw [← h.perm.countP_eq]; exact this
theorem Srt.at {l s : List Pt} {tn td : Int} (h : Srt l tn td s) {p : Pt} (hp : p ∈ l) : s[rk tn td l p]? = some p := by
  obtain ⟨k, hk, e⟩ := List.getElem_of_mem (h.perm.mem_iff.2 hp)
  have hk' : s[k]? = some p := by rw [List.getElem?_eq_getElem hk, e]
  rw [h.rank hk']; exact hk'
theorem Srt.lt {l s : List Pt} {tn td : Int} (h : Srt l tn td s) {p : Pt} (hp : p ∈ l) : rk tn td l p < l.length := by rw [← h.len]; exact get_lt (h.at hp)
theorem Srt.uniq {l s t : List Pt} {tn td : Int} (h : Srt l tn td s) (k : Srt l tn td t) : s = t := by
  apply List.ext_getElem?
  intro i
  by_cases hi : i < t.length
  · obtain ⟨p, hp⟩ := get_some hi
    rw [hp]
    have := h.at (k.perm.mem_iff.1 (List.mem_of_getElem? hp))
    rw [k.rank hp] at this
    exact this
  · have e1 : t[i]? = none := List.getElem?_eq_none (by omega)
    have e2 : s[i]? = none := List.getElem?_eq_none (by have := h.len; have := k.len; omega)
    rw [e1, e2]
/-- A list in order from one that is in no wrong order. -/
theorem Srt.mk_of {l s : List Pt} {tn td : Int} (hv : Val l) (hp : s.Perm l) (h : s.Pairwise (fun p q => ld tn td q p = false)) : Srt l tn td s := by
  have hne : l.Pairwise (fun p q => p.id ≠ q.id) := by
    rw [List.pairwise_iff_getElem]
    intro i j hi hj hij
    have := hv.up.mono hij (List.getElem?_eq_getElem hi) (List.getElem?_eq_getElem hj)
    omega
  have hns : s.Pairwise (fun p q => p.id ≠ q.id) := (hp.pairwise_iff (fun h e => h e.symm)).2 hne
  exact ⟨hp, (h.and hns).imp fun ⟨a, b⟩ => ld_tot (fun e => b e.symm) a⟩
theorem Srt_pure {l : List Pt} {tn td : Int} (hv : Val l) : ∃ s, Srt l tn td s := by
  refine ⟨l.mergeSort (fun p q => !ld tn td q p), Srt.mk_of hv (List.mergeSort_perm _ _) ?_⟩
  have h := List.pairwise_mergeSort (le := fun p q : Pt => !ld tn td q p) (fun a b c h1 h2 => ?_) (fun a b => ?_) l
  · exact h.imp fun {a b} h => by simpa using h
  · have h1' : ld tn td b a = false := by simpa using h1
    have h2' : ld tn td c b = false := by simpa using h2
    simp [ld_ntrans h2' h1']
  · cases h : ld tn td b a
    · simp
    · simp [ld_asym h]
theorem Srt_ex {l : List Pt} {tn td : Int} {X : Prop} (hv : Val l) (_ : X) : ∃ s, Srt l tn td s := Srt_pure hv
theorem val_id {l : List Pt} (hv : Val l) {p q : Pt} (hp : p ∈ l) (hq : q ∈ l) (e : p.id = q.id) : p = q := by
  obtain ⟨i, hi, rfl⟩ := List.getElem_of_mem hp
  obtain ⟨j, hj, rfl⟩ := List.getElem_of_mem hq
  rcases Nat.lt_trichotomy i j with h | h | h
  · have := hv.up.mono h (List.getElem?_eq_getElem hi) (List.getElem?_eq_getElem hj); omega
  · subst h; rfl
  · have := hv.up.mono h (List.getElem?_eq_getElem hj) (List.getElem?_eq_getElem hi); omega
/-- What the program's comparison returns. -/
def cfL (tn td : Int) (p q : Pt) : Int := if p.id = q.id then 0 else if ld tn td p q = true then -1 else 1
theorem cfL_neg {tn td : Int} {p q : Pt} (h : p.id = q.id → p = q) : decide (cfL tn td p q < 0) = ld tn td p q := by
  unfold cfL
  by_cases e : p.id = q.id
  · rw [if_pos e, h e, ld_irr]; rfl
  · rw [if_neg e]
    cases ld tn td p q <;> rfl
end Go.Proofs.YtpngjeloiifgnaaGreat

namespace Go.Proofs.YtpngjeloiifgnaaGreat
open Go.RowKit
/-- A valid time. -/
structure Tm (tn td : Int) : Prop where
  hn : I64 tn
  hd : I64 td
  ok : okB tn td = true
noncomputable def tE (l : List Pt) (tn td : Int) : Int := if errL l = 0 then (if okB tn td = true then 0 else 8) else errL l
theorem CWT_any {tn td : Int} (hn : I64 tn) (hd : I64 td) (l : List Pt) : FnL Tryz.prog 38 1 [fldS 0 l, .pv (ratioV tn td)] [(0, 0, rowP l)] (.pv (.int .i64 (tE l tn td))) 0 [] := by
  unfold tE
  by_cases h0 : errL l = 0
  · have c1 := PCheck_any l
    rw [h0] at c1
    rw [if_pos h0]
    by_cases hp : okB tn td = true
    · rw [if_pos hp]; exact cwt_ok c1 (Check_ok hn hd hp)
    · rw [if_neg hp]; exact cwt_ok c1 (Check_bad hn hd hp)
  · rw [if_neg h0]
    exact cwt_err (PCheck_any l) (by simp [h0])
theorem tE_ok {l : List Pt} {tn td : Int} (hv : Val l) (ht : okB tn td = true) : tE l tn td = 0 := by unfold tE; rw [if_pos (err_val.2 hv), if_pos ht]
section
variable {l : List Pt} {tn td : Int}
theorem lf_any (ht : Tm tn td) {p q : Pt} (hp : okPt p = true) (hq : okPt q = true) :
    FnL Tryz.prog 89 1 [.pv (ptV p), .pv (ptV q), .pp 0 0] [(0, 0, .pv (.int .i64 tn)), (0, 1, .pv (.int .i64 td))] (.pv (.int .i64 (cfL tn td p q))) 0 [] := by
  unfold cfL
  by_cases e : p.id = q.id
  · rw [if_pos e]; exact lf_eq (by simp [e])
  · rw [if_neg e]
    have a := Ahead_ok ht.hn ht.hd hp hq ht.ok e
    have hl : leadsB (p.a * td + p.b * tn) (q.a * td + q.b * tn) p.b q.b p.id q.id = ld tn td p q := rfl
    rw [hl] at a
    cases hc : ld tn td p q <;> rw [hc] at a
    · rw [if_neg (by decide)]; exact lf_gt (by simp [e]) a
    · rw [if_pos rfl]; exact lf_lt (by simp [e]) a

theorem Min_loop (hv : Val l) (ht : Tm tn td) {s : List Pt} (hs : Srt l tn td s) {m : Pt} (hm : s[0]? = some m) : ∀ (d k : Nat) (c : Pt), k + d = l.length → c ∈ l → (∀ (j : Nat) (q : Pt), j < k → l[j]? = some q → ld tn td q c = false) →
    RunsL Tryz.prog 2 2 (loopOf Tryz.prog 101 0) 33 4 ([(0, .ls 0 l.length), (1, .pc 89 [.pp 1 0]), (4, .pp 2 0), (5, .pp 3 0), (6, .pv (.int .i64 (k : Int)))]) ([(0, 0, rowP l), (1, 0, .pv (.int .i64 tn)), (1, 1, .pv (.int .i64 td)), (3, 0, .pv (.int .i64 (c).id)), (3, 1, .pv (.int .i64 (c).a)), (3, 2, .pv (.int .i64 (c).b)), (2, 0, .pv (.int .i64 0)), (2, 1, .pv (.int .i64 0)), (2, 2, .pv (.int .i64 0))]) (.exit 0) ([(4, .pp 2 0), (5, .pp 3 0)]) ([(0, 0, rowP l), (1, 0, .pv (.int .i64 tn)), (1, 1, .pv (.int .i64 td)), (3, 0, .pv (.int .i64 (m).id)), (3, 1, .pv (.int .i64 (m).a)), (3, 2, .pv (.int .i64 (m).b)), (2, 0, .pv (.int .i64 0)), (2, 1, .pv (.int .i64 0)), (2, 2, .pv (.int .i64 0))])
  | 0, k, c, hd, hc, hf => by
    have h0 : rk tn td l c = 0 := by
      unfold rk
      rw [List.countP_eq_zero]
      intro q hq
      obtain ⟨j, hj, rfl⟩ := List.getElem_of_mem hq
      rw [hf j _ (by omega) (List.getElem?_eq_getElem hj)]; decide
    have := hs.at hc
    rw [h0, hm] at this
    cases this
    exact mf_end (df (by omega))
  | d + 1, k, c, hd, hc, hf => by
    obtain ⟨p, hp⟩ := get_some (l := l) (k := k) (by omega)
    have hpm := List.mem_of_getElem? hp
    have hcf := cfL_neg (tn := tn) (td := td) (p := p) (q := c) (fun e => val_id hv hpm hc e)
    have hl := lf_any ht (hv.ok p hpm) (hv.ok c hc)
    cases hx : ld tn td p c <;> rw [hx] at hcf
    · exact mf_no hp (in_of (get_lt hp)) (dt (by omega)) hl hcf (i64s (get_lt hp) hv.len) (Min_loop hv ht hs hm d (k + 1) c (by omega) hc fun j q hj hq => by
        by_cases e : j = k
        · subst e; rw [hp] at hq; cases hq; exact hx
        · exact hf j q (by omega) hq)
    · exact mf_up hp (in_of (get_lt hp)) (dt (by omega)) hl hcf (i64s (get_lt hp) hv.len) (Min_loop hv ht hs hm d (k + 1) p (by omega) hpm fun j q hj hq => by
        by_cases e : j = k
        · subst e; rw [hp] at hq; cases hq; exact ld_irr _
        · cases hh : ld tn td q p
          · rfl
          · have h1 := ld_trans hh hx
            have h2 := hf j q (by omega) hq
            rw [h1] at h2; cases h2)
theorem Min_any (hv : Val l) (ht : Tm tn td) {s : List Pt} (hs : Srt l tn td s) {m : Pt} (hm : s[0]? = some m) :
    FnL Tryz.prog 101 2 [.ls 0 l.length, .pc 89 [.pp 1 0]] [(0, 0, rowP l), (1, 0, .pv (.int .i64 tn)), (1, 1, .pv (.int .i64 td))] (.pv (ptV m)) 0 [] := by
  have hl : 0 < l.length := by have := get_lt hm; rw [hs.len] at this; exact this
  obtain ⟨p, hp⟩ := get_some hl
  exact mf_path hp (in_of (k := 0) hl) (df (by omega)) (Min_loop hv ht hs hm (l.length - 1) (0 + 1) p (by omega) (List.mem_of_getElem? hp) fun j q hj hq => by
    have : j = 0 := by omega
    subst this
    rw [hp] at hq; cases hq; exact ld_irr _)

theorem ord_step (s : List Pt) (n k : Nat) (p : Pt) (hk : s[k]? = some p) (hn : s.length = n) : ((s.take k).map Pt.id ++ List.replicate (n - k) 0).set k p.id = (s.take (k + 1)).map Pt.id ++ List.replicate (n - (k + 1)) 0 := by
  have hl := get_lt hk
  have e : ((s.take k).map Pt.id).length = k := by rw [List.length_map, List.length_take]; omega
  rw [List.set_append_right _ _ (by omega), e, Nat.sub_self, show n - k = (n - (k + 1)) + 1 by omega, List.replicate_succ, List.set_cons_zero, take_succ hk, List.map_append, List.append_assoc]
  rfl
theorem POrder_loop {s : List Pt} (hl : s.length = l.length) (hn : l.length ≤ 64) : RunsL Tryz.prog 1 1 (loopOf Tryz.prog 13 0) 41 6 ([(8, .ls 5 l.length), (27, .ls 3 l.length), (28, .pv (.int .i64 (l.length : Int))), (29, .pv (.int .i64 ((0 : Nat) : Int)))]) ([(3, 0, .row 68 3 l.length (ptsV s)), (5, 0, .row 3 1 l.length (idsV (List.replicate l.length (0 : Int))))]) (.exit 0) ([(8, .ls 5 l.length)]) ([(3, 0, .row 68 3 l.length (ptsV s)), (5, 0, .row 3 1 l.length (idsV (s.map Pt.id)))]) := by
  have h0 : List.replicate l.length (0 : Int) = (s.take 0).map Pt.id ++ List.replicate (l.length - 0) 0 := rfl
  rw [h0]
  refine RunsL.rounds (fun k => [(8, .ls 5 l.length), (27, .ls 3 l.length), (28, .pv (.int .i64 (l.length : Int))), (29, .pv (.int .i64 (k : Int)))])
    (fun k => [(3, 0, .row 68 3 l.length (ptsV s)), (5, 0, .row 3 1 l.length (idsV ((s.take k).map Pt.id ++ List.replicate (l.length - k) 0)))]) l.length 0 (Nat.zero_add _) (fun k _ hk r => ?_) ?_
  · obtain ⟨p, hp⟩ := get_some (l := s) (k := k) (by omega)
    rw [← ord_step s l.length k p hp hl] at r
    exact ord_next hp (in_of hk) (by simp; omega) (dt (by omega)) (i64s hk hn) r
  · have e1 : s.take l.length = s := List.take_of_length_le (by omega)
    simp only [e1, Nat.sub_self, List.replicate_zero, List.append_nil]
    exact ord_end (df (by omega))
end
end Go.Proofs.YtpngjeloiifgnaaGreat
