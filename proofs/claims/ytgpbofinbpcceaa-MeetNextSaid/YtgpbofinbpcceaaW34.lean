/-
  Joined: Fn, Me, Mf, Mg, Mh, Fr, Mi. Conditions: none.
-/
import Derived.Test.YtgpbofinbpcceaaFm
import Derived.Test.YtgpbofinbpcceaaW28
import Derived.Test.YtgpbofinbpcceaaMc
import Derived.Test.YtgpbofinbpcceaaMd
import Derived.Test.YtgpbofinbpcceaaSxU
namespace Go.Proofs.Ytgpbofinbpcceaa
open Go.RowKit
theorem Great_any (l : List Pt) : (¬ (l.length ≤ 16 ∨ 64 ≤ l.length ∧ l.length ≤ 70) ∧ FnL Try.prog 52 1 [fldS 0 l] [(0, 0, rowP l)] (.pv (.bool true)) 0 []) ∨
    ((l.length ≤ 16 ∨ 64 ≤ l.length ∧ l.length ≤ 70) ∧ FnL Try.prog 52 1 [fldS 0 l] [(0, 0, rowP l)] (.pv (.bool false)) 0 []) := by
  by_cases h1 : l.length > 16
  · by_cases h2 : l.length < 64
    · exact Or.inl ⟨by omega, great_t (dt (by omega)) (dt (by omega))⟩
    · by_cases h3 : l.length > 70
      · exact Or.inl ⟨by omega, great_t2 (dt (by omega)) (df (by omega)) (dt (by omega))⟩
      · exact Or.inr ⟨by omega, great_f2 (dt (by omega)) (df (by omega)) (df (by omega))⟩
  · exact Or.inr ⟨by omega, great_f (df (by omega)) (df (by omega))⟩
end Go.Proofs.Ytgpbofinbpcceaa

namespace Go.Proofs.Ytgpbofinbpcceaa
open Go.RowKit
set_option maxRecDepth 100000 in
theorem cmpT_path {an ad bn bd k e : Int} (h : Pure Try.prog 110 #[ratioV an ad, ratioV bn bd] (.tuple #[.int .i64 k, .int .i64 e])) : Pure Try.prog 85 #[ratioV an ad, ratioV bn bd] (.int .i64 k) :=
  pure_run (args := [ratioV an ad, ratioV bn bd]) 200 [.r (.tuple #[.int .i64 k, .int .i64 e])] (And.intro rfl (And.intro h True.intro)) (by kernel_rfl)

set_option maxRecDepth 100000 in
theorem after_path {m : Mt} {tn td k : Int} {b : Bool} (h : Pure Try.prog 85 #[ratioV m.n m.d, ratioV tn td] (.int .i64 (k))) (hk : decide (k > 0) = b) :
    FnL Try.prog 92 1 [.pv (meetV m), .pp 0 0] [(0, 0, .pv (.int .i64 tn)), (0, 1, .pv (.int .i64 td))] (.pv (.bool b)) 0 [] :=
  fnl_run 300 [] [.r (.int .i64 (k)), .t b]
     True.intro (And.intro h (And.intro hk True.intro)) (by kernel_rfl)

theorem CmpT_ok {an ad bn bd : Int} (ha : I64 an) (hb : I64 ad) (hc : I64 bn) (hd : I64 bd) (h1 : okB an ad = true) (h2 : okB bn bd = true) : Pure Try.prog 85 #[ratioV an ad, ratioV bn bd] (.int .i64 (an * bd - bn * ad).sign) := cmpT_path (Cmp_ok ha hb hc hd h1 h2)
end Go.Proofs.Ytgpbofinbpcceaa

namespace Go.Proofs.Ytgpbofinbpcceaa
open Go.RowKit
abbrev ptr (r : Nat) : Value := .pointer (some ⟨r, 0, none⟩)
def kpA (fn fd : Int) (m : Mt) : Bool := decide ((m.n * fd - fn * m.d).sign > 0)
/-- A meeting at a valid time. -/
structure MtOk (m : Mt) : Prop where
  n : I64 m.n
  d : I64 m.d
  ok : okB m.n m.d = true
structure TmOk (tn td : Int) : Prop where
  n : I64 tn
  d : I64 td
  ok : okB tn td = true
theorem keep_after {W0 : World} {rf : Nat} {fn fd : Int} {X : List Mt} {B : Nat → Prop} (c0 : Cel W0 rf 0 (.int .i64 fn)) (c1 : Cel W0 rf 1 (.int .i64 fd)) (hB : B rf) (hX : ∀ m ∈ X, MtOk m) (ht : TmOk fn fd) : KeepC Try.prog 92 #[ptr rf] (kpA fn fd) X B W0 := by
  intro m hm W hK
  have k0 := c0.keep hK hB
  have k1 := c1.keep hK hB
  have H := boxes_rel (rs := [rf]) (hp := [(0, 0, .pv (.int .i64 fn)), (0, 1, .pv (.int .i64 fd))]) (by simp) (by simpa using k0.lt) ⟨⟨rf, _, rfl, rfl, k0, rfl⟩, ⟨rf, _, rfl, rfl, k1, rfl⟩, trivial⟩
  have ok := hX m hm
  have h := after_path (b := kpA fn fd m) (CmpT_ok ok.n ok.d ht.n ht.d ok.ok ht.ok) rfl
  exact (h W (boxesL [rf]) [meetV m, ptr rf] H (boxesL_dom [rf]) ⟨rfl, ⟨rf, rfl, rfl⟩, trivial⟩).mono fun e w' ⟨v, β', he, _, hx, hh, _⟩ => ⟨by rw [he, show v = _ from hx], hh.gr⟩
/-- What is known of the pairs of a list: which meet, and when. -/
structure Meets (l : List Pt) (f : Pt × Pt → Option Mt) : Prop where
  len : l.length ≤ 1000000
  run : ∀ x ∈ pairsOf l, (f x = none ∧ Pure Try.prog 94 #[ptV x.1, ptV x.2] (.tuple #[ratioV 0 0, .int .i64 6])) ∨ ∃ n d, f x = some ⟨n, d, x.1.id, x.2.id⟩ ∧ Pure Try.prog 94 #[ptV x.1, ptV x.2] (.tuple #[ratioV n d, .int .i64 0])
  ok : ∀ m ∈ (pairsOf l).filterMap f, MtOk m
def bkF (l : List Pt) (u : Value) (rb : Nat) : Nat → Prop := fun b => b = rb ∨ (ptsV l ≠ [] ∧ u.ownBlock = some b)
theorem meets_at {w : World} {rb : Nat} {u : Value} {l : List Pt} {f : Pt × Pt → Option Mt} (hM : Meets l f) (cb : Cel w rb 0 u) (hr : Rd w 3 u l.length (ptsV l)) {B : Nat → Prop} (h1 : B rb) (h2 : ptsV l ≠ [] → ∀ k, u.ownBlock = some k → B k) (hB : ∀ b, B b → b < w.heap.size) :
    SeqC Try.prog 93 #[ptr rb] (((pairsOf l).filterMap f).map mA) B w := meets_seq cb.1 cb.2 hr h1 h2 hB hM.len hM.run
def bkA (l : List Pt) (u : Value) (rb rf ra rk : Nat) : Nat → Prop := fun b => (bkF l u rb b ∨ b = rf) ∨ b = ra ∨ b = rk
theorem bkF_lt {w : World} {rb : Nat} {u : Value} {l : List Pt} (cb : Cel w rb 0 u) (hr : Rd w 3 u l.length (ptsV l)) : ∀ b, bkF l u rb b → b < w.heap.size := fun b h => by
  rcases h with rfl | ⟨hx, h⟩
  · exact cb.lt
  · exact hr.lt hx b h
theorem after_at {w : World} {rb rf ra rk : Nat} {u : Value} {l : List Pt} {f : Pt × Pt → Option Mt} {fn fd : Int} (hM : Meets l f) (ht : TmOk fn fd) (cb : Cel w rb 0 u) (hr : Rd w 3 u l.length (ptsV l)) (c0 : Cel w rf 0 (.int .i64 fn)) (c1 : Cel w rf 1 (.int .i64 fd))
    (ca : Cel w ra 0 (fv 93 #[ptr rb])) (ck : Cel w rk 0 (fv 92 #[ptr rf])) (hne : ra ≠ rk) :
    SeqC Try.prog 125 #[ptr ra, ptr rk] ((((pairsOf l).filterMap f).filter (kpA fn fd)).map mA) (bkA l u rb rf ra rk) w := by
  have hB : ∀ b, (bkF l u rb b ∨ b = rf) → b < w.heap.size := fun b h => by
    rcases h with h | rfl
    · exact bkF_lt cb hr b h
    · exact c0.lt
  exact only_seq ca.1 ca.2 ck.1 ck.2 hne (by kernel_rfl) (by kernel_rfl) (meets_at hM cb hr (B := fun b => bkF l u rb b ∨ b = rf) (Or.inl (Or.inl rfl)) (fun hx k hk => Or.inl (Or.inr ⟨hx, hk⟩)) hB) (keep_after c0 c1 (Or.inr rfl) hM.ok ht) hB
end Go.Proofs.Ytgpbofinbpcceaa

namespace Go.Proofs.Ytgpbofinbpcceaa
open Go.RowKit
noncomputable abbrev nc (p : List Nat) : Code := codeOf Try.prog 26 p
noncomputable abbrev no : Array Oper := opsOf (nc [1, 1, 1, 0, 1, 0, 1, 0])
section
variable (l : List Pt) (fn fd tn td : Int)
end
theorem info_of {t : TypeId} {n : Nat} (h : (Try.prog.info? t).map (fun i => i.size) = some n) : ∃ i, Try.prog.info? t = some i ∧ i.size = n := by
  cases hi : Try.prog.info? t with
  | none => rw [hi] at h; cases h
  | some i => rw [hi] at h; exact ⟨i, rfl, by simpa using h⟩
theorem lt_of_lookup {W0 : World} {lo : Nat} {β : Bl} {hp : List (Nat × Nat × SV)} {w : World} (H : HRel W0 lo β hp w) {b o : Nat} {s : SV} (h : lookH hp b o = some s) (hs : s.isRow = false) : ∃ r, β b = some r := by
  obtain ⟨r, u, h1, _⟩ := H.cells b o s h hs
  exact ⟨r, h1⟩
end Go.Proofs.Ytgpbofinbpcceaa

namespace Go.Proofs.Ytgpbofinbpcceaa
open Go.RowKit
noncomputable abbrev sc (p : List Nat) : Code := codeOf Try.prog 28 p
noncomputable abbrev sv (p : List Nat) : Code := sc ([1, 1, 1, 0, 1, 0, 1, 0] ++ p)
section
variable (l : List Pt) (fn fd tn td : Int) (p q : Pt) (v : Value)
end
end Go.Proofs.Ytgpbofinbpcceaa

namespace Go.Proofs.Ytgpbofinbpcceaa
open Go.RowKit
def ld (tn td : Int) (p q : Pt) : Bool := leadsB (p.a * td + p.b * tn) (q.a * td + q.b * tn) p.b q.b p.id q.id
theorem leadsB_iff {P Q pb qb pi qi : Int} : leadsB P Q pb qb pi qi = true ↔ (P > Q ∨ P = Q ∧ (pb > qb ∨ pb = qb ∧ pi < qi)) := by unfold leadsB; exact decide_eq_true_iff
theorem leadsB_niff {P Q pb qb pi qi : Int} : leadsB P Q pb qb pi qi = false ↔ ¬ (P > Q ∨ P = Q ∧ (pb > qb ∨ pb = qb ∧ pi < qi)) := by unfold leadsB; exact decide_eq_false_iff_not
section
variable {tn td : Int} {p q r : Pt}
theorem ld_irr (p : Pt) : ld tn td p p = false := leadsB_niff.2 (by omega)
theorem ld_trans (h : ld tn td p q = true) (k : ld tn td q r = true) : ld tn td p r = true := by
  unfold ld at *
  generalize p.a * td + p.b * tn = P at *
  generalize q.a * td + q.b * tn = Q at *
  generalize r.a * td + r.b * tn = R at *
  rw [leadsB_iff] at *
  omega
theorem ld_asym (h : ld tn td p q = true) : ld tn td q p = false := by
  cases hh : ld tn td q p
  · rfl
  · have := ld_trans h hh; rw [ld_irr] at this; cases this
end
/-- How many lead. -/
def rk (tn td : Int) (l : List Pt) (p : Pt) : Nat := l.countP fun q => ld tn td q p
theorem rk_aux {tn td : Int} : ∀ (s : List Pt) (k : Nat) (p : Pt), s.Pairwise (fun p q => ld tn td p q = true) → s[k]? = some p → rk tn td s p = k
  | [], _, _, _, h => by simp at h
  | a :: r, 0, p, hp, h => by
    simp only [List.getElem?_cons_zero, Option.some.injEq] at h
    subst h
    rw [List.pairwise_cons] at hp
    unfold rk
    rw [List.countP_eq_zero]
    intro q hq
    rcases List.mem_cons.1 hq with rfl | hq
    · rw [ld_irr]; decide
    · rw [ld_asym (hp.1 q hq)]; decide
  | a :: r, k + 1, p, hp, h => by
    rw [List.getElem?_cons_succ] at h
    rw [List.pairwise_cons] at hp
    have := rk_aux r k p hp.2 h
    unfold rk at this ⊢
    rw [List.countP_cons, this, if_pos (hp.1 p (List.mem_of_getElem? h))]
structure Srt (l : List Pt) (tn td : Int) (s : List Pt) : Prop where
  perm : s.Perm l
  pw : s.Pairwise (fun p q => ld tn td p q = true)
theorem Srt.len {l s : List Pt} {tn td : Int} (h : Srt l tn td s) : s.length = l.length := h.perm.length_eq
theorem Srt.rank {l s : List Pt} {tn td : Int} (h : Srt l tn td s) {k : Nat} {p : Pt} (hk : s[k]? = some p) : rk tn td l p = k := by
  have := rk_aux s k p h.pw hk
  unfold rk at this ⊢
  rw [← h.perm.countP_eq]; exact this
theorem Srt.at {l s : List Pt} {tn td : Int} (h : Srt l tn td s) {p : Pt} (hp : p ∈ l) : s[rk tn td l p]? = some p := by
  obtain ⟨k, hk, e⟩ := List.getElem_of_mem (h.perm.mem_iff.2 hp)
  have hk' : s[k]? = some p := by rw [List.getElem?_eq_getElem hk, e]
  rw [h.rank hk']; exact hk'
theorem Srt.lt {l s : List Pt} {tn td : Int} (h : Srt l tn td s) {p : Pt} (hp : p ∈ l) : rk tn td l p < l.length := by rw [← h.len]; exact get_lt (h.at hp)
end Go.Proofs.Ytgpbofinbpcceaa

namespace Go.Proofs.Ytgpbofinbpcceaa
open Go.RowKit
def bestStep (c : Mt → Mt → Int) (acc : Option Mt) (m : Mt) : Option Mt :=
  match acc with
  | none => some m
  | some b => if c m b < 0 then some m else some b
def bestOf (c : Mt → Mt → Int) (X : List Mt) : Option Mt := X.foldl (bestStep c) none
theorem bestOf_snoc (c : Mt → Mt → Int) (X : List Mt) (m : Mt) : bestOf c (X ++ [m]) = bestStep c (bestOf c X) m := by
  unfold bestOf
  rw [List.foldl_append]; rfl
theorem bestOf_mem {c : Mt → Mt → Int} {X : List Mt} {b : Mt} (h : bestOf c X = some b) : b ∈ X := by
  have key : ∀ (X : List Mt) (acc : Option Mt) (b : Mt), X.foldl (bestStep c) acc = some b → b ∈ X ∨ acc = some b := by
    intro X
    induction X with
    | nil => intro acc b h; exact Or.inr h
    | cons m r ih =>
      intro acc b h
      rw [List.foldl_cons] at h
      rcases ih _ b h with h1 | h1
      · exact Or.inl (List.mem_cons_of_mem _ h1)
      · unfold bestStep at h1
        split at h1
        · cases h1; exact Or.inl List.mem_cons_self
        · split at h1
          · cases h1; exact Or.inl List.mem_cons_self
          · exact Or.inr h1
  rcases key X none b h with h1 | h1
  · exact h1
  · cases h1
def z0 : Mt := ⟨0, 0, 0, 0⟩
def isIn (go : FuncId) : Prop := go = 57 ∨ go = 63

noncomputable abbrev fc (p : List Nat) : Code := codeOf Try.prog 60 p
noncomputable abbrev fo : Array Oper := opsOf (fc [1, 1, 1, 0, 1, 0, 1, 0, 1, 0])
theorem first_code : fc [] = .seq (fc [0]) (.seq (fc [1, 0]) (.seq (fc [1, 1, 0]) (.seq (.seq (fc [1, 1, 1, 0, 0]) (.block 0 (.rangeFunc (.tmp 9) #[10] (fc [1, 1, 1, 0, 1, 0, 0]) (.block 1 (.seq (fc [1, 1, 1, 0, 1, 0, 1, 0, 0]) (.cond (.tmp 19) (.region 6 fo false) .skip)))))) (fc [1, 1, 1, 1])))) := by kernel_rfl
abbrev mH (b : Nat) (m : Mt) : List (Nat × Nat × SV) := [(b, 0, .pv (.int .i64 m.n)), (b, 1, .pv (.int .i64 m.d)), (b, 2, .pv (.int .i64 m.i)), (b, 3, .pv (.int .i64 m.j))]
abbrev gH (go : FuncId) (b : Mt) (fd : Bool) (m : Mt) : List (Nat × Nat × SV) := [(0, 0, .pv (fv go #[])), (1, 0, .pv (.int .i64 b.n)), (1, 1, .pv (.int .i64 b.d)), (1, 2, .pv (.int .i64 b.i)), (1, 3, .pv (.int .i64 b.j)), (2, 0, .pv (.bool fd)),
  (3, 0, .pv (.int .i64 m.n)), (3, 1, .pv (.int .i64 m.d)), (3, 2, .pv (.int .i64 m.i)), (3, 3, .pv (.int .i64 m.j))]
abbrev fT : List (Nat × SV) := [(3, .pp 0 0), (6, .pp 1 0), (7, .pp 2 0), (8, .pp 3 0)]
section
variable (av : Value) (go : FuncId) (m b : Mt)
set_option maxRecDepth 100000 in
theorem fi_0 : Seg Try.prog 0 0 (fc [0]) 23 0 (argsT 0 [.pv av, .pv (fv go #[])]) [] .normal 2 [(0, .pv av), (3, .pp 0 0), (4, .pp 1 0)] ((0, 0, .pv (fv go #[])) :: mH 1 z0) :=
  seg_of [] 100 [] (by decide) (by kernel_rfl) (round_of True.intro (by kernel_rfl))
set_option maxRecDepth 100000 in
theorem fi_1 : Seg Try.prog 0 2 (fc [1, 0]) 23 2 [(0, .pv av), (3, .pp 0 0), (4, .pp 1 0)] ((0, 0, .pv (fv go #[])) :: mH 1 z0) .normal 3 [(0, .pv av), (3, .pp 0 0), (4, .pp 1 0), (6, .pp 2 0)] ((0, 0, .pv (fv go #[])) :: mH 1 z0 ++ mH 2 z0) :=
  seg_of [] 100 [] (by decide) (by kernel_rfl) (round_of True.intro (by kernel_rfl))
set_option maxRecDepth 100000 in
theorem fi_2 : Seg Try.prog 0 3 (fc [1, 1, 0]) 23 3 [(0, .pv av), (3, .pp 0 0), (4, .pp 1 0), (6, .pp 2 0)] ((0, 0, .pv (fv go #[])) :: mH 1 z0 ++ mH 2 z0) .normal 4 [(0, .pv av), (3, .pp 0 0), (4, .pp 1 0), (6, .pp 2 0), (7, .pp 3 0)] ((0, 0, .pv (fv go #[])) :: (3, 0, .pv (.bool false)) :: mH 1 z0 ++ mH 2 z0) :=
  seg_of [] 100 [] (by decide) (by kernel_rfl) (round_of True.intro (by kernel_rfl))
set_option maxRecDepth 100000 in
theorem fi_3 : Seg Try.prog 0 4 (fc [1, 1, 1, 0, 0]) 23 4 [(0, .pv av), (3, .pp 0 0), (4, .pp 1 0), (6, .pp 2 0), (7, .pp 3 0)] ((0, 0, .pv (fv go #[])) :: (3, 0, .pv (.bool false)) :: mH 1 z0 ++ mH 2 z0) .normal 4 [(3, .pp 0 0), (4, .pp 1 0), (6, .pp 2 0), (7, .pp 3 0), (9, .pv av)] ((0, 0, .pv (fv go #[])) :: (3, 0, .pv (.bool false)) :: mH 1 z0 ++ mH 2 z0) :=
  seg_of [] 100 [] (by decide) (by kernel_rfl) (round_of True.intro (by kernel_rfl))
set_option maxRecDepth 100000 in
theorem fi_assign (v3 v6 v7 : Value) : Seg Try.prog 0 0 (fc [1, 1, 1, 0, 1, 0, 0]) 23 0 [(3, .pv v3), (6, .pv v6), (7, .pv v7), (10, .pv (meetV m))] [] .normal 1 [(3, .pv v3), (6, .pv v6), (7, .pv v7), (8, .pp 0 0)] (mH 0 m) :=
  seg_of [] 100 [] (by decide) (by kernel_rfl) (round_of True.intro (by kernel_rfl))
set_option maxRecDepth 100000 in
theorem fi_new : Seg Try.prog 4 4 (fc [1, 1, 1, 0, 1, 0, 1, 0, 0]) 23 4 fT (gH go b false m) .normal 4 ((19, .pv (.bool true)) :: fT) (gH go b false m) :=
  seg_of [] 100 [] (by decide) (by kernel_rfl) (round_of True.intro (by kernel_rfl))
set_option maxRecDepth 100000 in
theorem fi_cmp (hgo : isIn go) (c : Int) (t : Bool) (h : Pure Try.prog go #[meetV m, meetV b] (.int .i64 c)) (ht : decide (c < 0) = t) : Seg Try.prog 4 4 (fc [1, 1, 1, 0, 1, 0, 1, 0, 0]) 23 4 fT (gH go b true m) .normal 4 ((19, .pv (.bool t)) :: fT) (gH go b true m) := by
  rcases hgo with rfl | rfl
  · cases t
    · exact seg_of [] 100 [.k, .r (.int .i64 c), .t false] (by decide) (by kernel_rfl) (round_of (And.intro h (And.intro ht True.intro)) (by kernel_rfl))
    · exact seg_of [] 100 [.k, .r (.int .i64 c), .t true] (by decide) (by kernel_rfl) (round_of (And.intro h (And.intro ht True.intro)) (by kernel_rfl))
  · cases t
    · exact seg_of [] 100 [.k, .r (.int .i64 c), .t false] (by decide) (by kernel_rfl) (round_of (And.intro h (And.intro ht True.intro)) (by kernel_rfl))
    · exact seg_of [] 100 [.k, .r (.int .i64 c), .t true] (by decide) (by kernel_rfl) (round_of (And.intro h (And.intro ht True.intro)) (by kernel_rfl))
set_option maxRecDepth 100000 in
theorem fi_load (fd : Bool) : SegL Try.prog 4 4 fo (fo.toList.take 1) 23 4 ((19, .pv (.bool true)) :: fT) (gH go b fd m) 4 ((20, .pv (meetV m)) :: fT) (gH go b fd m) :=
  segl_of [] 100 [] (by decide) (by kernel_rfl) (round_of True.intro (by kernel_rfl))
end
end Go.Proofs.Ytgpbofinbpcceaa
