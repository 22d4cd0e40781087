/-
  Joined: Fn, Fr, Ft, Me, Mf. Conditions: none.
-/
import Derived.Test.YtomnmoinahhdmaaFm
import Derived.Test.YtomnmoinahhdmaaW28
import Derived.Test.YtomnmoinahhdmaaCp
import Derived.Test.YtomnmoinahhdmaaRt
import Derived.Shelf.SlSortCmp.WholeK
import Derived.Test.YtomnmoinahhdmaaProg
import Derived.Test.YtomnmoinahhdmaaW24
import Derived.Test.YtomnmoinahhdmaaFq
import Derived.Shelf.SlLaysF0
import Derived.Test.YtomnmoinahhdmaaMc
import Derived.Test.YtomnmoinahhdmaaMd
import Derived.Test.YtomnmoinahhdmaaSxU
namespace Go.Proofs.Ytomnmoinahhdmaa
open Go.RowKit
theorem Great_any (l : List Pt) : (¬ (l.length ≤ 16 ∨ 64 ≤ l.length ∧ l.length ≤ 70) ∧ FnL Try.prog 37 1 [fldS 0 l] [(0, 0, rowP l)] (.pv (.bool true)) 0 []) ∨
    ((l.length ≤ 16 ∨ 64 ≤ l.length ∧ l.length ≤ 70) ∧ FnL Try.prog 37 1 [fldS 0 l] [(0, 0, rowP l)] (.pv (.bool false)) 0 []) := by
  by_cases h1 : l.length > 16
  · by_cases h2 : l.length < 64
    · exact Or.inl ⟨by omega, great_t (dt (by omega)) (dt (by omega))⟩
    · by_cases h3 : l.length > 70
      · exact Or.inl ⟨by omega, great_t2 (dt (by omega)) (df (by omega)) (dt (by omega))⟩
      · exact Or.inr ⟨by omega, great_f2 (dt (by omega)) (df (by omega)) (df (by omega))⟩
  · exact Or.inr ⟨by omega, great_f (df (by omega)) (df (by omega))⟩
end Go.Proofs.Ytomnmoinahhdmaa

namespace Go.Proofs.Ytomnmoinahhdmaa
open Go.RowKit
def ld (tn td : Int) (p q : Pt) : Bool := leadsB (p.a * td + p.b * tn) (q.a * td + q.b * tn) p.b q.b p.id q.id
theorem leadsB_iff {P Q pb qb pi qi : Int} : leadsB P Q pb qb pi qi = true ↔ (P > Q ∨ P = Q ∧ (pb > qb ∨ pb = qb ∧ pi < qi)) := by unfold leadsB; exact decide_eq_true_iff
theorem leadsB_niff {P Q pb qb pi qi : Int} : leadsB P Q pb qb pi qi = false ↔ ¬ (P > Q ∨ P = Q ∧ (pb > qb ∨ pb = qb ∧ pi < qi)) := by unfold leadsB; exact decide_eq_false_iff_not
section
variable {tn td : Int} {p q r : Pt}
theorem ld_irr (p : Pt) : ld tn td p p = false := leadsB_niff.2 (by omega)
theorem ld_trans (h : ld tn td p q = true) (k : ld tn td q r = true) : ld tn td p r = true := by
  unfold ld at *
  generalize p.a * td + p.b * tn = P at *
  generalize q.a * td + q.b * tn = Q at *
  generalize r.a * td + r.b * tn = R at *
  rw [leadsB_iff] at *
  omega
theorem ld_asym (h : ld tn td p q = true) : ld tn td q p = false := by
  cases hh : ld tn td q p
  · rfl
  · have := ld_trans h hh; rw [ld_irr] at this; cases this
end
/-- How many lead. -/
def rk (tn td : Int) (l : List Pt) (p : Pt) : Nat := l.countP fun q => ld tn td q p
theorem rk_aux {tn td : Int} : ∀ (s : List Pt) (k : Nat) (p : Pt), s.Pairwise (fun p q => ld tn td p q = true) → s[k]? = some p → rk tn td s p = k
  | [], _, _, _, h => by simp at h
  | a :: r, 0, p, hp, h => by
    simp only [List.getElem?_cons_zero, Option.some.injEq] at h
    subst h
    rw [List.pairwise_cons] at hp
    unfold rk
    rw [List.countP_eq_zero]
    intro q hq
    rcases List.mem_cons.1 hq with rfl | hq
    · rw [ld_irr]; decide
    · rw [ld_asym (hp.1 q hq)]; decide
  | a :: r, k + 1, p, hp, h => by
    rw [List.getElem?_cons_succ] at h
    rw [List.pairwise_cons] at hp
    have := rk_aux r k p hp.2 h
    unfold rk at this ⊢
    rw [List.countP_cons, this, if_pos (hp.1 p (List.mem_of_getElem? h))]
structure Srt (l : List Pt) (tn td : Int) (s : List Pt) : Prop where
  perm : s.Perm l
  pw : s.Pairwise (fun p q => ld tn td p q = true)
theorem Srt.len {l s : List Pt} {tn td : Int} (h : Srt l tn td s) : s.length = l.length := h.perm.length_eq
theorem Srt.rank {l s : List Pt} {tn td : Int} (h : Srt l tn td s) {k : Nat} {p : Pt} (hk : s[k]? = some p) : rk tn td l p = k := by
  have := rk_aux s k p h.pw hk
  unfold rk at this ⊢
  rw [← h.perm.countP_eq]; exact this
theorem Srt.at {l s : List Pt} {tn td : Int} (h : Srt l tn td s) {p : Pt} (hp : p ∈ l) : s[rk tn td l p]? = some p := by
  obtain ⟨k, hk, e⟩ := List.getElem_of_mem (h.perm.mem_iff.2 hp)
  have hk' : s[k]? = some p := by rw [List.getElem?_eq_getElem hk, e]
  rw [h.rank hk']; exact hk'
theorem Srt.lt {l s : List Pt} {tn td : Int} (h : Srt l tn td s) {p : Pt} (hp : p ∈ l) : rk tn td l p < l.length := by rw [← h.len]; exact get_lt (h.at hp)
end Go.Proofs.Ytomnmoinahhdmaa

namespace Go.Proofs.Ytomnmoinahhdmaa
open Go.RowKit Go.Sort
/-- A world that has only grown is the old one with draws and blocks behind it. -/
theorem gr_grow {w w' : World} (h : Gr w w') : ∃ (q : Nat) (os : Array Obj), w' = Sort.grow (w.drewN q) os := by
  obtain ⟨⟨h1, h2, h3, h4, h5⟩, _, h7⟩ := h
  refine ⟨w'.drawn - w.drawn, w'.heap.extract w.heap.size w'.heap.size, ?_⟩
  obtain ⟨heap, tape, drawn, os, output⟩ := w
  obtain ⟨heap', tape', drawn', os', output'⟩ := w'
  simp only at h1 h2 h3 h4 h5 h7
  subst h1 h2 h3
  unfold Sort.grow World.drewN
  simp only [World.mk.injEq, and_true, true_and]
  refine ⟨?_, by omega⟩
  apply Array.ext_getElem?
  intro i
  by_cases hi : i < heap.size
  · rw [Array.getElem?_append_left hi]; exact h5 i hi
  · rw [Array.getElem?_append_right (by omega), Array.getElem?_extract]
    by_cases hj : i < heap'.size
    · rw [if_pos (by omega), show heap.size + (i - heap.size) = i by omega]
    · rw [if_neg (by omega), Array.getElem?_eq_none (by omega)]
theorem put_cells {w : World} {g : Nat} {cur : Array Value} {e : TypeId} {fr : Nat × Nat} (hg : w.heap[g]? = some (.cells cur e fr)) (F : Array Value) :
    (putRow id w g 0 F).heap[g]? = some (.cells (putCells id 0 F cur) e fr) := by
  unfold putRow mapBlock
  simp only [Array.getElem?_modify, if_true, hg, Option.map_some, onCells]
theorem put_other (w : World) (g : Nat) (F : Array Value) {k : Nat} (h : k ≠ g) : (putRow id w g 0 F).heap[k]? = w.heap[k]? := by
  unfold putRow mapBlock
  simp only [Array.getElem?_modify, if_neg (fun e : g = k => h e.symm)]
theorem putCells_take (F cur : Array Value) (h : F.size ≤ cur.size) : (putCells id 0 F cur).toList.take F.size = F.toList := by
  apply List.ext_getElem?
  intro i
  rw [List.getElem?_take]
  by_cases hi : i < F.size
  · rw [if_pos hi]
    unfold putCells
    simp only [Array.getElem?_toList, Array.getElem?_mapIdx]
    rw [Array.getElem?_eq_getElem (show i < cur.size by omega), Option.map_some, if_pos (by omega), Nat.sub_zero, getElem!_pos F i hi, Array.getElem?_eq_getElem hi]
    rfl
  · rw [if_neg hi, List.getElem?_eq_none (by simpa using hi)]
theorem putCells_size (F cur : Array Value) : (putCells id 0 F cur).size = cur.size := by unfold putCells; simp

section
variable {l : List Pt} {tn td : Int}
end
end Go.Proofs.Ytomnmoinahhdmaa

namespace Go.Proofs.Ytomnmoinahhdmaa
open Go.RowKit
set_option maxRecDepth 100000 in
theorem cmpT_path {an ad bn bd k e : Int} (h : Pure Try.prog 112 #[ratioV an ad, ratioV bn bd] (.tuple #[.int .i64 k, .int .i64 e])) : Pure Try.prog 86 #[ratioV an ad, ratioV bn bd] (.int .i64 k) :=
  pure_run (args := [ratioV an ad, ratioV bn bd]) 200 [.r (.tuple #[.int .i64 k, .int .i64 e])] (And.intro rfl (And.intro h True.intro)) (by kernel_rfl)

set_option maxRecDepth 100000 in
theorem cb_field {l : List Pt} {fn fd tn td : Int} {e : Int} (hc : FnL Try.prog 76 1 [fldS 0 l] [(0, 0, rowP l)] (.pv (.int .i64 (e))) 0 []) (he : (e != 0) = true) :
    FnL Try.prog 49 1 [fldS 0 l, .pv (ratioV fn fd), .pv (ratioV tn td)] [(0, 0, rowP l)] (.pv (.int .i64 (e))) 0 [] :=
  fnl_run 300 [] [.k, .f [0] [fldS 0 l] [(0, 0, rowP l)] (.pv (.int .i64 (e))) 0 [], .t true, .t true]
     True.intro (And.intro hc (And.intro (Eq.refl (List.map (SV.ren (renU [0] 6)) [fldS 0 l])) (And.intro (reflH (renU [0] 6) [(0, 0, rowP l)]) (And.intro he (And.intro he True.intro))))) (by kernel_rfl)

set_option maxRecDepth 100000 in
theorem cb_from {l : List Pt} {fn fd tn td : Int} (hc : FnL Try.prog 76 1 [fldS 0 l] [(0, 0, rowP l)] (.pv (.int .i64 (0))) 0 []) (h1 : Pure Try.prog 68 #[ratioV fn fd] (.int .i64 (8))) :
    FnL Try.prog 49 1 [fldS 0 l, .pv (ratioV fn fd), .pv (ratioV tn td)] [(0, 0, rowP l)] (.pv (.int .i64 (8))) 0 [] :=
  fnl_run 300 [] [.k, .f [0] [fldS 0 l] [(0, 0, rowP l)] (.pv (.int .i64 (0))) 0 [], .k, .k, .r (.int .i64 (8)), .k, .k]
     True.intro (And.intro hc (And.intro (Eq.refl (List.map (SV.ren (renU [0] 6)) [fldS 0 l])) (And.intro (reflH (renU [0] 6) [(0, 0, rowP l)]) (And.intro h1 True.intro)))) (by kernel_rfl)

set_option maxRecDepth 100000 in
theorem cb_to {l : List Pt} {fn fd tn td : Int} (hc : FnL Try.prog 76 1 [fldS 0 l] [(0, 0, rowP l)] (.pv (.int .i64 (0))) 0 []) (h1 : Pure Try.prog 68 #[ratioV fn fd] (.int .i64 (0))) (h2 : Pure Try.prog 68 #[ratioV tn td] (.int .i64 (8))) :
    FnL Try.prog 49 1 [fldS 0 l, .pv (ratioV fn fd), .pv (ratioV tn td)] [(0, 0, rowP l)] (.pv (.int .i64 (8))) 0 [] :=
  fnl_run 300 [] [.k, .f [0] [fldS 0 l] [(0, 0, rowP l)] (.pv (.int .i64 (0))) 0 [], .k, .k, .r (.int .i64 (0)), .k, .k, .k, .r (.int .i64 (8)), .k, .k]
     True.intro (And.intro hc (And.intro (Eq.refl (List.map (SV.ren (renU [0] 6)) [fldS 0 l])) (And.intro (reflH (renU [0] 6) [(0, 0, rowP l)]) (And.intro h1 (And.intro h2 True.intro))))) (by kernel_rfl)

set_option maxRecDepth 100000 in
theorem cb_arg {l : List Pt} {fn fd tn td : Int} {k : Int} (hc : FnL Try.prog 76 1 [fldS 0 l] [(0, 0, rowP l)] (.pv (.int .i64 (0))) 0 []) (h1 : Pure Try.prog 68 #[ratioV fn fd] (.int .i64 (0))) (h2 : Pure Try.prog 68 #[ratioV tn td] (.int .i64 (0))) (h3 : Pure Try.prog 86 #[ratioV fn fd, ratioV tn td] (.int .i64 (k))) (hk : decide (k > 0) = true) :
    FnL Try.prog 49 1 [fldS 0 l, .pv (ratioV fn fd), .pv (ratioV tn td)] [(0, 0, rowP l)] (.pv (.int .i64 (2))) 0 [] :=
  fnl_run 300 [] [.k, .f [0] [fldS 0 l] [(0, 0, rowP l)] (.pv (.int .i64 (0))) 0 [], .k, .k, .r (.int .i64 (0)), .k, .k, .k, .r (.int .i64 (0)), .k, .k, .k, .k, .r (.int .i64 (k)), .t true]
     True.intro (And.intro hc (And.intro (Eq.refl (List.map (SV.ren (renU [0] 6)) [fldS 0 l])) (And.intro (reflH (renU [0] 6) [(0, 0, rowP l)]) (And.intro h1 (And.intro h2 (And.intro h3 (And.intro hk True.intro))))))) (by kernel_rfl)

set_option maxRecDepth 100000 in
theorem cb_ok {l : List Pt} {fn fd tn td : Int} {k : Int} (hc : FnL Try.prog 76 1 [fldS 0 l] [(0, 0, rowP l)] (.pv (.int .i64 (0))) 0 []) (h1 : Pure Try.prog 68 #[ratioV fn fd] (.int .i64 (0))) (h2 : Pure Try.prog 68 #[ratioV tn td] (.int .i64 (0))) (h3 : Pure Try.prog 86 #[ratioV fn fd, ratioV tn td] (.int .i64 (k))) (hk : decide (k > 0) = false) :
    FnL Try.prog 49 1 [fldS 0 l, .pv (ratioV fn fd), .pv (ratioV tn td)] [(0, 0, rowP l)] (.pv (.int .i64 (0))) 0 [] :=
  fnl_run 300 [] [.k, .f [0] [fldS 0 l] [(0, 0, rowP l)] (.pv (.int .i64 (0))) 0 [], .k, .k, .r (.int .i64 (0)), .k, .k, .k, .r (.int .i64 (0)), .k, .k, .k, .k, .r (.int .i64 (k)), .t false]
     True.intro (And.intro hc (And.intro (Eq.refl (List.map (SV.ren (renU [0] 6)) [fldS 0 l])) (And.intro (reflH (renU [0] 6) [(0, 0, rowP l)]) (And.intro h1 (And.intro h2 (And.intro h3 (And.intro hk True.intro))))))) (by kernel_rfl)

set_option maxRecDepth 100000 in
theorem after_path {m : Mt} {tn td k : Int} {b : Bool} (h : Pure Try.prog 86 #[ratioV m.n m.d, ratioV tn td] (.int .i64 (k))) (hk : decide (k > 0) = b) :
    FnL Try.prog 94 1 [.pv (meetV m), .pp 0 0] [(0, 0, .pv (.int .i64 tn)), (0, 1, .pv (.int .i64 td))] (.pv (.bool b)) 0 [] :=
  fnl_run 300 [] [.r (.int .i64 (k)), .t b]
     True.intro (And.intro h (And.intro hk True.intro)) (by kernel_rfl)

set_option maxRecDepth 100000 in
theorem betw_path {m : Mt} {tn td k : Int} {b : Bool} (h : Pure Try.prog 86 #[ratioV m.n m.d, ratioV tn td] (.int .i64 (k))) (hk : decide (k ≤ 0) = b) :
    FnL Try.prog 90 1 [.pv (meetV m), .pp 0 0] [(0, 0, .pv (.int .i64 tn)), (0, 1, .pv (.int .i64 td))] (.pv (.bool b)) 0 [] :=
  fnl_run 300 [] [.r (.int .i64 (k)), .t b]
     True.intro (And.intro h (And.intro hk True.intro)) (by kernel_rfl)


theorem CmpT_ok {an ad bn bd : Int} (ha : I64 an) (hb : I64 ad) (hc : I64 bn) (hd : I64 bd) (h1 : okB an ad = true) (h2 : okB bn bd = true) : Pure Try.prog 86 #[ratioV an ad, ratioV bn bd] (.int .i64 (an * bd - bn * ad).sign) := cmpT_path (Cmp_ok ha hb hc hd h1 h2)
/-- The error of a field and two times. -/
noncomputable def mE (l : List Pt) (fn fd tn td : Int) : Int := if errL l = 0 then (if okB fn fd = true ∧ okB tn td = true then (if fn * td - tn * fd > 0 then 2 else 0) else 8) else errL l
theorem CB_any {fn fd tn td : Int} (h1 : I64 fn) (h2 : I64 fd) (h3 : I64 tn) (h4 : I64 td) (l : List Pt) : FnL Try.prog 49 1 [fldS 0 l, .pv (ratioV fn fd), .pv (ratioV tn td)] [(0, 0, rowP l)] (.pv (.int .i64 (mE l fn fd tn td))) 0 [] := by
  unfold mE
  by_cases h0 : errL l = 0
  · rw [if_pos h0]
    have c := PCheck_any l
    rw [h0] at c
    by_cases g1 : okB fn fd = true
    · by_cases g2 : okB tn td = true
      · rw [if_pos ⟨g1, g2⟩]
        have k := CmpT_ok h1 h2 h3 h4 g1 g2
        by_cases g3 : fn * td - tn * fd > 0
        · rw [if_pos g3]
          exact cb_arg c (Check_ok h1 h2 g1) (Check_ok h3 h4 g2) k (dt (by rw [Int.sign_eq_one_of_pos g3]; omega))
        · rw [if_neg g3]
          refine cb_ok c (Check_ok h1 h2 g1) (Check_ok h3 h4 g2) k (df ?_)
          rcases Int.lt_trichotomy (fn * td - tn * fd) 0 with g | g | g
          · rw [Int.sign_eq_neg_one_of_neg g]; omega
          · rw [g]; decide
          · exact (g3 g).elim
      · rw [if_neg (fun h => g2 h.2)]
        exact cb_to c (Check_ok h1 h2 g1) (Check_bad h3 h4 (by simpa using g2))
    · rw [if_neg (fun h => g1 h.1)]
      exact cb_from c (Check_bad h1 h2 (by simpa using g1))
  · rw [if_neg h0]
    exact cb_field (PCheck_any l) (by simp [h0])

end Go.Proofs.Ytomnmoinahhdmaa

namespace Go.Proofs.Ytomnmoinahhdmaa
open Go.RowKit
abbrev ptr (r : Nat) : Value := .pointer (some ⟨r, 0, none⟩)
def kpA (fn fd : Int) (m : Mt) : Bool := decide ((m.n * fd - fn * m.d).sign > 0)
def kpB (tn td : Int) (m : Mt) : Bool := decide ((m.n * td - tn * m.d).sign ≤ 0)
/-- A meeting at a valid time. -/
structure MtOk (m : Mt) : Prop where
  n : I64 m.n
  d : I64 m.d
  ok : okB m.n m.d = true
structure TmOk (tn td : Int) : Prop where
  n : I64 tn
  d : I64 td
  ok : okB tn td = true
theorem keep_after {W0 : World} {rf : Nat} {fn fd : Int} {X : List Mt} {B : Nat → Prop} (c0 : Cel W0 rf 0 (.int .i64 fn)) (c1 : Cel W0 rf 1 (.int .i64 fd)) (hB : B rf) (hX : ∀ m ∈ X, MtOk m) (ht : TmOk fn fd) : KeepC Try.prog 94 #[ptr rf] (kpA fn fd) X B W0 := by
  intro m hm W hK
  have k0 := c0.keep hK hB
  have k1 := c1.keep hK hB
  have H := boxes_rel (rs := [rf]) (hp := [(0, 0, .pv (.int .i64 fn)), (0, 1, .pv (.int .i64 fd))]) (by simp) (by simpa using k0.lt) ⟨⟨rf, _, rfl, rfl, k0, rfl⟩, ⟨rf, _, rfl, rfl, k1, rfl⟩, trivial⟩
  have ok := hX m hm
  have h := after_path (b := kpA fn fd m) (CmpT_ok ok.n ok.d ht.n ht.d ok.ok ht.ok) rfl
  exact (h W (boxesL [rf]) [meetV m, ptr rf] H (boxesL_dom [rf]) ⟨rfl, ⟨rf, rfl, rfl⟩, trivial⟩).mono fun e w' ⟨v, β', he, _, hx, hh, _⟩ => ⟨by rw [he, show v = _ from hx], hh.gr⟩
theorem keep_betw {W0 : World} {rf : Nat} {fn fd : Int} {X : List Mt} {B : Nat → Prop} (c0 : Cel W0 rf 0 (.int .i64 fn)) (c1 : Cel W0 rf 1 (.int .i64 fd)) (hB : B rf) (hX : ∀ m ∈ X, MtOk m) (ht : TmOk fn fd) : KeepC Try.prog 90 #[ptr rf] (kpB fn fd) X B W0 := by
  intro m hm W hK
  have k0 := c0.keep hK hB
  have k1 := c1.keep hK hB
  have H := boxes_rel (rs := [rf]) (hp := [(0, 0, .pv (.int .i64 fn)), (0, 1, .pv (.int .i64 fd))]) (by simp) (by simpa using k0.lt) ⟨⟨rf, _, rfl, rfl, k0, rfl⟩, ⟨rf, _, rfl, rfl, k1, rfl⟩, trivial⟩
  have ok := hX m hm
  have h := betw_path (b := kpB fn fd m) (CmpT_ok ok.n ok.d ht.n ht.d ok.ok ht.ok) rfl
  exact (h W (boxesL [rf]) [meetV m, ptr rf] H (boxesL_dom [rf]) ⟨rfl, ⟨rf, rfl, rfl⟩, trivial⟩).mono fun e w' ⟨v, β', he, _, hx, hh, _⟩ => ⟨by rw [he, show v = _ from hx], hh.gr⟩

/-- What is known of the pairs of a list: which meet, and when. -/
structure Meets (l : List Pt) (f : Pt × Pt → Option Mt) : Prop where
  len : l.length ≤ 1000000
  run : ∀ x ∈ pairsOf l, (f x = none ∧ Pure Try.prog 96 #[ptV x.1, ptV x.2] (.tuple #[ratioV 0 0, .int .i64 6])) ∨ ∃ n d, f x = some ⟨n, d, x.1.id, x.2.id⟩ ∧ Pure Try.prog 96 #[ptV x.1, ptV x.2] (.tuple #[ratioV n d, .int .i64 0])
  ok : ∀ m ∈ (pairsOf l).filterMap f, MtOk m
def bkF (l : List Pt) (u : Value) (rb : Nat) : Nat → Prop := fun b => b = rb ∨ (ptsV l ≠ [] ∧ u.ownBlock = some b)
theorem meets_at {w : World} {rb : Nat} {u : Value} {l : List Pt} {f : Pt × Pt → Option Mt} (hM : Meets l f) (cb : Cel w rb 0 u) (hr : Rd w 3 u l.length (ptsV l)) {B : Nat → Prop} (h1 : B rb) (h2 : ptsV l ≠ [] → ∀ k, u.ownBlock = some k → B k) (hB : ∀ b, B b → b < w.heap.size) :
    SeqC Try.prog 95 #[ptr rb] (((pairsOf l).filterMap f).map mA) B w := meets_seq cb.1 cb.2 hr h1 h2 hB hM.len hM.run
def bkA (l : List Pt) (u : Value) (rb rf ra rk : Nat) : Nat → Prop := fun b => (bkF l u rb b ∨ b = rf) ∨ b = ra ∨ b = rk
theorem bkF_lt {w : World} {rb : Nat} {u : Value} {l : List Pt} (cb : Cel w rb 0 u) (hr : Rd w 3 u l.length (ptsV l)) : ∀ b, bkF l u rb b → b < w.heap.size := fun b h => by
  rcases h with rfl | ⟨hx, h⟩
  · exact cb.lt
  · exact hr.lt hx b h
theorem after_at {w : World} {rb rf ra rk : Nat} {u : Value} {l : List Pt} {f : Pt × Pt → Option Mt} {fn fd : Int} (hM : Meets l f) (ht : TmOk fn fd) (cb : Cel w rb 0 u) (hr : Rd w 3 u l.length (ptsV l)) (c0 : Cel w rf 0 (.int .i64 fn)) (c1 : Cel w rf 1 (.int .i64 fd))
    (ca : Cel w ra 0 (fv 95 #[ptr rb])) (ck : Cel w rk 0 (fv 94 #[ptr rf])) (hne : ra ≠ rk) :
    SeqC Try.prog 128 #[ptr ra, ptr rk] ((((pairsOf l).filterMap f).filter (kpA fn fd)).map mA) (bkA l u rb rf ra rk) w := by
  have hB : ∀ b, (bkF l u rb b ∨ b = rf) → b < w.heap.size := fun b h => by
    rcases h with h | rfl
    · exact bkF_lt cb hr b h
    · exact c0.lt
  exact only_seq ca.1 ca.2 ck.1 ck.2 hne (by kernel_rfl) (by kernel_rfl) (meets_at hM cb hr (B := fun b => bkF l u rb b ∨ b = rf) (Or.inl (Or.inl rfl)) (fun hx k hk => Or.inl (Or.inr ⟨hx, hk⟩)) hB) (keep_after c0 c1 (Or.inr rfl) hM.ok ht) hB
def bkB (l : List Pt) (u : Value) (rb rf ra rk rt rc rj : Nat) : Nat → Prop := fun b => (bkA l u rb rf ra rk b ∨ b = rt) ∨ b = rc ∨ b = rj
theorem betw_at {w : World} {rb rf ra rk rt rc rj : Nat} {u : Value} {l : List Pt} {f : Pt × Pt → Option Mt} {fn fd tn td : Int} (hM : Meets l f) (ht : TmOk fn fd) (hs : TmOk tn td) (cb : Cel w rb 0 u) (hr : Rd w 3 u l.length (ptsV l)) (c0 : Cel w rf 0 (.int .i64 fn)) (c1 : Cel w rf 1 (.int .i64 fd))
    (ca : Cel w ra 0 (fv 95 #[ptr rb])) (ck : Cel w rk 0 (fv 94 #[ptr rf])) (hne : ra ≠ rk)
    (d0 : Cel w rt 0 (.int .i64 tn)) (d1 : Cel w rt 1 (.int .i64 td)) (cc : Cel w rc 0 (fv 128 #[ptr ra, ptr rk])) (cj : Cel w rj 0 (fv 90 #[ptr rt])) (hne2 : rc ≠ rj) :
    SeqC Try.prog 128 #[ptr rc, ptr rj] (((((pairsOf l).filterMap f).filter (kpA fn fd)).filter (kpB tn td)).map mA) (bkB l u rb rf ra rk rt rc rj) w := by
  have hA : ∀ b, bkA l u rb rf ra rk b → b < w.heap.size := fun b h => by
    rcases h with (h | rfl) | rfl | rfl
    · exact bkF_lt cb hr b h
    · exact c0.lt
    · exact ca.lt
    · exact ck.lt
  have hB : ∀ b, (bkA l u rb rf ra rk b ∨ b = rt) → b < w.heap.size := fun b h => by
    rcases h with h | rfl
    · exact hA b h
    · exact d0.lt
  have hin : SeqC Try.prog 128 #[ptr ra, ptr rk] ((((pairsOf l).filterMap f).filter (kpA fn fd)).map mA) (fun b => bkA l u rb rf ra rk b ∨ b = rt) w := by
    intro y M J W hK hMM
    exact after_at hM ht cb hr c0 c1 ca ck hne y M J W (hK.mono fun i _ h => Or.inl h) (fun b hb => ⟨(hMM b hb).1, fun h => (hMM b hb).2 (Or.inl h)⟩)
  exact only_seq cc.1 cc.2 cj.1 cj.2 hne2 (by kernel_rfl) (by kernel_rfl) hin (keep_betw d0 d1 (Or.inr rfl) (fun m hm => hM.ok m ((List.mem_filter.1 hm).1)) hs) hB
end Go.Proofs.Ytomnmoinahhdmaa
