/-
  Joined: Fn, Me, Mf, Mg, Mi, Mj, Mk, Mn, Mo, Mp. Conditions: none.
-/
import Derived.Test.YtpngjeloiifgnaaGreatFm
import Derived.Test.YtpngjeloiifgnaaGreatW29
import Derived.Test.YtpngjeloiifgnaaGreatMc
import Derived.Test.YtpngjeloiifgnaaGreatMd
import Derived.Test.YtpngjeloiifgnaaGreatSxU
import Derived.Test.YtpngjeloiifgnaaGreatW27
namespace Go.Proofs.YtpngjeloiifgnaaGreat
open Go.RowKit
theorem Great_any (l : List Pt) : (¬ (l.length ≤ 16 ∨ 64 ≤ l.length ∧ l.length ≤ 70) ∧ FnL Tryz.prog 5 1 [fldS 0 l] [(0, 0, rowP l)] (.pv (.bool true)) 0 []) ∨
    ((l.length ≤ 16 ∨ 64 ≤ l.length ∧ l.length ≤ 70) ∧ FnL Tryz.prog 5 1 [fldS 0 l] [(0, 0, rowP l)] (.pv (.bool false)) 0 []) := by
  by_cases h1 : l.length > 16
  · by_cases h2 : l.length < 64
    · exact Or.inl ⟨by omega, great_t (dt (by omega)) (dt (by omega))⟩
    · by_cases h3 : l.length > 70
      · exact Or.inl ⟨by omega, great_t2 (dt (by omega)) (df (by omega)) (dt (by omega))⟩
      · exact Or.inr ⟨by omega, great_f2 (dt (by omega)) (df (by omega)) (df (by omega))⟩
  · exact Or.inr ⟨by omega, great_f (df (by omega)) (df (by omega))⟩
abbrev FindIs (f : FuncId) (l : List Pt) (id : Int) (p : Pt) (e : Int) : Prop := FnL Tryz.prog f 1 [fldS 0 l, .pv (.int .i64 id)] [(0, 0, rowP l)] (.pv (.tuple #[ptV p, .int .i64 e])) 0 []
theorem take_succ {α : Type} {l : List α} {k : Nat} {p : α} (h : l[k]? = some p) : l.take (k + 1) = l.take k ++ [p] := by rw [List.take_add_one, h]; rfl
theorem wrap_sum {a b c : Int} (h : a + b = c) (h0 : 0 ≤ c) (h1 : c ≤ 1000000) : Value.int .i64 (IntKind.i64.wrap (a + b)) = .int .i64 c := by rw [h, wrap_i64_in (by omega) (by omega)]
theorem Grow_pos {s : Int} (h0 : 0 < s) (h1 : s ≤ 1000000) : FnL Tryz.prog 150 0 [.pv (.slice none 0 0), .pv (.int .i64 s)] [] (.ls 0 0) 1 [(0, 0, rowP ([] : List Pt))] :=
  grow_s (df (by omega)) (by rw [Int.sub_zero, wrap_i64_in (by omega) (by omega)]) (dt (by omega)) (by omega) h1
theorem CWP_any (l : List Pt) (pi pa pb : Int) : FnL Tryz.prog 71 1 [fldS 0 l, .pv (pointV pi pa pb)] [(0, 0, rowP l)] (.pv (.int .i64 (if errL l = 0 then (if okP pi pa pb then 0 else 8) else errL l))) 0 [] := by
  by_cases h0 : errL l = 0
  · have c1 := PCheck_any l
    rw [h0] at c1
    rw [if_pos h0]
    by_cases hp : okP pi pa pb = true
    · rw [if_pos hp]; exact cwp_ok c1 (Check02_ok hp)
    · rw [if_neg hp]; exact cwp_ok c1 (Check02_bad hp)
  · rw [if_neg h0]
    exact cwp_err (PCheck_any l) (by simp [h0])
end Go.Proofs.YtpngjeloiifgnaaGreat

namespace Go.Proofs.YtpngjeloiifgnaaGreat
open Go.RowKit
set_option maxRecDepth 100000 in
theorem cmpT_path {an ad bn bd k e : Int} (h : Pure Tryz.prog 49 #[ratioV an ad, ratioV bn bd] (.tuple #[.int .i64 k, .int .i64 e])) : Pure Tryz.prog 79 #[ratioV an ad, ratioV bn bd] (.int .i64 k) :=
  pure_run (args := [ratioV an ad, ratioV bn bd]) 200 [.r (.tuple #[.int .i64 k, .int .i64 e])] (And.intro rfl (And.intro h True.intro)) (by kernel_rfl)

set_option maxRecDepth 100000 in
theorem cb_field {l : List Pt} {fn fd tn td : Int} {e : Int} (hc : FnL Tryz.prog 20 1 [fldS 0 l] [(0, 0, rowP l)] (.pv (.int .i64 (e))) 0 []) (he : (e != 0) = true) :
    FnL Tryz.prog 34 1 [fldS 0 l, .pv (ratioV fn fd), .pv (ratioV tn td)] [(0, 0, rowP l)] (.pv (.int .i64 (e))) 0 [] :=
  fnl_run 300 [] [.k, .f [0] [fldS 0 l] [(0, 0, rowP l)] (.pv (.int .i64 (e))) 0 [], .t true, .t true]
     True.intro (And.intro hc (And.intro (Eq.refl (List.map (SV.ren (renU [0] 6)) [fldS 0 l])) (And.intro (reflH (renU [0] 6) [(0, 0, rowP l)]) (And.intro he (And.intro he True.intro))))) (by kernel_rfl)

set_option maxRecDepth 100000 in
theorem cb_from {l : List Pt} {fn fd tn td : Int} (hc : FnL Tryz.prog 20 1 [fldS 0 l] [(0, 0, rowP l)] (.pv (.int .i64 (0))) 0 []) (h1 : Pure Tryz.prog 76 #[ratioV fn fd] (.int .i64 (8))) :
    FnL Tryz.prog 34 1 [fldS 0 l, .pv (ratioV fn fd), .pv (ratioV tn td)] [(0, 0, rowP l)] (.pv (.int .i64 (8))) 0 [] :=
  fnl_run 300 [] [.k, .f [0] [fldS 0 l] [(0, 0, rowP l)] (.pv (.int .i64 (0))) 0 [], .k, .k, .r (.int .i64 (8)), .k, .k]
     True.intro (And.intro hc (And.intro (Eq.refl (List.map (SV.ren (renU [0] 6)) [fldS 0 l])) (And.intro (reflH (renU [0] 6) [(0, 0, rowP l)]) (And.intro h1 True.intro)))) (by kernel_rfl)

set_option maxRecDepth 100000 in
theorem cb_to {l : List Pt} {fn fd tn td : Int} (hc : FnL Tryz.prog 20 1 [fldS 0 l] [(0, 0, rowP l)] (.pv (.int .i64 (0))) 0 []) (h1 : Pure Tryz.prog 76 #[ratioV fn fd] (.int .i64 (0))) (h2 : Pure Tryz.prog 76 #[ratioV tn td] (.int .i64 (8))) :
    FnL Tryz.prog 34 1 [fldS 0 l, .pv (ratioV fn fd), .pv (ratioV tn td)] [(0, 0, rowP l)] (.pv (.int .i64 (8))) 0 [] :=
  fnl_run 300 [] [.k, .f [0] [fldS 0 l] [(0, 0, rowP l)] (.pv (.int .i64 (0))) 0 [], .k, .k, .r (.int .i64 (0)), .k, .k, .k, .r (.int .i64 (8)), .k, .k]
     True.intro (And.intro hc (And.intro (Eq.refl (List.map (SV.ren (renU [0] 6)) [fldS 0 l])) (And.intro (reflH (renU [0] 6) [(0, 0, rowP l)]) (And.intro h1 (And.intro h2 True.intro))))) (by kernel_rfl)

set_option maxRecDepth 100000 in
theorem cb_arg {l : List Pt} {fn fd tn td : Int} {k : Int} (hc : FnL Tryz.prog 20 1 [fldS 0 l] [(0, 0, rowP l)] (.pv (.int .i64 (0))) 0 []) (h1 : Pure Tryz.prog 76 #[ratioV fn fd] (.int .i64 (0))) (h2 : Pure Tryz.prog 76 #[ratioV tn td] (.int .i64 (0))) (h3 : Pure Tryz.prog 79 #[ratioV fn fd, ratioV tn td] (.int .i64 (k))) (hk : decide (k > 0) = true) :
    FnL Tryz.prog 34 1 [fldS 0 l, .pv (ratioV fn fd), .pv (ratioV tn td)] [(0, 0, rowP l)] (.pv (.int .i64 (2))) 0 [] :=
  fnl_run 300 [] [.k, .f [0] [fldS 0 l] [(0, 0, rowP l)] (.pv (.int .i64 (0))) 0 [], .k, .k, .r (.int .i64 (0)), .k, .k, .k, .r (.int .i64 (0)), .k, .k, .k, .k, .r (.int .i64 (k)), .t true]
     True.intro (And.intro hc (And.intro (Eq.refl (List.map (SV.ren (renU [0] 6)) [fldS 0 l])) (And.intro (reflH (renU [0] 6) [(0, 0, rowP l)]) (And.intro h1 (And.intro h2 (And.intro h3 (And.intro hk True.intro))))))) (by kernel_rfl)

set_option maxRecDepth 100000 in
theorem cb_ok {l : List Pt} {fn fd tn td : Int} {k : Int} (hc : FnL Tryz.prog 20 1 [fldS 0 l] [(0, 0, rowP l)] (.pv (.int .i64 (0))) 0 []) (h1 : Pure Tryz.prog 76 #[ratioV fn fd] (.int .i64 (0))) (h2 : Pure Tryz.prog 76 #[ratioV tn td] (.int .i64 (0))) (h3 : Pure Tryz.prog 79 #[ratioV fn fd, ratioV tn td] (.int .i64 (k))) (hk : decide (k > 0) = false) :
    FnL Tryz.prog 34 1 [fldS 0 l, .pv (ratioV fn fd), .pv (ratioV tn td)] [(0, 0, rowP l)] (.pv (.int .i64 (0))) 0 [] :=
  fnl_run 300 [] [.k, .f [0] [fldS 0 l] [(0, 0, rowP l)] (.pv (.int .i64 (0))) 0 [], .k, .k, .r (.int .i64 (0)), .k, .k, .k, .r (.int .i64 (0)), .k, .k, .k, .k, .r (.int .i64 (k)), .t false]
     True.intro (And.intro hc (And.intro (Eq.refl (List.map (SV.ren (renU [0] 6)) [fldS 0 l])) (And.intro (reflH (renU [0] 6) [(0, 0, rowP l)]) (And.intro h1 (And.intro h2 (And.intro h3 (And.intro hk True.intro))))))) (by kernel_rfl)

set_option maxRecDepth 100000 in
theorem after_path {m : Mt} {tn td k : Int} {b : Bool} (h : Pure Tryz.prog 79 #[ratioV m.n m.d, ratioV tn td] (.int .i64 (k))) (hk : decide (k > 0) = b) :
    FnL Tryz.prog 124 1 [.pv (meetV m), .pp 0 0] [(0, 0, .pv (.int .i64 tn)), (0, 1, .pv (.int .i64 td))] (.pv (.bool b)) 0 [] :=
  fnl_run 300 [] [.r (.int .i64 (k)), .t b]
     True.intro (And.intro h (And.intro hk True.intro)) (by kernel_rfl)

set_option maxRecDepth 100000 in
theorem betw_path {m : Mt} {tn td k : Int} {b : Bool} (h : Pure Tryz.prog 79 #[ratioV m.n m.d, ratioV tn td] (.int .i64 (k))) (hk : decide (k ≤ 0) = b) :
    FnL Tryz.prog 84 1 [.pv (meetV m), .pp 0 0] [(0, 0, .pv (.int .i64 tn)), (0, 1, .pv (.int .i64 td))] (.pv (.bool b)) 0 [] :=
  fnl_run 300 [] [.r (.int .i64 (k)), .t b]
     True.intro (And.intro h (And.intro hk True.intro)) (by kernel_rfl)


theorem CmpT_ok {an ad bn bd : Int} (ha : I64 an) (hb : I64 ad) (hc : I64 bn) (hd : I64 bd) (h1 : okB an ad = true) (h2 : okB bn bd = true) : Pure Tryz.prog 79 #[ratioV an ad, ratioV bn bd] (.int .i64 (an * bd - bn * ad).sign) := cmpT_path (Cmp_ok ha hb hc hd h1 h2)
/-- The error of a field and two times. -/
noncomputable def mE (l : List Pt) (fn fd tn td : Int) : Int := if errL l = 0 then (if okB fn fd = true ∧ okB tn td = true then (if fn * td - tn * fd > 0 then 2 else 0) else 8) else errL l
theorem CB_any {fn fd tn td : Int} (h1 : I64 fn) (h2 : I64 fd) (h3 : I64 tn) (h4 : I64 td) (l : List Pt) : FnL Tryz.prog 34 1 [fldS 0 l, .pv (ratioV fn fd), .pv (ratioV tn td)] [(0, 0, rowP l)] (.pv (.int .i64 (mE l fn fd tn td))) 0 [] := by
  unfold mE
  by_cases h0 : errL l = 0
  · rw [if_pos h0]
    have c := PCheck_any l
    rw [h0] at c
    by_cases g1 : okB fn fd = true
    · by_cases g2 : okB tn td = true
      · rw [if_pos ⟨g1, g2⟩]
        have k := CmpT_ok h1 h2 h3 h4 g1 g2
        by_cases g3 : fn * td - tn * fd > 0
        · rw [if_pos g3]
          exact cb_arg c (Check_ok h1 h2 g1) (Check_ok h3 h4 g2) k (dt (by rw [Int.sign_eq_one_of_pos g3]; omega))
        · rw [if_neg g3]
          refine cb_ok c (Check_ok h1 h2 g1) (Check_ok h3 h4 g2) k (df ?_)
          rcases Int.lt_trichotomy (fn * td - tn * fd) 0 with g | g | g
          · rw [Int.sign_eq_neg_one_of_neg g]; omega
          · rw [g]; decide
          · exact (g3 g).elim
      · rw [if_neg (fun h => g2 h.2)]
        exact cb_to c (Check_ok h1 h2 g1) (Check_bad h3 h4 (by simpa using g2))
    · rw [if_neg (fun h => g1 h.1)]
      exact cb_from c (Check_bad h1 h2 (by simpa using g1))
  · rw [if_neg h0]
    exact cb_field (PCheck_any l) (by simp [h0])

end Go.Proofs.YtpngjeloiifgnaaGreat

namespace Go.Proofs.YtpngjeloiifgnaaGreat
open Go.RowKit
abbrev ptr (r : Nat) : Value := .pointer (some ⟨r, 0, none⟩)
def kpA (fn fd : Int) (m : Mt) : Bool := decide ((m.n * fd - fn * m.d).sign > 0)
def kpB (tn td : Int) (m : Mt) : Bool := decide ((m.n * td - tn * m.d).sign ≤ 0)
/-- A meeting at a valid time. -/
structure MtOk (m : Mt) : Prop where
  n : I64 m.n
  d : I64 m.d
  ok : okB m.n m.d = true
structure TmOk (tn td : Int) : Prop where
  n : I64 tn
  d : I64 td
  ok : okB tn td = true
theorem keep_after {W0 : World} {rf : Nat} {fn fd : Int} {X : List Mt} {B : Nat → Prop} (c0 : Cel W0 rf 0 (.int .i64 fn)) (c1 : Cel W0 rf 1 (.int .i64 fd)) (hB : B rf) (hX : ∀ m ∈ X, MtOk m) (ht : TmOk fn fd) : KeepC Tryz.prog 124 #[ptr rf] (kpA fn fd) X B W0 := by
  intro m hm W hK
  have k0 := c0.keep hK hB
  have k1 := c1.keep hK hB
  have H := boxes_rel (rs := [rf]) (hp := [(0, 0, .pv (.int .i64 fn)), (0, 1, .pv (.int .i64 fd))]) (by simp) (by simpa using k0.lt) ⟨⟨rf, _, rfl, rfl, k0, rfl⟩, ⟨rf, _, rfl, rfl, k1, rfl⟩, trivial⟩
  have ok := hX m hm
  have h := after_path (b := kpA fn fd m) (CmpT_ok ok.n ok.d ht.n ht.d ok.ok ht.ok) rfl
  exact (h W (boxesL [rf]) [meetV m, ptr rf] H (boxesL_dom [rf]) ⟨rfl, ⟨rf, rfl, rfl⟩, trivial⟩).mono fun e w' ⟨v, β', he, _, hx, hh, _⟩ => ⟨by rw [he, show v = _ from hx], hh.gr⟩
theorem keep_betw {W0 : World} {rf : Nat} {fn fd : Int} {X : List Mt} {B : Nat → Prop} (c0 : Cel W0 rf 0 (.int .i64 fn)) (c1 : Cel W0 rf 1 (.int .i64 fd)) (hB : B rf) (hX : ∀ m ∈ X, MtOk m) (ht : TmOk fn fd) : KeepC Tryz.prog 84 #[ptr rf] (kpB fn fd) X B W0 := by
  intro m hm W hK
  have k0 := c0.keep hK hB
  have k1 := c1.keep hK hB
  have H := boxes_rel (rs := [rf]) (hp := [(0, 0, .pv (.int .i64 fn)), (0, 1, .pv (.int .i64 fd))]) (by simp) (by simpa using k0.lt) ⟨⟨rf, _, rfl, rfl, k0, rfl⟩, ⟨rf, _, rfl, rfl, k1, rfl⟩, trivial⟩
  have ok := hX m hm
  have h := betw_path (b := kpB fn fd m) (CmpT_ok ok.n ok.d ht.n ht.d ok.ok ht.ok) rfl
  exact (h W (boxesL [rf]) [meetV m, ptr rf] H (boxesL_dom [rf]) ⟨rfl, ⟨rf, rfl, rfl⟩, trivial⟩).mono fun e w' ⟨v, β', he, _, hx, hh, _⟩ => ⟨by rw [he, show v = _ from hx], hh.gr⟩

/-- What is known of the pairs of a list: which meet, and when. -/
structure Meets (l : List Pt) (f : Pt × Pt → Option Mt) : Prop where
  len : l.length ≤ 1000000
  run : ∀ x ∈ pairsOf l, (f x = none ∧ Pure Tryz.prog 161 #[ptV x.1, ptV x.2] (.tuple #[ratioV 0 0, .int .i64 6])) ∨ ∃ n d, f x = some ⟨n, d, x.1.id, x.2.id⟩ ∧ Pure Tryz.prog 161 #[ptV x.1, ptV x.2] (.tuple #[ratioV n d, .int .i64 0])
  ok : ∀ m ∈ (pairsOf l).filterMap f, MtOk m
def bkF (l : List Pt) (u : Value) (rb : Nat) : Nat → Prop := fun b => b = rb ∨ (ptsV l ≠ [] ∧ u.ownBlock = some b)
theorem meets_at {w : World} {rb : Nat} {u : Value} {l : List Pt} {f : Pt × Pt → Option Mt} (hM : Meets l f) (cb : Cel w rb 0 u) (hr : Rd w 3 u l.length (ptsV l)) {B : Nat → Prop} (h1 : B rb) (h2 : ptsV l ≠ [] → ∀ k, u.ownBlock = some k → B k) (hB : ∀ b, B b → b < w.heap.size) :
    SeqC Tryz.prog 159 #[ptr rb] (((pairsOf l).filterMap f).map mA) B w := meets_seq cb.1 cb.2 hr h1 h2 hB hM.len hM.run
def bkA (l : List Pt) (u : Value) (rb rf ra rk : Nat) : Nat → Prop := fun b => (bkF l u rb b ∨ b = rf) ∨ b = ra ∨ b = rk
theorem bkF_lt {w : World} {rb : Nat} {u : Value} {l : List Pt} (cb : Cel w rb 0 u) (hr : Rd w 3 u l.length (ptsV l)) : ∀ b, bkF l u rb b → b < w.heap.size := fun b h => by
  rcases h with rfl | ⟨hx, h⟩
  · exact cb.lt
  · exact hr.lt hx b h
theorem after_at {w : World} {rb rf ra rk : Nat} {u : Value} {l : List Pt} {f : Pt × Pt → Option Mt} {fn fd : Int} (hM : Meets l f) (ht : TmOk fn fd) (cb : Cel w rb 0 u) (hr : Rd w 3 u l.length (ptsV l)) (c0 : Cel w rf 0 (.int .i64 fn)) (c1 : Cel w rf 1 (.int .i64 fd))
    (ca : Cel w ra 0 (fv 159 #[ptr rb])) (ck : Cel w rk 0 (fv 124 #[ptr rf])) (hne : ra ≠ rk) :
    SeqC Tryz.prog 122 #[ptr ra, ptr rk] ((((pairsOf l).filterMap f).filter (kpA fn fd)).map mA) (bkA l u rb rf ra rk) w := by
  have hB : ∀ b, (bkF l u rb b ∨ b = rf) → b < w.heap.size := fun b h => by
    rcases h with h | rfl
    · exact bkF_lt cb hr b h
    · exact c0.lt
  exact only_seq ca.1 ca.2 ck.1 ck.2 hne (by kernel_rfl) (by kernel_rfl) (meets_at hM cb hr (B := fun b => bkF l u rb b ∨ b = rf) (Or.inl (Or.inl rfl)) (fun hx k hk => Or.inl (Or.inr ⟨hx, hk⟩)) hB) (keep_after c0 c1 (Or.inr rfl) hM.ok ht) hB
def bkB (l : List Pt) (u : Value) (rb rf ra rk rt rc rj : Nat) : Nat → Prop := fun b => (bkA l u rb rf ra rk b ∨ b = rt) ∨ b = rc ∨ b = rj
theorem betw_at {w : World} {rb rf ra rk rt rc rj : Nat} {u : Value} {l : List Pt} {f : Pt × Pt → Option Mt} {fn fd tn td : Int} (hM : Meets l f) (ht : TmOk fn fd) (hs : TmOk tn td) (cb : Cel w rb 0 u) (hr : Rd w 3 u l.length (ptsV l)) (c0 : Cel w rf 0 (.int .i64 fn)) (c1 : Cel w rf 1 (.int .i64 fd))
    (ca : Cel w ra 0 (fv 159 #[ptr rb])) (ck : Cel w rk 0 (fv 124 #[ptr rf])) (hne : ra ≠ rk)
    (d0 : Cel w rt 0 (.int .i64 tn)) (d1 : Cel w rt 1 (.int .i64 td)) (cc : Cel w rc 0 (fv 122 #[ptr ra, ptr rk])) (cj : Cel w rj 0 (fv 84 #[ptr rt])) (hne2 : rc ≠ rj) :
    SeqC Tryz.prog 122 #[ptr rc, ptr rj] (((((pairsOf l).filterMap f).filter (kpA fn fd)).filter (kpB tn td)).map mA) (bkB l u rb rf ra rk rt rc rj) w := by
  have hA : ∀ b, bkA l u rb rf ra rk b → b < w.heap.size := fun b h => by
    rcases h with (h | rfl) | rfl | rfl
    · exact bkF_lt cb hr b h
    · exact c0.lt
    · exact ca.lt
    · exact ck.lt
  have hB : ∀ b, (bkA l u rb rf ra rk b ∨ b = rt) → b < w.heap.size := fun b h => by
    rcases h with h | rfl
    · exact hA b h
    · exact d0.lt
  have hin : SeqC Tryz.prog 122 #[ptr ra, ptr rk] ((((pairsOf l).filterMap f).filter (kpA fn fd)).map mA) (fun b => bkA l u rb rf ra rk b ∨ b = rt) w := by
    intro y M J W hK hMM
    exact after_at hM ht cb hr c0 c1 ca ck hne y M J W (hK.mono fun i _ h => Or.inl h) (fun b hb => ⟨(hMM b hb).1, fun h => (hMM b hb).2 (Or.inl h)⟩)
  exact only_seq cc.1 cc.2 cj.1 cj.2 hne2 (by kernel_rfl) (by kernel_rfl) hin (keep_betw d0 d1 (Or.inr rfl) (fun m hm => hM.ok m ((List.mem_filter.1 hm).1)) hs) hB
end Go.Proofs.YtpngjeloiifgnaaGreat

namespace Go.Proofs.YtpngjeloiifgnaaGreat
open Go.RowKit
section
variable (l : List Pt) (fn fd tn td : Int)
end
theorem info_of {t : TypeId} {n : Nat} (h : (Tryz.prog.info? t).map (fun i => i.size) = some n) : ∃ i, Tryz.prog.info? t = some i ∧ i.size = n := by
  cases hi : Tryz.prog.info? t with
  | none => rw [hi] at h; cases h
  | some i => rw [hi] at h; exact ⟨i, rfl, by simpa using h⟩
theorem lt_of_lookup {W0 : World} {lo : Nat} {β : Bl} {hp : List (Nat × Nat × SV)} {w : World} (H : HRel W0 lo β hp w) {b o : Nat} {s : SV} (h : lookH hp b o = some s) (hs : s.isRow = false) : ∃ r, β b = some r := by
  obtain ⟨r, u, h1, _⟩ := H.cells b o s h hs
  exact ⟨r, h1⟩
end Go.Proofs.YtpngjeloiifgnaaGreat

namespace Go.Proofs.YtpngjeloiifgnaaGreat
open Go.RowKit
def z0 : Mt := ⟨0, 0, 0, 0⟩
section
variable (av : Value) (go : FuncId) (m b : Mt)
end
end Go.Proofs.YtpngjeloiifgnaaGreat

namespace Go.Proofs.YtpngjeloiifgnaaGreat
open Go.RowKit
structure MCel (w : World) (r : Nat) (m : Mt) : Prop where
  c0 : Cel w r 0 (.int .i64 m.n)
  c1 : Cel w r 1 (.int .i64 m.d)
  c2 : Cel w r 2 (.int .i64 m.i)
  c3 : Cel w r 3 (.int .i64 m.j)
theorem MCel.keep {S : Nat → Prop} {w w' : World} {r : Nat} {m : Mt} (h : MCel w r m) (k : Keep S w w') (hs : S r) : MCel w' r m := ⟨h.c0.keep k hs, h.c1.keep k hs, h.c2.keep k hs, h.c3.keep k hs⟩
theorem MCel.gr {w w' : World} {r : Nat} {m : Mt} (h : MCel w r m) (k : Gr w w') : MCel w' r m := h.keep (Keep.of_gr k (fun _ => True)) trivial
theorem MCel.lt {w : World} {r : Nat} {m : Mt} (h : MCel w r m) : r < w.heap.size := h.c0.lt
theorem MCel.us {w : World} {r : Nat} {m : Mt} (h : MCel w r m) : ∀ j u, [Value.int .i64 m.n, .int .i64 m.d, .int .i64 m.i, .int .i64 m.j][j]? = some u → Cel w r (0 + j) u := fun j u hj => by
  match j, hj with
  | 0, hj => cases hj; exact h.c0
  | 1, hj => cases hj; exact h.c1
  | 2, hj => cases hj; exact h.c2
  | 3, hj => cases hj; exact h.c3
  | j + 4, hj => simp at hj
theorem MCel.set {w : World} {r : Nat} {b : Mt} (h : MCel w r b) (m : Mt) : MCel (w.setCells r 0 [.int .i64 m.n, .int .i64 m.d, .int .i64 m.i, .int .i64 m.j]) r m := by
  have key : ∀ j v, [Value.int .i64 m.n, .int .i64 m.d, .int .i64 m.i, .int .i64 m.j][j]? = some v → Cel (w.setCells r 0 [.int .i64 m.n, .int .i64 m.d, .int .i64 m.i, .int .i64 m.j]) r (0 + j) v :=
    fun j v hj => cel_set (us := [.int .i64 b.n, .int .i64 b.d, .int .i64 b.i, .int .i64 b.j]) h.us (by simp) hj
  exact ⟨key 0 _ rfl, key 1 _ rfl, key 2 _ rfl, key 3 _ rfl⟩
section
variable {w6 : World} {df : List Deferred} {rb rf r1 : Nat} {b : Mt} {fd s0 s1 s2 : Bool} {a : Act} {w : World} {Q : Exit → Act → World → Prop} {K : Act → World → Prop}
end
end Go.Proofs.YtpngjeloiifgnaaGreat

namespace Go.Proofs.YtpngjeloiifgnaaGreat
open Go.RowKit
def cI (x y : Int) : Int := if x < y then -1 else if x > y then 1 else 0
def ordM (a b : Mt) : Int := if (a.n * b.d - b.n * a.d).sign ≠ 0 then (a.n * b.d - b.n * a.d).sign else if cI a.i b.i ≠ 0 then cI a.i b.i else cI a.j b.j
set_option maxRecDepth 100000 in
theorem nan_int (x : Int) : Pure Tryz.prog 125 #[.int .i64 x] (.bool false) :=
  pure_run (args := [.int .i64 x]) 100 [.t false] (And.intro rfl (And.intro (show (x != x) = false by simp) True.intro)) (by kernel_rfl)
set_option maxRecDepth 100000 in
theorem cmpI_lt {x y : Int} (h : decide (x < y) = true) : Pure Tryz.prog 86 #[.int .i64 x, .int .i64 y] (.int .i64 (-1)) :=
  pure_run (args := [.int .i64 x, .int .i64 y]) 100 [.r (.bool false), .r (.bool false), .t true] (And.intro rfl (And.intro (nan_int x) (And.intro (nan_int y) (And.intro h True.intro)))) (by kernel_rfl)
set_option maxRecDepth 100000 in
theorem cmpI_gt {x y : Int} (h : decide (x < y) = false) (h2 : decide (x > y) = true) : Pure Tryz.prog 86 #[.int .i64 x, .int .i64 y] (.int .i64 1) :=
  pure_run (args := [.int .i64 x, .int .i64 y]) 100 [.r (.bool false), .r (.bool false), .t false, .t true] (And.intro rfl (And.intro (nan_int x) (And.intro (nan_int y) (And.intro h (And.intro h2 True.intro))))) (by kernel_rfl)
set_option maxRecDepth 100000 in
theorem cmpI_eq {x y : Int} (h : decide (x < y) = false) (h2 : decide (x > y) = false) : Pure Tryz.prog 86 #[.int .i64 x, .int .i64 y] (.int .i64 0) :=
  pure_run (args := [.int .i64 x, .int .i64 y]) 100 [.r (.bool false), .r (.bool false), .t false, .t false] (And.intro rfl (And.intro (nan_int x) (And.intro (nan_int y) (And.intro h (And.intro h2 True.intro))))) (by kernel_rfl)
theorem cmpI_any (x y : Int) : Pure Tryz.prog 86 #[.int .i64 x, .int .i64 y] (.int .i64 (cI x y)) := by
  unfold cI
  by_cases h : x < y
  · rw [if_pos h]; exact cmpI_lt (decide_eq_true h)
  · rw [if_neg h]
    by_cases h2 : x > y
    · rw [if_pos h2]; exact cmpI_gt (decide_eq_false h) (decide_eq_true h2)
    · rw [if_neg h2]; exact cmpI_eq (decide_eq_false h) (decide_eq_false h2)
section
variable {a b : Mt} {k c1 c2 : Int}
set_option maxRecDepth 100000 in
theorem io_1 (h : Pure Tryz.prog 79 #[ratioV a.n a.d, ratioV b.n b.d] (.int .i64 k)) (h1 : Pure Tryz.prog 86 #[.int .i64 a.i, .int .i64 b.i] (.int .i64 c1)) (h2 : Pure Tryz.prog 86 #[.int .i64 a.j, .int .i64 b.j] (.int .i64 c2)) (hk : (k != 0) = true) :
    Pure Tryz.prog 37 #[meetV a, meetV b] (.int .i64 k) :=
  pure_run (args := [meetV a, meetV b]) 200 [.r (.int .i64 k), .r (.int .i64 c1), .r (.int .i64 c2), .k, .k, .t true] (And.intro rfl (And.intro h (And.intro h1 (And.intro h2 (And.intro hk True.intro))))) (by kernel_rfl)
set_option maxRecDepth 100000 in
theorem io_2 (h : Pure Tryz.prog 79 #[ratioV a.n a.d, ratioV b.n b.d] (.int .i64 0)) (h1 : Pure Tryz.prog 86 #[.int .i64 a.i, .int .i64 b.i] (.int .i64 c1)) (h2 : Pure Tryz.prog 86 #[.int .i64 a.j, .int .i64 b.j] (.int .i64 c2)) (hk : (c1 != 0) = true) :
    Pure Tryz.prog 37 #[meetV a, meetV b] (.int .i64 c1) :=
  pure_run (args := [meetV a, meetV b]) 200 [.r (.int .i64 0), .r (.int .i64 c1), .r (.int .i64 c2), .k, .k, .k, .k, .k, .t true] (And.intro rfl (And.intro h (And.intro h1 (And.intro h2 (And.intro hk True.intro))))) (by kernel_rfl)
set_option maxRecDepth 100000 in
theorem io_3 (h : Pure Tryz.prog 79 #[ratioV a.n a.d, ratioV b.n b.d] (.int .i64 0)) (h1 : Pure Tryz.prog 86 #[.int .i64 a.i, .int .i64 b.i] (.int .i64 0)) (h2 : Pure Tryz.prog 86 #[.int .i64 a.j, .int .i64 b.j] (.int .i64 c2)) (hk : (c2 != 0) = true) :
    Pure Tryz.prog 37 #[meetV a, meetV b] (.int .i64 c2) :=
  pure_run (args := [meetV a, meetV b]) 200 [.r (.int .i64 0), .r (.int .i64 0), .r (.int .i64 c2), .k, .k, .k, .k, .k, .k, .k, .k, .t true] (And.intro rfl (And.intro h (And.intro h1 (And.intro h2 (And.intro hk True.intro))))) (by kernel_rfl)
set_option maxRecDepth 100000 in
theorem io_4 (h : Pure Tryz.prog 79 #[ratioV a.n a.d, ratioV b.n b.d] (.int .i64 0)) (h1 : Pure Tryz.prog 86 #[.int .i64 a.i, .int .i64 b.i] (.int .i64 0)) (h2 : Pure Tryz.prog 86 #[.int .i64 a.j, .int .i64 b.j] (.int .i64 0)) :
    Pure Tryz.prog 37 #[meetV a, meetV b] (.int .i64 0) :=
  pure_run (args := [meetV a, meetV b]) 200 [.r (.int .i64 0), .r (.int .i64 0), .r (.int .i64 0), .k, .k, .k, .k, .k, .k, .k, .k, .k, .k, .k] (And.intro rfl (And.intro h (And.intro h1 (And.intro h2 True.intro)))) (by kernel_rfl)
end
theorem ord_pure {a b : Mt} (ha : MtOk a) (hb : MtOk b) : Pure Tryz.prog 37 #[meetV a, meetV b] (.int .i64 (ordM a b)) := by
  have h := CmpT_ok ha.n ha.d hb.n hb.d ha.ok hb.ok
  have h1 := cmpI_any a.i b.i
  have h2 := cmpI_any a.j b.j
  unfold ordM
  by_cases g : (a.n * b.d - b.n * a.d).sign = 0
  · rw [if_neg (fun k => k g)]
    rw [g] at h
    by_cases g1 : cI a.i b.i = 0
    · rw [if_neg (fun k => k g1)]
      rw [g1] at h1
      by_cases g2 : cI a.j b.j = 0
      · rw [g2] at h2 ⊢; exact io_4 h h1 h2
      · exact io_3 h h1 h2 (by simpa using g2)
    · rw [if_pos g1]; exact io_2 h h1 h2 (by simpa using g1)
  · rw [if_pos g]; exact io_1 h h1 h2 (by simpa using g)
abbrev inV : Value := fv 37 #[]
theorem row_g {W0 : World} {lo : Nat} {β : Bl} {hp : List (Nat × Nat × SV)} {w : World} (H : HRel W0 lo β hp w) {b o : Nat} {l : List Pt} (h : lookH hp b o = some (rowP l)) : ∃ u, β.g b = some u := by
  obtain ⟨u, h1, _⟩ := H.rows _ _ _ _ _ _ h
  exact ⟨u, h1⟩
end Go.Proofs.YtpngjeloiifgnaaGreat

namespace Go.Proofs.YtpngjeloiifgnaaGreat
open Go.RowKit
/-- The meeting of two points that meet. -/
structure MSpec (p q : Pt) (m : Mt) : Prop where
  n : I64 m.n
  d : I64 m.d
  ok : okB m.n m.d = true
  eq : m.n * (p.b - q.b) = (q.a - p.a) * m.d
  i : m.i = p.id
  j : m.j = q.id
  run : Pure Tryz.prog 147 #[ptV p, ptV q] (ratioV m.n m.d)
noncomputable def fM (x : Pt × Pt) : Option Mt := open Classical in if x.1.b = x.2.b then none else if h : ∃ m, MSpec x.1 x.2 m then some h.choose else none
theorem fM_same {x : Pt × Pt} (h : x.1.b = x.2.b) : fM x = none := by unfold fM; rw [if_pos h]
theorem fM_diff {x : Pt × Pt} (h1 : okPt x.1 = true) (h2 : okPt x.2 = true) (h : x.1.b ≠ x.2.b) : ∃ m, fM x = some m ∧ MSpec x.1 x.2 m := by
  have hex : ∃ m, MSpec x.1 x.2 m := by
    obtain ⟨n, d, k1, k2, k3, k4, k5, _⟩ := meeting_both h1 h2 h
    exact ⟨⟨n, d, x.1.id, x.2.id⟩, k2, k3, k1, k4, rfl, rfl, k5⟩
  unfold fM
  rw [if_neg h, dif_pos hex]
  exact ⟨_, rfl, hex.choose_spec⟩
theorem up_tail {p : Pt} {r : List Pt} (h : Up (p :: r)) : Up r := fun k a b h1 h2 => h (k + 1) a b (by simpa using h1) (by simpa using h2)
theorem pairs_mem {l : List Pt} {x : Pt × Pt} (h : x ∈ pairsOf l) : x.1 ∈ l ∧ x.2 ∈ l := by
  induction l with
  | nil => cases h
  | cons p r ih =>
    rw [pairsOf] at h
    rcases List.mem_append.1 h with h | h
    · obtain ⟨q, hq, rfl⟩ := List.mem_map.1 h
      exact ⟨List.mem_cons_self, List.mem_cons_of_mem _ hq⟩
    · exact ⟨List.mem_cons_of_mem _ (ih h).1, List.mem_cons_of_mem _ (ih h).2⟩
theorem pairs_lt {l : List Pt} (hu : Up l) {x : Pt × Pt} (h : x ∈ pairsOf l) : x.1.id < x.2.id := by
  induction l with
  | nil => cases h
  | cons p r ih =>
    rw [pairsOf] at h
    rcases List.mem_append.1 h with h | h
    · obtain ⟨q, hq, rfl⟩ := List.mem_map.1 h
      obtain ⟨k, hk, rfl⟩ := List.getElem_of_mem hq
      exact hu.mono (i := 0) (j := k + 1) (by omega) rfl (by simp [hk])
    · exact ih (up_tail hu) h
theorem fM_any {l : List Pt} (hv : Val l) {x : Pt × Pt} (h : x ∈ pairsOf l) : (x.1.b = x.2.b ∧ fM x = none) ∨ (x.1.b ≠ x.2.b ∧ ∃ m, fM x = some m ∧ MSpec x.1 x.2 m) := by
  by_cases hb : x.1.b = x.2.b
  · exact Or.inl ⟨hb, fM_same hb⟩
  · exact Or.inr ⟨hb, fM_diff (hv.ok _ (pairs_mem h).1) (hv.ok _ (pairs_mem h).2) hb⟩
/-- All meetings, pair by pair. -/
noncomputable abbrev msOf (l : List Pt) : List Mt := (pairsOf l).filterMap fM
theorem ms_mem {l : List Pt} (hv : Val l) {m : Mt} (h : m ∈ msOf l) : ∃ x ∈ pairsOf l, MSpec x.1 x.2 m ∧ x.1.b ≠ x.2.b := by
  obtain ⟨x, hx, e⟩ := List.mem_filterMap.1 h
  rcases fM_any hv hx with ⟨_, h1⟩ | ⟨hb, m', h1, h2⟩
  · rw [h1] at e; cases e
  · rw [h1] at e; cases e; exact ⟨x, hx, h2, hb⟩
theorem ms_ok {l : List Pt} (hv : Val l) : ∀ m ∈ msOf l, MtOk m := fun m h => by
  obtain ⟨x, _, h2, _⟩ := ms_mem hv h
  exact ⟨h2.n, h2.d, h2.ok⟩
theorem meets_val {l : List Pt} (hv : Val l) : Meets l fM where
  len := by have := hv.len; omega
  run := fun x hx => by
    have o1 := hv.ok _ (pairs_mem hx).1
    have o2 := hv.ok _ (pairs_mem hx).2
    have hlt := pairs_lt hv.up hx
    rcases fM_any hv hx with ⟨hb, h⟩ | ⟨hb, m, h, hm⟩
    · refine Or.inl ⟨h, ?_⟩
      have := Meet_same (pi := x.1.id) (pa := x.1.a) (qi := x.2.id) (qa := x.2.a) (b := x.1.b) o1 (by rw [hb]; exact o2) (by omega)
      rw [show ptV x.2 = pointV x.2.id x.2.a x.1.b by rw [hb]]
      exact this
    · refine Or.inr ⟨m.n, m.d, ?_, Meet_diff o1 o2 (by omega) hb hm.run⟩
      rw [h, ← hm.i, ← hm.j]
  ok := ms_ok hv

end Go.Proofs.YtpngjeloiifgnaaGreat

namespace Go.Proofs.YtpngjeloiifgnaaGreat
open Go.RowKit
abbrev mcV (m : Mt) : List Value := [.int .i64 m.n, .int .i64 m.d, .int .i64 m.i, .int .i64 m.j]
def msV : List Mt → List Value
  | [] => []
  | m :: r => .int .i64 m.n :: .int .i64 m.d :: .int .i64 m.i :: .int .i64 m.j :: msV r
theorem msV_append : ∀ (a b : List Mt), msV (a ++ b) = msV a ++ msV b
  | [], _ => rfl
  | p :: r, b => by simp [msV, msV_append r b]
theorem msV_length : ∀ (l : List Mt), (msV l).length = l.length * 4
  | [] => rfl
  | p :: r => by simp [msV, msV_length r]; omega
theorem msV_get : ∀ {l : List Mt} {k : Nat} {m : Mt}, l[k]? = some m → (msV l)[k * 4]? = some (.int .i64 m.n) ∧ (msV l)[k * 4 + 1]? = some (.int .i64 m.d) ∧ (msV l)[k * 4 + 2]? = some (.int .i64 m.i) ∧ (msV l)[k * 4 + 3]? = some (.int .i64 m.j)
  | [], k, p, h => by simp at h
  | q :: r, 0, p, h => by simp at h; subst h; exact ⟨rfl, rfl, rfl, rfl⟩
  | q :: r, k + 1, p, h => by
    have := msV_get (l := r) (k := k) (m := p) (by simpa using h)
    rw [show (k + 1) * 4 = k * 4 + 1 + 1 + 1 + 1 by omega]
    exact this
abbrev rowM (l : List Mt) : SV := .row 47 4 l.length (msV l)
def befB (a b : Mt) : Bool := if (a.n * b.d - b.n * a.d).sign = 0 then (if a.i = b.i then decide (a.j < b.j) else decide (a.i < b.i)) else decide ((a.n * b.d - b.n * a.d).sign < 0)
section
variable {a b : Mt} {c : Int} {t : Bool}
end
/-- Into a list, the last one first. -/
def insD (x : Mt) : List Mt → List Mt
  | [] => [x]
  | a :: R => if befB x a = true then a :: insD x R else x :: a :: R
theorem insD_len (x : Mt) : ∀ (R : List Mt), (insD x R).length = R.length + 1
  | [] => rfl
  | a :: R => by
    unfold insD
    split
    · simp [insD_len x R]
    · rfl
def sortD (S : List Mt) (C : List Mt) : List Mt := C.foldl (fun S x => insD x S) S
theorem insD_mem {x y : Mt} : ∀ {R : List Mt}, y ∈ insD x R ↔ y = x ∨ y ∈ R
  | [] => by simp [insD]
  | a :: R => by
    unfold insD
    split
    · rw [List.mem_cons, insD_mem, List.mem_cons]; constructor <;> rintro (h | h | h) <;> simp [h]
    · simp
/-- All meetings of a valid field, in order. -/
noncomputable def srt (l : List Pt) : List Mt := (sortD [] (msOf l)).reverse
theorem sortD_len : ∀ (C S : List Mt), (sortD S C).length = S.length + C.length
  | [], S => rfl
  | x :: C, S => by
    show (sortD (insD x S) C).length = _
    rw [sortD_len C, insD_len, List.length_cons]; omega
theorem srt_len (l : List Pt) : (srt l).length = (msOf l).length := by
  unfold srt
  rw [List.length_reverse, sortD_len]; simp
theorem pairs_len : ∀ (l : List Pt), (pairsOf l).length ≤ l.length * l.length
  | [] => Nat.le_refl _
  | p :: r => by
    have := pairs_len r
    rw [pairsOf, List.length_append, List.length_map, List.length_cons, Nat.add_mul, Nat.mul_add]
    omega
theorem ms_len {l : List Pt} (hv : Val l) : (msOf l).length ≤ 4096 := by
  refine Nat.le_trans (List.length_filterMap_le _ _) (Nat.le_trans (pairs_len l) ?_)
  exact Nat.mul_le_mul hv.len hv.len
end Go.Proofs.YtpngjeloiifgnaaGreat

namespace Go.Proofs.YtpngjeloiifgnaaGreat
open Go.RowKit
set_option maxRecDepth 100000 in
theorem ti_field {l : List Pt} {fn fd tn td : Int} {e : Int} (hc : FnL Tryz.prog 24 1 [fldS 0 l] [(0, 0, rowP l)] (.pv (.int .i64 (e))) 0 []) (he : (e != 0) = true) :
    FnL Tryz.prog 10 1 [fldS 0 l, .pv (ratioV fn fd), .pv (ratioV tn td)] [(0, 0, rowP l)] (.pv (.int .i64 (e))) 0 [] :=
  fnl_run 300 [] [.f [0] [fldS 0 l] [(0, 0, rowP l)] (.pv (.int .i64 (e))) 0 [], .t true]
     True.intro (And.intro hc (And.intro (Eq.refl (List.map (SV.ren (renU [0] 4)) [fldS 0 l])) (And.intro (reflH (renU [0] 4) [(0, 0, rowP l)]) (And.intro he True.intro)))) (by kernel_rfl)

set_option maxRecDepth 100000 in
theorem ti_bad {l : List Pt} {fn fd tn td : Int} (hc : FnL Tryz.prog 24 1 [fldS 0 l] [(0, 0, rowP l)] (.pv (.int .i64 (0))) 0 []) (hb : Pure Tryz.prog 28 #[ratioV fn fd, ratioV tn td] (.int .i64 (8))) :
    FnL Tryz.prog 10 1 [fldS 0 l, .pv (ratioV fn fd), .pv (ratioV tn td)] [(0, 0, rowP l)] (.pv (.int .i64 (8))) 0 [] :=
  fnl_run 300 [] [.f [0] [fldS 0 l] [(0, 0, rowP l)] (.pv (.int .i64 (0))) 0 [], .k, .r (.int .i64 (8)), .k]
     True.intro (And.intro hc (And.intro (Eq.refl (List.map (SV.ren (renU [0] 4)) [fldS 0 l])) (And.intro (reflH (renU [0] 4) [(0, 0, rowP l)]) (And.intro hb True.intro)))) (by kernel_rfl)

set_option maxRecDepth 100000 in
theorem ti_arg {l : List Pt} {fn fd tn td : Int} {c : Int} (hc : FnL Tryz.prog 24 1 [fldS 0 l] [(0, 0, rowP l)] (.pv (.int .i64 (0))) 0 []) (hb : Pure Tryz.prog 28 #[ratioV fn fd, ratioV tn td] (.int .i64 (0))) (hk : Pure Tryz.prog 29 #[ratioV fn fd, ratioV tn td] (.int .i64 (c))) (ht : decide (c > 0) = true) :
    FnL Tryz.prog 10 1 [fldS 0 l, .pv (ratioV fn fd), .pv (ratioV tn td)] [(0, 0, rowP l)] (.pv (.int .i64 (2))) 0 [] :=
  fnl_run 300 [] [.f [0] [fldS 0 l] [(0, 0, rowP l)] (.pv (.int .i64 (0))) 0 [], .k, .r (.int .i64 (0)), .k, .r (.int .i64 (c)), .t true]
     True.intro (And.intro hc (And.intro (Eq.refl (List.map (SV.ren (renU [0] 4)) [fldS 0 l])) (And.intro (reflH (renU [0] 4) [(0, 0, rowP l)]) (And.intro hb (And.intro hk (And.intro ht True.intro)))))) (by kernel_rfl)

set_option maxRecDepth 100000 in
theorem ti_ok {l : List Pt} {fn fd tn td : Int} {c : Int} (hc : FnL Tryz.prog 24 1 [fldS 0 l] [(0, 0, rowP l)] (.pv (.int .i64 (0))) 0 []) (hb : Pure Tryz.prog 28 #[ratioV fn fd, ratioV tn td] (.int .i64 (0))) (hk : Pure Tryz.prog 29 #[ratioV fn fd, ratioV tn td] (.int .i64 (c))) (ht : decide (c > 0) = false) :
    FnL Tryz.prog 10 1 [fldS 0 l, .pv (ratioV fn fd), .pv (ratioV tn td)] [(0, 0, rowP l)] (.pv (.int .i64 (0))) 0 [] :=
  fnl_run 300 [] [.f [0] [fldS 0 l] [(0, 0, rowP l)] (.pv (.int .i64 (0))) 0 [], .k, .r (.int .i64 (0)), .k, .r (.int .i64 (c)), .t false]
     True.intro (And.intro hc (And.intro (Eq.refl (List.map (SV.ren (renU [0] 4)) [fldS 0 l])) (And.intro (reflH (renU [0] 4) [(0, 0, rowP l)]) (And.intro hb (And.intro hk (And.intro ht True.intro)))))) (by kernel_rfl)

end Go.Proofs.YtpngjeloiifgnaaGreat
