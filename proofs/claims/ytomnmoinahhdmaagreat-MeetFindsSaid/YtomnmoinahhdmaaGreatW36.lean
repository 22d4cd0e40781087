/-
  Joined: Fn, Me, Mf, Fr, Fs. Conditions: none.
-/
import Derived.Test.YtomnmoinahhdmaaGreatFm
import Derived.Test.YtomnmoinahhdmaaGreatW30
import Derived.Test.YtomnmoinahhdmaaGreatMc
import Derived.Test.YtomnmoinahhdmaaGreatMd
import Derived.Test.YtomnmoinahhdmaaGreatSxU
import Derived.Test.YtomnmoinahhdmaaGreatW29
import Derived.Test.YtomnmoinahhdmaaGreatW24
namespace Go.Proofs.YtomnmoinahhdmaaGreat
open Go.RowKit
theorem Great_any (l : List Pt) : (¬ (l.length ≤ 16 ∨ 64 ≤ l.length ∧ l.length ≤ 70) ∧ FnL Tryz.prog 27 1 [fldS 0 l] [(0, 0, rowP l)] (.pv (.bool true)) 0 []) ∨
    ((l.length ≤ 16 ∨ 64 ≤ l.length ∧ l.length ≤ 70) ∧ FnL Tryz.prog 27 1 [fldS 0 l] [(0, 0, rowP l)] (.pv (.bool false)) 0 []) := by
  by_cases h1 : l.length > 16
  · by_cases h2 : l.length < 64
    · exact Or.inl ⟨by omega, great_t (dt (by omega)) (dt (by omega))⟩
    · by_cases h3 : l.length > 70
      · exact Or.inl ⟨by omega, great_t2 (dt (by omega)) (df (by omega)) (dt (by omega))⟩
      · exact Or.inr ⟨by omega, great_f2 (dt (by omega)) (df (by omega)) (df (by omega))⟩
  · exact Or.inr ⟨by omega, great_f (df (by omega)) (df (by omega))⟩
theorem Twin_any {l : List Pt} (hn : l.length ≤ 1000000) : FnL Tryz.prog 8 1 [fldS 0 l] [(0, 0, rowP l)] (.ag [.ls 1 l.length]) 1 [(1, 0, rowP l)] := twin_path (by omega)
abbrev FindIs (f : FuncId) (l : List Pt) (id : Int) (p : Pt) (e : Int) : Prop := FnL Tryz.prog f 1 [fldS 0 l, .pv (.int .i64 id)] [(0, 0, rowP l)] (.pv (.tuple #[ptV p, .int .i64 e])) 0 []
theorem take_succ {α : Type} {l : List α} {k : Nat} {p : α} (h : l[k]? = some p) : l.take (k + 1) = l.take k ++ [p] := by rw [List.take_add_one, h]; rfl
abbrev saT (k : Nat) : List (Nat × SV) := [(2, .pp 2 0), (3, .pp 3 0), (5, .pv (.int .i64 (k : Int)))]
theorem Same_ok {l : List Pt} (hn : l.length ≤ 1000000) : FnL Tryz.prog 16 2 [fldS 0 l, fldS 1 l] [(0, 0, rowP l), (1, 0, rowP l)] (.pv (.bool true)) 0 [] :=
  same_yes (by simp) (RunsL.rounds saT (fun _ => [(2, 0, .ls 0 l.length), (3, 0, .ls 1 l.length), (0, 0, rowP l), (1, 0, rowP l)]) l.length 0 (Nat.zero_add _)
    (fun k _ hk r => by
      obtain ⟨p, hp⟩ := get_some hk
      exact same_next hp (in_of hk) hp (in_of hk) (dt (by omega)) (by simp) (i64_succ (by omega)) r)
    (same_end (df (by omega))))
end Go.Proofs.YtomnmoinahhdmaaGreat

namespace Go.Proofs.YtomnmoinahhdmaaGreat
open Go.RowKit
set_option maxRecDepth 100000 in
theorem cmpT_path {an ad bn bd k e : Int} (h : Pure Tryz.prog 79 #[ratioV an ad, ratioV bn bd] (.tuple #[.int .i64 k, .int .i64 e])) : Pure Tryz.prog 82 #[ratioV an ad, ratioV bn bd] (.int .i64 k) :=
  pure_run (args := [ratioV an ad, ratioV bn bd]) 200 [.r (.tuple #[.int .i64 k, .int .i64 e])] (And.intro rfl (And.intro h True.intro)) (by kernel_rfl)

set_option maxRecDepth 100000 in
theorem cb_field {l : List Pt} {fn fd tn td : Int} {e : Int} (hc : FnL Tryz.prog 60 1 [fldS 0 l] [(0, 0, rowP l)] (.pv (.int .i64 (e))) 0 []) (he : (e != 0) = true) :
    FnL Tryz.prog 37 1 [fldS 0 l, .pv (ratioV fn fd), .pv (ratioV tn td)] [(0, 0, rowP l)] (.pv (.int .i64 (e))) 0 [] :=
  fnl_run 300 [] [.k, .f [0] [fldS 0 l] [(0, 0, rowP l)] (.pv (.int .i64 (e))) 0 [], .t true, .t true]
     True.intro (And.intro hc (And.intro (Eq.refl (List.map (SV.ren (renU [0] 6)) [fldS 0 l])) (And.intro (reflH (renU [0] 6) [(0, 0, rowP l)]) (And.intro he (And.intro he True.intro))))) (by kernel_rfl)

set_option maxRecDepth 100000 in
theorem cb_from {l : List Pt} {fn fd tn td : Int} (hc : FnL Tryz.prog 60 1 [fldS 0 l] [(0, 0, rowP l)] (.pv (.int .i64 (0))) 0 []) (h1 : Pure Tryz.prog 93 #[ratioV fn fd] (.int .i64 (8))) :
    FnL Tryz.prog 37 1 [fldS 0 l, .pv (ratioV fn fd), .pv (ratioV tn td)] [(0, 0, rowP l)] (.pv (.int .i64 (8))) 0 [] :=
  fnl_run 300 [] [.k, .f [0] [fldS 0 l] [(0, 0, rowP l)] (.pv (.int .i64 (0))) 0 [], .k, .k, .r (.int .i64 (8)), .k, .k]
     True.intro (And.intro hc (And.intro (Eq.refl (List.map (SV.ren (renU [0] 6)) [fldS 0 l])) (And.intro (reflH (renU [0] 6) [(0, 0, rowP l)]) (And.intro h1 True.intro)))) (by kernel_rfl)

set_option maxRecDepth 100000 in
theorem cb_to {l : List Pt} {fn fd tn td : Int} (hc : FnL Tryz.prog 60 1 [fldS 0 l] [(0, 0, rowP l)] (.pv (.int .i64 (0))) 0 []) (h1 : Pure Tryz.prog 93 #[ratioV fn fd] (.int .i64 (0))) (h2 : Pure Tryz.prog 93 #[ratioV tn td] (.int .i64 (8))) :
    FnL Tryz.prog 37 1 [fldS 0 l, .pv (ratioV fn fd), .pv (ratioV tn td)] [(0, 0, rowP l)] (.pv (.int .i64 (8))) 0 [] :=
  fnl_run 300 [] [.k, .f [0] [fldS 0 l] [(0, 0, rowP l)] (.pv (.int .i64 (0))) 0 [], .k, .k, .r (.int .i64 (0)), .k, .k, .k, .r (.int .i64 (8)), .k, .k]
     True.intro (And.intro hc (And.intro (Eq.refl (List.map (SV.ren (renU [0] 6)) [fldS 0 l])) (And.intro (reflH (renU [0] 6) [(0, 0, rowP l)]) (And.intro h1 (And.intro h2 True.intro))))) (by kernel_rfl)

set_option maxRecDepth 100000 in
theorem cb_arg {l : List Pt} {fn fd tn td : Int} {k : Int} (hc : FnL Tryz.prog 60 1 [fldS 0 l] [(0, 0, rowP l)] (.pv (.int .i64 (0))) 0 []) (h1 : Pure Tryz.prog 93 #[ratioV fn fd] (.int .i64 (0))) (h2 : Pure Tryz.prog 93 #[ratioV tn td] (.int .i64 (0))) (h3 : Pure Tryz.prog 82 #[ratioV fn fd, ratioV tn td] (.int .i64 (k))) (hk : decide (k > 0) = true) :
    FnL Tryz.prog 37 1 [fldS 0 l, .pv (ratioV fn fd), .pv (ratioV tn td)] [(0, 0, rowP l)] (.pv (.int .i64 (2))) 0 [] :=
  fnl_run 300 [] [.k, .f [0] [fldS 0 l] [(0, 0, rowP l)] (.pv (.int .i64 (0))) 0 [], .k, .k, .r (.int .i64 (0)), .k, .k, .k, .r (.int .i64 (0)), .k, .k, .k, .k, .r (.int .i64 (k)), .t true]
     True.intro (And.intro hc (And.intro (Eq.refl (List.map (SV.ren (renU [0] 6)) [fldS 0 l])) (And.intro (reflH (renU [0] 6) [(0, 0, rowP l)]) (And.intro h1 (And.intro h2 (And.intro h3 (And.intro hk True.intro))))))) (by kernel_rfl)

set_option maxRecDepth 100000 in
theorem cb_ok {l : List Pt} {fn fd tn td : Int} {k : Int} (hc : FnL Tryz.prog 60 1 [fldS 0 l] [(0, 0, rowP l)] (.pv (.int .i64 (0))) 0 []) (h1 : Pure Tryz.prog 93 #[ratioV fn fd] (.int .i64 (0))) (h2 : Pure Tryz.prog 93 #[ratioV tn td] (.int .i64 (0))) (h3 : Pure Tryz.prog 82 #[ratioV fn fd, ratioV tn td] (.int .i64 (k))) (hk : decide (k > 0) = false) :
    FnL Tryz.prog 37 1 [fldS 0 l, .pv (ratioV fn fd), .pv (ratioV tn td)] [(0, 0, rowP l)] (.pv (.int .i64 (0))) 0 [] :=
  fnl_run 300 [] [.k, .f [0] [fldS 0 l] [(0, 0, rowP l)] (.pv (.int .i64 (0))) 0 [], .k, .k, .r (.int .i64 (0)), .k, .k, .k, .r (.int .i64 (0)), .k, .k, .k, .k, .r (.int .i64 (k)), .t false]
     True.intro (And.intro hc (And.intro (Eq.refl (List.map (SV.ren (renU [0] 6)) [fldS 0 l])) (And.intro (reflH (renU [0] 6) [(0, 0, rowP l)]) (And.intro h1 (And.intro h2 (And.intro h3 (And.intro hk True.intro))))))) (by kernel_rfl)

set_option maxRecDepth 100000 in
theorem after_path {m : Mt} {tn td k : Int} {b : Bool} (h : Pure Tryz.prog 82 #[ratioV m.n m.d, ratioV tn td] (.int .i64 (k))) (hk : decide (k > 0) = b) :
    FnL Tryz.prog 99 1 [.pv (meetV m), .pp 0 0] [(0, 0, .pv (.int .i64 tn)), (0, 1, .pv (.int .i64 td))] (.pv (.bool b)) 0 [] :=
  fnl_run 300 [] [.r (.int .i64 (k)), .t b]
     True.intro (And.intro h (And.intro hk True.intro)) (by kernel_rfl)

set_option maxRecDepth 100000 in
theorem betw_path {m : Mt} {tn td k : Int} {b : Bool} (h : Pure Tryz.prog 82 #[ratioV m.n m.d, ratioV tn td] (.int .i64 (k))) (hk : decide (k ≤ 0) = b) :
    FnL Tryz.prog 86 1 [.pv (meetV m), .pp 0 0] [(0, 0, .pv (.int .i64 tn)), (0, 1, .pv (.int .i64 td))] (.pv (.bool b)) 0 [] :=
  fnl_run 300 [] [.r (.int .i64 (k)), .t b]
     True.intro (And.intro h (And.intro hk True.intro)) (by kernel_rfl)


theorem CmpT_ok {an ad bn bd : Int} (ha : I64 an) (hb : I64 ad) (hc : I64 bn) (hd : I64 bd) (h1 : okB an ad = true) (h2 : okB bn bd = true) : Pure Tryz.prog 82 #[ratioV an ad, ratioV bn bd] (.int .i64 (an * bd - bn * ad).sign) := cmpT_path (Cmp_ok ha hb hc hd h1 h2)
/-- The error of a field and two times. -/
noncomputable def mE (l : List Pt) (fn fd tn td : Int) : Int := if errL l = 0 then (if okB fn fd = true ∧ okB tn td = true then (if fn * td - tn * fd > 0 then 2 else 0) else 8) else errL l
theorem CB_any {fn fd tn td : Int} (h1 : I64 fn) (h2 : I64 fd) (h3 : I64 tn) (h4 : I64 td) (l : List Pt) : FnL Tryz.prog 37 1 [fldS 0 l, .pv (ratioV fn fd), .pv (ratioV tn td)] [(0, 0, rowP l)] (.pv (.int .i64 (mE l fn fd tn td))) 0 [] := by
  unfold mE
  by_cases h0 : errL l = 0
  · rw [if_pos h0]
    have c := PCheck_any l
    rw [h0] at c
    by_cases g1 : okB fn fd = true
    · by_cases g2 : okB tn td = true
      · rw [if_pos ⟨g1, g2⟩]
        have k := CmpT_ok h1 h2 h3 h4 g1 g2
        by_cases g3 : fn * td - tn * fd > 0
        · rw [if_pos g3]
          exact cb_arg c (Check_ok h1 h2 g1) (Check_ok h3 h4 g2) k (dt (by rw [Int.sign_eq_one_of_pos g3]; omega))
        · rw [if_neg g3]
          refine cb_ok c (Check_ok h1 h2 g1) (Check_ok h3 h4 g2) k (df ?_)
          rcases Int.lt_trichotomy (fn * td - tn * fd) 0 with g | g | g
          · rw [Int.sign_eq_neg_one_of_neg g]; omega
          · rw [g]; decide
          · exact (g3 g).elim
      · rw [if_neg (fun h => g2 h.2)]
        exact cb_to c (Check_ok h1 h2 g1) (Check_bad h3 h4 (by simpa using g2))
    · rw [if_neg (fun h => g1 h.1)]
      exact cb_from c (Check_bad h1 h2 (by simpa using g1))
  · rw [if_neg h0]
    exact cb_field (PCheck_any l) (by simp [h0])

end Go.Proofs.YtomnmoinahhdmaaGreat

namespace Go.Proofs.YtomnmoinahhdmaaGreat
open Go.RowKit
abbrev ptr (r : Nat) : Value := .pointer (some ⟨r, 0, none⟩)
def kpA (fn fd : Int) (m : Mt) : Bool := decide ((m.n * fd - fn * m.d).sign > 0)
def kpB (tn td : Int) (m : Mt) : Bool := decide ((m.n * td - tn * m.d).sign ≤ 0)
/-- A meeting at a valid time. -/
structure MtOk (m : Mt) : Prop where
  n : I64 m.n
  d : I64 m.d
  ok : okB m.n m.d = true
structure TmOk (tn td : Int) : Prop where
  n : I64 tn
  d : I64 td
  ok : okB tn td = true
theorem keep_after {W0 : World} {rf : Nat} {fn fd : Int} {X : List Mt} {B : Nat → Prop} (c0 : Cel W0 rf 0 (.int .i64 fn)) (c1 : Cel W0 rf 1 (.int .i64 fd)) (hB : B rf) (hX : ∀ m ∈ X, MtOk m) (ht : TmOk fn fd) : KeepC Tryz.prog 99 #[ptr rf] (kpA fn fd) X B W0 := by
  intro m hm W hK
  have k0 := c0.keep hK hB
  have k1 := c1.keep hK hB
  have H := boxes_rel (rs := [rf]) (hp := [(0, 0, .pv (.int .i64 fn)), (0, 1, .pv (.int .i64 fd))]) (by simp) (by simpa using k0.lt) ⟨⟨rf, _, rfl, rfl, k0, rfl⟩, ⟨rf, _, rfl, rfl, k1, rfl⟩, trivial⟩
  have ok := hX m hm
  have h := after_path (b := kpA fn fd m) (CmpT_ok ok.n ok.d ht.n ht.d ok.ok ht.ok) rfl
  exact (h W (boxesL [rf]) [meetV m, ptr rf] H (boxesL_dom [rf]) ⟨rfl, ⟨rf, rfl, rfl⟩, trivial⟩).mono fun e w' ⟨v, β', he, _, hx, hh, _⟩ => ⟨by rw [he, show v = _ from hx], hh.gr⟩
theorem keep_betw {W0 : World} {rf : Nat} {fn fd : Int} {X : List Mt} {B : Nat → Prop} (c0 : Cel W0 rf 0 (.int .i64 fn)) (c1 : Cel W0 rf 1 (.int .i64 fd)) (hB : B rf) (hX : ∀ m ∈ X, MtOk m) (ht : TmOk fn fd) : KeepC Tryz.prog 86 #[ptr rf] (kpB fn fd) X B W0 := by
  intro m hm W hK
  have k0 := c0.keep hK hB
  have k1 := c1.keep hK hB
  have H := boxes_rel (rs := [rf]) (hp := [(0, 0, .pv (.int .i64 fn)), (0, 1, .pv (.int .i64 fd))]) (by simp) (by simpa using k0.lt) ⟨⟨rf, _, rfl, rfl, k0, rfl⟩, ⟨rf, _, rfl, rfl, k1, rfl⟩, trivial⟩
  have ok := hX m hm
  have h := betw_path (b := kpB fn fd m) (CmpT_ok ok.n ok.d ht.n ht.d ok.ok ht.ok) rfl
  exact (h W (boxesL [rf]) [meetV m, ptr rf] H (boxesL_dom [rf]) ⟨rfl, ⟨rf, rfl, rfl⟩, trivial⟩).mono fun e w' ⟨v, β', he, _, hx, hh, _⟩ => ⟨by rw [he, show v = _ from hx], hh.gr⟩

/-- What is known of the pairs of a list: which meet, and when. -/
structure Meets (l : List Pt) (f : Pt × Pt → Option Mt) : Prop where
  len : l.length ≤ 1000000
  run : ∀ x ∈ pairsOf l, (f x = none ∧ Pure Tryz.prog 98 #[ptV x.1, ptV x.2] (.tuple #[ratioV 0 0, .int .i64 6])) ∨ ∃ n d, f x = some ⟨n, d, x.1.id, x.2.id⟩ ∧ Pure Tryz.prog 98 #[ptV x.1, ptV x.2] (.tuple #[ratioV n d, .int .i64 0])
  ok : ∀ m ∈ (pairsOf l).filterMap f, MtOk m
def bkF (l : List Pt) (u : Value) (rb : Nat) : Nat → Prop := fun b => b = rb ∨ (ptsV l ≠ [] ∧ u.ownBlock = some b)
theorem meets_at {w : World} {rb : Nat} {u : Value} {l : List Pt} {f : Pt × Pt → Option Mt} (hM : Meets l f) (cb : Cel w rb 0 u) (hr : Rd w 3 u l.length (ptsV l)) {B : Nat → Prop} (h1 : B rb) (h2 : ptsV l ≠ [] → ∀ k, u.ownBlock = some k → B k) (hB : ∀ b, B b → b < w.heap.size) :
    SeqC Tryz.prog 97 #[ptr rb] (((pairsOf l).filterMap f).map mA) B w := meets_seq cb.1 cb.2 hr h1 h2 hB hM.len hM.run
def bkA (l : List Pt) (u : Value) (rb rf ra rk : Nat) : Nat → Prop := fun b => (bkF l u rb b ∨ b = rf) ∨ b = ra ∨ b = rk
theorem bkF_lt {w : World} {rb : Nat} {u : Value} {l : List Pt} (cb : Cel w rb 0 u) (hr : Rd w 3 u l.length (ptsV l)) : ∀ b, bkF l u rb b → b < w.heap.size := fun b h => by
  rcases h with rfl | ⟨hx, h⟩
  · exact cb.lt
  · exact hr.lt hx b h
theorem after_at {w : World} {rb rf ra rk : Nat} {u : Value} {l : List Pt} {f : Pt × Pt → Option Mt} {fn fd : Int} (hM : Meets l f) (ht : TmOk fn fd) (cb : Cel w rb 0 u) (hr : Rd w 3 u l.length (ptsV l)) (c0 : Cel w rf 0 (.int .i64 fn)) (c1 : Cel w rf 1 (.int .i64 fd))
    (ca : Cel w ra 0 (fv 97 #[ptr rb])) (ck : Cel w rk 0 (fv 99 #[ptr rf])) (hne : ra ≠ rk) :
    SeqC Tryz.prog 137 #[ptr ra, ptr rk] ((((pairsOf l).filterMap f).filter (kpA fn fd)).map mA) (bkA l u rb rf ra rk) w := by
  have hB : ∀ b, (bkF l u rb b ∨ b = rf) → b < w.heap.size := fun b h => by
    rcases h with h | rfl
    · exact bkF_lt cb hr b h
    · exact c0.lt
  exact only_seq ca.1 ca.2 ck.1 ck.2 hne (by kernel_rfl) (by kernel_rfl) (meets_at hM cb hr (B := fun b => bkF l u rb b ∨ b = rf) (Or.inl (Or.inl rfl)) (fun hx k hk => Or.inl (Or.inr ⟨hx, hk⟩)) hB) (keep_after c0 c1 (Or.inr rfl) hM.ok ht) hB
def bkB (l : List Pt) (u : Value) (rb rf ra rk rt rc rj : Nat) : Nat → Prop := fun b => (bkA l u rb rf ra rk b ∨ b = rt) ∨ b = rc ∨ b = rj
theorem betw_at {w : World} {rb rf ra rk rt rc rj : Nat} {u : Value} {l : List Pt} {f : Pt × Pt → Option Mt} {fn fd tn td : Int} (hM : Meets l f) (ht : TmOk fn fd) (hs : TmOk tn td) (cb : Cel w rb 0 u) (hr : Rd w 3 u l.length (ptsV l)) (c0 : Cel w rf 0 (.int .i64 fn)) (c1 : Cel w rf 1 (.int .i64 fd))
    (ca : Cel w ra 0 (fv 97 #[ptr rb])) (ck : Cel w rk 0 (fv 99 #[ptr rf])) (hne : ra ≠ rk)
    (d0 : Cel w rt 0 (.int .i64 tn)) (d1 : Cel w rt 1 (.int .i64 td)) (cc : Cel w rc 0 (fv 137 #[ptr ra, ptr rk])) (cj : Cel w rj 0 (fv 86 #[ptr rt])) (hne2 : rc ≠ rj) :
    SeqC Tryz.prog 137 #[ptr rc, ptr rj] (((((pairsOf l).filterMap f).filter (kpA fn fd)).filter (kpB tn td)).map mA) (bkB l u rb rf ra rk rt rc rj) w := by
  have hA : ∀ b, bkA l u rb rf ra rk b → b < w.heap.size := fun b h => by
    rcases h with (h | rfl) | rfl | rfl
    · exact bkF_lt cb hr b h
    · exact c0.lt
    · exact ca.lt
    · exact ck.lt
  have hB : ∀ b, (bkA l u rb rf ra rk b ∨ b = rt) → b < w.heap.size := fun b h => by
    rcases h with h | rfl
    · exact hA b h
    · exact d0.lt
  have hin : SeqC Tryz.prog 137 #[ptr ra, ptr rk] ((((pairsOf l).filterMap f).filter (kpA fn fd)).map mA) (fun b => bkA l u rb rf ra rk b ∨ b = rt) w := by
    intro y M J W hK hMM
    exact after_at hM ht cb hr c0 c1 ca ck hne y M J W (hK.mono fun i _ h => Or.inl h) (fun b hb => ⟨(hMM b hb).1, fun h => (hMM b hb).2 (Or.inl h)⟩)
  exact only_seq cc.1 cc.2 cj.1 cj.2 hne2 (by kernel_rfl) (by kernel_rfl) hin (keep_betw d0 d1 (Or.inr rfl) (fun m hm => hM.ok m ((List.mem_filter.1 hm).1)) hs) hB
end Go.Proofs.YtomnmoinahhdmaaGreat

namespace Go.Proofs.YtomnmoinahhdmaaGreat
open Go.RowKit
def ld (tn td : Int) (p q : Pt) : Bool := leadsB (p.a * td + p.b * tn) (q.a * td + q.b * tn) p.b q.b p.id q.id
theorem leadsB_iff {P Q pb qb pi qi : Int} : leadsB P Q pb qb pi qi = true ↔ (P > Q ∨ P = Q ∧ (pb > qb ∨ pb = qb ∧ pi < qi)) := by unfold leadsB; exact decide_eq_true_iff
theorem leadsB_niff {P Q pb qb pi qi : Int} : leadsB P Q pb qb pi qi = false ↔ ¬ (P > Q ∨ P = Q ∧ (pb > qb ∨ pb = qb ∧ pi < qi)) := by unfold leadsB; exact decide_eq_false_iff_not
section
variable {tn td : Int} {p q r : Pt}
theorem ld_irr (p : Pt) : ld tn td p p = false := leadsB_niff.2 (by omega)
theorem ld_trans (h : ld tn td p q = true) (k : ld tn td q r = true) : ld tn td p r = true := by
  unfold ld at *
  generalize p.a * td + p.b * tn = P at *
  generalize q.a * td + q.b * tn = Q at *
  generalize r.a * td + r.b * tn = R at *
  rw [leadsB_iff] at *
  omega
theorem ld_ntrans (h : ld tn td p q = false) (k : ld tn td q r = false) : ld tn td p r = false := by
  unfold ld at *
  generalize p.a * td + p.b * tn = P at *
  generalize q.a * td + q.b * tn = Q at *
  generalize r.a * td + r.b * tn = R at *
  rw [leadsB_niff] at *
  omega
theorem ld_asym (h : ld tn td p q = true) : ld tn td q p = false := by
  cases hh : ld tn td q p
  · rfl
  · have := ld_trans h hh; rw [ld_irr] at this; cases this
theorem ld_tot (hi : p.id ≠ q.id) (h : ld tn td p q = false) : ld tn td q p = true := by
  unfold ld at *
  generalize p.a * td + p.b * tn = P at *
  generalize q.a * td + q.b * tn = Q at *
  rw [leadsB_niff] at h
  rw [leadsB_iff]
  omega
end
/-- How many lead. -/
def rk (tn td : Int) (l : List Pt) (p : Pt) : Nat := l.countP fun q => ld tn td q p
theorem rk_aux {tn td : Int} : ∀ (s : List Pt) (k : Nat) (p : Pt), s.Pairwise (fun p q => ld tn td p q = true) → s[k]? = some p → rk tn td s p = k
  | [], _, _, _, h => by simp at h
  | a :: r, 0, p, hp, h => by
    simp only [List.getElem?_cons_zero, Option.some.injEq] at h
    subst h
    rw [List.pairwise_cons] at hp
    unfold rk
    rw [List.countP_eq_zero]
    intro q hq
    rcases List.mem_cons.1 hq with rfl | hq
    · rw [ld_irr]; decide
    · rw [ld_asym (hp.1 q hq)]; decide
  | a :: r, k + 1, p, hp, h => by
    rw [List.getElem?_cons_succ] at h
    rw [List.pairwise_cons] at hp
    have := rk_aux r k p hp.2 h
    unfold rk at this ⊢
    rw [List.countP_cons, this, if_pos (hp.1 p (List.mem_of_getElem? h))]
structure Srt (l : List Pt) (tn td : Int) (s : List Pt) : Prop where
  perm : s.Perm l
  pw : s.Pairwise (fun p q => ld tn td p q = true)
theorem Srt.len {l s : List Pt} {tn td : Int} (h : Srt l tn td s) : s.length = l.length := h.perm.length_eq
theorem Srt.rank {l s : List Pt} {tn td : Int} (h : Srt l tn td s) {k : Nat} {p : Pt} (hk : s[k]? = some p) : rk tn td l p = k := by
  have := rk_aux s k p h.pw hk
  unfold rk at this ⊢
  rw [← h.perm.countP_eq]; exact this
theorem Srt.at {l s : List Pt} {tn td : Int} (h : Srt l tn td s) {p : Pt} (hp : p ∈ l) : s[rk tn td l p]? = some p := by
  obtain ⟨k, hk, e⟩ := List.getElem_of_mem (h.perm.mem_iff.2 hp)
  have hk' : s[k]? = some p := by rw [List.getElem?_eq_getElem hk, e]
  rw [h.rank hk']; exact hk'
theorem Srt.lt {l s : List Pt} {tn td : Int} (h : Srt l tn td s) {p : Pt} (hp : p ∈ l) : rk tn td l p < l.length := by rw [← h.len]; exact get_lt (h.at hp)
theorem Srt.uniq {l s t : List Pt} {tn td : Int} (h : Srt l tn td s) (k : Srt l tn td t) : s = t := by
  apply List.ext_getElem?
  intro i
  by_cases hi : i < t.length
  · obtain ⟨p, hp⟩ := get_some hi
    rw [hp]
    have := h.at (k.perm.mem_iff.1 (List.mem_of_getElem? hp))
    rw [k.rank hp] at this
    exact this
  · have e1 : t[i]? = none := List.getElem?_eq_none (by omega)
    have e2 : s[i]? = none := List.getElem?_eq_none (by have := h.len; have := k.len; omega)
    rw [e1, e2]
/-- A list in order from one that is in no wrong order. -/
theorem Srt.mk_of {l s : List Pt} {tn td : Int} (hv : Val l) (hp : s.Perm l) (h : s.Pairwise (fun p q => ld tn td q p = false)) : Srt l tn td s := by
  have hne : l.Pairwise (fun p q => p.id ≠ q.id) := by
    rw [List.pairwise_iff_getElem]
    intro i j hi hj hij
    have := hv.up.mono hij (List.getElem?_eq_getElem hi) (List.getElem?_eq_getElem hj)
    omega
  have hns : s.Pairwise (fun p q => p.id ≠ q.id) := (hp.pairwise_iff (fun h e => h e.symm)).2 hne
  exact ⟨hp, (h.and hns).imp fun ⟨a, b⟩ => ld_tot (fun e => b e.symm) a⟩
theorem Srt_pure {l : List Pt} {tn td : Int} (hv : Val l) : ∃ s, Srt l tn td s := by
  refine ⟨l.mergeSort (fun p q => !ld tn td q p), Srt.mk_of hv (List.mergeSort_perm _ _) ?_⟩
  have h := List.pairwise_mergeSort (le := fun p q : Pt => !ld tn td q p) (fun a b c h1 h2 => ?_) (fun a b => ?_) l
  · exact h.imp fun {a b} h => by simpa using h
  · have h1' : ld tn td b a = false := by simpa using h1
    have h2' : ld tn td c b = false := by simpa using h2
    simp [ld_ntrans h2' h1']
  · cases h : ld tn td b a
    · simp
    · simp [ld_asym h]
theorem val_id {l : List Pt} (hv : Val l) {p q : Pt} (hp : p ∈ l) (hq : q ∈ l) (e : p.id = q.id) : p = q := by
  obtain ⟨i, hi, rfl⟩ := List.getElem_of_mem hp
  obtain ⟨j, hj, rfl⟩ := List.getElem_of_mem hq
  rcases Nat.lt_trichotomy i j with h | h | h
  · have := hv.up.mono h (List.getElem?_eq_getElem hi) (List.getElem?_eq_getElem hj); omega
  · subst h; rfl
  · have := hv.up.mono h (List.getElem?_eq_getElem hj) (List.getElem?_eq_getElem hi); omega
/-- What the program's comparison returns. -/
def cfL (tn td : Int) (p q : Pt) : Int := if p.id = q.id then 0 else if ld tn td p q = true then -1 else 1
theorem cfL_neg {tn td : Int} {p q : Pt} (h : p.id = q.id → p = q) : decide (cfL tn td p q < 0) = ld tn td p q := by
  unfold cfL
  by_cases e : p.id = q.id
  · rw [if_pos e, h e, ld_irr]; rfl
  · rw [if_neg e]
    cases ld tn td p q <;> rfl
end Go.Proofs.YtomnmoinahhdmaaGreat

namespace Go.Proofs.YtomnmoinahhdmaaGreat
open Go.RowKit
/-- A valid time. -/
structure Tm (tn td : Int) : Prop where
  hn : I64 tn
  hd : I64 td
  ok : okB tn td = true
noncomputable def tE (l : List Pt) (tn td : Int) : Int := if errL l = 0 then (if okB tn td = true then 0 else 8) else errL l
theorem CWT_any {tn td : Int} (hn : I64 tn) (hd : I64 td) (l : List Pt) : FnL Tryz.prog 56 1 [fldS 0 l, .pv (ratioV tn td)] [(0, 0, rowP l)] (.pv (.int .i64 (tE l tn td))) 0 [] := by
  unfold tE
  by_cases h0 : errL l = 0
  · have c1 := PCheck_any l
    rw [h0] at c1
    rw [if_pos h0]
    by_cases hp : okB tn td = true
    · rw [if_pos hp]; exact cwt_ok c1 (Check_ok hn hd hp)
    · rw [if_neg hp]; exact cwt_ok c1 (Check_bad hn hd hp)
  · rw [if_neg h0]
    exact cwt_err (PCheck_any l) (by simp [h0])
theorem tE_ok {l : List Pt} {tn td : Int} (hv : Val l) (ht : okB tn td = true) : tE l tn td = 0 := by unfold tE; rw [if_pos (err_val.2 hv), if_pos ht]
section
variable {l : List Pt} {tn td : Int}
theorem lf_any (ht : Tm tn td) {p q : Pt} (hp : okPt p = true) (hq : okPt q = true) :
    FnL Tryz.prog 103 1 [.pv (ptV p), .pv (ptV q), .pp 0 0] [(0, 0, .pv (.int .i64 tn)), (0, 1, .pv (.int .i64 td))] (.pv (.int .i64 (cfL tn td p q))) 0 [] := by
  unfold cfL
  by_cases e : p.id = q.id
  · rw [if_pos e]; exact lf_eq (by simp [e])
  · rw [if_neg e]
    have a := Ahead_ok ht.hn ht.hd hp hq ht.ok e
    have hl : leadsB (p.a * td + p.b * tn) (q.a * td + q.b * tn) p.b q.b p.id q.id = ld tn td p q := rfl
    rw [hl] at a
    cases hc : ld tn td p q <;> rw [hc] at a
    · rw [if_neg (by decide)]; exact lf_gt (by simp [e]) a
    · rw [if_pos rfl]; exact lf_lt (by simp [e]) a

theorem ord_step (s : List Pt) (n k : Nat) (p : Pt) (hk : s[k]? = some p) (hn : s.length = n) : ((s.take k).map Pt.id ++ List.replicate (n - k) 0).set k p.id = (s.take (k + 1)).map Pt.id ++ List.replicate (n - (k + 1)) 0 := by
  have hl := get_lt hk
  have e : ((s.take k).map Pt.id).length = k := by rw [List.length_map, List.length_take]; omega
  rw [List.set_append_right _ _ (by omega), e, Nat.sub_self, show n - k = (n - (k + 1)) + 1 by omega, List.replicate_succ, List.set_cons_zero, take_succ hk, List.map_append, List.append_assoc]
  rfl
theorem POrder_loop {s : List Pt} (hl : s.length = l.length) (hn : l.length ≤ 64) : RunsL Tryz.prog 1 1 (loopOf Tryz.prog 24 0) 41 6 ([(8, .ls 5 l.length), (27, .ls 3 l.length), (28, .pv (.int .i64 (l.length : Int))), (29, .pv (.int .i64 ((0 : Nat) : Int)))]) ([(3, 0, .row 46 3 l.length (ptsV s)), (5, 0, .row 3 1 l.length (idsV (List.replicate l.length (0 : Int))))]) (.exit 0) ([(8, .ls 5 l.length)]) ([(3, 0, .row 46 3 l.length (ptsV s)), (5, 0, .row 3 1 l.length (idsV (s.map Pt.id)))]) := by
  have h0 : List.replicate l.length (0 : Int) = (s.take 0).map Pt.id ++ List.replicate (l.length - 0) 0 := rfl
  rw [h0]
  refine RunsL.rounds (fun k => [(8, .ls 5 l.length), (27, .ls 3 l.length), (28, .pv (.int .i64 (l.length : Int))), (29, .pv (.int .i64 (k : Int)))])
    (fun k => [(3, 0, .row 46 3 l.length (ptsV s)), (5, 0, .row 3 1 l.length (idsV ((s.take k).map Pt.id ++ List.replicate (l.length - k) 0)))]) l.length 0 (Nat.zero_add _) (fun k _ hk r => ?_) ?_
  · obtain ⟨p, hp⟩ := get_some (l := s) (k := k) (by omega)
    rw [← ord_step s l.length k p hp hl] at r
    exact ord_next hp (in_of hk) (by simp; omega) (dt (by omega)) (i64s hk hn) r
  · have e1 : s.take l.length = s := List.take_of_length_le (by omega)
    simp only [e1, Nat.sub_self, List.replicate_zero, List.append_nil]
    exact ord_end (df (by omega))
end
end Go.Proofs.YtomnmoinahhdmaaGreat
