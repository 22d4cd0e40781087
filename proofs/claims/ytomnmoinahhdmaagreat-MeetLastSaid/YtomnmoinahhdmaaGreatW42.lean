/-
  Joined: Mk, Ml, Mn, Ha. Conditions: none.
-/
import Derived.Test.YtomnmoinahhdmaaGreatMj
import Derived.Test.YtomnmoinahhdmaaGreatW29
import Derived.Test.YtomnmoinahhdmaaGreatW40
namespace Go.Proofs.YtomnmoinahhdmaaGreat
open Go.RowKit
def cI (x y : Int) : Int := if x < y then -1 else if x > y then 1 else 0
def ordM (a b : Mt) : Int := if (a.n * b.d - b.n * a.d).sign ≠ 0 then (a.n * b.d - b.n * a.d).sign else if cI a.i b.i ≠ 0 then cI a.i b.i else cI a.j b.j
def latM (a b : Mt) : Int := (b.n * a.d - a.n * b.d).sign
set_option maxRecDepth 100000 in
theorem nan_int (x : Int) : Pure Tryz.prog 138 #[.int .i64 x] (.bool false) :=
  pure_run (args := [.int .i64 x]) 100 [.t false] (And.intro rfl (And.intro (show (x != x) = false by simp) True.intro)) (by kernel_rfl)
set_option maxRecDepth 100000 in
theorem cmpI_lt {x y : Int} (h : decide (x < y) = true) : Pure Tryz.prog 88 #[.int .i64 x, .int .i64 y] (.int .i64 (-1)) :=
  pure_run (args := [.int .i64 x, .int .i64 y]) 100 [.r (.bool false), .r (.bool false), .t true] (And.intro rfl (And.intro (nan_int x) (And.intro (nan_int y) (And.intro h True.intro)))) (by kernel_rfl)
set_option maxRecDepth 100000 in
theorem cmpI_gt {x y : Int} (h : decide (x < y) = false) (h2 : decide (x > y) = true) : Pure Tryz.prog 88 #[.int .i64 x, .int .i64 y] (.int .i64 1) :=
  pure_run (args := [.int .i64 x, .int .i64 y]) 100 [.r (.bool false), .r (.bool false), .t false, .t true] (And.intro rfl (And.intro (nan_int x) (And.intro (nan_int y) (And.intro h (And.intro h2 True.intro))))) (by kernel_rfl)
set_option maxRecDepth 100000 in
theorem cmpI_eq {x y : Int} (h : decide (x < y) = false) (h2 : decide (x > y) = false) : Pure Tryz.prog 88 #[.int .i64 x, .int .i64 y] (.int .i64 0) :=
  pure_run (args := [.int .i64 x, .int .i64 y]) 100 [.r (.bool false), .r (.bool false), .t false, .t false] (And.intro rfl (And.intro (nan_int x) (And.intro (nan_int y) (And.intro h (And.intro h2 True.intro))))) (by kernel_rfl)
theorem cmpI_any (x y : Int) : Pure Tryz.prog 88 #[.int .i64 x, .int .i64 y] (.int .i64 (cI x y)) := by
  unfold cI
  by_cases h : x < y
  · rw [if_pos h]; exact cmpI_lt (decide_eq_true h)
  · rw [if_neg h]
    by_cases h2 : x > y
    · rw [if_pos h2]; exact cmpI_gt (decide_eq_false h) (decide_eq_true h2)
    · rw [if_neg h2]; exact cmpI_eq (decide_eq_false h) (decide_eq_false h2)
section
variable {a b : Mt} {k c1 c2 : Int}
set_option maxRecDepth 100000 in
theorem io_1 (h : Pure Tryz.prog 82 #[ratioV a.n a.d, ratioV b.n b.d] (.int .i64 k)) (h1 : Pure Tryz.prog 88 #[.int .i64 a.i, .int .i64 b.i] (.int .i64 c1)) (h2 : Pure Tryz.prog 88 #[.int .i64 a.j, .int .i64 b.j] (.int .i64 c2)) (hk : (k != 0) = true) :
    Pure Tryz.prog 40 #[meetV a, meetV b] (.int .i64 k) :=
  pure_run (args := [meetV a, meetV b]) 200 [.r (.int .i64 k), .r (.int .i64 c1), .r (.int .i64 c2), .k, .k, .t true] (And.intro rfl (And.intro h (And.intro h1 (And.intro h2 (And.intro hk True.intro))))) (by kernel_rfl)
set_option maxRecDepth 100000 in
theorem io_2 (h : Pure Tryz.prog 82 #[ratioV a.n a.d, ratioV b.n b.d] (.int .i64 0)) (h1 : Pure Tryz.prog 88 #[.int .i64 a.i, .int .i64 b.i] (.int .i64 c1)) (h2 : Pure Tryz.prog 88 #[.int .i64 a.j, .int .i64 b.j] (.int .i64 c2)) (hk : (c1 != 0) = true) :
    Pure Tryz.prog 40 #[meetV a, meetV b] (.int .i64 c1) :=
  pure_run (args := [meetV a, meetV b]) 200 [.r (.int .i64 0), .r (.int .i64 c1), .r (.int .i64 c2), .k, .k, .k, .k, .k, .t true] (And.intro rfl (And.intro h (And.intro h1 (And.intro h2 (And.intro hk True.intro))))) (by kernel_rfl)
set_option maxRecDepth 100000 in
theorem io_3 (h : Pure Tryz.prog 82 #[ratioV a.n a.d, ratioV b.n b.d] (.int .i64 0)) (h1 : Pure Tryz.prog 88 #[.int .i64 a.i, .int .i64 b.i] (.int .i64 0)) (h2 : Pure Tryz.prog 88 #[.int .i64 a.j, .int .i64 b.j] (.int .i64 c2)) (hk : (c2 != 0) = true) :
    Pure Tryz.prog 40 #[meetV a, meetV b] (.int .i64 c2) :=
  pure_run (args := [meetV a, meetV b]) 200 [.r (.int .i64 0), .r (.int .i64 0), .r (.int .i64 c2), .k, .k, .k, .k, .k, .k, .k, .k, .t true] (And.intro rfl (And.intro h (And.intro h1 (And.intro h2 (And.intro hk True.intro))))) (by kernel_rfl)
set_option maxRecDepth 100000 in
theorem io_4 (h : Pure Tryz.prog 82 #[ratioV a.n a.d, ratioV b.n b.d] (.int .i64 0)) (h1 : Pure Tryz.prog 88 #[.int .i64 a.i, .int .i64 b.i] (.int .i64 0)) (h2 : Pure Tryz.prog 88 #[.int .i64 a.j, .int .i64 b.j] (.int .i64 0)) :
    Pure Tryz.prog 40 #[meetV a, meetV b] (.int .i64 0) :=
  pure_run (args := [meetV a, meetV b]) 200 [.r (.int .i64 0), .r (.int .i64 0), .r (.int .i64 0), .k, .k, .k, .k, .k, .k, .k, .k, .k, .k, .k] (And.intro rfl (And.intro h (And.intro h1 (And.intro h2 True.intro)))) (by kernel_rfl)
set_option maxRecDepth 100000 in
theorem lf_1 (h : Pure Tryz.prog 82 #[ratioV b.n b.d, ratioV a.n a.d] (.int .i64 k)) : Pure Tryz.prog 49 #[meetV a, meetV b] (.int .i64 k) :=
  pure_run (args := [meetV a, meetV b]) 200 [.r (.int .i64 k)] (And.intro rfl (And.intro h True.intro)) (by kernel_rfl)
end
theorem ord_pure {a b : Mt} (ha : MtOk a) (hb : MtOk b) : Pure Tryz.prog 40 #[meetV a, meetV b] (.int .i64 (ordM a b)) := by
  have h := CmpT_ok ha.n ha.d hb.n hb.d ha.ok hb.ok
  have h1 := cmpI_any a.i b.i
  have h2 := cmpI_any a.j b.j
  unfold ordM
  by_cases g : (a.n * b.d - b.n * a.d).sign = 0
  · rw [if_neg (fun k => k g)]
    rw [g] at h
    by_cases g1 : cI a.i b.i = 0
    · rw [if_neg (fun k => k g1)]
      rw [g1] at h1
      by_cases g2 : cI a.j b.j = 0
      · rw [g2] at h2 ⊢; exact io_4 h h1 h2
      · exact io_3 h h1 h2 (by simpa using g2)
    · rw [if_pos g1]; exact io_2 h h1 h2 (by simpa using g1)
  · rw [if_pos g]; exact io_1 h h1 h2 (by simpa using g)
theorem lat_pure {a b : Mt} (ha : MtOk a) (hb : MtOk b) : Pure Tryz.prog 49 #[meetV a, meetV b] (.int .i64 (latM a b)) := lf_1 (CmpT_ok hb.n hb.d ha.n ha.d hb.ok ha.ok)

abbrev inV : Value := fv 40 #[]
abbrev laV : Value := fv 49 #[]
abbrev fmB (r : Option Mt) : SV := .pv (.tuple #[meetV (r.getD z0), .bool r.isSome])
abbrev nxH (l : List Pt) (fn fd : Int) : List (Nat × Nat × SV) := [(1, 0, .ls 0 l.length), (2, 0, .pv (.int .i64 fn)), (2, 1, .pv (.int .i64 fd)), (3, 0, .pc 97 [.pp 1 0]), (4, 0, .pc 99 [.pp 2 0]), (0, 0, rowP l)]
abbrev laH (l : List Pt) : List (Nat × Nat × SV) := [(1, 0, .ls 0 l.length), (0, 0, rowP l)]
theorem row_g {W0 : World} {lo : Nat} {β : Bl} {hp : List (Nat × Nat × SV)} {w : World} (H : HRel W0 lo β hp w) {b o : Nat} {l : List Pt} (h : lookH hp b o = some (rowP l)) : ∃ u, β.g b = some u := by
  obtain ⟨u, h1, _⟩ := H.rows _ _ _ _ _ _ h
  exact ⟨u, h1⟩
/-- **first of the meetings after a time, in order.** -/
theorem first_after {l : List Pt} {f : Pt × Pt → Option Mt} {fn fd : Int} (hM : Meets l f) (ht : TmOk fn fd) :
    FnL Tryz.prog 47 5 [.pc 137 [.pp 3 0, .pp 4 0], .pv inV] (nxH l fn fd) (fmB (bestOf ordM (((pairsOf l).filterMap f).filter (kpA fn fd)))) 0 [] := by
  intro W β us H hdm hu
  obtain ⟨u, g0⟩ := row_g H (b := 0) (o := 0) rfl
  obtain ⟨rb, eb⟩ := lt_of_lookup H (b := 1) (o := 0) rfl rfl
  obtain ⟨rf, ef⟩ := lt_of_lookup H (b := 2) (o := 0) rfl rfl
  obtain ⟨ra, ea⟩ := lt_of_lookup H (b := 3) (o := 0) rfl rfl
  obtain ⟨rk, ek⟩ := lt_of_lookup H (b := 4) (o := 0) rfl rfl
  have f0 := cel_of H (b := 2) (o := 0) rfl ef
  have f1 := cel_of H (b := 2) (o := 1) rfl ef
  have cb : Cel W rb 0 u := box_of H (b := 1) rfl eb g0
  have hrd := row_of H (b := 0) (o := 0) rfl g0
  obtain ⟨_, p1, ca⟩ := cel_pc H (b := 3) (o := 0) rfl ea
  obtain ⟨r', e', rfl⟩ := pps_one p1; rw [eb] at e'; cases e'
  obtain ⟨_, p2, ck⟩ := cel_pc H (b := 4) (o := 0) rfl ek
  obtain ⟨r', e', rfl⟩ := pps_one p2; rw [ef] at e'; cases e'
  have hne : ra ≠ rk := fun h => by subst h; have := H.inj 3 4 _ ea ek; omega
  have hs := after_at hM ht cb hrd f0 f1 ca ck hne
  have hA : ∀ b, bkA l u rb rf ra rk b → b < W.heap.size := fun b h => by
    rcases h with (h | rfl) | rfl | rfl
    · exact bkF_lt cb hrd b h
    · exact f0.lt
    · exact ca.lt
    · exact ck.lt
  obtain rfl : us = [fv 137 #[ptr ra, ptr rk], inV] := by
    match us, hu with
    | [x, y], ⟨⟨vs, h1, h2⟩, h3, _⟩ =>
      obtain ⟨r, s, e1, e2, rfl⟩ := pps_two h1
      rw [ea] at e1; rw [ek] at e2; cases e1; cases e2
      rw [h2, show y = inV from h3]
  have hX : ∀ m ∈ ((pairsOf l).filterMap f).filter (kpA fn fd), MtOk m := fun m hm => hM.ok m ((List.mem_filter.1 hm).1)
  exact (first_calls (c := ordM) (Or.inl rfl) (by kernel_rfl) hs hA fun a ha b hb => ord_pure (hX a ha) (hX b hb)).mono fun e w' ⟨he, hg⟩ => ⟨_, β, he, Bl.le_refl _, rfl, (H.gr_mono hg).imp (fun _ _ _ h => (by cases h)), hdm⟩
/-- **first of all meetings, the latest one first.** -/
theorem first_last {l : List Pt} {f : Pt × Pt → Option Mt} (hM : Meets l f) :
    FnL Tryz.prog 47 2 [.pc 97 [.pp 1 0], .pv laV] (laH l) (fmB (bestOf latM ((pairsOf l).filterMap f))) 0 [] := by
  intro W β us H hdm hu
  obtain ⟨u, g0⟩ := row_g H (b := 0) (o := 0) rfl
  obtain ⟨rb, eb⟩ := lt_of_lookup H (b := 1) (o := 0) rfl rfl
  have cb : Cel W rb 0 u := box_of H (b := 1) rfl eb g0
  have hrd := row_of H (b := 0) (o := 0) rfl g0
  obtain rfl : us = [fv 97 #[ptr rb], laV] := by
    match us, hu with
    | [x, y], ⟨⟨vs, h1, h2⟩, h3, _⟩ =>
      obtain ⟨r, e1, rfl⟩ := pps_one h1
      rw [eb] at e1; cases e1
      rw [h2, show y = laV from h3]
  have hs := meets_at hM cb hrd (B := bkF l u rb) (Or.inl rfl) (fun hx k hk => Or.inr ⟨hx, hk⟩) (bkF_lt cb hrd)
  exact (first_calls (c := latM) (Or.inr rfl) (by kernel_rfl) hs (bkF_lt cb hrd) fun a ha b hb => lat_pure (hM.ok a ha) (hM.ok b hb)).mono fun e w' ⟨he, hg⟩ => ⟨_, β, he, Bl.le_refl _, rfl, (H.gr_mono hg).imp (fun _ _ _ h => (by cases h)), hdm⟩
end Go.Proofs.YtomnmoinahhdmaaGreat

namespace Go.Proofs.YtomnmoinahhdmaaGreat
open Go.RowKit
set_option maxRecDepth 100000 in
theorem nx_field {l : List Pt} {fn fd : Int} {e : Int} (hc : FnL Tryz.prog 60 1 [fldS 0 l] [(0, 0, rowP l)] (.pv (.int .i64 (e))) 0 []) (he : (e != 0) = true) :
    FnL Tryz.prog 22 1 [fldS 0 l, .pv (ratioV fn fd)] [(0, 0, rowP l)] (.pv (.tuple #[meetV z0, .int .i64 (e)])) 0 [] :=
  fnl_run 300 [] [.k, .f [0] [fldS 0 l] [(0, 0, rowP l)] (.pv (.int .i64 (e))) 0 [], .t true, .t true]
     True.intro (And.intro hc (And.intro (Eq.refl (List.map (SV.ren (renU [0] 6)) [fldS 0 l])) (And.intro (reflH (renU [0] 6) [(0, 0, rowP l)]) (And.intro he (And.intro he True.intro))))) (by kernel_rfl)

set_option maxRecDepth 100000 in
theorem nx_bad {l : List Pt} {fn fd : Int} (hc : FnL Tryz.prog 60 1 [fldS 0 l] [(0, 0, rowP l)] (.pv (.int .i64 (0))) 0 []) (h1 : Pure Tryz.prog 93 #[ratioV fn fd] (.int .i64 (8))) :
    FnL Tryz.prog 22 1 [fldS 0 l, .pv (ratioV fn fd)] [(0, 0, rowP l)] (.pv (.tuple #[meetV z0, .int .i64 (8)])) 0 [] :=
  fnl_run 300 [] [.k, .f [0] [fldS 0 l] [(0, 0, rowP l)] (.pv (.int .i64 (0))) 0 [], .k, .k, .r (.int .i64 (8)), .k, .k]
     True.intro (And.intro hc (And.intro (Eq.refl (List.map (SV.ren (renU [0] 6)) [fldS 0 l])) (And.intro (reflH (renU [0] 6) [(0, 0, rowP l)]) (And.intro h1 True.intro)))) (by kernel_rfl)

set_option maxRecDepth 100000 in
theorem nx_none {l : List Pt} {fn fd : Int} (hc : FnL Tryz.prog 60 1 [fldS 0 l] [(0, 0, rowP l)] (.pv (.int .i64 (0))) 0 []) (h1 : Pure Tryz.prog 93 #[ratioV fn fd] (.int .i64 (0))) (hf : FnL Tryz.prog 47 5 [.pc 137 [.pp 3 0, .pp 4 0], .pv inV] [(1, 0, .ls 0 l.length), (2, 0, .pv (.int .i64 fn)), (2, 1, .pv (.int .i64 fd)), (3, 0, .pc 97 [.pp 1 0]), (4, 0, .pc 99 [.pp 2 0]), (0, 0, rowP l)] (.pv (.tuple #[meetV z0, .bool false])) 0 []) :
    FnL Tryz.prog 22 1 [fldS 0 l, .pv (ratioV fn fd)] [(0, 0, rowP l)] (.pv (.tuple #[meetV z0, .int .i64 (6)])) 0 [] :=
  fnl_run 300 [] [.k, .f [0] [fldS 0 l] [(0, 0, rowP l)] (.pv (.int .i64 (0))) 0 [], .k, .k, .r (.int .i64 (0)), .k, .k, .k, .k, .k, .k, .k, .f [0,9,8,10,11] [.pc 137 [.pp 3 0, .pp 4 0], .pv inV] [(1, 0, .ls 0 l.length), (2, 0, .pv (.int .i64 fn)), (2, 1, .pv (.int .i64 fd)), (3, 0, .pc 97 [.pp 1 0]), (4, 0, .pc 99 [.pp 2 0]), (0, 0, rowP l)] (.pv (.tuple #[meetV z0, .bool false])) 0 [], .k]
     True.intro (And.intro hc (And.intro (Eq.refl (List.map (SV.ren (renU [0] 6)) [fldS 0 l])) (And.intro (reflH (renU [0] 6) [(0, 0, rowP l)]) (And.intro h1 (And.intro hf (And.intro (Eq.refl (List.map (SV.ren (renU [0,9,8,10,11] 12)) [.pc 137 [.pp 3 0, .pp 4 0], .pv inV])) (And.intro (reflH (renU [0,9,8,10,11] 12) [(1, 0, .ls 0 l.length), (2, 0, .pv (.int .i64 fn)), (2, 1, .pv (.int .i64 fd)), (3, 0, .pc 97 [.pp 1 0]), (4, 0, .pc 99 [.pp 2 0]), (0, 0, rowP l)]) True.intro))))))) (by kernel_rfl)

set_option maxRecDepth 100000 in
theorem nx_some {l : List Pt} {fn fd : Int} {m : Mt} (hc : FnL Tryz.prog 60 1 [fldS 0 l] [(0, 0, rowP l)] (.pv (.int .i64 (0))) 0 []) (h1 : Pure Tryz.prog 93 #[ratioV fn fd] (.int .i64 (0))) (hf : FnL Tryz.prog 47 5 [.pc 137 [.pp 3 0, .pp 4 0], .pv inV] [(1, 0, .ls 0 l.length), (2, 0, .pv (.int .i64 fn)), (2, 1, .pv (.int .i64 fd)), (3, 0, .pc 97 [.pp 1 0]), (4, 0, .pc 99 [.pp 2 0]), (0, 0, rowP l)] (.pv (.tuple #[meetV m, .bool true])) 0 []) :
    FnL Tryz.prog 22 1 [fldS 0 l, .pv (ratioV fn fd)] [(0, 0, rowP l)] (.pv (.tuple #[meetV m, .int .i64 (0)])) 0 [] :=
  fnl_run 300 [] [.k, .f [0] [fldS 0 l] [(0, 0, rowP l)] (.pv (.int .i64 (0))) 0 [], .k, .k, .r (.int .i64 (0)), .k, .k, .k, .k, .k, .k, .k, .f [0,9,8,10,11] [.pc 137 [.pp 3 0, .pp 4 0], .pv inV] [(1, 0, .ls 0 l.length), (2, 0, .pv (.int .i64 fn)), (2, 1, .pv (.int .i64 fd)), (3, 0, .pc 97 [.pp 1 0]), (4, 0, .pc 99 [.pp 2 0]), (0, 0, rowP l)] (.pv (.tuple #[meetV m, .bool true])) 0 [], .k]
     True.intro (And.intro hc (And.intro (Eq.refl (List.map (SV.ren (renU [0] 6)) [fldS 0 l])) (And.intro (reflH (renU [0] 6) [(0, 0, rowP l)]) (And.intro h1 (And.intro hf (And.intro (Eq.refl (List.map (SV.ren (renU [0,9,8,10,11] 12)) [.pc 137 [.pp 3 0, .pp 4 0], .pv inV])) (And.intro (reflH (renU [0,9,8,10,11] 12) [(1, 0, .ls 0 l.length), (2, 0, .pv (.int .i64 fn)), (2, 1, .pv (.int .i64 fd)), (3, 0, .pc 97 [.pp 1 0]), (4, 0, .pc 99 [.pp 2 0]), (0, 0, rowP l)]) True.intro))))))) (by kernel_rfl)

set_option maxRecDepth 100000 in
theorem la_field {l : List Pt} {e : Int} (hc : FnL Tryz.prog 60 1 [fldS 0 l] [(0, 0, rowP l)] (.pv (.int .i64 (e))) 0 []) (he : (e != 0) = true) :
    FnL Tryz.prog 19 1 [fldS 0 l] [(0, 0, rowP l)] (.pv (.tuple #[ratioV 0 0, .int .i64 (e)])) 0 [] :=
  fnl_run 300 [] [.k, .f [0] [fldS 0 l] [(0, 0, rowP l)] (.pv (.int .i64 (e))) 0 [], .t true, .t true]
     True.intro (And.intro hc (And.intro (Eq.refl (List.map (SV.ren (renU [0] 4)) [fldS 0 l])) (And.intro (reflH (renU [0] 4) [(0, 0, rowP l)]) (And.intro he (And.intro he True.intro))))) (by kernel_rfl)

set_option maxRecDepth 100000 in
theorem la_none {l : List Pt} (hc : FnL Tryz.prog 60 1 [fldS 0 l] [(0, 0, rowP l)] (.pv (.int .i64 (0))) 0 []) (hf : FnL Tryz.prog 47 2 [.pc 97 [.pp 1 0], .pv laV] [(1, 0, .ls 0 l.length), (0, 0, rowP l)] (.pv (.tuple #[meetV z0, .bool false])) 0 []) :
    FnL Tryz.prog 19 1 [fldS 0 l] [(0, 0, rowP l)] (.pv (.tuple #[ratioV 0 0, .int .i64 (6)])) 0 [] :=
  fnl_run 300 [] [.k, .f [0] [fldS 0 l] [(0, 0, rowP l)] (.pv (.int .i64 (0))) 0 [], .k, .k, .k, .k, .f [0,4] [.pc 97 [.pp 1 0], .pv laV] [(1, 0, .ls 0 l.length), (0, 0, rowP l)] (.pv (.tuple #[meetV z0, .bool false])) 0 [], .k]
     True.intro (And.intro hc (And.intro (Eq.refl (List.map (SV.ren (renU [0] 4)) [fldS 0 l])) (And.intro (reflH (renU [0] 4) [(0, 0, rowP l)]) (And.intro hf (And.intro (Eq.refl (List.map (SV.ren (renU [0,4] 5)) [.pc 97 [.pp 1 0], .pv laV])) (And.intro (reflH (renU [0,4] 5) [(1, 0, .ls 0 l.length), (0, 0, rowP l)]) True.intro)))))) (by kernel_rfl)

set_option maxRecDepth 100000 in
theorem la_some {l : List Pt} {m : Mt} (hc : FnL Tryz.prog 60 1 [fldS 0 l] [(0, 0, rowP l)] (.pv (.int .i64 (0))) 0 []) (hf : FnL Tryz.prog 47 2 [.pc 97 [.pp 1 0], .pv laV] [(1, 0, .ls 0 l.length), (0, 0, rowP l)] (.pv (.tuple #[meetV m, .bool true])) 0 []) :
    FnL Tryz.prog 19 1 [fldS 0 l] [(0, 0, rowP l)] (.pv (.tuple #[ratioV m.n m.d, .int .i64 (0)])) 0 [] :=
  fnl_run 300 [] [.k, .f [0] [fldS 0 l] [(0, 0, rowP l)] (.pv (.int .i64 (0))) 0 [], .k, .k, .k, .k, .f [0,4] [.pc 97 [.pp 1 0], .pv laV] [(1, 0, .ls 0 l.length), (0, 0, rowP l)] (.pv (.tuple #[meetV m, .bool true])) 0 [], .k]
     True.intro (And.intro hc (And.intro (Eq.refl (List.map (SV.ren (renU [0] 4)) [fldS 0 l])) (And.intro (reflH (renU [0] 4) [(0, 0, rowP l)]) (And.intro hf (And.intro (Eq.refl (List.map (SV.ren (renU [0,4] 5)) [.pc 97 [.pp 1 0], .pv laV])) (And.intro (reflH (renU [0,4] 5) [(1, 0, .ls 0 l.length), (0, 0, rowP l)]) True.intro)))))) (by kernel_rfl)

end Go.Proofs.YtomnmoinahhdmaaGreat

namespace Go.Proofs.YtomnmoinahhdmaaGreat
open Go.RowKit
/-- The meeting of two points that meet. -/
structure MSpec (p q : Pt) (m : Mt) : Prop where
  n : I64 m.n
  d : I64 m.d
  ok : okB m.n m.d = true
  eq : m.n * (p.b - q.b) = (q.a - p.a) * m.d
  i : m.i = p.id
  j : m.j = q.id
  run : Pure Tryz.prog 145 #[ptV p, ptV q] (ratioV m.n m.d)
noncomputable def fM (x : Pt × Pt) : Option Mt := open Classical in if x.1.b = x.2.b then none else if h : ∃ m, MSpec x.1 x.2 m then some h.choose else none
theorem fM_same {x : Pt × Pt} (h : x.1.b = x.2.b) : fM x = none := by unfold fM; rw [if_pos h]
theorem fM_diff {x : Pt × Pt} (h1 : okPt x.1 = true) (h2 : okPt x.2 = true) (h : x.1.b ≠ x.2.b) : ∃ m, fM x = some m ∧ MSpec x.1 x.2 m := by
  have hex : ∃ m, MSpec x.1 x.2 m := by
    obtain ⟨n, d, k1, k2, k3, k4, k5, _⟩ := meeting_both h1 h2 h
    exact ⟨⟨n, d, x.1.id, x.2.id⟩, k2, k3, k1, k4, rfl, rfl, k5⟩
  unfold fM
  rw [if_neg h, dif_pos hex]
  exact ⟨_, rfl, hex.choose_spec⟩
theorem up_tail {p : Pt} {r : List Pt} (h : Up (p :: r)) : Up r := fun k a b h1 h2 => h (k + 1) a b (by simpa using h1) (by simpa using h2)
theorem pairs_mem {l : List Pt} {x : Pt × Pt} (h : x ∈ pairsOf l) : x.1 ∈ l ∧ x.2 ∈ l := by
  induction l with
  | nil => cases h
  | cons p r ih =>
    rw [pairsOf] at h
    rcases List.mem_append.1 h with h | h
    · obtain ⟨q, hq, rfl⟩ := List.mem_map.1 h
      exact ⟨List.mem_cons_self, List.mem_cons_of_mem _ hq⟩
    · exact ⟨List.mem_cons_of_mem _ (ih h).1, List.mem_cons_of_mem _ (ih h).2⟩
theorem pairs_lt {l : List Pt} (hu : Up l) {x : Pt × Pt} (h : x ∈ pairsOf l) : x.1.id < x.2.id := by
  induction l with
  | nil => cases h
  | cons p r ih =>
    rw [pairsOf] at h
    rcases List.mem_append.1 h with h | h
    · obtain ⟨q, hq, rfl⟩ := List.mem_map.1 h
      obtain ⟨k, hk, rfl⟩ := List.getElem_of_mem hq
      exact hu.mono (i := 0) (j := k + 1) (by omega) rfl (by simp [hk])
    · exact ih (up_tail hu) h
theorem fM_any {l : List Pt} (hv : Val l) {x : Pt × Pt} (h : x ∈ pairsOf l) : (x.1.b = x.2.b ∧ fM x = none) ∨ (x.1.b ≠ x.2.b ∧ ∃ m, fM x = some m ∧ MSpec x.1 x.2 m) := by
  by_cases hb : x.1.b = x.2.b
  · exact Or.inl ⟨hb, fM_same hb⟩
  · exact Or.inr ⟨hb, fM_diff (hv.ok _ (pairs_mem h).1) (hv.ok _ (pairs_mem h).2) hb⟩
/-- All meetings, pair by pair. -/
noncomputable abbrev msOf (l : List Pt) : List Mt := (pairsOf l).filterMap fM
theorem ms_mem {l : List Pt} (hv : Val l) {m : Mt} (h : m ∈ msOf l) : ∃ x ∈ pairsOf l, MSpec x.1 x.2 m ∧ x.1.b ≠ x.2.b := by
  obtain ⟨x, hx, e⟩ := List.mem_filterMap.1 h
  rcases fM_any hv hx with ⟨_, h1⟩ | ⟨hb, m', h1, h2⟩
  · rw [h1] at e; cases e
  · rw [h1] at e; cases e; exact ⟨x, hx, h2, hb⟩
theorem ms_ok {l : List Pt} (hv : Val l) : ∀ m ∈ msOf l, MtOk m := fun m h => by
  obtain ⟨x, _, h2, _⟩ := ms_mem hv h
  exact ⟨h2.n, h2.d, h2.ok⟩
theorem meets_val {l : List Pt} (hv : Val l) : Meets l fM where
  len := by have := hv.len; omega
  run := fun x hx => by
    have o1 := hv.ok _ (pairs_mem hx).1
    have o2 := hv.ok _ (pairs_mem hx).2
    have hlt := pairs_lt hv.up hx
    rcases fM_any hv hx with ⟨hb, h⟩ | ⟨hb, m, h, hm⟩
    · refine Or.inl ⟨h, ?_⟩
      have := Meet_same (pi := x.1.id) (pa := x.1.a) (qi := x.2.id) (qa := x.2.a) (b := x.1.b) o1 (by rw [hb]; exact o2) (by omega)
      rw [show ptV x.2 = pointV x.2.id x.2.a x.1.b by rw [hb]]
      exact this
    · refine Or.inr ⟨m.n, m.d, ?_, Meet_diff o1 o2 (by omega) hb hm.run⟩
      rw [h, ← hm.i, ← hm.j]
  ok := ms_ok hv

noncomputable def nextV (l : List Pt) (fn fd : Int) : Value := if errL l = 0 then (if okB fn fd = true then (match bestOf ordM ((msOf l).filter (kpA fn fd)) with | some m => .tuple #[meetV m, .int .i64 0] | none => .tuple #[meetV z0, .int .i64 6]) else .tuple #[meetV z0, .int .i64 8]) else .tuple #[meetV z0, .int .i64 (errL l)]
noncomputable def lastV (l : List Pt) : Value := if errL l = 0 then (match bestOf latM (msOf l) with | some m => .tuple #[ratioV m.n m.d, .int .i64 0] | none => .tuple #[ratioV 0 0, .int .i64 6]) else .tuple #[ratioV 0 0, .int .i64 (errL l)]
theorem Next_any {fn fd : Int} (h1 : I64 fn) (h2 : I64 fd) (l : List Pt) : FnL Tryz.prog 22 1 [fldS 0 l, .pv (ratioV fn fd)] [(0, 0, rowP l)] (.pv (nextV l fn fd)) 0 [] := by
  unfold nextV
  by_cases h0 : errL l = 0
  · rw [if_pos h0]
    have c := PCheck_any l
    rw [h0] at c
    have hv := err_val.1 h0
    by_cases g1 : okB fn fd = true
    · rw [if_pos g1]
      have hf := first_after (meets_val hv) (fn := fn) (fd := fd) ⟨h1, h2, g1⟩
      cases hb : bestOf ordM ((msOf l).filter (kpA fn fd)) with
      | none => rw [hb] at hf; exact nx_none c (Check_ok h1 h2 g1) hf
      | some m => rw [hb] at hf; exact nx_some c (Check_ok h1 h2 g1) hf
    · rw [if_neg g1]; exact nx_bad c (Check_bad h1 h2 (by simpa using g1))
  · rw [if_neg h0]; exact nx_field (PCheck_any l) (by simpa using h0)
theorem Last_any (l : List Pt) : FnL Tryz.prog 19 1 [fldS 0 l] [(0, 0, rowP l)] (.pv (lastV l)) 0 [] := by
  unfold lastV
  by_cases h0 : errL l = 0
  · rw [if_pos h0]
    have c := PCheck_any l
    rw [h0] at c
    have hv := err_val.1 h0
    have hf := first_last (meets_val hv)
    cases hb : bestOf latM (msOf l) with
    | none => rw [hb] at hf; exact la_none c hf
    | some m => rw [hb] at hf; exact la_some c hf
  · rw [if_neg h0]; exact la_field (PCheck_any l) (by simpa using h0)
end Go.Proofs.YtomnmoinahhdmaaGreat

namespace Go.Proofs.YtomnmoinahhdmaaGreat
open Go.RowKit
structure Ld where
  n : Int
  d : Int
  id : Int
section
variable {x y : Ld} {e : Int} {a b c : Bool}
end
end Go.Proofs.YtomnmoinahhdmaaGreat
