/-
  CrestLater. Conditions: none.
-/
import Derived.Test.YtomnmoinahhdmaaHh
namespace Go.Proofs.Ytomnmoinahhdmaa
open Go.RowKit
theorem ldsV_drop : ∀ (s : List Ld) (k : Nat), (ldsV s).drop (k * 3) = ldsV (s.drop k)
  | s, 0 => by simp
  | [], k + 1 => by simp [ldsV]
  | x :: r, k + 1 => by
    rw [show (k + 1) * 3 = k * 3 + 1 + 1 + 1 by omega]
    exact ldsV_drop r k
theorem ldsV_take_all (s : List Ld) : (ldsV s).take (s.length * 3) = ldsV s := List.take_of_length_le (Nat.le_of_eq (ldsV_length s))
/-- What is behind number k, as a list. -/
theorem tail_ld (s : List Ld) (k : Nat) : [] ++ ((ldsV s).drop ((0 + k) * 3)).take ((s.length - k) * 3) = ldsV (s.drop k) := by
  rw [List.nil_append, Nat.zero_add, ldsV_drop, ← List.length_drop, ldsV_take_all]

set_option maxRecDepth 100000 in
theorem lt_no1 {l : List Pt} {fn fd tn td : Int} (hf : FnL Try.prog 44 1 [fldS 0 l, .pv (ratioV fn fd)] [(0, 0, rowP l)] (.pv (.bool false)) 0 []) (hal : FnL Try.prog 36 0 [] [] (.pv (.bool true)) 0 []) :
    FnL Try.prog 10 1 [fldS 0 l, .pv (ratioV fn fd), .pv (ratioV tn td)] [(0, 0, rowP l)] (.pv (.bool true)) 0 [] :=
  fnl_run 300 [] [.f [0] [fldS 0 l, .pv (ratioV fn fd)] [(0, 0, rowP l)] (.pv (.bool false)) 0 [], .k, .f [] [] [] (.pv (.bool true)) 0 []]
     True.intro (And.intro hf (And.intro (Eq.refl (List.map (SV.ren (renU [0] 4)) [fldS 0 l, .pv (ratioV fn fd)])) (And.intro (reflH (renU [0] 4) [(0, 0, rowP l)]) (And.intro hal (And.intro (Eq.refl (List.map (SV.ren (renU [] 4)) [])) (And.intro (reflH (renU [] 4) []) True.intro)))))) (by kernel_rfl)

set_option maxRecDepth 100000 in
theorem lt_no2 {l : List Pt} {fn fd tn td : Int} (hf : FnL Try.prog 44 1 [fldS 0 l, .pv (ratioV fn fd)] [(0, 0, rowP l)] (.pv (.bool true)) 0 []) (hg : FnL Try.prog 44 1 [fldS 0 l, .pv (ratioV tn td)] [(0, 0, rowP l)] (.pv (.bool false)) 0 []) (hal : FnL Try.prog 36 0 [] [] (.pv (.bool true)) 0 []) :
    FnL Try.prog 10 1 [fldS 0 l, .pv (ratioV fn fd), .pv (ratioV tn td)] [(0, 0, rowP l)] (.pv (.bool true)) 0 [] :=
  fnl_run 300 [] [.f [0] [fldS 0 l, .pv (ratioV fn fd)] [(0, 0, rowP l)] (.pv (.bool true)) 0 [], .k, .f [0] [fldS 0 l, .pv (ratioV tn td)] [(0, 0, rowP l)] (.pv (.bool false)) 0 [], .k, .f [] [] [] (.pv (.bool true)) 0 []]
     True.intro (And.intro hf (And.intro (Eq.refl (List.map (SV.ren (renU [0] 4)) [fldS 0 l, .pv (ratioV fn fd)])) (And.intro (reflH (renU [0] 4) [(0, 0, rowP l)]) (And.intro hg (And.intro (Eq.refl (List.map (SV.ren (renU [0] 4)) [fldS 0 l, .pv (ratioV tn td)])) (And.intro (reflH (renU [0] 4) [(0, 0, rowP l)]) (And.intro hal (And.intro (Eq.refl (List.map (SV.ren (renU [] 4)) [])) (And.intro (reflH (renU [] 4) []) True.intro))))))))) (by kernel_rfl)

set_option maxRecDepth 100000 in
theorem lt_no3 {l : List Pt} {fn fd tn td c : Int} (hf : FnL Try.prog 44 1 [fldS 0 l, .pv (ratioV fn fd)] [(0, 0, rowP l)] (.pv (.bool true)) 0 []) (hg : FnL Try.prog 44 1 [fldS 0 l, .pv (ratioV tn td)] [(0, 0, rowP l)] (.pv (.bool true)) 0 []) (hcc : Pure Try.prog 24 #[ratioV fn fd, ratioV tn td] (.int .i64 (c))) (hz : decide (c > 0) = true) (hal : FnL Try.prog 36 0 [] [] (.pv (.bool true)) 0 []) :
    FnL Try.prog 10 1 [fldS 0 l, .pv (ratioV fn fd), .pv (ratioV tn td)] [(0, 0, rowP l)] (.pv (.bool true)) 0 [] :=
  fnl_run 300 [] [.f [0] [fldS 0 l, .pv (ratioV fn fd)] [(0, 0, rowP l)] (.pv (.bool true)) 0 [], .k, .f [0] [fldS 0 l, .pv (ratioV tn td)] [(0, 0, rowP l)] (.pv (.bool true)) 0 [], .k, .r (.int .i64 (c)), .t true, .f [] [] [] (.pv (.bool true)) 0 []]
     True.intro (And.intro hf (And.intro (Eq.refl (List.map (SV.ren (renU [0] 4)) [fldS 0 l, .pv (ratioV fn fd)])) (And.intro (reflH (renU [0] 4) [(0, 0, rowP l)]) (And.intro hg (And.intro (Eq.refl (List.map (SV.ren (renU [0] 4)) [fldS 0 l, .pv (ratioV tn td)])) (And.intro (reflH (renU [0] 4) [(0, 0, rowP l)]) (And.intro hcc (And.intro hz (And.intro hal (And.intro (Eq.refl (List.map (SV.ren (renU [] 4)) [])) (And.intro (reflH (renU [] 4) []) True.intro))))))))))) (by kernel_rfl)

set_option maxRecDepth 100000 in
theorem lt_ok {l : List Pt} {s t : List Ld} {k : Nat} {fn fd tn td c : Int} (hf : FnL Try.prog 44 1 [fldS 0 l, .pv (ratioV fn fd)] [(0, 0, rowP l)] (.pv (.bool true)) 0 []) (hg : FnL Try.prog 44 1 [fldS 0 l, .pv (ratioV tn td)] [(0, 0, rowP l)] (.pv (.bool true)) 0 []) (hcc : Pure Try.prog 24 #[ratioV fn fd, ratioV tn td] (.int .i64 (c))) (hz : decide (c > 0) = false) (ho : FnL Try.prog 29 1 [fldS 0 l, .pv (ratioV fn fd)] [(0, 0, rowP l)] (.tu [.one (.ls 1 s.length), .one (.pv (.int .i64 0))]) 1 [(1, 0, rowL s)]) (ho2 : FnL Try.prog 29 1 [fldS 0 l, .pv (ratioV tn td)] [(0, 0, rowP l)] (.tu [.one (.ls 1 t.length), .one (.pv (.int .i64 0))]) 1 [(1, 0, rowL t)]) (hn : ((s.length : Int) == 0) = false) (hn2 : ((t.length : Int) == 0) = false) (hc : FnL Try.prog 42 1 [.ls 0 s.length] [(0, 0, rowL s)] (.pv (.int .i64 (0))) 0 []) (hc2 : FnL Try.prog 42 1 [.ls 0 t.length] [(0, 0, rowL t)] (.pv (.int .i64 (0))) 0 []) (hp : FnL Try.prog 47 1 [.ls 0 s.length, .pv (ratioV tn td)] [(0, 0, rowL s)] (.pv (.int .i64 ((k : Int)))) 0 []) (hk : k ≤ s.length) (hn1 : 0 + (s.length - k) ≤ 1000000) (hi0 : 0 ≤ (0 : Int) ∧ (0 : Int) < ((0 + (s.length - k) : Nat) : Int)) (hst : ldsV t = setL ([] ++ ((ldsV s).drop ((0 + k) * 3)).take ((s.length - k) * 3)) 0 [.int .i64 tn, .int .i64 td]) (hst2 : 0 + 2 ≤ ([] ++ ((ldsV s).drop ((0 + k) * 3)).take ((s.length - k) * 3)).length) (hsm : FnL Try.prog 35 2 [.ls 0 t.length, .ls 1 (0 + (s.length - k))] [(0, 0, rowL t), (1, 0, .row 58 3 (0 + (s.length - k)) (ldsV t))] (.pv (.bool true)) 0 []) (hal : FnL Try.prog 36 0 [] [] (.pv (.bool true)) 0 []) :
    FnL Try.prog 10 1 [fldS 0 l, .pv (ratioV fn fd), .pv (ratioV tn td)] [(0, 0, rowP l)] (.pv (.bool true)) 0 [] :=
  fnl_run 300 [] [.f [0] [fldS 0 l, .pv (ratioV fn fd)] [(0, 0, rowP l)] (.pv (.bool true)) 0 [], .k, .f [0] [fldS 0 l, .pv (ratioV tn td)] [(0, 0, rowP l)] (.pv (.bool true)) 0 [], .k, .r (.int .i64 (c)), .t false, .f [0] [fldS 0 l, .pv (ratioV fn fd)] [(0, 0, rowP l)] (.tu [.one (.ls 1 s.length), .one (.pv (.int .i64 0))]) 1 [(1, 0, rowL s)], .f [0] [fldS 0 l, .pv (ratioV tn td)] [(0, 0, rowP l)] (.tu [.one (.ls 1 t.length), .one (.pv (.int .i64 0))]) 1 [(1, 0, rowL t)], .k, .k, .t false, .t false, .f [4] [.ls 0 s.length] [(0, 0, rowL s)] (.pv (.int .i64 (0))) 0 [], .k, .f [5] [.ls 0 t.length] [(0, 0, rowL t)] (.pv (.int .i64 (0))) 0 [], .k, .f [4] [.ls 0 s.length, .pv (ratioV tn td)] [(0, 0, rowL s)] (.pv (.int .i64 ((k : Int)))) 0 [], .k, .w (ldsV t), .f [5,7] [.ls 0 t.length, .ls 1 (0 + (s.length - k))] [(0, 0, rowL t), (1, 0, .row 58 3 (0 + (s.length - k)) (ldsV t))] (.pv (.bool true)) 0 [], .f [] [] [] (.pv (.bool true)) 0 []]
     True.intro (And.intro hf (And.intro (Eq.refl (List.map (SV.ren (renU [0] 4)) [fldS 0 l, .pv (ratioV fn fd)])) (And.intro (reflH (renU [0] 4) [(0, 0, rowP l)]) (And.intro hg (And.intro (Eq.refl (List.map (SV.ren (renU [0] 4)) [fldS 0 l, .pv (ratioV tn td)])) (And.intro (reflH (renU [0] 4) [(0, 0, rowP l)]) (And.intro hcc (And.intro hz (And.intro ho (And.intro (Eq.refl (List.map (SV.ren (renU [0] 4)) [fldS 0 l, .pv (ratioV fn fd)])) (And.intro (reflH (renU [0] 4) [(0, 0, rowP l)]) (And.intro ho2 (And.intro (Eq.refl (List.map (SV.ren (renU [0] 5)) [fldS 0 l, .pv (ratioV tn td)])) (And.intro (reflH (renU [0] 5) [(0, 0, rowP l)]) (And.intro hn (And.intro hn2 (And.intro hc (And.intro (Eq.refl (List.map (SV.ren (renU [4] 6)) [.ls 0 s.length])) (And.intro (reflH (renU [4] 6) [(0, 0, rowL s)]) (And.intro hc2 (And.intro (Eq.refl (List.map (SV.ren (renU [5] 6)) [.ls 0 t.length])) (And.intro (reflH (renU [5] 6) [(0, 0, rowL t)]) (And.intro hp (And.intro (Eq.refl (List.map (SV.ren (renU [4] 7)) [.ls 0 s.length, .pv (ratioV tn td)])) (And.intro (reflH (renU [4] 7) [(0, 0, rowL s)]) (And.intro (Int.natCast_nonneg k : (0 : Int) ≤ (k : Int)) (And.intro True.intro (And.intro hk (And.intro (Nat.le_refl s.length) (And.intro hn1 (And.intro hi0 (And.intro hst (And.intro hst2 (And.intro hsm (And.intro (Eq.refl (List.map (SV.ren (renU [5,7] 8)) [.ls 0 t.length, .ls 1 (0 + (s.length - k))])) (And.intro (reflH (renU [5,7] 8) [(0, 0, rowL t), (1, 0, .row 58 3 (0 + (s.length - k)) (ldsV t))]) (And.intro hal (And.intro (Eq.refl (List.map (SV.ren (renU [] 8)) [])) (And.intro (reflH (renU [] 8) []) True.intro))))))))))))))))))))))))))))))))))))))) (by kernel_rfl)

theorem Same5r {t : List Ld} {m : Nat} (h : t.length = m) (hn : t.length ≤ 100000) : FnL Try.prog 35 2 [.ls 0 t.length, .ls 1 m] [(0, 0, rowL t), (1, 0, .row 58 3 m (ldsV t))] (.pv (.bool true)) 0 [] := by
  subst h
  exact Same5 hn
/-- The reference's place of a time in a crest. -/
theorem Place_ok {s : List Ld} (hi : ∀ x ∈ s, I64L x) (hn : s.length ≤ 100000) {tn td : Int} (h3 : I64 tn) (h4 : I64 td) {k : Nat} {x : Ld} (h : AtK s tn td k x) : FnL Try.prog 47 1 [.ls 0 s.length, .pv (ratioV tn td)] [(0, 0, rowL s)] (.pv (.int .i64 (k : Int))) 0 [] := by
  have hk := get_lt h.get
  have hlast : min (s.length - 1) k = k := by omega
  have L := RunsL.rounds (P := Try.prog) (lo := 1) (fr := 1) (c := loopOf Try.prog 47 0) (n := 23) (nb := 2) (fun j => [(0, .ls 0 s.length), (3, .pp 1 0), (5, .pv (.int .i64 ((min (j - 1) k : Nat) : Int))), (6, .pv (.int .i64 (j : Int)))])
    (fun _ => [(1, 0, .pv (.int .i64 tn)), (1, 1, .pv (.int .i64 td)), (0, 0, rowL s)]) s.length 0 (Nat.zero_add _) (fun j _ hj r => by
      obtain ⟨y, hy⟩ := get_some (l := s) (k := j) hj
      have hm := List.mem_of_getElem? hy
      have hc := RCompare_any (hi y hm).n (hi y hm).d h3 h4
      by_cases hjk : j ≤ k
      · have hle : cv y tn td ≤ 0 := by
          rcases Nat.lt_or_ge j k with g | g
          · have := h.lo j y g hy; omega
          · have : j = k := by omega
            subst this
            rw [h.get] at hy; cases hy; exact h.le
        rw [show min (j + 1 - 1) k = j by omega] at r
        exact plc_up hy ⟨by omega, by omega⟩ (dt (by omega)) hc (dt hle) (i64_succ (by omega)) r
      · have hgt := h.hi j y (by omega) hy
        rw [show min (j + 1 - 1) k = min (j - 1) k by omega] at r
        exact plc_no hy ⟨by omega, by omega⟩ (dt (by omega)) hc (df (by unfold cv at hgt; omega)) (i64_succ (by omega)) r) (plc_end (df (by omega)))
  have r := plc_path L
  rw [hlast] at r
  exact r
theorem setL_head {x : Ld} {r : List Ld} {tn td : Int} : setL (ldsV (x :: r)) 0 [.int .i64 tn, .int .i64 td] = ldsV (⟨tn, td, x.id⟩ :: r) := rfl
theorem Later_any {fn fd tn td : Int} (h1 : I64 fn) (h2 : I64 fd) (h3 : I64 tn) (h4 : I64 td) (l : List Pt) : FnL Try.prog 10 1 [fldS 0 l, .pv (ratioV fn fd), .pv (ratioV tn td)] [(0, 0, rowP l)] (.pv (.bool true)) 0 [] := by
  obtain ⟨b, hf, hb⟩ := Fit5_any h1 h2 l
  obtain ⟨g, hg, hgb⟩ := Fit5_any h3 h4 l
  cases b with
  | false => exact lt_no1 hf Alive5
  | true =>
    cases g with
    | false => exact lt_no2 hf hg Alive5
    | true =>
      obtain ⟨hne, he⟩ := hb rfl
      obtain ⟨hv, hk⟩ := tE_val he
      have ht : Tm fn fd := ⟨h1, h2, hk⟩
      have ht' : Tm tn td := ⟨h3, h4, (tE_val (hgb rfl).2).2⟩
      have d0 := okB_den ht.ok
      have d1 := okB_den ht'.ok
      have hcmp := RCompare_any h1 h2 h3 h4
      by_cases hz : (fn * td - tn * fd).sign > 0
      · exact lt_no3 hf hg hcmp (dt hz) Alive5
      · have hvc := crest_vc hv hne ht
        have hi := crest_i64 hv hne ht
        have hl := crest_len hv hne ht
        have h0 := crest_zero hv hne ht
        have ho := Of_ok hv hne ht
        have hvc2 := crest_vc hv hne ht'
        have hi2 := crest_i64 hv hne ht'
        have hl2 := crest_len hv hne ht'
        have ho2 := Of_ok hv hne ht'
        have h64 := hv.len
        have hp0 : cv (⟨fn, fd, (ldr l fn fd).id⟩ : Ld) tn td ≤ 0 := by
          unfold cv; show (fn * td - tn * fd).sign ≤ 0; omega
        obtain ⟨k, y, hk'⟩ := at_ex hvc (by omega) h0 hp0
        obtain ⟨q, hq, hle⟩ := at_leads hv hne ht ht' hk'
        obtain ⟨t, e1, e2, _⟩ := crest_spec hv hne ht'
        rw [hle] at e1 e2
        have et : t = (crest l fn fd).drop (k + 1) := e2.uniq hq
        subst et
        have hkl := get_lt hk'.get
        have hpl := Place_ok hi (by omega) h3 h4 hk'
        have ed : (crest l fn fd).drop k = y :: (crest l fn fd).drop (k + 1) := by
          rw [List.drop_eq_getElem_cons hkl]
          have := hk'.get
          rw [List.getElem?_eq_getElem hkl] at this
          rw [Option.some.inj this]
        have ey : y.id = q.id := hq.base.id.symm
        have exs := tail_ld (crest l fn fd) k
        generalize crest l fn fd = s at *
        generalize crest l tn td = u at *
        subst e1
        refine lt_ok hf hg hcmp (df hz) ho ho2 (by rw [beq_eq_false_iff_ne]; omega) (by rw [beq_eq_false_iff_ne]; omega) (RCk_ok hi hvc) (RCk_ok hi2 hvc2) hpl (by omega) (by omega) ⟨by omega, by omega⟩ ?_ ?_ (Same5r ?_ (by omega)) Alive5
        · rw [exs, ed, setL_head, ey]
        · rw [exs, ed, ldsV_length, List.length_cons]; omega
        · rw [List.length_cons, List.length_drop]; omega
theorem later_walk {u : Value} {l : List Pt} {W : World} (hr : Rd W 3 u l.length (ptsV l)) {fn fd tn td : Int} (h5 : -9223372036854775808 ≤ fn ∧ fn ≤ 9223372036854775807) (h6 : -9223372036854775808 ≤ fd ∧ fd ≤ 9223372036854775807) (h7 : -9223372036854775808 ≤ tn ∧ tn ≤ 9223372036854775807) (h8 : -9223372036854775808 ≤ td ∧ td ≤ 9223372036854775807) :
    Calls Try.prog 10 #[.agg #[u], ratioV fn fd, ratioV tn td] W fun e W' => e = .returned (.bool true) ∧ Gr W W' :=
  fld_run (vs := [ratioV fn fd, ratioV tn td]) (Later_any h5 h6 h7 h8 l) hr
end Go.Proofs.Ytomnmoinahhdmaa
