/-
  CrestMerges holds of every field and two lists of leads. Conditions: none.
-/
import Derived.Test.YtpngjeloiifgnaaGreatIo
import Derived.Test.YtpngjeloiifgnaaGreatW43
namespace Go.Proofs.YtpngjeloiifgnaaGreat
open Go.RowKit
set_option maxRecDepth 100000 in
theorem cm_g1 {l : List Pt} {c d : List Ld} (hg : FnL Tryz.prog 5 1 [fldS 0 l] [(0, 0, rowP l)] (.pv (.bool true)) 0 []) :
    FnL Tryz.prog 3 3 [fldS 0 l, .ls 1 c.length, .ls 2 d.length] [(0, 0, rowP l), (1, 0, rowL c), (2, 0, rowL d)] (.pv (.bool true)) 0 [] :=
  fnl_run 300 [] [.f [0] [fldS 0 l] [(0, 0, rowP l)] (.pv (.bool true)) 0 []]
     True.intro (And.intro hg (And.intro (Eq.refl (List.map (SV.ren (renU [0] 4)) [fldS 0 l])) (And.intro (reflH (renU [0] 4) [(0, 0, rowP l)]) True.intro))) (by kernel_rfl)

set_option maxRecDepth 100000 in
theorem cm_g2 {l : List Pt} {c d : List Ld} (hg : FnL Tryz.prog 5 1 [fldS 0 l] [(0, 0, rowP l)] (.pv (.bool false)) 0 []) (hga : FnL Tryz.prog 6 1 [.ls 0 c.length] [(0, 0, rowL c)] (.pv (.bool true)) 0 []) :
    FnL Tryz.prog 3 3 [fldS 0 l, .ls 1 c.length, .ls 2 d.length] [(0, 0, rowP l), (1, 0, rowL c), (2, 0, rowL d)] (.pv (.bool true)) 0 [] :=
  fnl_run 300 [] [.f [0] [fldS 0 l] [(0, 0, rowP l)] (.pv (.bool false)) 0 [], .f [1] [.ls 0 c.length] [(0, 0, rowL c)] (.pv (.bool true)) 0 []]
     True.intro (And.intro hg (And.intro (Eq.refl (List.map (SV.ren (renU [0] 4)) [fldS 0 l])) (And.intro (reflH (renU [0] 4) [(0, 0, rowP l)]) (And.intro hga (And.intro (Eq.refl (List.map (SV.ren (renU [1] 4)) [.ls 0 c.length])) (And.intro (reflH (renU [1] 4) [(0, 0, rowL c)]) True.intro)))))) (by kernel_rfl)

set_option maxRecDepth 100000 in
theorem cm_g3 {l : List Pt} {c d : List Ld} (hg : FnL Tryz.prog 5 1 [fldS 0 l] [(0, 0, rowP l)] (.pv (.bool false)) 0 []) (hga : FnL Tryz.prog 6 1 [.ls 0 c.length] [(0, 0, rowL c)] (.pv (.bool false)) 0 []) (hgb : FnL Tryz.prog 6 1 [.ls 0 d.length] [(0, 0, rowL d)] (.pv (.bool true)) 0 []) :
    FnL Tryz.prog 3 3 [fldS 0 l, .ls 1 c.length, .ls 2 d.length] [(0, 0, rowP l), (1, 0, rowL c), (2, 0, rowL d)] (.pv (.bool true)) 0 [] :=
  fnl_run 300 [] [.f [0] [fldS 0 l] [(0, 0, rowP l)] (.pv (.bool false)) 0 [], .f [1] [.ls 0 c.length] [(0, 0, rowL c)] (.pv (.bool false)) 0 [], .f [2] [.ls 0 d.length] [(0, 0, rowL d)] (.pv (.bool true)) 0 []]
     True.intro (And.intro hg (And.intro (Eq.refl (List.map (SV.ren (renU [0] 4)) [fldS 0 l])) (And.intro (reflH (renU [0] 4) [(0, 0, rowP l)]) (And.intro hga (And.intro (Eq.refl (List.map (SV.ren (renU [1] 4)) [.ls 0 c.length])) (And.intro (reflH (renU [1] 4) [(0, 0, rowL c)]) (And.intro hgb (And.intro (Eq.refl (List.map (SV.ren (renU [2] 4)) [.ls 0 d.length])) (And.intro (reflH (renU [2] 4) [(0, 0, rowL d)]) True.intro))))))))) (by kernel_rfl)

set_option maxRecDepth 100000 in
theorem cm_ok {l : List Pt} {s c d : List Ld} (hg : FnL Tryz.prog 5 1 [fldS 0 l] [(0, 0, rowP l)] (.pv (.bool false)) 0 []) (hga : FnL Tryz.prog 6 1 [.ls 0 c.length] [(0, 0, rowL c)] (.pv (.bool false)) 0 []) (hgb : FnL Tryz.prog 6 1 [.ls 0 d.length] [(0, 0, rowL d)] (.pv (.bool false)) 0 []) (hn1 : 0 + c.length ≤ 1000000) (hn2 : 0 + d.length ≤ 1000000) (hm : FnL Tryz.prog 7 3 [fldS 0 l, .ls 1 c.length, .ls 2 d.length] [(0, 0, rowP l), (1, 0, rowL c), (2, 0, rowL d)] (.tu [.one (.ls 3 s.length), .one (.pv (.int .i64 0))]) 1 [(3, 0, rowL s)]) (hm2 : FnL Tryz.prog 8 3 [fldS 0 l, .ls 1 (0 + c.length), .ls 2 (0 + d.length)] [(0, 0, rowP l), (1, 0, .row 57 3 (0 + c.length) (ldsV c)), (2, 0, .row 57 3 (0 + d.length) (ldsV d))] (.tu [.one (.ls 3 s.length), .one (.pv (.int .i64 0))]) 1 [(3, 0, rowL s)]) (hs : FnL Tryz.prog 9 2 [.ls 0 s.length, .ls 1 s.length] [(0, 0, rowL s), (1, 0, rowL s)] (.pv (.bool true)) 0 []) (hS1 : FnL Tryz.prog 9 2 [.ls 0 c.length, .ls 1 (0 + c.length)] [(0, 0, rowL c), (1, 0, .row 57 3 (0 + c.length) (ldsV c))] (.pv (.bool true)) 0 []) (hS2 : FnL Tryz.prog 9 2 [.ls 0 d.length, .ls 1 (0 + d.length)] [(0, 0, rowL d), (1, 0, .row 57 3 (0 + d.length) (ldsV d))] (.pv (.bool true)) 0 []) :
    FnL Tryz.prog 3 3 [fldS 0 l, .ls 1 c.length, .ls 2 d.length] [(0, 0, rowP l), (1, 0, rowL c), (2, 0, rowL d)] (.pv (.bool true)) 0 [] :=
  fnl_run 300 [] [.f [0] [fldS 0 l] [(0, 0, rowP l)] (.pv (.bool false)) 0 [], .f [1] [.ls 0 c.length] [(0, 0, rowL c)] (.pv (.bool false)) 0 [], .f [2] [.ls 0 d.length] [(0, 0, rowL d)] (.pv (.bool false)) 0 [], .f [0,1,2] [fldS 0 l, .ls 1 c.length, .ls 2 d.length] [(0, 0, rowP l), (1, 0, rowL c), (2, 0, rowL d)] (.tu [.one (.ls 3 s.length), .one (.pv (.int .i64 0))]) 1 [(3, 0, rowL s)], .f [0,5,7] [fldS 0 l, .ls 1 (0 + c.length), .ls 2 (0 + d.length)] [(0, 0, rowP l), (1, 0, .row 57 3 (0 + c.length) (ldsV c)), (2, 0, .row 57 3 (0 + d.length) (ldsV d))] (.tu [.one (.ls 3 s.length), .one (.pv (.int .i64 0))]) 1 [(3, 0, rowL s)], .f [8,9] [.ls 0 s.length, .ls 1 s.length] [(0, 0, rowL s), (1, 0, rowL s)] (.pv (.bool true)) 0 [], .k, .f [1,5] [.ls 0 c.length, .ls 1 (0 + c.length)] [(0, 0, rowL c), (1, 0, .row 57 3 (0 + c.length) (ldsV c))] (.pv (.bool true)) 0 [], .f [2,7] [.ls 0 d.length, .ls 1 (0 + d.length)] [(0, 0, rowL d), (1, 0, .row 57 3 (0 + d.length) (ldsV d))] (.pv (.bool true)) 0 []]
     True.intro (And.intro hg (And.intro (Eq.refl (List.map (SV.ren (renU [0] 4)) [fldS 0 l])) (And.intro (reflH (renU [0] 4) [(0, 0, rowP l)]) (And.intro hga (And.intro (Eq.refl (List.map (SV.ren (renU [1] 4)) [.ls 0 c.length])) (And.intro (reflH (renU [1] 4) [(0, 0, rowL c)]) (And.intro hgb (And.intro (Eq.refl (List.map (SV.ren (renU [2] 4)) [.ls 0 d.length])) (And.intro (reflH (renU [2] 4) [(0, 0, rowL d)]) (And.intro hn1 (And.intro hn2 (And.intro hm (And.intro (Eq.refl (List.map (SV.ren (renU [0,1,2] 8)) [fldS 0 l, .ls 1 c.length, .ls 2 d.length])) (And.intro (reflH (renU [0,1,2] 8) [(0, 0, rowP l), (1, 0, rowL c), (2, 0, rowL d)]) (And.intro hm2 (And.intro (Eq.refl (List.map (SV.ren (renU [0,5,7] 9)) [fldS 0 l, .ls 1 (0 + c.length), .ls 2 (0 + d.length)])) (And.intro (reflH (renU [0,5,7] 9) [(0, 0, rowP l), (1, 0, .row 57 3 (0 + c.length) (ldsV c)), (2, 0, .row 57 3 (0 + d.length) (ldsV d))]) (And.intro hs (And.intro (Eq.refl (List.map (SV.ren (renU [8,9] 10)) [.ls 0 s.length, .ls 1 s.length])) (And.intro (reflH (renU [8,9] 10) [(0, 0, rowL s), (1, 0, rowL s)]) (And.intro hS1 (And.intro (Eq.refl (List.map (SV.ren (renU [1,5] 10)) [.ls 0 c.length, .ls 1 (0 + c.length)])) (And.intro (reflH (renU [1,5] 10) [(0, 0, rowL c), (1, 0, .row 57 3 (0 + c.length) (ldsV c))]) (And.intro hS2 (And.intro (Eq.refl (List.map (SV.ren (renU [2,7] 10)) [.ls 0 d.length, .ls 1 (0 + d.length)])) (And.intro (reflH (renU [2,7] 10) [(0, 0, rowL d), (1, 0, .row 57 3 (0 + d.length) (ldsV d))]) True.intro)))))))))))))))))))))))))) (by kernel_rfl)

set_option maxRecDepth 100000 in
theorem cm_err {l : List Pt} {c d : List Ld} {er : Int} (hg : FnL Tryz.prog 5 1 [fldS 0 l] [(0, 0, rowP l)] (.pv (.bool false)) 0 []) (hga : FnL Tryz.prog 6 1 [.ls 0 c.length] [(0, 0, rowL c)] (.pv (.bool false)) 0 []) (hgb : FnL Tryz.prog 6 1 [.ls 0 d.length] [(0, 0, rowL d)] (.pv (.bool false)) 0 []) (hn1 : 0 + c.length ≤ 1000000) (hn2 : 0 + d.length ≤ 1000000) (hm : FnL Tryz.prog 7 3 [fldS 0 l, .ls 1 c.length, .ls 2 d.length] [(0, 0, rowP l), (1, 0, rowL c), (2, 0, rowL d)] (.pv (.tuple #[.slice none 0 0, .int .i64 er])) 0 []) (hm2 : FnL Tryz.prog 8 3 [fldS 0 l, .ls 1 (0 + c.length), .ls 2 (0 + d.length)] [(0, 0, rowP l), (1, 0, .row 57 3 (0 + c.length) (ldsV c)), (2, 0, .row 57 3 (0 + d.length) (ldsV d))] (.pv (.tuple #[.slice none 0 0, .int .i64 er])) 0 []) (hs : Pure Tryz.prog 9 #[.slice none 0 0, .slice none 0 0] (.bool true)) (he : (er == er) = true) (hS1 : FnL Tryz.prog 9 2 [.ls 0 c.length, .ls 1 (0 + c.length)] [(0, 0, rowL c), (1, 0, .row 57 3 (0 + c.length) (ldsV c))] (.pv (.bool true)) 0 []) (hS2 : FnL Tryz.prog 9 2 [.ls 0 d.length, .ls 1 (0 + d.length)] [(0, 0, rowL d), (1, 0, .row 57 3 (0 + d.length) (ldsV d))] (.pv (.bool true)) 0 []) :
    FnL Tryz.prog 3 3 [fldS 0 l, .ls 1 c.length, .ls 2 d.length] [(0, 0, rowP l), (1, 0, rowL c), (2, 0, rowL d)] (.pv (.bool true)) 0 [] :=
  fnl_run 300 [] [.f [0] [fldS 0 l] [(0, 0, rowP l)] (.pv (.bool false)) 0 [], .f [1] [.ls 0 c.length] [(0, 0, rowL c)] (.pv (.bool false)) 0 [], .f [2] [.ls 0 d.length] [(0, 0, rowL d)] (.pv (.bool false)) 0 [], .f [0,1,2] [fldS 0 l, .ls 1 c.length, .ls 2 d.length] [(0, 0, rowP l), (1, 0, rowL c), (2, 0, rowL d)] (.pv (.tuple #[.slice none 0 0, .int .i64 er])) 0 [], .f [0,5,7] [fldS 0 l, .ls 1 (0 + c.length), .ls 2 (0 + d.length)] [(0, 0, rowP l), (1, 0, .row 57 3 (0 + c.length) (ldsV c)), (2, 0, .row 57 3 (0 + d.length) (ldsV d))] (.pv (.tuple #[.slice none 0 0, .int .i64 er])) 0 [], .r (.bool true), .t true, .f [1,5] [.ls 0 c.length, .ls 1 (0 + c.length)] [(0, 0, rowL c), (1, 0, .row 57 3 (0 + c.length) (ldsV c))] (.pv (.bool true)) 0 [], .f [2,7] [.ls 0 d.length, .ls 1 (0 + d.length)] [(0, 0, rowL d), (1, 0, .row 57 3 (0 + d.length) (ldsV d))] (.pv (.bool true)) 0 []]
     True.intro (And.intro hg (And.intro (Eq.refl (List.map (SV.ren (renU [0] 4)) [fldS 0 l])) (And.intro (reflH (renU [0] 4) [(0, 0, rowP l)]) (And.intro hga (And.intro (Eq.refl (List.map (SV.ren (renU [1] 4)) [.ls 0 c.length])) (And.intro (reflH (renU [1] 4) [(0, 0, rowL c)]) (And.intro hgb (And.intro (Eq.refl (List.map (SV.ren (renU [2] 4)) [.ls 0 d.length])) (And.intro (reflH (renU [2] 4) [(0, 0, rowL d)]) (And.intro hn1 (And.intro hn2 (And.intro hm (And.intro (Eq.refl (List.map (SV.ren (renU [0,1,2] 8)) [fldS 0 l, .ls 1 c.length, .ls 2 d.length])) (And.intro (reflH (renU [0,1,2] 8) [(0, 0, rowP l), (1, 0, rowL c), (2, 0, rowL d)]) (And.intro hm2 (And.intro (Eq.refl (List.map (SV.ren (renU [0,5,7] 8)) [fldS 0 l, .ls 1 (0 + c.length), .ls 2 (0 + d.length)])) (And.intro (reflH (renU [0,5,7] 8) [(0, 0, rowP l), (1, 0, .row 57 3 (0 + c.length) (ldsV c)), (2, 0, .row 57 3 (0 + d.length) (ldsV d))]) (And.intro hs (And.intro he (And.intro hS1 (And.intro (Eq.refl (List.map (SV.ren (renU [1,5] 8)) [.ls 0 c.length, .ls 1 (0 + c.length)])) (And.intro (reflH (renU [1,5] 8) [(0, 0, rowL c), (1, 0, .row 57 3 (0 + c.length) (ldsV c))]) (And.intro hS2 (And.intro (Eq.refl (List.map (SV.ren (renU [2,7] 8)) [.ls 0 d.length, .ls 1 (0 + d.length)])) (And.intro (reflH (renU [2,7] 8) [(0, 0, rowL d), (1, 0, .row 57 3 (0 + d.length) (ldsV d))]) True.intro))))))))))))))))))))))))) (by kernel_rfl)
theorem cast_rows {f : FuncId} {l : List Pt} {c d : List Ld} {m n k : Nat} {x : SV} {post : List (Nat × Nat × SV)} (h1 : c.length = m) (h2 : d.length = n) (h : FnL Tryz.prog f 3 [fldS 0 l, .ls 1 c.length, .ls 2 d.length] [(0, 0, rowP l), (1, 0, rowL c), (2, 0, rowL d)] x k post) : FnL Tryz.prog f 3 [fldS 0 l, .ls 1 m, .ls 2 n] [(0, 0, rowP l), (1, 0, .row 57 3 m (ldsV c)), (2, 0, .row 57 3 n (ldsV d))] x k post := by
  subst h1; subst h2; exact h
theorem Merges_any (l : List Pt) {c d : List Ld} (hc : ∀ x ∈ c, I64L x) (hd : ∀ x ∈ d, I64L x) : FnL Tryz.prog 3 3 [fldS 0 l, .ls 1 c.length, .ls 2 d.length] [(0, 0, rowP l), (1, 0, rowL c), (2, 0, rowL d)] (.pv (.bool true)) 0 [] := by
  rcases Great_any l with ⟨_, hg⟩ | ⟨_, hg⟩
  · exact cm_g1 hg
  · obtain ⟨b1, ga, k1⟩ := Great5_any c
    cases b1 with
    | true => exact cm_g2 hg ga
    | false =>
      obtain ⟨b2, gb, k2⟩ := Great5_any d
      cases b2 with
      | true => exact cm_g3 hg ga gb
      | false =>
        have lc := k1 rfl
        have ld' := k2 rfl
        have e1 : c.length = 0 + c.length := by omega
        have e2 : d.length = 0 + d.length := by omega
        have s1 := Same5r (t := c) e1 (by omega)
        have s2 := Same5r (t := d) e2 (by omega)
        rcases Merge_any l hc hd (by omega) (by omega) with ⟨s, ls, m1, m2⟩ | ⟨er, m1, m2⟩
        · exact cm_ok (hg := hg) (hga := ga) (hgb := gb) (hn1 := by omega) (hn2 := by omega) (hm := m1) (hm2 := cast_rows e1 e2 m2) (hs := Same5 ls) (hS1 := s1) (hS2 := s2)
        · exact cm_err (hg := hg) (hga := ga) (hgb := gb) (hn1 := by omega) (hn2 := by omega) (hm := m1) (hm2 := cast_rows e1 e2 m2) (hs := Same5_nil) (he := by simp) (hS1 := s1) (hS2 := s2)
theorem merges_walk {u v w : Value} {l : List Pt} {c d : List Ld} {W : World} (hr : Rd W 3 u l.length (ptsV l)) (hc : Rd W 3 v c.length (ldsV c)) (hw : ∀ p ∈ c, ((Lit.int .i64 p.n).wf = true ∧ (Lit.int .i64 p.d).wf = true ∧ (Lit.int .i64 p.id).wf = true)) (hd : Rd W 3 w d.length (ldsV d)) (hx : ∀ p ∈ d, ((Lit.int .i64 p.n).wf = true ∧ (Lit.int .i64 p.d).wf = true ∧ (Lit.int .i64 p.id).wf = true)) :
    Calls Tryz.prog 3 #[.agg #[u], v, w] W fun e W' => e = .returned (.bool true) ∧ Gr W W' := by
  obtain ⟨a, k, hu⟩ := hr.sl
  obtain ⟨a', k', hv⟩ := hc.sl
  obtain ⟨a2, k2, hz⟩ := hd.sl
  exact ins_run (rs := [(68, 3, l.length, ptsV l), (57, 3, c.length, ldsV c), (57, 3, d.length, ldsV d)]) (us := [u, v, w]) (vs := [.agg #[u], v, w]) (Merges_any l (fun x hx' => ⟨bounds_i64 (hw x hx').1, bounds_i64 (hw x hx').2.1⟩) (fun x hx' => ⟨bounds_i64 (hx x hx').1, bounds_i64 (hx x hx').2.1⟩))
    (.cons hr (pts_one l) (.cons hc (lds_one c) (.cons hd (lds_one d) .nil))) ⟨⟨[u], ⟨⟨rfl, a, k, hu⟩, True.intro⟩, rfl⟩, ⟨rfl, a', k', hv⟩, ⟨rfl, a2, k2, hz⟩, True.intro⟩
end Go.Proofs.YtpngjeloiifgnaaGreat
