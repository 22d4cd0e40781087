/-
  CrestNames. Conditions: none.
-/
import Derived.Test.YtoheadpehomdjaaIf
namespace Go.Proofs.Ytoheadpehomdjaa
open Go.RowKit
def lgk (k : Nat) : List Ld := (List.range k).map lgf ++ List.replicate (301 - k) ⟨0, 0, 0⟩
theorem lgk_len {k : Nat} (h : k ≤ 301) : (lgk k).length = 301 := by unfold lgk; simp; omega
theorem lgk_end : lgk 301 = lg := by unfold lgk lg; simp
theorem lgk_set {k : Nat} (h : k < 301) : (lgk k).set k (lgf k) = lgk (k + 1) := by
  unfold lgk
  have e : 301 - k = (301 - (k + 1)) + 1 := by omega
  rw [e, List.replicate_succ, List.range_succ, List.map_append, List.set_append_right _ _ (by simp)]
  simp
theorem ldsV_set : ∀ (l : List Ld) (k : Nat) (m : Ld), k < l.length → ldsV (l.set k m) = setL (ldsV l) (0 * 3 + k * 3) (lcV m)
  | [], _, _, h => by simp at h
  | q :: r, 0, m, _ => by simp [ldsV, setL]
  | q :: r, k + 1, m, h => by
    rw [show 0 * 3 + (k + 1) * 3 = (0 * 3 + k * 3) + 1 + 1 + 1 by omega, List.set_cons_succ]
    show Value.int .i64 q.n :: Value.int .i64 q.d :: Value.int .i64 q.id :: ldsV (r.set k m) = _
    rw [ldsV_set r k m (by simpa using h)]
    simp [ldsV, setL]
theorem lg_st {k : Nat} (h : k < 301) : ldsV (lgk (k + 1)) = setL (ldsV (lgk k)) (0 * 3 + k * 3) (lcV (lgf k)) := by
  rw [← lgk_set h]
  exact ldsV_set _ _ _ (by rw [lgk_len (by omega)]; exact h)
theorem lg_in {k : Nat} (h : k < 301) : 0 * 3 + k * 3 + 3 ≤ (ldsV (lgk k)).length := by rw [ldsV_length, lgk_len (by omega)]; omega
abbrev RLG (k : Nat) : Prop := RunsL Try.prog 0 0 (loopOf Try.prog 3 0) 311 5 ([(2, .pv (.int .i64 42)), (4, .pv (.int .i64 8)), (6, .pv (.int .i64 4)), (8, .pv (.int .i64 8)), (9, .ls 3 1), (10, .ls 4 301), (11, .pv (.int .i64 (k : Int)))]) ([(3, 0, rowL one1), (4, 0, .row 34 3 301 (ldsV (lgk k)))]) (.exit 0) ([(2, .pv (.int .i64 42)), (4, .pv (.int .i64 8)), (6, .pv (.int .i64 4)), (8, .pv (.int .i64 8)), (9, .ls 3 1), (10, .ls 4 301)]) ([(3, 0, rowL one1), (4, 0, .row 34 3 301 (ldsV lg))])
set_option maxRecDepth 100000 in
theorem lg_next {k : Nat} (h : k < 301) (r : RLG (k + 1)) : RLG k :=
  RunsL.next [] 300 [.t true, .k, .w (ldsV (lgk (k + 1))), .r (.int .i64 ((k + 1 : Nat) : Int))]
    (round_of (And.intro (show decide ((k : Int) < 301) = true from dt (by omega)) (And.intro (show 0 ≤ (k : Int) ∧ (k : Int) < ((301 : Nat) : Int) from ⟨by omega, by omega⟩) (And.intro (lg_st h) (And.intro (lg_in h) (And.intro (show Value.int .i64 (IntKind.i64.wrap ((k : Int) + 1)) = .int .i64 ((k + 1 : Nat) : Int) from i64_succ (by omega)) True.intro))))) (by kernel_rfl)) r
set_option maxRecDepth 100000 in
theorem lg_last : RLG 301 := by
  unfold RLG
  rw [lgk_end]
  exact RunsL.stop [] 300 [.t false] (fun h => by cases h)
    (round_of (And.intro (show decide (((301 : Nat) : Int) < 301) = false from df (by omega)) True.intro) (by kernel_rfl))
theorem lg_run : RLG 0 := by
  have key : ∀ d k, k + d = 301 → RLG k := by
    intro d
    induction d with
    | zero => intro k h; have : k = 301 := by omega
              subst this; exact lg_last
    | succ d ih => intro k h; exact lg_next (by omega) (ih (k + 1) (by omega))
  exact key 301 0 rfl
theorem rep_lds : ∀ n, repL [Value.int .i64 0, .int .i64 0, .int .i64 0] n = ldsV (List.replicate n ⟨0, 0, 0⟩)
  | 0 => rfl
  | n + 1 => by rw [List.replicate_succ]; show _ :: _ :: _ :: repL _ n = _; rw [rep_lds n]; rfl
theorem lg_zero : lgk 0 = List.replicate 301 ⟨0, 0, 0⟩ := by unfold lgk; rfl
theorem at8 {c : List Ld} (h : FnL Try.prog 11 1 [.ls 0 c.length] [(0, 0, rowL c)] (.pv (.int .i64 8)) 0 []) : FnL Try.prog 9 1 [.ls 0 c.length, .pv (ratioV 0 0)] [(0, 0, rowL c)] (.pv (.tuple #[.int .i64 0, .int .i64 8])) 0 [] := cat_bad1 h rck0
abbrev rlg : SV := .row 34 3 301 (ldsV lg)
theorem rlg_eq : rowL lg = rlg := by unfold rowL rlg; rw [lg_len]
theorem at8l : FnL Try.prog 9 1 [.ls 0 301, .pv (ratioV 0 0)] [(0, 0, rlg)] (.pv (.tuple #[.int .i64 0, .int .i64 8])) 0 [] := by
  have h := at8 ckl
  rw [rlg_eq, lg_len] at h
  exact h
theorem cklr : FnL Try.prog 11 1 [.ls 0 301] [(0, 0, rlg)] (.pv (.int .i64 8)) 0 [] := by
  have h := ckl
  rw [rlg_eq, lg_len] at h
  exact h
theorem mgrl : FnL Try.prog 10 3 [fldS 0 gl, .ls 1 1, .ls 2 301] [(0, 0, rowP gl), (1, 0, rowL one1), (2, 0, rlg)] (.pv (.tuple #[.slice none 0 0, .int .i64 8])) 0 [] := by
  have h := mgr ckl
  rw [rlg_eq, lg_len] at h
  exact h
theorem mgll : FnL Try.prog 10 3 [fldS 0 gl, .ls 1 301, .ls 2 1] [(0, 0, rowP gl), (1, 0, rlg), (2, 0, rowL one1)] (.pv (.tuple #[.slice none 0 0, .int .i64 8])) 0 [] := by
  have h := mgl ckl
  rw [rlg_eq, lg_len] at h
  exact h
theorem at_gr : FnL Try.prog 9 1 [.lq 0 3 0 300, .pv (ratioV 1000 1)] [(0, 0, rlg)] (.pv (.tuple #[.int .i64 299, .int .i64 0])) 0 [] := by
  have h := at_g
  rw [rlg_eq] at h
  exact h
theorem mer : FnL Try.prog 10 2 [fldS 0 gl, .ls 1 1, .pv (.slice none 0 0)] [(0, 0, rowP gl), (1, 0, rowL one1)] (.pv (.tuple #[.slice none 0 0, .int .i64 8])) 0 [] := mgn_r (ca := one1) fk0 ck1 ckn
theorem mel : FnL Try.prog 10 2 [fldS 0 gl, .pv (.slice none 0 0), .ls 1 1] [(0, 0, rowP gl), (1, 0, rowL one1)] (.pv (.tuple #[.slice none 0 0, .int .i64 8])) 0 [] := mgn_l (ca := one1) fk0 ckn ck1
theorem mez : FnL Try.prog 10 1 [fldS 0 zl, .pv (.slice none 0 0), .pv (.slice none 0 0)] [(0, 0, rowP zl)] (.pv (.tuple #[.slice none 0 0, .int .i64 4])) 0 [] := mgn_z fkz ckn
/-- A contract over two lists serves one that is given twice. -/
theorem mg_dup {f : FuncId} {l : List Pt} {c : List Ld} {n2 : Nat} {e2 : TypeId} {es2 : Nat} {ys : List Value} {y : Value}
    (h : FnL Try.prog f 3 [fldS 0 l, .ls 1 c.length, .ls 2 c.length] [(0, 0, rowP l), (1, 0, rowL c), (2, 0, rowL c)] (.tu [.one (.ls 3 n2), .one (.pv y)]) 1 [(3, 0, .row e2 es2 n2 ys)]) :
    FnL Try.prog f 2 [fldS 0 l, .ls 1 c.length, .ls 1 c.length] [(0, 0, rowP l), (1, 0, rowL c)] (.tu [.one (.ls 2 n2), .one (.pv y)]) 1 [(2, 0, .row e2 es2 n2 ys)] := by
  intro w β us H hd hi
  obtain ⟨u0, hu0, R0⟩ := H.rows 0 0 _ _ _ _ rfl
  obtain ⟨u1, hu1, R1⟩ := H.rows 1 0 _ _ _ _ rfl
  match us, hi with
  | [a, b, b2], ⟨⟨vs, hvs, ha⟩, ⟨g1, k1⟩, ⟨g2, k2⟩, _⟩ =>
  match vs, hvs with
  | [v], ⟨⟨g0, k0⟩, _⟩ =>
  have e0 : u0 = v := by rw [hu0] at g0; exact Option.some.inj g0
  have e1 : u1 = b := by rw [hu1] at g1; exact Option.some.inj g1
  have e2' : u1 = b2 := by rw [hu1] at g2; exact Option.some.inj g2
  subst ha
  subst e0 e1 e2'
  have hI : Ins w [u0, u1, u1] [(41, 3, l.length, ptsV l), (34, 3, c.length, ldsV c), (34, 3, c.length, ldsV c)] := .cons R0.rd (pts_one l) (.cons R1.rd (lds_one c) (.cons R1.rd (lds_one c) .nil))
  refine (h w (inBs [u0, u1, u1]) [.agg #[u0], u1, u1] (ins_rel hI) (ins_dom hI) ⟨⟨[u0], ⟨⟨rfl, k0⟩, trivial⟩, rfl⟩, ⟨rfl, k1⟩, ⟨rfl, k1⟩, trivial⟩).mono fun x w' hh => ?_
  obtain ⟨v', β2, hx, hle2, ⟨vs2, hvs2, hv2⟩, HP, hd2⟩ := hh
  obtain ⟨u3, hu3, R3⟩ := HP.rows 3 0 _ _ _ _ rfl
  have H' := H.gr_mono HP.gr
  let β3 : Bl := ⟨β.f, fun b => if b = 2 then β2.g 3 else β.g b⟩
  have hb3 : β3.g 2 = β2.g 3 := by simp [β3]
  have hno : ∀ b o', (b ≠ 2 ∨ o' ≠ 0) → lookH [(2, 0, SV.row e2 es2 n2 ys)] b o' = none := by
    intro b o' hbo
    match b, o', hbo with
    | 0, _, _ => rfl
    | 1, _, _ => rfl
    | 2, 0, hbo => omega
    | 2, _ + 1, _ => rfl
    | _ + 3, _, _ => rfl
  refine ⟨v', β3, hx, fun b hb => ?_, ⟨vs2, ?_, hv2⟩, ?_, fun b hb => ⟨(hd b (by omega)).1, (if_neg (by omega)).trans (hd b (by omega)).2⟩⟩
  · have hb2 : b ≠ 2 := fun e => by
      subst e
      rcases hb with hb | hb
      · exact hb (hd 2 (by omega)).1
      · exact hb (hd 2 (by omega)).2
    exact ⟨rfl, if_neg hb2⟩
  · match vs2, hvs2 with
    | [w1, w2], ⟨⟨g1, g2⟩, g3, _⟩ => exact ⟨⟨hb3.trans g1, g2⟩, g3, trivial⟩
  · refine ⟨HP.gr, H'.live, H.inj, H.new, fun b r hb => ?_, fun b o' sv hs hr => ?_, fun b o' e' es' n' xs' hs => ?_, fun b o' e' es' n' xs' c' o2 e3 es3 n3 xs3 u' v'' hs hs2 _ _ hne => ?_⟩
    · by_cases h2 : b = 2
      · subst h2; rw [show β3.f 2 = none from (hd 2 (by omega)).1] at hb; cases hb
      · exact (if_neg h2).trans (H.sep b r hb)
    · by_cases h2 : b = 2 ∧ o' = 0
      · obtain ⟨rfl, rfl⟩ := h2; cases hs; cases hr
      · rw [hno b o' (by omega)] at hs; cases hs
    · by_cases h2 : b = 2 ∧ o' = 0
      · obtain ⟨rfl, rfl⟩ := h2
        cases hs
        refine ⟨u3, hb3.trans hu3, R3.rd, R3.one, fun hlo => by omega, fun _ => R3.own (by omega), fun _ c' r hc hk => ?_⟩
        have h5 := H.live c' r hc
        have h6 := (ownsRow_lt (R3.own (by omega)) r hk).1
        omega
      · rw [hno b o' (by omega)] at hs; cases hs
    · by_cases h2 : b = 2 ∧ o' = 0
      · by_cases h3 : c' = 2 ∧ o2 = 0
        · omega
        · rw [hno c' o2 (by omega)] at hs2; cases hs2
      · rw [hno b o' (by omega)] at hs; cases hs
theorem mg_k2 : FnL Try.prog 10 2 [fldS 0 gl, .ls 1 1, .ls 1 1] [(0, 0, rowP gl), (1, 0, rowL one1)] (.tu [.one (.ls 2 1), .one (.pv (.int .i64 0))]) 1 [(2, 0, rowL one1)] := mg_dup (c := one1) mg_k
theorem lg_mk : some (SV.row 34 3 301 (repL [Value.int .i64 0, .int .i64 0, .int .i64 0] 301)) = some (SV.row 34 3 301 (ldsV (lgk 0))) := by rw [rep_lds, lg_zero]
set_option maxRecDepth 100000 in
theorem CrestNames_any : FnL Try.prog 3 0 [] [] (.pv (.bool true)) 0 [] :=
  fnl_run 1000 [] [.k, .k, .r (.tuple #[.slice none 0 0, .int .i64 42]), .k, .lw, .f [1] [fldS 0 gl, .pv (ratioV (0) (0))] [(0, 0, rowP gl)] (.pv (.tuple #[.slice none 0 0, .int .i64 8])) 0 [], .f [2] [fldS 0 zl, .pv (ratioV (0) (0))] [(0, 0, rowP zl)] (.pv (.tuple #[.slice none 0 0, .int .i64 4])) 0 [], .k, .r (.tuple #[.slice none 0 0, .int .i64 8]), .k, .lw, .l (.exit 0) ([(2, .pv (.int .i64 42)), (4, .pv (.int .i64 8)), (6, .pv (.int .i64 4)), (8, .pv (.int .i64 8)), (9, .ls 3 1), (10, .ls 4 301), (11, .pv (.int .i64 ((0 : Nat) : Int)))]) ([(3, 0, rowL one1), (4, 0, .row 34 3 301 (ldsV (lgk 0)))]) ([(2, .pv (.int .i64 42)), (4, .pv (.int .i64 8)), (6, .pv (.int .i64 4)), (8, .pv (.int .i64 8)), (9, .ls 3 1), (10, .ls 4 301)]) ([(3, 0, rowL one1), (4, 0, .row 34 3 301 (ldsV lg))]), .lw, .k, .lw, .k, .lw, .k, .k, .lw, .k, .k, .lw, .k, .k, .lw, .k, .r (.tuple #[.int .i64 0, .int .i64 8]), .md, .k, .lw, .f [13,3] [fldS 0 gl, .ls 1 1, .pv (.slice none 0 0)] [(0, 0, rowP gl), (1, 0, rowL one1)] (.pv (.tuple #[.slice none 0 0, .int .i64 8])) 0 [], .md, .k, .lw, .f [15,3] [fldS 0 gl, .pv (.slice none 0 0), .ls 1 1] [(0, 0, rowP gl), (1, 0, rowL one1)] (.pv (.tuple #[.slice none 0 0, .int .i64 8])) 0 [], .r (.int .i64 8), .k, .k, .k, .k, .k, .k, .f [4] [.ls 0 301, .pv (ratioV (0) (0))] [(0, 0, .row 34 3 301 (ldsV lg))] (.pv (.tuple #[.int .i64 0, .int .i64 8])) 0 [], .md, .k, .lw, .f [17,3,4] [fldS 0 gl, .ls 1 1, .ls 2 301] [(0, 0, rowP gl), (1, 0, rowL one1), (2, 0, .row 34 3 301 (ldsV lg))] (.pv (.tuple #[.slice none 0 0, .int .i64 8])) 0 [], .md, .k, .lw, .f [19,4,3] [fldS 0 gl, .ls 1 301, .ls 2 1] [(0, 0, rowP gl), (1, 0, .row 34 3 301 (ldsV lg)), (2, 0, rowL one1)] (.pv (.tuple #[.slice none 0 0, .int .i64 8])) 0 [], .f [4] [.ls 0 301] [(0, 0, .row 34 3 301 (ldsV lg))] (.pv (.int .i64 8)) 0 [], .k, .k, .k, .k, .k, .k, .f [5] [.ls 0 1, .pv (ratioV (0) (0))] [(0, 0, rowL xb2)] (.pv (.tuple #[.int .i64 0, .int .i64 8])) 0 [], .md, .k, .lw, .f [21,3,5] [fldS 0 gl, .ls 1 1, .ls 2 1] [(0, 0, rowP gl), (1, 0, rowL one1), (2, 0, rowL xb2)] (.pv (.tuple #[.slice none 0 0, .int .i64 8])) 0 [], .md, .k, .lw, .f [23,5,3] [fldS 0 gl, .ls 1 1, .ls 2 1] [(0, 0, rowP gl), (1, 0, rowL xb2), (2, 0, rowL one1)] (.pv (.tuple #[.slice none 0 0, .int .i64 8])) 0 [], .f [5] [.ls 0 1] [(0, 0, rowL xb2)] (.pv (.int .i64 8)) 0 [], .k, .k, .k, .k, .k, .k, .f [6] [.ls 0 1, .pv (ratioV (0) (0))] [(0, 0, rowL xb3)] (.pv (.tuple #[.int .i64 0, .int .i64 8])) 0 [], .md, .k, .lw, .f [25,3,6] [fldS 0 gl, .ls 1 1, .ls 2 1] [(0, 0, rowP gl), (1, 0, rowL one1), (2, 0, rowL xb3)] (.pv (.tuple #[.slice none 0 0, .int .i64 8])) 0 [], .md, .k, .lw, .f [27,6,3] [fldS 0 gl, .ls 1 1, .ls 2 1] [(0, 0, rowP gl), (1, 0, rowL xb3), (2, 0, rowL one1)] (.pv (.tuple #[.slice none 0 0, .int .i64 8])) 0 [], .f [6] [.ls 0 1] [(0, 0, rowL xb3)] (.pv (.int .i64 8)) 0 [], .k, .k, .k, .k, .k, .k, .f [7] [.ls 0 1, .pv (ratioV (0) (0))] [(0, 0, rowL xb4)] (.pv (.tuple #[.int .i64 0, .int .i64 8])) 0 [], .md, .k, .lw, .f [29,3,7] [fldS 0 gl, .ls 1 1, .ls 2 1] [(0, 0, rowP gl), (1, 0, rowL one1), (2, 0, rowL xb4)] (.pv (.tuple #[.slice none 0 0, .int .i64 8])) 0 [], .md, .k, .lw, .f [31,7,3] [fldS 0 gl, .ls 1 1, .ls 2 1] [(0, 0, rowP gl), (1, 0, rowL xb4), (2, 0, rowL one1)] (.pv (.tuple #[.slice none 0 0, .int .i64 8])) 0 [], .f [7] [.ls 0 1] [(0, 0, rowL xb4)] (.pv (.int .i64 8)) 0 [], .k, .k, .k, .k, .k, .k, .f [8] [.ls 0 2, .pv (ratioV (0) (0))] [(0, 0, rowL xb5)] (.pv (.tuple #[.int .i64 0, .int .i64 8])) 0 [], .md, .k, .lw, .f [33,3,8] [fldS 0 gl, .ls 1 1, .ls 2 2] [(0, 0, rowP gl), (1, 0, rowL one1), (2, 0, rowL xb5)] (.pv (.tuple #[.slice none 0 0, .int .i64 8])) 0 [], .md, .k, .lw, .f [35,8,3] [fldS 0 gl, .ls 1 2, .ls 2 1] [(0, 0, rowP gl), (1, 0, rowL xb5), (2, 0, rowL one1)] (.pv (.tuple #[.slice none 0 0, .int .i64 8])) 0 [], .f [8] [.ls 0 2] [(0, 0, rowL xb5)] (.pv (.int .i64 8)) 0 [], .k, .k, .k, .k, .k, .k, .f [9] [.ls 0 2, .pv (ratioV (0) (0))] [(0, 0, rowL xb6)] (.pv (.tuple #[.int .i64 0, .int .i64 8])) 0 [], .md, .k, .lw, .f [37,3,9] [fldS 0 gl, .ls 1 1, .ls 2 2] [(0, 0, rowP gl), (1, 0, rowL one1), (2, 0, rowL xb6)] (.pv (.tuple #[.slice none 0 0, .int .i64 8])) 0 [], .md, .k, .lw, .f [39,9,3] [fldS 0 gl, .ls 1 2, .ls 2 1] [(0, 0, rowP gl), (1, 0, rowL xb6), (2, 0, rowL one1)] (.pv (.tuple #[.slice none 0 0, .int .i64 8])) 0 [], .f [9] [.ls 0 2] [(0, 0, rowL xb6)] (.pv (.int .i64 8)) 0 [], .k, .k, .k, .k, .k, .k, .f [10] [.ls 0 2, .pv (ratioV (0) (0))] [(0, 0, rowL xb7)] (.pv (.tuple #[.int .i64 0, .int .i64 8])) 0 [], .md, .k, .lw, .f [41,3,10] [fldS 0 gl, .ls 1 1, .ls 2 2] [(0, 0, rowP gl), (1, 0, rowL one1), (2, 0, rowL xb7)] (.pv (.tuple #[.slice none 0 0, .int .i64 8])) 0 [], .md, .k, .lw, .f [43,10,3] [fldS 0 gl, .ls 1 2, .ls 2 1] [(0, 0, rowP gl), (1, 0, rowL xb7), (2, 0, rowL one1)] (.pv (.tuple #[.slice none 0 0, .int .i64 8])) 0 [], .f [10] [.ls 0 2] [(0, 0, rowL xb7)] (.pv (.int .i64 8)) 0 [], .k, .k, .k, .k, .k, .k, .k, .f [3] [.ls 0 1, .pv (ratioV (0) (1))] [(0, 0, rowL one1)] (.pv (.tuple #[.int .i64 0, .int .i64 44])) 0 [], .f [3] [.ls 0 1, .pv (ratioV (2) (2))] [(0, 0, rowL one1)] (.pv (.tuple #[.int .i64 0, .int .i64 8])) 0 [], .gr, .k, .k, .f [4] [.lq 0 3 0 300, .pv (ratioV (1000) (1))] [(0, 0, .row 34 3 301 (ldsV lg))] (.pv (.tuple #[.int .i64 299, .int .i64 0])) 0 [], .f [44] [fldS 0 zl, .pv (.slice none 0 0), .pv (.slice none 0 0)] [(0, 0, rowP zl)] (.pv (.tuple #[.slice none 0 0, .int .i64 4])) 0 [], .k, .lw, .k, .lw, .f [46,3,47] [fldS 0 gl, .ls 1 1, .ls 2 1] [(0, 0, rowP gl), (1, 0, rowL one1), (2, 0, rowL n2)] (.pv (.tuple #[.slice none 0 0, .int .i64 2])) 0 [], .k, .lw, .k, .lw, .f [49,3,50] [fldS 0 gl, .ls 1 1, .ls 2 1] [(0, 0, rowP gl), (1, 0, rowL one1), (2, 0, rowL n1)] (.pv (.tuple #[.slice none 0 0, .int .i64 6])) 0 [], .k, .lw, .f [52,3] [fldS 0 gl, .ls 1 1, .ls 1 1] [(0, 0, rowP gl), (1, 0, rowL one1)] (.tu [.one (.ls 2 1), .one (.pv (.int .i64 0))]) 1 [(2, 0, rowL one1)], .lw, .k, .f [54] [fldS 0 fa, .pv (ratioV (-5) (1))] [(0, 0, rowP fa)] (.tu [.one (.ls 1 2), .one (.pv (.int .i64 0))]) 1 [(1, 0, rowL fac)], .lw, .k, .f [56] [fldS 0 fb, .pv (ratioV (-5) (1))] [(0, 0, rowP fb)] (.tu [.one (.ls 1 2), .one (.pv (.int .i64 0))]) 1 [(1, 0, rowL fbc)], .k, .k, .k, .k, .k, .k, .k, .k, .k, .k, .k, .k, .f [53,3] [.ls 0 1, .ls 1 1] [(0, 0, rowL one1), (1, 0, rowL one1)] (.pv (.bool true)) 0 [], .k, .k, .k, .lw, .f [55,58] [.ls 0 2, .ls 1 2] [(0, 0, rowL fac), (1, 0, rowL fac)] (.pv (.bool true)) 0 [], .k, .k, .k, .lw, .f [57,59] [.ls 0 2, .ls 1 2] [(0, 0, rowL fbc), (1, 0, rowL fbc)] (.pv (.bool true)) 0 [], .f [] [] [] (.pv (.bool true)) 0 []]
    True.intro (And.intro of_a (And.intro of_b (And.intro (Eq.refl (List.map (SV.ren (renU [1] 0)) [fldS 0 gl, .pv (ratioV (0) (0))])) (And.intro (reflH (renU [1] 0) [(0, 0, rowP gl)]) (And.intro (show (0 : Int) ≤ 65 by decide) (And.intro (Eq.refl (65 : Int)) (And.intro (show (65 : Int) ≤ 1000000 by decide) (And.intro of_c (And.intro (Eq.refl (List.map (SV.ren (renU [2] 0)) [fldS 0 zl, .pv (ratioV (0) (0))])) (And.intro (reflH (renU [2] 0) [(0, 0, rowP zl)]) (And.intro of_d (And.intro (show (0 : Int) ≤ 301 by decide) (And.intro (Eq.refl (301 : Int)) (And.intro (show (301 : Int) ≤ 1000000 by decide) (And.intro (reflT (renN []) ([(2, .pv (.int .i64 42)), (4, .pv (.int .i64 8)), (6, .pv (.int .i64 4)), (8, .pv (.int .i64 8)), (9, .ls 3 1), (10, .ls 4 301), (11, .pv (.int .i64 ((0 : Nat) : Int)))])) (And.intro (And.intro (Eq.refl (some (rowL one1))) (And.intro lg_mk True.intro)) (And.intro lg_run (And.intro atn (And.intro mer (And.intro (Eq.refl (List.map (SV.ren (renU [13,3] 0)) [fldS 0 gl, .ls 1 1, .pv (.slice none 0 0)])) (And.intro (reflH (renU [13,3] 0) [(0, 0, rowP gl), (1, 0, rowL one1)]) (And.intro mel (And.intro (Eq.refl (List.map (SV.ren (renU [15,3] 0)) [fldS 0 gl, .pv (.slice none 0 0), .ls 1 1])) (And.intro (reflH (renU [15,3] 0) [(0, 0, rowP gl), (1, 0, rowL one1)]) (And.intro ckn (And.intro at8l (And.intro (Eq.refl (List.map (SV.ren (renU [4] 0)) [.ls 0 301, .pv (ratioV (0) (0))])) (And.intro (reflH (renU [4] 0) [(0, 0, .row 34 3 301 (ldsV lg))]) (And.intro mgrl (And.intro (Eq.refl (List.map (SV.ren (renU [17,3,4] 0)) [fldS 0 gl, .ls 1 1, .ls 2 301])) (And.intro (reflH (renU [17,3,4] 0) [(0, 0, rowP gl), (1, 0, rowL one1), (2, 0, .row 34 3 301 (ldsV lg))]) (And.intro mgll (And.intro (Eq.refl (List.map (SV.ren (renU [19,4,3] 0)) [fldS 0 gl, .ls 1 301, .ls 2 1])) (And.intro (reflH (renU [19,4,3] 0) [(0, 0, rowP gl), (1, 0, .row 34 3 301 (ldsV lg)), (2, 0, rowL one1)]) (And.intro cklr (And.intro (Eq.refl (List.map (SV.ren (renU [4] 0)) [.ls 0 301])) (And.intro (reflH (renU [4] 0) [(0, 0, .row 34 3 301 (ldsV lg))]) (And.intro (at8 ck2) (And.intro (Eq.refl (List.map (SV.ren (renU [5] 0)) [.ls 0 1, .pv (ratioV (0) (0))])) (And.intro (reflH (renU [5] 0) [(0, 0, rowL xb2)]) (And.intro (mgr ck2) (And.intro (Eq.refl (List.map (SV.ren (renU [21,3,5] 0)) [fldS 0 gl, .ls 1 1, .ls 2 1])) (And.intro (reflH (renU [21,3,5] 0) [(0, 0, rowP gl), (1, 0, rowL one1), (2, 0, rowL xb2)]) (And.intro (mgl ck2) (And.intro (Eq.refl (List.map (SV.ren (renU [23,5,3] 0)) [fldS 0 gl, .ls 1 1, .ls 2 1])) (And.intro (reflH (renU [23,5,3] 0) [(0, 0, rowP gl), (1, 0, rowL xb2), (2, 0, rowL one1)]) (And.intro ck2 (And.intro (Eq.refl (List.map (SV.ren (renU [5] 0)) [.ls 0 1])) (And.intro (reflH (renU [5] 0) [(0, 0, rowL xb2)]) (And.intro (at8 ck3) (And.intro (Eq.refl (List.map (SV.ren (renU [6] 0)) [.ls 0 1, .pv (ratioV (0) (0))])) (And.intro (reflH (renU [6] 0) [(0, 0, rowL xb3)]) (And.intro (mgr ck3) (And.intro (Eq.refl (List.map (SV.ren (renU [25,3,6] 0)) [fldS 0 gl, .ls 1 1, .ls 2 1])) (And.intro (reflH (renU [25,3,6] 0) [(0, 0, rowP gl), (1, 0, rowL one1), (2, 0, rowL xb3)]) (And.intro (mgl ck3) (And.intro (Eq.refl (List.map (SV.ren (renU [27,6,3] 0)) [fldS 0 gl, .ls 1 1, .ls 2 1])) (And.intro (reflH (renU [27,6,3] 0) [(0, 0, rowP gl), (1, 0, rowL xb3), (2, 0, rowL one1)]) (And.intro ck3 (And.intro (Eq.refl (List.map (SV.ren (renU [6] 0)) [.ls 0 1])) (And.intro (reflH (renU [6] 0) [(0, 0, rowL xb3)]) (And.intro (at8 ck4) (And.intro (Eq.refl (List.map (SV.ren (renU [7] 0)) [.ls 0 1, .pv (ratioV (0) (0))])) (And.intro (reflH (renU [7] 0) [(0, 0, rowL xb4)]) (And.intro (mgr ck4) (And.intro (Eq.refl (List.map (SV.ren (renU [29,3,7] 0)) [fldS 0 gl, .ls 1 1, .ls 2 1])) (And.intro (reflH (renU [29,3,7] 0) [(0, 0, rowP gl), (1, 0, rowL one1), (2, 0, rowL xb4)]) (And.intro (mgl ck4) (And.intro (Eq.refl (List.map (SV.ren (renU [31,7,3] 0)) [fldS 0 gl, .ls 1 1, .ls 2 1])) (And.intro (reflH (renU [31,7,3] 0) [(0, 0, rowP gl), (1, 0, rowL xb4), (2, 0, rowL one1)]) (And.intro ck4 (And.intro (Eq.refl (List.map (SV.ren (renU [7] 0)) [.ls 0 1])) (And.intro (reflH (renU [7] 0) [(0, 0, rowL xb4)]) (And.intro (at8 ck5) (And.intro (Eq.refl (List.map (SV.ren (renU [8] 0)) [.ls 0 2, .pv (ratioV (0) (0))])) (And.intro (reflH (renU [8] 0) [(0, 0, rowL xb5)]) (And.intro (mgr ck5) (And.intro (Eq.refl (List.map (SV.ren (renU [33,3,8] 0)) [fldS 0 gl, .ls 1 1, .ls 2 2])) (And.intro (reflH (renU [33,3,8] 0) [(0, 0, rowP gl), (1, 0, rowL one1), (2, 0, rowL xb5)]) (And.intro (mgl ck5) (And.intro (Eq.refl (List.map (SV.ren (renU [35,8,3] 0)) [fldS 0 gl, .ls 1 2, .ls 2 1])) (And.intro (reflH (renU [35,8,3] 0) [(0, 0, rowP gl), (1, 0, rowL xb5), (2, 0, rowL one1)]) (And.intro ck5 (And.intro (Eq.refl (List.map (SV.ren (renU [8] 0)) [.ls 0 2])) (And.intro (reflH (renU [8] 0) [(0, 0, rowL xb5)]) (And.intro (at8 ck6) (And.intro (Eq.refl (List.map (SV.ren (renU [9] 0)) [.ls 0 2, .pv (ratioV (0) (0))])) (And.intro (reflH (renU [9] 0) [(0, 0, rowL xb6)]) (And.intro (mgr ck6) (And.intro (Eq.refl (List.map (SV.ren (renU [37,3,9] 0)) [fldS 0 gl, .ls 1 1, .ls 2 2])) (And.intro (reflH (renU [37,3,9] 0) [(0, 0, rowP gl), (1, 0, rowL one1), (2, 0, rowL xb6)]) (And.intro (mgl ck6) (And.intro (Eq.refl (List.map (SV.ren (renU [39,9,3] 0)) [fldS 0 gl, .ls 1 2, .ls 2 1])) (And.intro (reflH (renU [39,9,3] 0) [(0, 0, rowP gl), (1, 0, rowL xb6), (2, 0, rowL one1)]) (And.intro ck6 (And.intro (Eq.refl (List.map (SV.ren (renU [9] 0)) [.ls 0 2])) (And.intro (reflH (renU [9] 0) [(0, 0, rowL xb6)]) (And.intro (at8 ck7) (And.intro (Eq.refl (List.map (SV.ren (renU [10] 0)) [.ls 0 2, .pv (ratioV (0) (0))])) (And.intro (reflH (renU [10] 0) [(0, 0, rowL xb7)]) (And.intro (mgr ck7) (And.intro (Eq.refl (List.map (SV.ren (renU [41,3,10] 0)) [fldS 0 gl, .ls 1 1, .ls 2 2])) (And.intro (reflH (renU [41,3,10] 0) [(0, 0, rowP gl), (1, 0, rowL one1), (2, 0, rowL xb7)]) (And.intro (mgl ck7) (And.intro (Eq.refl (List.map (SV.ren (renU [43,10,3] 0)) [fldS 0 gl, .ls 1 2, .ls 2 1])) (And.intro (reflH (renU [43,10,3] 0) [(0, 0, rowP gl), (1, 0, rowL xb7), (2, 0, rowL one1)]) (And.intro ck7 (And.intro (Eq.refl (List.map (SV.ren (renU [10] 0)) [.ls 0 2])) (And.intro (reflH (renU [10] 0) [(0, 0, rowL xb7)]) (And.intro at_e (And.intro (Eq.refl (List.map (SV.ren (renU [3] 0)) [.ls 0 1, .pv (ratioV (0) (1))])) (And.intro (reflH (renU [3] 0) [(0, 0, rowL one1)]) (And.intro at_f (And.intro (Eq.refl (List.map (SV.ren (renU [3] 0)) [.ls 0 1, .pv (ratioV (2) (2))])) (And.intro (reflH (renU [3] 0) [(0, 0, rowL one1)]) (And.intro True.intro (And.intro (show (0 : Int) ≤ 300 by decide) (And.intro (show (0 : Nat) ≤ 300 by decide) (And.intro (show (300 : Nat) ≤ 301 by decide) (And.intro at_gr (And.intro (Eq.refl (List.map (SV.ren (renU [4] 0)) [.lq 0 3 0 300, .pv (ratioV (1000) (1))])) (And.intro (reflH (renU [4] 0) [(0, 0, .row 34 3 301 (ldsV lg))]) (And.intro (show (0 : Int) ≤ 65 by decide) (And.intro (Eq.refl (65 : Int)) (And.intro (show (65 : Int) ≤ 1000000 by decide) (And.intro mez (And.intro (Eq.refl (List.map (SV.ren (renU [44] 0)) [fldS 0 zl, .pv (.slice none 0 0), .pv (.slice none 0 0)])) (And.intro (reflH (renU [44] 0) [(0, 0, rowP zl)]) (And.intro mg_i (And.intro (Eq.refl (List.map (SV.ren (renU [46,3,47] 0)) [fldS 0 gl, .ls 1 1, .ls 2 1])) (And.intro (reflH (renU [46,3,47] 0) [(0, 0, rowP gl), (1, 0, rowL one1), (2, 0, rowL n2)]) (And.intro mg_j (And.intro (Eq.refl (List.map (SV.ren (renU [49,3,50] 0)) [fldS 0 gl, .ls 1 1, .ls 2 1])) (And.intro (reflH (renU [49,3,50] 0) [(0, 0, rowP gl), (1, 0, rowL one1), (2, 0, rowL n1)]) (And.intro mg_k2 (And.intro (Eq.refl (List.map (SV.ren (renU [52,3] 0)) [fldS 0 gl, .ls 1 1, .ls 1 1])) (And.intro (reflH (renU [52,3] 0) [(0, 0, rowP gl), (1, 0, rowL one1)]) (And.intro of_m (And.intro (Eq.refl (List.map (SV.ren (renU [54] 0)) [fldS 0 fa, .pv (ratioV (-5) (1))])) (And.intro (reflH (renU [54] 0) [(0, 0, rowP fa)]) (And.intro of_o (And.intro (Eq.refl (List.map (SV.ren (renU [56] 0)) [fldS 0 fb, .pv (ratioV (-5) (1))])) (And.intro (reflH (renU [56] 0) [(0, 0, rowP fb)]) (And.intro (Same5 (s := one1) (by decide)) (And.intro (Eq.refl (List.map (SV.ren (renU [53,3] 0)) [.ls 0 1, .ls 1 1])) (And.intro (reflH (renU [53,3] 0) [(0, 0, rowL one1), (1, 0, rowL one1)]) (And.intro (Same5 (s := fac) (by decide)) (And.intro (Eq.refl (List.map (SV.ren (renU [55,58] 0)) [.ls 0 2, .ls 1 2])) (And.intro (reflH (renU [55,58] 0) [(0, 0, rowL fac), (1, 0, rowL fac)]) (And.intro (Same5 (s := fbc) (by decide)) (And.intro (Eq.refl (List.map (SV.ren (renU [57,59] 0)) [.ls 0 2, .ls 1 2])) (And.intro (reflH (renU [57,59] 0) [(0, 0, rowL fbc), (1, 0, rowL fbc)]) (And.intro Alive5 (And.intro (Eq.refl (List.map (SV.ren (renU [] 0)) [])) (And.intro (reflH (renU [] 0) []) True.intro))))))))))))))))))))))))))))))))))))))))))))))))))))))))))))))))))))))))))))))))))))))))))))))))))))))))))))))))))))))))))))))))))))))))))))))))))))))))))) (by kernel_rfl)
theorem names5_walk (W : World) : Calls Try.prog 3 #[] W fun e W' => e = .returned (.bool true) ∧ Gr W W' := by
  have H0 : HRel W 0 (boxesL []) [] W := boxes_rel (rs := []) (by simp) (by simp) trivial
  exact (CrestNames_any W (boxesL []) [] H0 (boxesL_dom []) trivial).mono fun e w' ⟨v, β', he, _, hx, hh, _⟩ => ⟨by rw [he, show v = _ from hx], hh.gr⟩
end Go.Proofs.Ytoheadpehomdjaa
