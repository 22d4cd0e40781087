/-
  What Merge of crests merges: the contract of merged. Conditions: none.
-/
import Derived.Test.YtpngjeloiifgnaaGreatIb
import Derived.Test.YtpngjeloiifgnaaGreatW46
namespace Go.Proofs.YtpngjeloiifgnaaGreat
open Go.RowKit
def pushL (s : List Ld) (n d id : Int) : List Ld := if s.getLast?.map Ld.id = some id then s else s ++ [Ld.mk n d id]
theorem pushL_new {s : List Ld} {n d id : Int} (h : ¬ s.getLast?.map Ld.id = some id) : pushL s n d id = s ++ [Ld.mk n d id] := if_neg h
theorem pushL_same {s : List Ld} {n d id : Int} (h : s.getLast?.map Ld.id = some id) : pushL s n d id = s := if_pos h
/-- From one time on: who is ahead, and who comes next before the next change. -/
noncomputable def mstep (hi lo : Pt) (s : List Ld) (t : Rn) (nx : Option Rn) : List Ld :=
  match nextOf hi lo with
  | none => pushL s t.n t.d hi.id
  | some m => match nx with
    | none => pushL (pushL s t.n t.d hi.id) m.n m.d lo.id
    | some u => if (m.n * u.d - u.n * m.d).sign < 0 then pushL (pushL s t.n t.d hi.id) m.n m.d lo.id else pushL s t.n t.d hi.id
section
variable {hi lo : Pt} {s : List Ld} {t u : Rn} {nx : Option Rn} {m : Mt}
theorem mstep_none (h : nextOf hi lo = none) : mstep hi lo s t nx = pushL s t.n t.d hi.id := by unfold mstep; rw [h]
theorem mstep_last (h : nextOf hi lo = some m) : mstep hi lo s t none = pushL (pushL s t.n t.d hi.id) m.n m.d lo.id := by unfold mstep; rw [h]
theorem mstep_bef (h : nextOf hi lo = some m) (hb : (m.n * u.d - u.n * m.d).sign < 0) : mstep hi lo s t (some u) = pushL (pushL s t.n t.d hi.id) m.n m.d lo.id := by unfold mstep; rw [h]; exact if_pos hb
theorem mstep_nbef (h : nextOf hi lo = some m) (hb : ¬ (m.n * u.d - u.n * m.d).sign < 0) : mstep hi lo s t (some u) = pushL s t.n t.d hi.id := by unfold mstep; rw [h]; exact if_neg hb
end
noncomputable def lostV (hi lo : Pt) : Value := match nextOf hi lo with | some m => .tuple #[ratioV m.n m.d, .bool true] | none => .tuple #[ratioV 0 0, .bool false]
abbrev mgT (ca cb : List Ld) (uu : List Rn) (k : Nat) : List (Nat × SV) := [(1, .ls 1 ca.length), (2, .ls 2 cb.length), (3, .pp 3 0), (7, .pp 4 0), (8, (.pc 55 [.pp 4 0])), (9, .ls 5 uu.length), (20, .ls 5 uu.length), (21, .pv (.int .i64 (uu.length : Int))), (22, .pv (.int .i64 (k : Int)))]
abbrev mgH (l : List Pt) (ca cb : List Ld) (uu : List Rn) (s : List Ld) : List (Nat × Nat × SV) := [(3, 0, .ls 0 l.length), (4, 0, .ls 6 (s).length), (0, 0, rowP l), (1, 0, rowL ca), (2, 0, rowL cb), (5, 0, rowRs uu), (6, 0, rowL (s))]
theorem mrs_n {l : List Pt} {ca cb zs : List Ld} {uu : List Rn} {rt : Rn} {pA pB : Pt} {k : Nat} (hn : uu.length ≤ 100000) (hz : zs.length ≤ 100000) (hk : uu[k]? = some rt) (hu : ∀ x ∈ uu, RnOk x)
    (hla : FnL Tryz.prog 58 1 [.ls 0 ca.length, .pv (ratioV rt.n rt.d)] [(0, 0, rowL ca)] (.pv (.int .i64 pA.id)) 0 []) (hpa : FnL Tryz.prog 57 1 [fldS 0 l, .pv (.int .i64 pA.id)] [(0, 0, rowP l)] (.pv (ptV pA)) 0 [])
    (hlb : FnL Tryz.prog 58 1 [.ls 0 cb.length, .pv (ratioV rt.n rt.d)] [(0, 0, rowL cb)] (.pv (.int .i64 pB.id)) 0 []) (hpb : FnL Tryz.prog 57 1 [fldS 0 l, .pv (.int .i64 pB.id)] [(0, 0, rowP l)] (.pv (ptV pB)) 0 [])
    (hah : Pure Tryz.prog 59 #[ptV pB, ptV pA, ratioV rt.n rt.d] (.bool false)) (hlo : Pure Tryz.prog 60 #[ptV pA, ptV pB, ratioV rt.n rt.d] (lostV pA pB)) (h1 : okPt pA = true) (h2 : okPt pB = true) (hid : pA.id = pB.id → pA = pB)
    {e : Exit} {tm2 : List (Nat × SV)} {hp2 : List (Nat × Nat × SV)} (r : RunsL Tryz.prog 3 3 (loopOf Tryz.prog 23 0) 77 7 (mgT ca cb uu (k + 1)) (mgH l ca cb uu (mstep pA pB zs rt uu[k + 1]?)) e tm2 hp2) : RunsL Tryz.prog 3 3 (loopOf Tryz.prog 23 0) 77 7 (mgT ca cb uu (k)) (mgH l ca cb uu (zs)) e tm2 hp2 := by
  have hkl := get_lt hk
  have i1 : 0 ≤ (k : Int) ∧ (k : Int) < (uu.length : Int) := ⟨by omega, by omega⟩
  have sk : Value.int .i64 (IntKind.i64.wrap ((k : Int) + 1)) = .int .i64 (((k + 1 : Nat) : Int)) := by rw [wrap_i64_in (by omega) (by omega)]; congr 1
  have ne2 : ∀ m, nextOf pA pB = some m → ¬ pA.id = pB.id := fun m hm he => by
    have := (nextOf_some h1 h2 hm).1
    rw [hid he] at this; omega
  by_cases hze : zs = []
  · have hps : pushL zs rt.n rt.d pA.id = zs ++ [Ld.mk rt.n rt.d pA.id] := pushL_new (by rw [hze]; simp)
    have z0 : zs.length = 0 := by rw [hze]; rfl
    rcases hm : nextOf pA pB with _ | m
    · rw [mstep_none hm, hps] at r
      unfold lostV at hlo
      rw [hm] at hlo
      exact mr_ne_no (hk := hk) (hin := i1) (hlt := dt i1.2) (hla := hla) (hpa := hpa) (hlb := hlb) (hpb := hpb) (hah := hah) (hs := sk) (e0 := by rw [beq_iff_eq]; omega) (rl := ⟨0, 0⟩) (hl1 := by omega) (hlo := hlo) r
    · unfold lostV at hlo
      rw [hm] at hlo
      have om := nextOf_some h1 h2 hm
      have hp2' : pushL (zs ++ [Ld.mk rt.n rt.d pA.id]) m.n m.d pB.id = zs ++ [Ld.mk rt.n rt.d pA.id] ++ [Ld.mk m.n m.d pB.id] := pushL_new (by rw [List.getLast?_concat]; simpa using ne2 m hm)
      rcases hx : uu[k + 1]? with _ | ru
      · have hlen : uu.length ≤ k + 1 := List.getElem?_eq_none_iff.1 hx
        rw [hx, mstep_last hm, hps, hp2'] at r
        exact mr_ne_last (hk := hk) (hin := i1) (hlt := dt i1.2) (hla := hla) (hpa := hpa) (hlb := hlb) (hpb := hpb) (hah := hah) (hs := sk) (e0 := by rw [beq_iff_eq]; omega) (rl := ⟨m.n, m.d⟩) (hl1 := by omega) (hl2 := by omega) (f0 := by rw [beq_eq_false_iff_ne]; omega) (fm := by rw [wrap_i64_in (by omega) (by omega)]; congr 1; omega) (hz := ⟨by omega, by omega⟩) (f1 := by simpa using ne2 m hm) (hlo := hlo) (e2 := by rw [beq_iff_eq]; omega) r
      · have hx1 := get_lt hx
        have i2 : 0 ≤ ((k + 1 : Nat) : Int) ∧ ((k + 1 : Nat) : Int) < (uu.length : Int) := ⟨by omega, by omega⟩
        have oku := hu ru (List.mem_of_getElem? hx)
        have hb := CBef_ok om.2.n om.2.d oku.n oku.d om.2.ok oku.ok
        by_cases hbf : (m.n * ru.d - ru.n * m.d).sign < 0
        · rw [dt hbf] at hb
          rw [hx, mstep_bef hm hbf, hps, hp2'] at r
          exact mr_ne_bef (hk := hk) (hin := i1) (hlt := dt i1.2) (hla := hla) (hpa := hpa) (hlb := hlb) (hpb := hpb) (hah := hah) (hs := sk) (e0 := by rw [beq_iff_eq]; omega) (rl := ⟨m.n, m.d⟩) (hl1 := by omega) (hl2 := by omega) (f0 := by rw [beq_eq_false_iff_ne]; omega) (fm := by rw [wrap_i64_in (by omega) (by omega)]; congr 1; omega) (hz := ⟨by omega, by omega⟩) (f1 := by simpa using ne2 m hm) (hlo := hlo) (e2 := by rw [beq_eq_false_iff_ne]; omega) (hk1 := hx) (hin1 := i2) (hbe := hb) r
        · rw [df hbf] at hb
          rw [hx, mstep_nbef hm hbf, hps] at r
          exact mr_ne_nbef (hk := hk) (hin := i1) (hlt := dt i1.2) (hla := hla) (hpa := hpa) (hlb := hlb) (hpb := hpb) (hah := hah) (hs := sk) (e0 := by rw [beq_iff_eq]; omega) (rl := ⟨m.n, m.d⟩) (hl1 := by omega) (hlo := hlo) (e2 := by rw [beq_eq_false_iff_ne]; omega) (hk1 := hx) (hin1 := i2) (hbe := hb) r
  · have zp : 0 < zs.length := List.length_pos_iff.2 hze
    obtain ⟨lx, hlx⟩ := get_some (l := zs) (k := zs.length - 1) (by omega)
    have hlast : zs.getLast? = some lx := by rw [List.getLast?_eq_getElem?, hlx]
    have ij : 0 ≤ ((zs.length - 1 : Nat) : Int) ∧ ((zs.length - 1 : Nat) : Int) < (zs.length : Int) := ⟨by omega, by omega⟩
    have em' : Value.int .i64 (IntKind.i64.wrap ((zs.length : Int) - 1)) = .int .i64 (((zs.length - 1 : Nat) : Int)) := by rw [wrap_i64_in (by omega) (by omega)]; congr 1; omega
    by_cases hlid : lx.id = pA.id
    · have hps : pushL zs rt.n rt.d pA.id = zs := pushL_same (by rw [hlast]; simp [hlid])
      rcases hm : nextOf pA pB with _ | m
      · rw [mstep_none hm, hps] at r
        unfold lostV at hlo
        rw [hm] at hlo
        exact mr_ns_no (hk := hk) (hin := i1) (hlt := dt i1.2) (hla := hla) (hpa := hpa) (hlb := hlb) (hpb := hpb) (hah := hah) (hs := sk) (jj := zs.length - 1) (lx := lx) (hlx := hlx) (hjj := ij) (em := em') (e0 := by rw [beq_eq_false_iff_ne]; omega) (e1 := by rw [hlid]; simp) (rl := ⟨0, 0⟩)  (hlo := hlo) r
      · unfold lostV at hlo
        rw [hm] at hlo
        have om := nextOf_some h1 h2 hm
        have hp2' : pushL (zs) m.n m.d pB.id = zs ++ [Ld.mk m.n m.d pB.id] := pushL_new (by rw [hlast]; simpa [hlid] using ne2 m hm)
        rcases hx : uu[k + 1]? with _ | ru
        · have hlen : uu.length ≤ k + 1 := List.getElem?_eq_none_iff.1 hx
          rw [hx, mstep_last hm, hps, hp2'] at r
          exact mr_ns_last (hk := hk) (hin := i1) (hlt := dt i1.2) (hla := hla) (hpa := hpa) (hlb := hlb) (hpb := hpb) (hah := hah) (hs := sk) (jj := zs.length - 1) (lx := lx) (hlx := hlx) (hjj := ij) (em := em') (e0 := by rw [beq_eq_false_iff_ne]; omega) (e1 := by rw [hlid]; simp) (rl := ⟨m.n, m.d⟩)  (hl1 := by omega) (f1 := by rw [hlid]; simpa using ne2 m hm) (hlo := hlo) (e2 := by rw [beq_iff_eq]; omega) r
        · have hx1 := get_lt hx
          have i2 : 0 ≤ ((k + 1 : Nat) : Int) ∧ ((k + 1 : Nat) : Int) < (uu.length : Int) := ⟨by omega, by omega⟩
          have oku := hu ru (List.mem_of_getElem? hx)
          have hb := CBef_ok om.2.n om.2.d oku.n oku.d om.2.ok oku.ok
          by_cases hbf : (m.n * ru.d - ru.n * m.d).sign < 0
          · rw [dt hbf] at hb
            rw [hx, mstep_bef hm hbf, hps, hp2'] at r
            exact mr_ns_bef (hk := hk) (hin := i1) (hlt := dt i1.2) (hla := hla) (hpa := hpa) (hlb := hlb) (hpb := hpb) (hah := hah) (hs := sk) (jj := zs.length - 1) (lx := lx) (hlx := hlx) (hjj := ij) (em := em') (e0 := by rw [beq_eq_false_iff_ne]; omega) (e1 := by rw [hlid]; simp) (rl := ⟨m.n, m.d⟩)  (hl1 := by omega) (f1 := by rw [hlid]; simpa using ne2 m hm) (hlo := hlo) (e2 := by rw [beq_eq_false_iff_ne]; omega) (hk1 := hx) (hin1 := i2) (hbe := hb) r
          · rw [df hbf] at hb
            rw [hx, mstep_nbef hm hbf, hps] at r
            exact mr_ns_nbef (hk := hk) (hin := i1) (hlt := dt i1.2) (hla := hla) (hpa := hpa) (hlb := hlb) (hpb := hpb) (hah := hah) (hs := sk) (jj := zs.length - 1) (lx := lx) (hlx := hlx) (hjj := ij) (em := em') (e0 := by rw [beq_eq_false_iff_ne]; omega) (e1 := by rw [hlid]; simp) (rl := ⟨m.n, m.d⟩)  (hlo := hlo) (e2 := by rw [beq_eq_false_iff_ne]; omega) (hk1 := hx) (hin1 := i2) (hbe := hb) r
    · have hps : pushL zs rt.n rt.d pA.id = zs ++ [Ld.mk rt.n rt.d pA.id] := pushL_new (by rw [hlast]; simpa using hlid)
      rcases hm : nextOf pA pB with _ | m
      · rw [mstep_none hm, hps] at r
        unfold lostV at hlo
        rw [hm] at hlo
        exact mr_nd_no (hk := hk) (hin := i1) (hlt := dt i1.2) (hla := hla) (hpa := hpa) (hlb := hlb) (hpb := hpb) (hah := hah) (hs := sk) (jj := zs.length - 1) (lx := lx) (hlx := hlx) (hjj := ij) (em := em') (e0 := by rw [beq_eq_false_iff_ne]; omega) (e1 := by simpa using hlid) (rl := ⟨0, 0⟩) (hl1 := by omega) (hlo := hlo) r
      · unfold lostV at hlo
        rw [hm] at hlo
        have om := nextOf_some h1 h2 hm
        have hp2' : pushL (zs ++ [Ld.mk rt.n rt.d pA.id]) m.n m.d pB.id = zs ++ [Ld.mk rt.n rt.d pA.id] ++ [Ld.mk m.n m.d pB.id] := pushL_new (by rw [List.getLast?_concat]; simpa using ne2 m hm)
        rcases hx : uu[k + 1]? with _ | ru
        · have hlen : uu.length ≤ k + 1 := List.getElem?_eq_none_iff.1 hx
          rw [hx, mstep_last hm, hps, hp2'] at r
          exact mr_nd_last (hk := hk) (hin := i1) (hlt := dt i1.2) (hla := hla) (hpa := hpa) (hlb := hlb) (hpb := hpb) (hah := hah) (hs := sk) (jj := zs.length - 1) (lx := lx) (hlx := hlx) (hjj := ij) (em := em') (e0 := by rw [beq_eq_false_iff_ne]; omega) (e1 := by simpa using hlid) (rl := ⟨m.n, m.d⟩) (hl1 := by omega) (hl2 := by omega) (f0 := by rw [beq_eq_false_iff_ne]; omega) (fm := by rw [wrap_i64_in (by omega) (by omega)]; congr 1; omega) (hz := ⟨by omega, by omega⟩) (f1 := by simpa using ne2 m hm) (hlo := hlo) (e2 := by rw [beq_iff_eq]; omega) r
        · have hx1 := get_lt hx
          have i2 : 0 ≤ ((k + 1 : Nat) : Int) ∧ ((k + 1 : Nat) : Int) < (uu.length : Int) := ⟨by omega, by omega⟩
          have oku := hu ru (List.mem_of_getElem? hx)
          have hb := CBef_ok om.2.n om.2.d oku.n oku.d om.2.ok oku.ok
          by_cases hbf : (m.n * ru.d - ru.n * m.d).sign < 0
          · rw [dt hbf] at hb
            rw [hx, mstep_bef hm hbf, hps, hp2'] at r
            exact mr_nd_bef (hk := hk) (hin := i1) (hlt := dt i1.2) (hla := hla) (hpa := hpa) (hlb := hlb) (hpb := hpb) (hah := hah) (hs := sk) (jj := zs.length - 1) (lx := lx) (hlx := hlx) (hjj := ij) (em := em') (e0 := by rw [beq_eq_false_iff_ne]; omega) (e1 := by simpa using hlid) (rl := ⟨m.n, m.d⟩) (hl1 := by omega) (hl2 := by omega) (f0 := by rw [beq_eq_false_iff_ne]; omega) (fm := by rw [wrap_i64_in (by omega) (by omega)]; congr 1; omega) (hz := ⟨by omega, by omega⟩) (f1 := by simpa using ne2 m hm) (hlo := hlo) (e2 := by rw [beq_eq_false_iff_ne]; omega) (hk1 := hx) (hin1 := i2) (hbe := hb) r
          · rw [df hbf] at hb
            rw [hx, mstep_nbef hm hbf, hps] at r
            exact mr_nd_nbef (hk := hk) (hin := i1) (hlt := dt i1.2) (hla := hla) (hpa := hpa) (hlb := hlb) (hpb := hpb) (hah := hah) (hs := sk) (jj := zs.length - 1) (lx := lx) (hlx := hlx) (hjj := ij) (em := em') (e0 := by rw [beq_eq_false_iff_ne]; omega) (e1 := by simpa using hlid) (rl := ⟨m.n, m.d⟩) (hl1 := by omega) (hlo := hlo) (e2 := by rw [beq_eq_false_iff_ne]; omega) (hk1 := hx) (hin1 := i2) (hbe := hb) r
theorem mrs_y {l : List Pt} {ca cb zs : List Ld} {uu : List Rn} {rt : Rn} {pA pB : Pt} {k : Nat} (hn : uu.length ≤ 100000) (hz : zs.length ≤ 100000) (hk : uu[k]? = some rt) (hu : ∀ x ∈ uu, RnOk x)
    (hla : FnL Tryz.prog 58 1 [.ls 0 ca.length, .pv (ratioV rt.n rt.d)] [(0, 0, rowL ca)] (.pv (.int .i64 pA.id)) 0 []) (hpa : FnL Tryz.prog 57 1 [fldS 0 l, .pv (.int .i64 pA.id)] [(0, 0, rowP l)] (.pv (ptV pA)) 0 [])
    (hlb : FnL Tryz.prog 58 1 [.ls 0 cb.length, .pv (ratioV rt.n rt.d)] [(0, 0, rowL cb)] (.pv (.int .i64 pB.id)) 0 []) (hpb : FnL Tryz.prog 57 1 [fldS 0 l, .pv (.int .i64 pB.id)] [(0, 0, rowP l)] (.pv (ptV pB)) 0 [])
    (hah : Pure Tryz.prog 59 #[ptV pB, ptV pA, ratioV rt.n rt.d] (.bool true)) (hlo : Pure Tryz.prog 60 #[ptV pB, ptV pA, ratioV rt.n rt.d] (lostV pB pA)) (h1 : okPt pB = true) (h2 : okPt pA = true) (hid : pB.id = pA.id → pB = pA)
    {e : Exit} {tm2 : List (Nat × SV)} {hp2 : List (Nat × Nat × SV)} (r : RunsL Tryz.prog 3 3 (loopOf Tryz.prog 23 0) 77 7 (mgT ca cb uu (k + 1)) (mgH l ca cb uu (mstep pB pA zs rt uu[k + 1]?)) e tm2 hp2) : RunsL Tryz.prog 3 3 (loopOf Tryz.prog 23 0) 77 7 (mgT ca cb uu (k)) (mgH l ca cb uu (zs)) e tm2 hp2 := by
  have hkl := get_lt hk
  have i1 : 0 ≤ (k : Int) ∧ (k : Int) < (uu.length : Int) := ⟨by omega, by omega⟩
  have sk : Value.int .i64 (IntKind.i64.wrap ((k : Int) + 1)) = .int .i64 (((k + 1 : Nat) : Int)) := by rw [wrap_i64_in (by omega) (by omega)]; congr 1
  have ne2 : ∀ m, nextOf pB pA = some m → ¬ pB.id = pA.id := fun m hm he => by
    have := (nextOf_some h1 h2 hm).1
    rw [hid he] at this; omega
  by_cases hze : zs = []
  · have hps : pushL zs rt.n rt.d pB.id = zs ++ [Ld.mk rt.n rt.d pB.id] := pushL_new (by rw [hze]; simp)
    have z0 : zs.length = 0 := by rw [hze]; rfl
    rcases hm : nextOf pB pA with _ | m
    · rw [mstep_none hm, hps] at r
      unfold lostV at hlo
      rw [hm] at hlo
      exact mr_ye_no (hk := hk) (hin := i1) (hlt := dt i1.2) (hla := hla) (hpa := hpa) (hlb := hlb) (hpb := hpb) (hah := hah) (hs := sk) (e0 := by rw [beq_iff_eq]; omega) (rl := ⟨0, 0⟩) (hl1 := by omega) (hlo := hlo) r
    · unfold lostV at hlo
      rw [hm] at hlo
      have om := nextOf_some h1 h2 hm
      have hp2' : pushL (zs ++ [Ld.mk rt.n rt.d pB.id]) m.n m.d pA.id = zs ++ [Ld.mk rt.n rt.d pB.id] ++ [Ld.mk m.n m.d pA.id] := pushL_new (by rw [List.getLast?_concat]; simpa using ne2 m hm)
      rcases hx : uu[k + 1]? with _ | ru
      · have hlen : uu.length ≤ k + 1 := List.getElem?_eq_none_iff.1 hx
        rw [hx, mstep_last hm, hps, hp2'] at r
        exact mr_ye_last (hk := hk) (hin := i1) (hlt := dt i1.2) (hla := hla) (hpa := hpa) (hlb := hlb) (hpb := hpb) (hah := hah) (hs := sk) (e0 := by rw [beq_iff_eq]; omega) (rl := ⟨m.n, m.d⟩) (hl1 := by omega) (hl2 := by omega) (f0 := by rw [beq_eq_false_iff_ne]; omega) (fm := by rw [wrap_i64_in (by omega) (by omega)]; congr 1; omega) (hz := ⟨by omega, by omega⟩) (f1 := by simpa using ne2 m hm) (hlo := hlo) (e2 := by rw [beq_iff_eq]; omega) r
      · have hx1 := get_lt hx
        have i2 : 0 ≤ ((k + 1 : Nat) : Int) ∧ ((k + 1 : Nat) : Int) < (uu.length : Int) := ⟨by omega, by omega⟩
        have oku := hu ru (List.mem_of_getElem? hx)
        have hb := CBef_ok om.2.n om.2.d oku.n oku.d om.2.ok oku.ok
        by_cases hbf : (m.n * ru.d - ru.n * m.d).sign < 0
        · rw [dt hbf] at hb
          rw [hx, mstep_bef hm hbf, hps, hp2'] at r
          exact mr_ye_bef (hk := hk) (hin := i1) (hlt := dt i1.2) (hla := hla) (hpa := hpa) (hlb := hlb) (hpb := hpb) (hah := hah) (hs := sk) (e0 := by rw [beq_iff_eq]; omega) (rl := ⟨m.n, m.d⟩) (hl1 := by omega) (hl2 := by omega) (f0 := by rw [beq_eq_false_iff_ne]; omega) (fm := by rw [wrap_i64_in (by omega) (by omega)]; congr 1; omega) (hz := ⟨by omega, by omega⟩) (f1 := by simpa using ne2 m hm) (hlo := hlo) (e2 := by rw [beq_eq_false_iff_ne]; omega) (hk1 := hx) (hin1 := i2) (hbe := hb) r
        · rw [df hbf] at hb
          rw [hx, mstep_nbef hm hbf, hps] at r
          exact mr_ye_nbef (hk := hk) (hin := i1) (hlt := dt i1.2) (hla := hla) (hpa := hpa) (hlb := hlb) (hpb := hpb) (hah := hah) (hs := sk) (e0 := by rw [beq_iff_eq]; omega) (rl := ⟨m.n, m.d⟩) (hl1 := by omega) (hlo := hlo) (e2 := by rw [beq_eq_false_iff_ne]; omega) (hk1 := hx) (hin1 := i2) (hbe := hb) r
  · have zp : 0 < zs.length := List.length_pos_iff.2 hze
    obtain ⟨lx, hlx⟩ := get_some (l := zs) (k := zs.length - 1) (by omega)
    have hlast : zs.getLast? = some lx := by rw [List.getLast?_eq_getElem?, hlx]
    have ij : 0 ≤ ((zs.length - 1 : Nat) : Int) ∧ ((zs.length - 1 : Nat) : Int) < (zs.length : Int) := ⟨by omega, by omega⟩
    have em' : Value.int .i64 (IntKind.i64.wrap ((zs.length : Int) - 1)) = .int .i64 (((zs.length - 1 : Nat) : Int)) := by rw [wrap_i64_in (by omega) (by omega)]; congr 1; omega
    by_cases hlid : lx.id = pB.id
    · have hps : pushL zs rt.n rt.d pB.id = zs := pushL_same (by rw [hlast]; simp [hlid])
      rcases hm : nextOf pB pA with _ | m
      · rw [mstep_none hm, hps] at r
        unfold lostV at hlo
        rw [hm] at hlo
        exact mr_ys_no (hk := hk) (hin := i1) (hlt := dt i1.2) (hla := hla) (hpa := hpa) (hlb := hlb) (hpb := hpb) (hah := hah) (hs := sk) (jj := zs.length - 1) (lx := lx) (hlx := hlx) (hjj := ij) (em := em') (e0 := by rw [beq_eq_false_iff_ne]; omega) (e1 := by rw [hlid]; simp) (rl := ⟨0, 0⟩)  (hlo := hlo) r
      · unfold lostV at hlo
        rw [hm] at hlo
        have om := nextOf_some h1 h2 hm
        have hp2' : pushL (zs) m.n m.d pA.id = zs ++ [Ld.mk m.n m.d pA.id] := pushL_new (by rw [hlast]; simpa [hlid] using ne2 m hm)
        rcases hx : uu[k + 1]? with _ | ru
        · have hlen : uu.length ≤ k + 1 := List.getElem?_eq_none_iff.1 hx
          rw [hx, mstep_last hm, hps, hp2'] at r
          exact mr_ys_last (hk := hk) (hin := i1) (hlt := dt i1.2) (hla := hla) (hpa := hpa) (hlb := hlb) (hpb := hpb) (hah := hah) (hs := sk) (jj := zs.length - 1) (lx := lx) (hlx := hlx) (hjj := ij) (em := em') (e0 := by rw [beq_eq_false_iff_ne]; omega) (e1 := by rw [hlid]; simp) (rl := ⟨m.n, m.d⟩)  (hl1 := by omega) (f1 := by rw [hlid]; simpa using ne2 m hm) (hlo := hlo) (e2 := by rw [beq_iff_eq]; omega) r
        · have hx1 := get_lt hx
          have i2 : 0 ≤ ((k + 1 : Nat) : Int) ∧ ((k + 1 : Nat) : Int) < (uu.length : Int) := ⟨by omega, by omega⟩
          have oku := hu ru (List.mem_of_getElem? hx)
          have hb := CBef_ok om.2.n om.2.d oku.n oku.d om.2.ok oku.ok
          by_cases hbf : (m.n * ru.d - ru.n * m.d).sign < 0
          · rw [dt hbf] at hb
            rw [hx, mstep_bef hm hbf, hps, hp2'] at r
            exact mr_ys_bef (hk := hk) (hin := i1) (hlt := dt i1.2) (hla := hla) (hpa := hpa) (hlb := hlb) (hpb := hpb) (hah := hah) (hs := sk) (jj := zs.length - 1) (lx := lx) (hlx := hlx) (hjj := ij) (em := em') (e0 := by rw [beq_eq_false_iff_ne]; omega) (e1 := by rw [hlid]; simp) (rl := ⟨m.n, m.d⟩)  (hl1 := by omega) (f1 := by rw [hlid]; simpa using ne2 m hm) (hlo := hlo) (e2 := by rw [beq_eq_false_iff_ne]; omega) (hk1 := hx) (hin1 := i2) (hbe := hb) r
          · rw [df hbf] at hb
            rw [hx, mstep_nbef hm hbf, hps] at r
            exact mr_ys_nbef (hk := hk) (hin := i1) (hlt := dt i1.2) (hla := hla) (hpa := hpa) (hlb := hlb) (hpb := hpb) (hah := hah) (hs := sk) (jj := zs.length - 1) (lx := lx) (hlx := hlx) (hjj := ij) (em := em') (e0 := by rw [beq_eq_false_iff_ne]; omega) (e1 := by rw [hlid]; simp) (rl := ⟨m.n, m.d⟩)  (hlo := hlo) (e2 := by rw [beq_eq_false_iff_ne]; omega) (hk1 := hx) (hin1 := i2) (hbe := hb) r
    · have hps : pushL zs rt.n rt.d pB.id = zs ++ [Ld.mk rt.n rt.d pB.id] := pushL_new (by rw [hlast]; simpa using hlid)
      rcases hm : nextOf pB pA with _ | m
      · rw [mstep_none hm, hps] at r
        unfold lostV at hlo
        rw [hm] at hlo
        exact mr_yd_no (hk := hk) (hin := i1) (hlt := dt i1.2) (hla := hla) (hpa := hpa) (hlb := hlb) (hpb := hpb) (hah := hah) (hs := sk) (jj := zs.length - 1) (lx := lx) (hlx := hlx) (hjj := ij) (em := em') (e0 := by rw [beq_eq_false_iff_ne]; omega) (e1 := by simpa using hlid) (rl := ⟨0, 0⟩) (hl1 := by omega) (hlo := hlo) r
      · unfold lostV at hlo
        rw [hm] at hlo
        have om := nextOf_some h1 h2 hm
        have hp2' : pushL (zs ++ [Ld.mk rt.n rt.d pB.id]) m.n m.d pA.id = zs ++ [Ld.mk rt.n rt.d pB.id] ++ [Ld.mk m.n m.d pA.id] := pushL_new (by rw [List.getLast?_concat]; simpa using ne2 m hm)
        rcases hx : uu[k + 1]? with _ | ru
        · have hlen : uu.length ≤ k + 1 := List.getElem?_eq_none_iff.1 hx
          rw [hx, mstep_last hm, hps, hp2'] at r
          exact mr_yd_last (hk := hk) (hin := i1) (hlt := dt i1.2) (hla := hla) (hpa := hpa) (hlb := hlb) (hpb := hpb) (hah := hah) (hs := sk) (jj := zs.length - 1) (lx := lx) (hlx := hlx) (hjj := ij) (em := em') (e0 := by rw [beq_eq_false_iff_ne]; omega) (e1 := by simpa using hlid) (rl := ⟨m.n, m.d⟩) (hl1 := by omega) (hl2 := by omega) (f0 := by rw [beq_eq_false_iff_ne]; omega) (fm := by rw [wrap_i64_in (by omega) (by omega)]; congr 1; omega) (hz := ⟨by omega, by omega⟩) (f1 := by simpa using ne2 m hm) (hlo := hlo) (e2 := by rw [beq_iff_eq]; omega) r
        · have hx1 := get_lt hx
          have i2 : 0 ≤ ((k + 1 : Nat) : Int) ∧ ((k + 1 : Nat) : Int) < (uu.length : Int) := ⟨by omega, by omega⟩
          have oku := hu ru (List.mem_of_getElem? hx)
          have hb := CBef_ok om.2.n om.2.d oku.n oku.d om.2.ok oku.ok
          by_cases hbf : (m.n * ru.d - ru.n * m.d).sign < 0
          · rw [dt hbf] at hb
            rw [hx, mstep_bef hm hbf, hps, hp2'] at r
            exact mr_yd_bef (hk := hk) (hin := i1) (hlt := dt i1.2) (hla := hla) (hpa := hpa) (hlb := hlb) (hpb := hpb) (hah := hah) (hs := sk) (jj := zs.length - 1) (lx := lx) (hlx := hlx) (hjj := ij) (em := em') (e0 := by rw [beq_eq_false_iff_ne]; omega) (e1 := by simpa using hlid) (rl := ⟨m.n, m.d⟩) (hl1 := by omega) (hl2 := by omega) (f0 := by rw [beq_eq_false_iff_ne]; omega) (fm := by rw [wrap_i64_in (by omega) (by omega)]; congr 1; omega) (hz := ⟨by omega, by omega⟩) (f1 := by simpa using ne2 m hm) (hlo := hlo) (e2 := by rw [beq_eq_false_iff_ne]; omega) (hk1 := hx) (hin1 := i2) (hbe := hb) r
          · rw [df hbf] at hb
            rw [hx, mstep_nbef hm hbf, hps] at r
            exact mr_yd_nbef (hk := hk) (hin := i1) (hlt := dt i1.2) (hla := hla) (hpa := hpa) (hlb := hlb) (hpb := hpb) (hah := hah) (hs := sk) (jj := zs.length - 1) (lx := lx) (hlx := hlx) (hjj := ij) (em := em') (e0 := by rw [beq_eq_false_iff_ne]; omega) (e1 := by simpa using hlid) (rl := ⟨m.n, m.d⟩) (hl1 := by omega) (hlo := hlo) (e2 := by rw [beq_eq_false_iff_ne]; omega) (hk1 := hx) (hin1 := i2) (hbe := hb) r
end Go.Proofs.YtpngjeloiifgnaaGreat
