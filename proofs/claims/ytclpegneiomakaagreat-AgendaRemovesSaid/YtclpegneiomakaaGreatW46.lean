/-
  Joined: Vk, Vl, Vo, Vr. Conditions: none.
-/
import Derived.Test.YtclpegneiomakaaGreatVj
import Derived.Test.YtclpegneiomakaaGreatW43
import Derived.Test.YtclpegneiomakaaGreatVq
namespace Go.Proofs.YtclpegneiomakaaGreat
open Go.RowKit
section
variable {u fr wh : List Int} {b : List Bool} {ev : List Ev}
theorem RGiven_some {hi hw : Int} (h : Vd u b fr) (hl : Live u b hi hw) :
    FnL Tryz.prog 97 3 [.ag [.ls 0 u.length, .ls 1 b.length, .ls 2 fr.length], .pv (handV hi hw)] [(0, 0, zrI u), (1, 0, zrB b), (2, 0, zrI fr)] (.ag [.ls 3 u.length, .ls 4 (b.set hi.toNat false).length, .ls 5 (fr ++ [hi]).length]) 3 [(3, 0, zrI u), (4, 0, zrB (b.set hi.toNat false)), (5, 0, zrI (fr ++ [hi]))] := by
  have h0 := hl.lo
  have h1 : hi < (b.length : Int) := by rw [h.len]; exact hl.lt
  have key := rgi (hw := hw) (RTwin_any h.small) ⟨h0, h1⟩ (by omega) (by have := h.frlen; omega)
  simp only [zrI, zrB, List.length_set, List.length_append, List.length_singleton]
  rw [ziV_append]
  exact key
theorem RTwin7 (h : VA u b fr ev wh) : FnL Tryz.prog 14 5 [agA u b fr ev wh] (agP u b fr ev wh) (.ag [.ls 5 u.length, .ls 6 b.length, .ls 7 fr.length, .ls 8 ev.length, .ls 9 wh.length]) 5 [(5, 0, zrI u), (6, 0, zrB b), (7, 0, zrI fr), (8, 0, rowE ev), (9, 0, zrI wh)] := by
  have hlen := h.lens
  exact rtw7 (h6 := RTwin_any h.vd.small) (ne := by omega) (nw := by omega)
theorem RRekeyed_any {x : Ev} {k : Nat} {tn td : Int} (h : VA u b fr ev wh) (hx : ev[k]? = some x) (ht : I64 tn ∧ I64 td) (ho : okB tn td = true) :
    FnL Tryz.prog 64 5 [agA u b fr ev wh, .pv (handV x.i x.w), .pv (ratioV tn td)] (agP u b fr ev wh)
      (.ag [.ls 5 u.length, .ls 6 b.length, .ls 7 fr.length, .ls 8 (rekeyM ev wh k x tn td).1.length, .ls 9 (rekeyM ev wh k x tn td).2.length]) 5 (APost (rekeyM ev wh k x tn td).1 u b fr (rekeyM ev wh k x tn td).2) := by
  have hlen := h.lens
  obtain ⟨hlv, hwx⟩ := h.own hx
  have hk : k < ev.length := (List.getElem?_eq_some_iff.1 hx).1
  have I := rekey_inv h.inv hx ht ho
  have J := settle_inv hk I
  obtain ⟨K, hp⟩ := upM_inv (d := k) (Nat.le_refl _) hk I
  have j1 : (rekeyM ev wh k x tn td).1.length = ev.length := J.len
  have j2 : (rekeyM ev wh k x tn td).2.length = wh.length := J.wl
  have hwi := h.inv.ix x (List.mem_of_getElem? hx)
  simp only [APost, rowE, zrI, j1, j2]
  have r0 := rr_upA (u := u) (b := b) (fr := fr) (n := ev.length) (by omega) k k _ _ (Nat.le_refl _) hk I
  have r1 := rr_dnA (u := u) (b := b) (fr := fr) (n := ev.length) (by omega) ev.length _ _ _ (by omega) hp K
  exact rr_path (p := _) (htw := RTwin7 h) (hiw := hwi) (hwk := hwx) (hik := ⟨by omega, by omega⟩) (hx := hx) (hset := hk) (r0 := r0) (r1 := r1)
/-- The reference lets two change places before it cuts off the last one. -/
theorem cut_swap {k la : Nat} {x xl : Ev} (hk : k < la) : (((ev.set k xl).set la x).take la) = (ev.take la).set k xl := by
  apply List.ext_getElem?
  intro j
  simp only [List.getElem?_take, List.getElem?_set, List.length_take, List.length_set]
  by_cases h : j < la
  · rw [if_pos h, if_neg (show ¬ la = j by omega)]
    by_cases e : k = j
    · rw [if_pos e, if_pos e]
      by_cases g : k < ev.length
      · rw [if_pos g, if_pos (by omega)]
      · rw [if_neg g, if_neg (by omega)]
    · rw [if_neg e, if_neg e, if_pos h]
  · rw [if_neg h, if_neg (by omega), if_neg h]
theorem RRemoved_any {x : Ev} {k : Nat} (h : VA u b fr ev wh) (hx : ev[k]? = some x) :
    FnL Tryz.prog 63 5 [agA u b fr ev wh, .pv (handV x.i x.w)] (agP u b fr ev wh)
      (.ag [.ls 5 u.length, .ls 6 (b.set x.i.toNat false).length, .ls 7 (fr ++ [x.i]).length, .ls 8 (withoutM ev wh k x).1.length, .ls 9 (withoutM ev wh k x).2.length]) 5 (APost (withoutM ev wh k x).1 u (b.set x.i.toNat false) (fr ++ [x.i]) (withoutM ev wh k x).2) := by
  obtain ⟨hlv, hwx⟩ := h.own hx
  have hlen := h.lens
  have hI := h.inv
  have hk : k < ev.length := (List.getElem?_eq_some_iff.1 hx).1
  have hg := RGiven_some h.vd hlv
  have hla : Value.int .i64 (IntKind.i64.wrap ((ev.length : Int) - 1)) = .int .i64 ((ev.length - 1 : Nat) : Int) := by rw [show (ev.length : Int) - 1 = ((ev.length - 1 : Nat) : Int) by omega]; exact wrapZ (by omega) (by omega)
  have hwi := hI.ix x (List.mem_of_getElem? hx)
  by_cases hm : k < ev.length - 1
  · obtain ⟨xl, hxl⟩ : ∃ xl, ev[ev.length - 1]? = some xl := ⟨_, List.getElem?_eq_getElem (by omega)⟩
    have hwl := hI.ix xl (List.mem_of_getElem? hxl)
    have hne : x.i ≠ xl.i := fun e => by
      have := h.con.inj hx hxl e
      omega
    have e : withoutM ev wh k x = settleM (ev.length - 1) ((ev.take (ev.length - 1)).set k xl) ((wh.set x.i.toNat (-1)).set xl.i.toNat (k : Int)) k := by unfold withoutM; rw [if_pos hm, hxl]
    have I := without_inv (x := x) hI hm hxl
    have e1 : (((ev.set k xl).set (ev.length - 1) x).take (ev.length - 1)) = (ev.take (ev.length - 1)).set k xl := cut_swap hm
    have e2 : (((wh.set xl.i.toNat (k : Int)).set x.i.toNat ((ev.length - 1 : Nat) : Int)).set x.i.toNat (-1)) = ((wh.set x.i.toNat (-1)).set xl.i.toNat (k : Int)) := by
      rw [List.set_set, List.set_comm _ _ (by omega)]
    rw [← e1, ← e2] at I e
    have J := settle_inv hm I
    obtain ⟨K, hp⟩ := upM_inv (d := k) (Nat.le_refl _) hm I
    rw [e]
    simp only [APost, rowE, zrI, J.len, J.wl]
    have r0 := rvm_upA (u2 := u) (b2 := b.set x.i.toNat false) (f2 := fr ++ [x.i]) (n := ev.length - 1) (by omega) k k _ _ (Nat.le_refl _) hm I
    have r1 := rvm_dnA (u2 := u) (b2 := b.set x.i.toNat false) (f2 := fr ++ [x.i]) (n := ev.length - 1) (by omega) (ev.length - 1) _ _ _ (by omega) hp K
    refine rvm_mid (n := 0) (mm := 0) (p := _) (la := ev.length - 1) (x := x) (xl := xl) (htw := RTwin7 h) (hiw := hwi) (hwk := hwx) (hla := hla) (hne := by simp; omega) (hin_x := ⟨by omega, by omega⟩) (he_x := hx) (hin_xl := ⟨by omega, by omega⟩) (he_xl := hxl) (hsa := hk) (hsb := by rw [List.length_set]; omega) (h2a := sw_a rfl (by omega) (by omega) (by omega)) (h2b := sw_b rfl (by omega) (by omega) (by omega)) (hwb := hwl) (hwbl := by omega) (hwa := hwi) (hwal := by rw [List.length_set]; omega) (hll := by omega) (hws := by rw [List.length_set, List.length_set]; omega) (hg := hg) (r0 := r0) (r1 := ?_)
    exact r1
  · have e : withoutM ev wh k x = (ev.take (ev.length - 1), wh.set x.i.toNat (-1)) := by unfold withoutM; rw [if_neg hm]
    have e1 : (ev.take (ev.length - 1)).length = ev.length - 1 := by rw [List.length_take]; omega
    rw [e]
    have e2 : (wh.set x.i.toNat (-1)).length = wh.length := List.length_set ..
    simp only [APost, rowE, zrI, e1, e2]
    exact rvm_end (la := ev.length - 1) (htw := RTwin7 h) (hiw := hwi) (hwk := hwx) (hla := hla) (hne := by simp; omega) (hll := by omega) (hws := by omega) (hg := hg)
end
end Go.Proofs.YtclpegneiomakaaGreat

namespace Go.Proofs.YtclpegneiomakaaGreat
open Go.RowKit
section
variable {u fr wh : List Int} {b : List Bool} {ev : List Ev}
theorem RTop_bad (s : ASm u b fr ev wh) (h : ¬ VA u b fr ev wh) : FnL Tryz.prog 25 5 [agA u b fr ev wh] (agP u b fr ev wh) (.pv (.tuple #[evZ, .int .i64 8])) 0 [] := rtp_bad (hc := RACheck_bad s h)
theorem RTop_none (h : VA u b fr ev wh) (he : ev = []) : FnL Tryz.prog 25 5 [agA u b fr ev wh] (agP u b fr ev wh) (.pv (.tuple #[evZ, .int .i64 42])) 0 [] := rtp_none (hc := RACheck_ok h) (h0 := by subst he; rfl)
theorem RTop_some {x : Ev} (h : VA u b fr ev wh) (hx : ev[0]? = some x) : FnL Tryz.prog 25 5 [agA u b fr ev wh] (agP u b fr ev wh) (.pv (.tuple #[eventV x, .int .i64 0])) 0 [] := by
  have := (List.getElem?_eq_some_iff.1 hx).1
  exact rtp_ok (hc := RACheck_ok h) (h0 := by simp; intro e; rw [e] at this; simp at this) (hx := hx) (hin := by omega)
theorem RFind_bad {hi hw : Int} (s : ASm u b fr ev wh) (h : ¬ VA u b fr ev wh) : FnL Tryz.prog 26 5 [agA u b fr ev wh, .pv (handV hi hw)] (agP u b fr ev wh) (.pv (.tuple #[evZ, .int .i64 8])) 0 [] := rfi_bad (hc := RACheck_bad s h)
theorem RFind_none {hi hw : Int} (h : VA u b fr ev wh) (hl : ¬ Live u b hi hw) : FnL Tryz.prog 26 5 [agA u b fr ev wh, .pv (handV hi hw)] (agP u b fr ev wh) (.pv (.tuple #[evZ, .int .i64 6])) 0 [] := rfi_none (hc := RACheck_ok h) (hl := RLive_no h.vd hl)
theorem RFind_some {hi hw : Int} {j : Nat} {x : Ev} (h : VA u b fr ev wh) (hl : Live u b hi hw) (hj : wh[hi.toNat]? = some (j : Int)) (hx : ev[j]? = some x) : FnL Tryz.prog 26 5 [agA u b fr ev wh, .pv (handV hi hw)] (agP u b fr ev wh) (.pv (.tuple #[eventV x, .int .i64 0])) 0 [] := by
  have := (List.getElem?_eq_some_iff.1 hj).1
  have := (List.getElem?_eq_some_iff.1 hx).1
  have := hl.lo
  exact rfi_ok (hc := RACheck_ok h) (hl := RLive_yes h.vd hl) (hiw := by omega) (hw_ := hj) (hij := by omega) (hx := hx)
theorem RPop_bad (s : ASm u b fr ev wh) (h : ¬ VA u b fr ev wh) : FnL Tryz.prog 28 5 [agA u b fr ev wh] (agP u b fr ev wh) (.pv (.tuple #[agZ, evZ, .int .i64 8])) 0 [] := rpo_bad (ht := RTop_bad s h)
theorem RPop_none (h : VA u b fr ev wh) (he : ev = []) : FnL Tryz.prog 28 5 [agA u b fr ev wh] (agP u b fr ev wh) (.pv (.tuple #[agZ, evZ, .int .i64 42])) 0 [] := rpo_none (ht := RTop_none h he)
theorem RPop_some {x : Ev} (h : VA u b fr ev wh) (hx : ev[0]? = some x) : FnL Tryz.prog 28 5 [agA u b fr ev wh] (agP u b fr ev wh)
    (.tu [AOut (withoutM ev wh 0 x).1 u (b.set x.i.toNat false) (fr ++ [x.i]) (withoutM ev wh 0 x).2, .one (.pv (eventV x)), .one (.pv (.int .i64 0))]) 5 (APost (withoutM ev wh 0 x).1 u (b.set x.i.toNat false) (fr ++ [x.i]) (withoutM ev wh 0 x).2) :=
  rpo_ok (ht := RTop_some h hx) (hp := RRemoved_any h hx)
theorem RRemove_bad {hi hw : Int} (s : ASm u b fr ev wh) (h : ¬ VA u b fr ev wh) : FnL Tryz.prog 29 5 [agA u b fr ev wh, .pv (handV hi hw)] (agP u b fr ev wh) (.pv (.tuple #[agZ, evZ, .int .i64 8])) 0 [] := rrm_bad (hf := RFind_bad s h)
theorem RRemove_none {hi hw : Int} (h : VA u b fr ev wh) (hl : ¬ Live u b hi hw) : FnL Tryz.prog 29 5 [agA u b fr ev wh, .pv (handV hi hw)] (agP u b fr ev wh) (.pv (.tuple #[agZ, evZ, .int .i64 6])) 0 [] := rrm_none (hf := RFind_none h hl)
theorem RRemove_some {j : Nat} {x : Ev} (h : VA u b fr ev wh) (hl : Live u b x.i x.w) (hj : wh[x.i.toNat]? = some (j : Int)) (hx : ev[j]? = some x) : FnL Tryz.prog 29 5 [agA u b fr ev wh, .pv (handV x.i x.w)] (agP u b fr ev wh)
    (.tu [AOut (withoutM ev wh j x).1 u (b.set x.i.toNat false) (fr ++ [x.i]) (withoutM ev wh j x).2, .one (.pv (eventV x)), .one (.pv (.int .i64 0))]) 5 (APost (withoutM ev wh j x).1 u (b.set x.i.toNat false) (fr ++ [x.i]) (withoutM ev wh j x).2) :=
  rrm_ok (hf := RFind_some h hl hj hx) (hp := RRemoved_any h hx)
theorem RRekey_bad {hi hw tn td : Int} (s : ASm u b fr ev wh) (h : ¬ VA u b fr ev wh) : FnL Tryz.prog 30 5 [agA u b fr ev wh, .pv (handV hi hw), .pv (ratioV tn td)] (agP u b fr ev wh) (.pv (.tuple #[agZ, .int .i64 8])) 0 [] := rrk_bad (hc := RACheck_bad s h)
theorem RRekey_time {hi hw tn td : Int} (ht : I64 tn ∧ I64 td) (h0 : ¬ okB tn td = true) (h : VA u b fr ev wh) : FnL Tryz.prog 30 5 [agA u b fr ev wh, .pv (handV hi hw), .pv (ratioV tn td)] (agP u b fr ev wh) (.pv (.tuple #[agZ, .int .i64 8])) 0 [] := rrk_time (hc := RACheck_ok h) (hr := RCheck_bad ht.1 ht.2 h0)
theorem RRekey_none {hi hw tn td : Int} (ht : I64 tn ∧ I64 td) (h0 : okB tn td = true) (h : VA u b fr ev wh) (hl : ¬ Live u b hi hw) : FnL Tryz.prog 30 5 [agA u b fr ev wh, .pv (handV hi hw), .pv (ratioV tn td)] (agP u b fr ev wh) (.pv (.tuple #[agZ, .int .i64 6])) 0 [] := rrk_none (hc := RACheck_ok h) (hr := RCheck_ok ht.1 ht.2 h0) (hl := RLive_no h.vd hl)
theorem RRekey_some {tn td : Int} {j : Nat} {x : Ev} (ht : I64 tn ∧ I64 td) (h0 : okB tn td = true) (h : VA u b fr ev wh) (hl : Live u b x.i x.w) (hx : ev[j]? = some x) : FnL Tryz.prog 30 5 [agA u b fr ev wh, .pv (handV x.i x.w), .pv (ratioV tn td)] (agP u b fr ev wh)
    (.tu [AOut (rekeyM ev wh j x tn td).1 u b fr (rekeyM ev wh j x tn td).2, .one (.pv (.int .i64 0))]) 5 (APost (rekeyM ev wh j x tn td).1 u b fr (rekeyM ev wh j x tn td).2) :=
  rrk_ok (hc := RACheck_ok h) (hr := RCheck_ok ht.1 ht.2 h0) (hl := RLive_yes h.vd hl) (hp := RRekeyed_any h hx ht h0)
end
end Go.Proofs.YtclpegneiomakaaGreat

namespace Go.Proofs.YtclpegneiomakaaGreat
open Go.RowKit
section
variable {u fr wh : List Int} {b : List Bool} {ev : List Ev}
theorem rsm_loop (hl : ev.length ≤ 1000000) : ∀ (d k : Nat), k + d = ev.length → RunsL Tryz.prog 10 10 (loopOf Tryz.prog 27 0) 47 12 [(2, .pp 10 0), (3, .pp 11 0), (5, .pv (.int .i64 (k : Int)))] [(10, 0, .ls 0 u.length), (10, 1, .ls 1 b.length), (10, 2, .ls 2 fr.length), (10, 3, .ls 3 ev.length), (10, 4, .ls 4 wh.length), (11, 0, .ls 5 u.length), (11, 1, .ls 6 b.length), (11, 2, .ls 7 fr.length), (11, 3, .ls 8 ev.length), (11, 4, .ls 9 wh.length), (3, 0, rowE ev), (8, 0, rowE ev)] (.exit 0) [] []
  | 0, k, hk => rsm_end (hge := decide_eq_false (by omega))
  | d + 1, k, hk => by
    have hx : ev[k]? = some (ev[k]'(by omega)) := List.getElem?_eq_getElem (by omega)
    exact rsm_next (hk := hx) (hin := by omega) (hlt := decide_eq_true (by omega)) (hq := by simp) (hs := z_succ (by omega)) (r := rsm_loop hl d (k + 1) (by omega))
theorem Same7_eq (hg : greatB u b fr = false) (hl : ev.length ≤ 1000000) (hw : wh.length ≤ 1000000) : FnL Tryz.prog 27 10 [agA u b fr ev wh, .ag [.ls 5 u.length, .ls 6 b.length, .ls 7 fr.length, .ls 8 ev.length, .ls 9 wh.length]] [(0, 0, zrI u), (1, 0, zrB b), (2, 0, zrI fr), (3, 0, rowE ev), (4, 0, zrI wh), (5, 0, zrI u), (6, 0, zrB b), (7, 0, zrI fr), (8, 0, rowE ev), (9, 0, zrI wh)] (.pv (.bool true)) 0 [] :=
  rsm_path (hi := 0) (Same_eq6 hg) (SameI_eq hw) (by simp) (rsm_loop hl ev.length 0 (by omega))
set_option maxRecDepth 100000 in
theorem Same7_nil : Pure Tryz.prog 27 #[agZ, agZ] (.bool true) :=
  pure_runZ (args := [agZ, agZ]) 400 [.k, .k, .k, .k, .k, .k, .k, .k, .k, .k, .k, .k, .k, .k, .k, .k, .k, .k, .k, .k, .k, .k, .k, .k, .k, .k, .k, .k, .k, .k] (And.intro rfl True.intro) (by kernel_rfl)
theorem great7_gB (h : great7 u b fr ev wh = false) : greatB u b fr = false := by
  unfold great7 at h
  simp only [Bool.or_eq_false_iff] at h
  exact h.1
end
end Go.Proofs.YtclpegneiomakaaGreat

namespace Go.Proofs.YtclpegneiomakaaGreat
open Go.RowKit
section
variable {u fr wh : List Int} {b : List Bool} {ev : List Ev}
theorem Pop_both (s : ASm u b fr ev wh) : (∃ e : Int, FnL Tryz.prog 16 5 [agA u b fr ev wh] (agP u b fr ev wh) (.pv (.tuple #[agZ, evZ, .int .i64 e])) 0 [] ∧ FnL Tryz.prog 28 5 [agA u b fr ev wh] (agP u b fr ev wh) (.pv (.tuple #[agZ, evZ, .int .i64 e])) 0 []) ∨
    ∃ (u2 f2 wh3 : List Int) (b2 : List Bool) (ev3 : List Ev) (x : Ev), VA u2 b2 f2 ev3 wh3 ∧ FnL Tryz.prog 16 5 [agA u b fr ev wh] (agP u b fr ev wh) (.tu [AOut ev3 u2 b2 f2 wh3, .one (.pv (eventV x)), .one (.pv (.int .i64 0))]) 5 (APost ev3 u2 b2 f2 wh3) ∧
      FnL Tryz.prog 28 5 [agA u b fr ev wh] (agP u b fr ev wh) (.tu [AOut ev3 u2 b2 f2 wh3, .one (.pv (eventV x)), .one (.pv (.int .i64 0))]) 5 (APost ev3 u2 b2 f2 wh3) := by
  by_cases h : VA u b fr ev wh
  · rcases Nat.eq_zero_or_pos ev.length with h0 | h0
    · have hev : ev = [] := List.eq_nil_of_length_eq_zero h0
      exact .inl ⟨42, APop_none h hev, RPop_none h hev⟩
    · have hx : ev[0]? = some (ev[0]'h0) := List.getElem?_eq_getElem h0
      exact .inr ⟨_, _, _, _, _, _, (h.without hx).1, APop_some h hx, RPop_some h hx⟩
  · exact .inl ⟨8, APop_bad s h, RPop_bad s h⟩
theorem Remove_both (s : ASm u b fr ev wh) (gi gw : Int) : (∃ e : Int, FnL Tryz.prog 17 5 [agA u b fr ev wh, .pv (handV gi gw)] (agP u b fr ev wh) (.pv (.tuple #[agZ, evZ, .int .i64 e])) 0 [] ∧ FnL Tryz.prog 29 5 [agA u b fr ev wh, .pv (handV gi gw)] (agP u b fr ev wh) (.pv (.tuple #[agZ, evZ, .int .i64 e])) 0 []) ∨
    ∃ (u2 f2 wh3 : List Int) (b2 : List Bool) (ev3 : List Ev) (x : Ev), VA u2 b2 f2 ev3 wh3 ∧ FnL Tryz.prog 17 5 [agA u b fr ev wh, .pv (handV gi gw)] (agP u b fr ev wh) (.tu [AOut ev3 u2 b2 f2 wh3, .one (.pv (eventV x)), .one (.pv (.int .i64 0))]) 5 (APost ev3 u2 b2 f2 wh3) ∧
      FnL Tryz.prog 29 5 [agA u b fr ev wh, .pv (handV gi gw)] (agP u b fr ev wh) (.tu [AOut ev3 u2 b2 f2 wh3, .one (.pv (eventV x)), .one (.pv (.int .i64 0))]) 5 (APost ev3 u2 b2 f2 wh3) := by
  by_cases h : VA u b fr ev wh
  · by_cases hl : Live u b gi gw
    · obtain ⟨j, x, h1, h2, rfl, rfl⟩ := h.find hl
      exact .inr ⟨_, _, _, _, _, _, (h.without h2).1, ARemove_some h hl h1 h2, RRemove_some h hl h1 h2⟩
    · exact .inl ⟨6, ARemove_none h hl, RRemove_none h hl⟩
  · exact .inl ⟨8, ARemove_bad s h, RRemove_bad s h⟩
theorem Rekey_both {tn td : Int} (s : ASm u b fr ev wh) (gi gw : Int) (ht : I64 tn ∧ I64 td) : (∃ e : Int, FnL Tryz.prog 18 5 [agA u b fr ev wh, .pv (handV gi gw), .pv (ratioV tn td)] (agP u b fr ev wh) (.pv (.tuple #[agZ, .int .i64 e])) 0 [] ∧ FnL Tryz.prog 30 5 [agA u b fr ev wh, .pv (handV gi gw), .pv (ratioV tn td)] (agP u b fr ev wh) (.pv (.tuple #[agZ, .int .i64 e])) 0 []) ∨
    ∃ (u2 f2 wh3 : List Int) (b2 : List Bool) (ev3 : List Ev), VA u2 b2 f2 ev3 wh3 ∧ FnL Tryz.prog 18 5 [agA u b fr ev wh, .pv (handV gi gw), .pv (ratioV tn td)] (agP u b fr ev wh) (.tu [AOut ev3 u2 b2 f2 wh3, .one (.pv (.int .i64 0))]) 5 (APost ev3 u2 b2 f2 wh3) ∧
      FnL Tryz.prog 30 5 [agA u b fr ev wh, .pv (handV gi gw), .pv (ratioV tn td)] (agP u b fr ev wh) (.tu [AOut ev3 u2 b2 f2 wh3, .one (.pv (.int .i64 0))]) 5 (APost ev3 u2 b2 f2 wh3) := by
  by_cases h : VA u b fr ev wh
  · by_cases h0 : okB tn td = true
    · by_cases hl : Live u b gi gw
      · obtain ⟨j, x, h1, h2, rfl, rfl⟩ := h.find hl
        exact .inr ⟨_, _, _, _, _, (h.rekey ht h0 h2).1, ARekey_some ht h0 h hl h1 h2, RRekey_some ht h0 h hl h2⟩
      · exact .inl ⟨6, ARekey_none ht h0 h hl, RRekey_none ht h0 h hl⟩
    · exact .inl ⟨8, ARekey_time ht h0 h, RRekey_time ht h0 h⟩
  · exact .inl ⟨8, ARekey_bad ht s h, RRekey_bad s h⟩
theorem Removes_any {tn td gi gw : Int} (hi : ∀ x ∈ ev, EvI x) (ht : I64 tn ∧ I64 td) : FnL Tryz.prog 5 5 [agA u b fr ev wh, .pv (handV gi gw), .pv (ratioV tn td)] (agP u b fr ev wh) (.pv (.bool true)) 0 [] := by
  have hg := Great7_any (u := u) (b := b) (fr := fr) (ev := ev) (wh := wh)
  cases e : great7 u b fr ev wh <;> rw [e] at hg
  · have s := great7_sm hi e
    have gB : greatB u b fr = false := great7_gB e
    have l1 := s.le
    have l2 := s.lw
    have htw := rtw7 (u := u) (b := b) (fr := fr) (ev := ev) (wh := wh) (RTwin_any gB) (by omega) (by omega)
    have hs := Same7_eq (u := u) (b := b) (fr := fr) (ev := ev) (wh := wh) gB (by omega) (by omega)
    rcases Pop_both s with ⟨e1, p1, p2⟩ | ⟨u2, f2, wh3, b2, ev3, x, v2, p1, p2⟩
    · rcases Remove_both s gi gw with ⟨e2, r1, r2⟩ | ⟨u4, f4, wh4, b4, ev4, y, v4, r1, r2⟩
      · rcases Rekey_both s gi gw ht with ⟨e3, k1, k2⟩ | ⟨u5, f5, wh5, b5, ev5, v5, k1, k2⟩
        · obtain ⟨g1, q0⟩ := @arL0_000 u fr wh b ev e1 e2 e3 (by omega)
          obtain ⟨gw2, q1⟩ := @arL1_000 u fr wh b ev g1 e1 e2 e3 (by omega)
          exact arm_000 (hgr := hg) (htw := htw) (hp1 := p1) (hp2 := p2) (hr1 := r1) (hr2 := r2) (hk1 := k1) (hk2 := k2) (hs := hs) (q0 := q0) (q1 := q1) (qe1 := by simp) (qe2 := by simp) (qe3 := by simp) (hs0 := Same7_nil)
        · have l5 := v5.lens
          obtain ⟨g1, q0⟩ := @arL0_001 u fr wh u5 f5 wh5 b b5 ev ev5 e1 e2 (by omega)
          obtain ⟨gw2, q1⟩ := @arL1_001 u fr wh u5 f5 wh5 b b5 ev ev5 g1 e1 e2 (by omega)
          exact arm_001 (hgr := hg) (htw := htw) (hp1 := p1) (hp2 := p2) (hr1 := r1) (hr2 := r2) (hk1 := k1) (hk2 := k2) (hs := hs) (q0 := q0) (q1 := q1) (qe1 := by simp) (qe2 := by simp) (hs5 := Same7_eq v5.vd.small (by omega) (by omega)) (hs0 := Same7_nil)
      · have l4 := v4.lens
        rcases Rekey_both s gi gw ht with ⟨e3, k1, k2⟩ | ⟨u5, f5, wh5, b5, ev5, v5, k1, k2⟩
        · obtain ⟨g1, q0⟩ := @arL0_010 u fr wh u4 f4 wh4 b b4 ev ev4 y e1 e3 (by omega)
          obtain ⟨gw2, q1⟩ := @arL1_010 u fr wh u4 f4 wh4 b b4 ev ev4 g1 y e1 e3 (by omega)
          exact arm_010 (hgr := hg) (htw := htw) (hp1 := p1) (hp2 := p2) (hr1 := r1) (hr2 := r2) (hk1 := k1) (hk2 := k2) (hs := hs) (q0 := q0) (q1 := q1) (qe1 := by simp) (hs4 := Same7_eq v4.vd.small (by omega) (by omega)) (qy := by simp) (qe3 := by simp) (hs0 := Same7_nil)
        · have l5 := v5.lens
          obtain ⟨g1, q0⟩ := @arL0_011 u fr wh u4 f4 wh4 u5 f5 wh5 b b4 b5 ev ev4 ev5 y e1 (by omega)
          obtain ⟨gw2, q1⟩ := @arL1_011 u fr wh u4 f4 wh4 u5 f5 wh5 b b4 b5 ev ev4 ev5 g1 y e1 (by omega)
          exact arm_011 (hgr := hg) (htw := htw) (hp1 := p1) (hp2 := p2) (hr1 := r1) (hr2 := r2) (hk1 := k1) (hk2 := k2) (hs := hs) (q0 := q0) (q1 := q1) (qe1 := by simp) (hs4 := Same7_eq v4.vd.small (by omega) (by omega)) (qy := by simp) (hs5 := Same7_eq v5.vd.small (by omega) (by omega)) (hs0 := Same7_nil)
    · have l2' := v2.lens
      rcases Remove_both s gi gw with ⟨e2, r1, r2⟩ | ⟨u4, f4, wh4, b4, ev4, y, v4, r1, r2⟩
      · rcases Rekey_both s gi gw ht with ⟨e3, k1, k2⟩ | ⟨u5, f5, wh5, b5, ev5, v5, k1, k2⟩
        · obtain ⟨g1, q0⟩ := @arL0_100 u fr wh u2 f2 wh3 b b2 ev ev3 x e2 e3 (by omega)
          obtain ⟨gw2, q1⟩ := @arL1_100 u fr wh u2 f2 wh3 b b2 ev ev3 g1 x e2 e3 (by omega)
          exact arm_100 (hgr := hg) (htw := htw) (hp1 := p1) (hp2 := p2) (hr1 := r1) (hr2 := r2) (hk1 := k1) (hk2 := k2) (hs := hs) (q0 := q0) (q1 := q1) (hs2 := Same7_eq v2.vd.small (by omega) (by omega)) (qx := by simp) (qe2 := by simp) (qe3 := by simp) (hs0 := Same7_nil)
        · have l5 := v5.lens
          obtain ⟨g1, q0⟩ := @arL0_101 u fr wh u2 f2 wh3 u5 f5 wh5 b b2 b5 ev ev3 ev5 x e2 (by omega)
          obtain ⟨gw2, q1⟩ := @arL1_101 u fr wh u2 f2 wh3 u5 f5 wh5 b b2 b5 ev ev3 ev5 g1 x e2 (by omega)
          exact arm_101 (hgr := hg) (htw := htw) (hp1 := p1) (hp2 := p2) (hr1 := r1) (hr2 := r2) (hk1 := k1) (hk2 := k2) (hs := hs) (q0 := q0) (q1 := q1) (hs2 := Same7_eq v2.vd.small (by omega) (by omega)) (qx := by simp) (qe2 := by simp) (hs5 := Same7_eq v5.vd.small (by omega) (by omega)) (hs0 := Same7_nil)
      · have l4 := v4.lens
        rcases Rekey_both s gi gw ht with ⟨e3, k1, k2⟩ | ⟨u5, f5, wh5, b5, ev5, v5, k1, k2⟩
        · obtain ⟨g1, q0⟩ := @arL0_110 u fr wh u2 f2 wh3 u4 f4 wh4 b b2 b4 ev ev3 ev4 x y e3 (by omega)
          obtain ⟨gw2, q1⟩ := @arL1_110 u fr wh u2 f2 wh3 u4 f4 wh4 b b2 b4 ev ev3 ev4 g1 x y e3 (by omega)
          exact arm_110 (hgr := hg) (htw := htw) (hp1 := p1) (hp2 := p2) (hr1 := r1) (hr2 := r2) (hk1 := k1) (hk2 := k2) (hs := hs) (q0 := q0) (q1 := q1) (hs2 := Same7_eq v2.vd.small (by omega) (by omega)) (qx := by simp) (hs4 := Same7_eq v4.vd.small (by omega) (by omega)) (qy := by simp) (qe3 := by simp) (hs0 := Same7_nil)
        · have l5 := v5.lens
          obtain ⟨g1, q0⟩ := @arL0_111 u fr wh u2 f2 wh3 u4 f4 wh4 u5 f5 wh5 b b2 b4 b5 ev ev3 ev4 ev5 x y (by omega)
          obtain ⟨gw2, q1⟩ := @arL1_111 u fr wh u2 f2 wh3 u4 f4 wh4 u5 f5 wh5 b b2 b4 b5 ev ev3 ev4 ev5 g1 x y (by omega)
          exact arm_111 (hgr := hg) (htw := htw) (hp1 := p1) (hp2 := p2) (hr1 := r1) (hr2 := r2) (hk1 := k1) (hk2 := k2) (hs := hs) (q0 := q0) (q1 := q1) (hs2 := Same7_eq v2.vd.small (by omega) (by omega)) (qx := by simp) (hs4 := Same7_eq v4.vd.small (by omega) (by omega)) (qy := by simp) (hs5 := Same7_eq v5.vd.small (by omega) (by omega))
  · exact arm_great (hgr := hg)
theorem removes_walk (u fr : List Int) (b : List Bool) (ev : List Ev) (wh : List Int) (hi : ∀ x ∈ ev, EvI x) (gi gw tn td : Int) (ht : I64 tn ∧ I64 td) : FnL Tryz.prog 5 5 [agA u b fr ev wh, .pv (handV gi gw), .pv (ratioV tn td)] (agP u b fr ev wh) (.pv (.bool true)) 0 [] := Removes_any hi ht
end
end Go.Proofs.YtclpegneiomakaaGreat
