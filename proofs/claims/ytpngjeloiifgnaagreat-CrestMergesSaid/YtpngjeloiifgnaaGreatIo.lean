/-
  The reference's Merged: the same list as the program's merged. Conditions: none.
-/
import Derived.Test.YtpngjeloiifgnaaGreatIn
import Derived.Test.YtpngjeloiifgnaaGreatW41
import Derived.Test.YtpngjeloiifgnaaGreatW49
namespace Go.Proofs.YtpngjeloiifgnaaGreat
open Go.RowKit
/-- A time or none, as the reference keeps it. -/
def oN : Option Rn → Int
  | none => 0
  | some x => x.n
def oD : Option Rn → Int
  | none => 0
  | some x => x.d
/-- The lesser one of two times, the first one if they are equal. -/
def soon (o x : Option Rn) : Option Rn :=
  match x with
  | none => o
  | some x => match o with
    | none => some x
    | some v => if (x.n * v.d - v.n * x.d).sign < 0 then some x else some v
theorem Sn_ok {c : List Ld} (hi : ∀ x ∈ c, I64L x) (ho : ∀ x ∈ c, okB x.n x.d = true) (hn : c.length ≤ 100000) {w : Rn} (hw : RnOk w) {k : Nat} {x : Ld} (h : AtK c w.n w.d k x) {o : Option Rn} (hok : ∀ v, o = some v → RnOk v) :
    FnL Tryz.prog 67 1 [.ls 0 c.length, .pv (ratioV w.n w.d), .pv (ratioV (oN o) (oD o)), .pv (.bool o.isSome)] [(0, 0, rowL c)] (.pv (.tuple #[ratioV (oN (soon o (c[k + 1]?.map frm))) (oD (soon o (c[k + 1]?.map frm))), .bool (soon o (c[k + 1]?.map frm)).isSome])) 0 [] := by
  have hp := Place_ok hi hn hw.n hw.d h
  have hk := get_lt h.get
  have hs : Value.int .i64 (IntKind.i64.wrap ((k : Int) + 1)) = .int .i64 (((k + 1 : Nat) : Int)) := i64_succ (by omega)
  by_cases hl : k + 1 < c.length
  · obtain ⟨y, hy⟩ := get_some (l := c) (k := k + 1) hl
    have hm := List.mem_of_getElem? hy
    rw [hy]
    cases o with
    | none => exact sn_first hp hs (dt (by omega)) hy ⟨by omega, by omega⟩
    | some v =>
      have ov := hok v rfl
      have hc := RCompare_any (hi y hm).n (hi y hm).d ov.n ov.d
      by_cases g : (y.n * v.d - v.n * y.d).sign < 0
      · have e : soon (some v) (some (frm y)) = some (frm y) := if_pos g
        show FnL _ _ _ _ _ (.pv (.tuple #[ratioV (oN (soon (some v) (some (frm y)))) (oD (soon (some v) (some (frm y)))), .bool (soon (some v) (some (frm y))).isSome])) 0 []
        rw [e]
        exact sn_less hp hs (dt (by omega)) hy ⟨by omega, by omega⟩ hc (dt g)
      · have e : soon (some v) (some (frm y)) = some v := if_neg g
        show FnL _ _ _ _ _ (.pv (.tuple #[ratioV (oN (soon (some v) (some (frm y)))) (oD (soon (some v) (some (frm y)))), .bool (soon (some v) (some (frm y))).isSome])) 0 []
        rw [e]
        exact sn_keep hp hs (dt (by omega)) hy ⟨by omega, by omega⟩ hc (df g)
  · have hy : c[k + 1]? = none := List.getElem?_eq_none (by omega)
    rw [hy]
    cases o with
    | none => exact sn_end_f hp hs (df (by omega))
    | some v => exact sn_end_t hp hs (df (by omega))
/-- When the one that is ahead loses its place. -/
noncomputable def foR (hi lo : Pt) : Option Rn := (nextOf hi lo).map fun m => ⟨m.n, m.d⟩
theorem foR_ok {p q : Pt} (h1 : okPt p = true) (h2 : okPt q = true) : ∀ v, foR p q = some v → RnOk v := by
  intro v hv
  unfold foR at hv
  cases hm : nextOf p q with
  | none => rw [hm] at hv; cases hv
  | some m =>
    rw [hm] at hv
    cases hv
    have ok := (nextOf_some h1 h2 hm).2
    exact ⟨ok.n, ok.d, ok.ok⟩
theorem RLeads_any {p q : Pt} {n d : Int} (hn : I64 n) (hd : I64 d) (h1 : okPt p = true) (h2 : okPt q = true) : Pure Tryz.prog 65 #[ptV p, ptV q, ratioV n d] (.bool (ld n d p q)) := Leads_ok hn hd h1 h2
theorem RFail_ok {p q : Pt} {n d : Int} (hn : I64 n) (hd : I64 d) (h1 : okPt p = true) (h2 : okPt q = true) (hl : ld n d q p = false) : Pure Tryz.prog 66 #[ptV p, ptV q, ratioV n d] (.tuple #[ratioV (oN (foR p q)) (oD (foR p q)), .bool (foR p q).isSome]) := by
  have l := RLeads_any (n := n) (d := d) hn hd h2 h1
  rw [hl] at l
  unfold foR
  by_cases hb : p.b < q.b
  · obtain ⟨m, hm, ok⟩ := nextOf_yes h1 h2 hb
    rw [hm]
    exact failure_met l (dt (by omega)) (Met_ok h1 h2 (by omega) ok.ok ok.n ok.d ok.eq)
  · rw [nextOf_no hb]
    exact failure_no l (df (by omega))
section
variable {l : List Pt} {ca cb : List Ld}
abbrev meTr (ca cb zs : List Ld) : List (Nat × SV) := [(1, .ls 1 ca.length), (2, .ls 2 cb.length), (3, .pp 3 0), (7, .pp 4 0), (8, .ls 5 (zs).length)]
abbrev meHr (l : List Pt) (ca cb zs : List Ld) (n d : Int) : List (Nat × Nat × SV) := [(3, 0, .ls 0 l.length), (4, 0, .pv (.int .i64 n)), (4, 1, .pv (.int .i64 d)), (0, 0, rowP l), (1, 0, rowL ca), (2, 0, rowL cb), (5, 0, rowL (zs))]
structure CrA (l : List Pt) (c : List Ld) : Prop where
  i64 : ∀ x ∈ c, I64L x
  vc : VC c
/-- Who leads a crest at a time, and where. -/
structure RdAt (l : List Pt) (c : List Ld) (t : Rn) (p : Pt) (k : Nat) (x : Ld) : Prop where
  at_ : AtK c t.n t.d k x
  id : p.id = x.id
  mem : p ∈ l
theorem me_round (hv : Val l) (ha : CrA l ca) (hb : CrA l cb) {w : Rn} (hw : RnOk w) {pA pB : Pt} {ka kb : Nat} {xa xb : Ld} (ra : RdAt l ca w pA ka xa) (rb : RdAt l cb w pB kb xb) {zs : List Ld} (hz : zs.length ≤ 100000) {z : Option Rn}
    (hzz : soon (soon (foR (hiP w pA pB) (loP w pA pB)) (ca[ka + 1]?.map frm)) (cb[kb + 1]?.map frm) = z) :
    (z = none → RunsL Tryz.prog 3 3 (loopOf Tryz.prog 27 0) 111 6 (meTr ca cb zs) (meHr l ca cb zs w.n w.d) .ret [(6, .ls 5 (pushL zs w.n w.d (hiP w pA pB).id).length)] [(5, 0, rowL (pushL zs w.n w.d (hiP w pA pB).id))]) ∧
    (∀ v, z = some v → ∀ {e : Exit} {tm2 : List (Nat × SV)} {hp2 : List (Nat × Nat × SV)}, RunsL Tryz.prog 3 3 (loopOf Tryz.prog 27 0) 111 6 (meTr ca cb (pushL zs w.n w.d (hiP w pA pB).id)) (meHr l ca cb (pushL zs w.n w.d (hiP w pA pB).id) v.n v.d) e tm2 hp2 →
      RunsL Tryz.prog 3 3 (loopOf Tryz.prog 27 0) 111 6 (meTr ca cb zs) (meHr l ca cb zs w.n w.d) e tm2 hp2) := by
  have hka := get_lt ra.at_.get
  have hkb := get_lt rb.at_.get
  have la := ha.vc.len
  have lb := hb.vc.len
  have hpa := Place_ok ha.i64 (by omega) hw.n hw.d ra.at_
  have hpb := Place_ok hb.i64 (by omega) hw.n hw.d rb.at_
  obtain ⟨ja, hja⟩ := List.getElem?_of_mem ra.mem
  obtain ⟨jb, hjb⟩ := List.getElem?_of_mem rb.mem
  have lja := get_lt hja
  have ljb := get_lt hjb
  have hta := At_yes hv hja ra.id
  have htb := At_yes hv hjb rb.id
  have okA := hv.ok _ ra.mem
  have okQ := hv.ok _ rb.mem
  have ia : 0 ≤ (ka : Int) ∧ (ka : Int) < (ca.length : Int) := ⟨by omega, by omega⟩
  have ib : 0 ≤ (kb : Int) ∧ (kb : Int) < (cb.length : Int) := ⟨by omega, by omega⟩
  have ij : 0 ≤ (ja : Int) ∧ (ja : Int) < (l.length : Int) := ⟨by omega, by omega⟩
  have ik : 0 ≤ (jb : Int) ∧ (jb : Int) < (l.length : Int) := ⟨by omega, by omega⟩
  have okhi : okPt (hiP w pA pB) = true := by unfold hiP; split <;> assumption
  have oklo : okPt (loP w pA pB) = true := by unfold loP; split <;> assumption
  have s1 := Sn_ok ha.i64 (fun x hx => ha.vc.tm hx) (by omega) hw ra.at_ (foR_ok okhi oklo)
  have s2 := Sn_ok hb.i64 (fun x hx => hb.vc.tm hx) (by omega) hw rb.at_ (o := soon (foR (hiP w pA pB) (loP w pA pB)) (ca[ka + 1]?.map frm)) (fun v h => by
    cases hf : foR (hiP w pA pB) (loP w pA pB) with
    | none =>
      rw [hf] at h
      cases hc : ca[ka + 1]? with
      | none => rw [hc] at h; cases h
      | some y =>
        rw [hc] at h; cases h
        have hm := List.mem_of_getElem? hc
        exact ⟨(ha.i64 y hm).n, (ha.i64 y hm).d, ha.vc.tm hm⟩
    | some u =>
      rw [hf] at h
      cases hc : ca[ka + 1]? with
      | none => rw [hc] at h; cases h; exact foR_ok okhi oklo _ hf
      | some y =>
        rw [hc] at h
        have hm := List.mem_of_getElem? hc
        have h' : (if ((frm y).n * u.d - u.n * (frm y).d).sign < 0 then some (frm y) else some u) = some v := h
        split at h'
        · cases h'; exact ⟨(ha.i64 y hm).n, (ha.i64 y hm).d, ha.vc.tm hm⟩
        · cases h'; exact foR_ok okhi oklo _ hf)
  rw [hzz] at s2
  have lead := RLeads_any (n := w.n) (d := w.d) hw.n hw.d okQ okA
  have zpos : ∀ z : Ld, zs ++ [z] ≠ [] := fun z => by simp
  by_cases hid : pA.id = pB.id
  · have heq := val_id hv ra.mem rb.mem hid
    subst heq
    have e1 : hiP w pA pA = pA := by unfold hiP; split <;> rfl
    have e2 : loP w pA pA = pA := by unfold loP; split <;> rfl
    rw [e1, e2] at s1 s2
    rw [e1]
    have f0 : foR pA pA = none := by unfold foR; rw [nextOf_no (by omega)]; rfl
    rw [f0] at s1 s2
    by_cases hze : zs = []
    · subst hze
      rw [pushL_new (by simp)]
      refine ⟨fun h0 => ?_, fun v h0 e tm2 hp2 r => ?_⟩
      · subst h0
        exact me_qe_ret (hpa := hpa) (hia := ia) (hxa := ra.at_.get) (hta := hta) (hja := ij) (hqa := hja) (hpb := hpb) (hib := ib) (hxb := rb.at_.get) (htb := htb) (hjb := ik) (hqb := hjb) (ne := by simp) (zs := []) (e0 := by simp) (hl1 := by simp) (hs1 := s1) (hs2 := s2)
      · subst h0
        exact me_qe_go (hpa := hpa) (hia := ia) (hxa := ra.at_.get) (hta := hta) (hja := ij) (hqa := hja) (hpb := hpb) (hib := ib) (hxb := rb.at_.get) (htb := htb) (hjb := ik) (hqb := hjb) (ne := by simp) (zs := []) (e0 := by simp) (hl1 := by simp) (hs1 := s1) (hs2 := s2) (r := r)
    · have zp : 0 < zs.length := List.length_pos_iff.2 hze
      obtain ⟨lx, hlx⟩ := get_some (l := zs) (k := zs.length - 1) (by omega)
      have hlast : zs.getLast? = some lx := by rw [List.getLast?_eq_getElem?, hlx]
      have il : 0 ≤ ((zs.length - 1 : Nat) : Int) ∧ ((zs.length - 1 : Nat) : Int) < (zs.length : Int) := ⟨by omega, by omega⟩
      have em' : Value.int .i64 (IntKind.i64.wrap ((zs.length : Int) - 1)) = .int .i64 (((zs.length - 1 : Nat) : Int)) := by rw [wrap_i64_in (by omega) (by omega)]; congr 1; omega
      by_cases hlid : lx.id = pA.id
      · rw [pushL_same (by rw [hlast]; simp [hlid])]
        refine ⟨fun h0 => ?_, fun v h0 e tm2 hp2 r => ?_⟩
        · subst h0
          exact me_qs_ret (hpa := hpa) (hia := ia) (hxa := ra.at_.get) (hta := hta) (hja := ij) (hqa := hja) (hpb := hpb) (hib := ib) (hxb := rb.at_.get) (htb := htb) (hjb := ik) (hqb := hjb) (ne := by simp) (e0 := by rw [beq_eq_false_iff_ne]; omega) (em := em') (hlx := hlx) (hjj := il) (e1 := by simp [hlid]) (hs1 := s1) (hs2 := s2)
        · subst h0
          exact me_qs_go (hpa := hpa) (hia := ia) (hxa := ra.at_.get) (hta := hta) (hja := ij) (hqa := hja) (hpb := hpb) (hib := ib) (hxb := rb.at_.get) (htb := htb) (hjb := ik) (hqb := hjb) (ne := by simp) (e0 := by rw [beq_eq_false_iff_ne]; omega) (em := em') (hlx := hlx) (hjj := il) (e1 := by simp [hlid]) (hs1 := s1) (hs2 := s2) (r := r)
      · rw [pushL_new (by rw [hlast]; simpa using hlid)]
        refine ⟨fun h0 => ?_, fun v h0 e tm2 hp2 r => ?_⟩
        · subst h0
          exact me_qd_ret (hpa := hpa) (hia := ia) (hxa := ra.at_.get) (hta := hta) (hja := ij) (hqa := hja) (hpb := hpb) (hib := ib) (hxb := rb.at_.get) (htb := htb) (hjb := ik) (hqb := hjb) (ne := by simp) (e0 := by rw [beq_eq_false_iff_ne]; omega) (em := em') (hlx := hlx) (hjj := il) (e1 := by simp only [Bool.not_eq_true', beq_eq_false_iff_ne]; exact hlid) (hl1 := by omega) (hs1 := s1) (hs2 := s2)
        · subst h0
          exact me_qd_go (hpa := hpa) (hia := ia) (hxa := ra.at_.get) (hta := hta) (hja := ij) (hqa := hja) (hpb := hpb) (hib := ib) (hxb := rb.at_.get) (htb := htb) (hjb := ik) (hqb := hjb) (ne := by simp) (e0 := by rw [beq_eq_false_iff_ne]; omega) (em := em') (hlx := hlx) (hjj := il) (e1 := by simp only [Bool.not_eq_true', beq_eq_false_iff_ne]; exact hlid) (hl1 := by omega) (hs1 := s1) (hs2 := s2) (r := r)
  · by_cases hs : ld w.n w.d pB pA = true
    · have e1 : hiP w pA pB = pB := if_pos hs
      have e2 : loP w pA pB = pA := if_pos hs
      rw [e1, e2] at s1 s2
      rw [e1]
      have lead := lead
      rw [hs] at lead
      have fl := RFail_ok (n := w.n) (d := w.d) hw.n hw.d okQ okA (ld_asym hs)
      by_cases hze : zs = []
      · subst hze
        rw [pushL_new (by simp)]
        refine ⟨fun h0 => ?_, fun v h0 e tm2 hp2 r => ?_⟩
        · subst h0
          exact me_ye_ret (hpa := hpa) (hia := ia) (hxa := ra.at_.get) (hta := hta) (hja := ij) (hqa := hja) (hpb := hpb) (hib := ib) (hxb := rb.at_.get) (htb := htb) (hjb := ik) (hqb := hjb) (ne := by simp [hid]) (hld := lead) (ne2 := by simp only [Bool.not_eq_true', beq_eq_false_iff_ne]; exact fun e => hid e.symm) (hfl := fl) (zs := []) (e0 := by simp) (hl1 := by simp) (hs1 := s1) (hs2 := s2)
        · subst h0
          exact me_ye_go (hpa := hpa) (hia := ia) (hxa := ra.at_.get) (hta := hta) (hja := ij) (hqa := hja) (hpb := hpb) (hib := ib) (hxb := rb.at_.get) (htb := htb) (hjb := ik) (hqb := hjb) (ne := by simp [hid]) (hld := lead) (ne2 := by simp only [Bool.not_eq_true', beq_eq_false_iff_ne]; exact fun e => hid e.symm) (hfl := fl) (zs := []) (e0 := by simp) (hl1 := by simp) (hs1 := s1) (hs2 := s2) (r := r)
      · have zp : 0 < zs.length := List.length_pos_iff.2 hze
        obtain ⟨lx, hlx⟩ := get_some (l := zs) (k := zs.length - 1) (by omega)
        have hlast : zs.getLast? = some lx := by rw [List.getLast?_eq_getElem?, hlx]
        have il : 0 ≤ ((zs.length - 1 : Nat) : Int) ∧ ((zs.length - 1 : Nat) : Int) < (zs.length : Int) := ⟨by omega, by omega⟩
        have em' : Value.int .i64 (IntKind.i64.wrap ((zs.length : Int) - 1)) = .int .i64 (((zs.length - 1 : Nat) : Int)) := by rw [wrap_i64_in (by omega) (by omega)]; congr 1; omega
        by_cases hlid : lx.id = pB.id
        · rw [pushL_same (by rw [hlast]; simp [hlid])]
          refine ⟨fun h0 => ?_, fun v h0 e tm2 hp2 r => ?_⟩
          · subst h0
            exact me_ys_ret (hpa := hpa) (hia := ia) (hxa := ra.at_.get) (hta := hta) (hja := ij) (hqa := hja) (hpb := hpb) (hib := ib) (hxb := rb.at_.get) (htb := htb) (hjb := ik) (hqb := hjb) (ne := by simp [hid]) (hld := lead) (ne2 := by simp only [Bool.not_eq_true', beq_eq_false_iff_ne]; exact fun e => hid e.symm) (hfl := fl) (e0 := by rw [beq_eq_false_iff_ne]; omega) (em := em') (hlx := hlx) (hjj := il) (e1 := by simp [hlid]) (hs1 := s1) (hs2 := s2)
          · subst h0
            exact me_ys_go (hpa := hpa) (hia := ia) (hxa := ra.at_.get) (hta := hta) (hja := ij) (hqa := hja) (hpb := hpb) (hib := ib) (hxb := rb.at_.get) (htb := htb) (hjb := ik) (hqb := hjb) (ne := by simp [hid]) (hld := lead) (ne2 := by simp only [Bool.not_eq_true', beq_eq_false_iff_ne]; exact fun e => hid e.symm) (hfl := fl) (e0 := by rw [beq_eq_false_iff_ne]; omega) (em := em') (hlx := hlx) (hjj := il) (e1 := by simp [hlid]) (hs1 := s1) (hs2 := s2) (r := r)
        · rw [pushL_new (by rw [hlast]; simpa using hlid)]
          refine ⟨fun h0 => ?_, fun v h0 e tm2 hp2 r => ?_⟩
          · subst h0
            exact me_yd_ret (hpa := hpa) (hia := ia) (hxa := ra.at_.get) (hta := hta) (hja := ij) (hqa := hja) (hpb := hpb) (hib := ib) (hxb := rb.at_.get) (htb := htb) (hjb := ik) (hqb := hjb) (ne := by simp [hid]) (hld := lead) (ne2 := by simp only [Bool.not_eq_true', beq_eq_false_iff_ne]; exact fun e => hid e.symm) (hfl := fl) (e0 := by rw [beq_eq_false_iff_ne]; omega) (em := em') (hlx := hlx) (hjj := il) (e1 := by simp only [Bool.not_eq_true', beq_eq_false_iff_ne]; exact hlid) (hl1 := by omega) (hs1 := s1) (hs2 := s2)
          · subst h0
            exact me_yd_go (hpa := hpa) (hia := ia) (hxa := ra.at_.get) (hta := hta) (hja := ij) (hqa := hja) (hpb := hpb) (hib := ib) (hxb := rb.at_.get) (htb := htb) (hjb := ik) (hqb := hjb) (ne := by simp [hid]) (hld := lead) (ne2 := by simp only [Bool.not_eq_true', beq_eq_false_iff_ne]; exact fun e => hid e.symm) (hfl := fl) (e0 := by rw [beq_eq_false_iff_ne]; omega) (em := em') (hlx := hlx) (hjj := il) (e1 := by simp only [Bool.not_eq_true', beq_eq_false_iff_ne]; exact hlid) (hl1 := by omega) (hs1 := s1) (hs2 := s2) (r := r)
    · have hs' : ld w.n w.d pB pA = false := by simpa using hs
      have e1 : hiP w pA pB = pA := if_neg hs
      have e2 : loP w pA pB = pB := if_neg hs
      rw [e1, e2] at s1 s2
      rw [e1]
      have lead := lead
      rw [hs'] at lead
      have fl := RFail_ok (n := w.n) (d := w.d) hw.n hw.d okA okQ hs'
      by_cases hze : zs = []
      · subst hze
        rw [pushL_new (by simp)]
        refine ⟨fun h0 => ?_, fun v h0 e tm2 hp2 r => ?_⟩
        · subst h0
          exact me_ne_ret (hpa := hpa) (hia := ia) (hxa := ra.at_.get) (hta := hta) (hja := ij) (hqa := hja) (hpb := hpb) (hib := ib) (hxb := rb.at_.get) (htb := htb) (hjb := ik) (hqb := hjb) (ne := by simp [hid]) (hld := lead) (hfl := fl) (zs := []) (e0 := by simp) (hl1 := by simp) (hs1 := s1) (hs2 := s2)
        · subst h0
          exact me_ne_go (hpa := hpa) (hia := ia) (hxa := ra.at_.get) (hta := hta) (hja := ij) (hqa := hja) (hpb := hpb) (hib := ib) (hxb := rb.at_.get) (htb := htb) (hjb := ik) (hqb := hjb) (ne := by simp [hid]) (hld := lead) (hfl := fl) (zs := []) (e0 := by simp) (hl1 := by simp) (hs1 := s1) (hs2 := s2) (r := r)
      · have zp : 0 < zs.length := List.length_pos_iff.2 hze
        obtain ⟨lx, hlx⟩ := get_some (l := zs) (k := zs.length - 1) (by omega)
        have hlast : zs.getLast? = some lx := by rw [List.getLast?_eq_getElem?, hlx]
        have il : 0 ≤ ((zs.length - 1 : Nat) : Int) ∧ ((zs.length - 1 : Nat) : Int) < (zs.length : Int) := ⟨by omega, by omega⟩
        have em' : Value.int .i64 (IntKind.i64.wrap ((zs.length : Int) - 1)) = .int .i64 (((zs.length - 1 : Nat) : Int)) := by rw [wrap_i64_in (by omega) (by omega)]; congr 1; omega
        by_cases hlid : lx.id = pA.id
        · rw [pushL_same (by rw [hlast]; simp [hlid])]
          refine ⟨fun h0 => ?_, fun v h0 e tm2 hp2 r => ?_⟩
          · subst h0
            exact me_ns_ret (hpa := hpa) (hia := ia) (hxa := ra.at_.get) (hta := hta) (hja := ij) (hqa := hja) (hpb := hpb) (hib := ib) (hxb := rb.at_.get) (htb := htb) (hjb := ik) (hqb := hjb) (ne := by simp [hid]) (hld := lead) (hfl := fl) (e0 := by rw [beq_eq_false_iff_ne]; omega) (em := em') (hlx := hlx) (hjj := il) (e1 := by simp [hlid]) (hs1 := s1) (hs2 := s2)
          · subst h0
            exact me_ns_go (hpa := hpa) (hia := ia) (hxa := ra.at_.get) (hta := hta) (hja := ij) (hqa := hja) (hpb := hpb) (hib := ib) (hxb := rb.at_.get) (htb := htb) (hjb := ik) (hqb := hjb) (ne := by simp [hid]) (hld := lead) (hfl := fl) (e0 := by rw [beq_eq_false_iff_ne]; omega) (em := em') (hlx := hlx) (hjj := il) (e1 := by simp [hlid]) (hs1 := s1) (hs2 := s2) (r := r)
        · rw [pushL_new (by rw [hlast]; simpa using hlid)]
          refine ⟨fun h0 => ?_, fun v h0 e tm2 hp2 r => ?_⟩
          · subst h0
            exact me_nd_ret (hpa := hpa) (hia := ia) (hxa := ra.at_.get) (hta := hta) (hja := ij) (hqa := hja) (hpb := hpb) (hib := ib) (hxb := rb.at_.get) (htb := htb) (hjb := ik) (hqb := hjb) (ne := by simp [hid]) (hld := lead) (hfl := fl) (e0 := by rw [beq_eq_false_iff_ne]; omega) (em := em') (hlx := hlx) (hjj := il) (e1 := by simp only [Bool.not_eq_true', beq_eq_false_iff_ne]; exact hlid) (hl1 := by omega) (hs1 := s1) (hs2 := s2)
          · subst h0
            exact me_nd_go (hpa := hpa) (hia := ia) (hxa := ra.at_.get) (hta := hta) (hja := ij) (hqa := hja) (hpb := hpb) (hib := ib) (hxb := rb.at_.get) (htb := htb) (hjb := ik) (hqb := hjb) (ne := by simp [hid]) (hld := lead) (hfl := fl) (e0 := by rw [beq_eq_false_iff_ne]; omega) (em := em') (hlx := hlx) (hjj := il) (e1 := by simp only [Bool.not_eq_true', beq_eq_false_iff_ne]; exact hlid) (hl1 := by omega) (hs1 := s1) (hs2 := s2) (r := r)
/-- A crest's next change behind a time. -/
theorem crn_none {c : List Ld} {w : Rn} {k : Nat} {x : Ld} (h : AtK c w.n w.d k x) (hn : c[k + 1]? = none) : ∀ y ∈ c, y.n * w.d ≤ w.n * y.d := by
  intro y hy
  obtain ⟨j, hj⟩ := List.getElem?_of_mem hy
  have hjl := get_lt hj
  have hl := List.getElem?_eq_none_iff.1 hn
  have h1 : ¬ cv y w.n w.d > 0 := by
    rcases Nat.lt_trichotomy j k with g | g | g
    · have := h.lo j y g hj; omega
    · subst g
      rw [h.get] at hj; cases hj
      have := h.le; omega
    · omega
  rw [cv_pos] at h1
  omega
theorem crn_some {c : List Ld} (hv : VC c) {w : Rn} {k : Nat} {x z : Ld} (h : AtK c w.n w.d k x) (hn : c[k + 1]? = some z) : w.n * z.d < z.n * w.d ∧ ∀ y ∈ c, w.n * y.d < y.n * w.d → z.n * y.d ≤ y.n * z.d := by
  refine ⟨cv_pos.1 (h.hi (k + 1) z (by omega) hn), fun y hy hlt => ?_⟩
  obtain ⟨j, hj⟩ := List.getElem?_of_mem hy
  rcases Nat.lt_trichotomy j k with g | g | g
  · have := cv_neg.1 (h.lo j y g hj); omega
  · subst g
    rw [h.get] at hj; cases hj
    have : ¬ cv x w.n w.d > 0 := by have := h.le; omega
    rw [cv_pos] at this; omega
  · rcases Nat.lt_or_ge (k + 1) j with g2 | g2
    · have := hv.mono hn (j - (k + 1) - 1) (by rw [show k + 1 + (j - (k + 1) - 1) + 1 = j by omega]; exact hj)
      omega
    · have e : j = k + 1 := by omega
      subst e
      rw [hn] at hj; cases hj
      omega
/-- Between a change and the next one: who leads stays. -/
theorem at_later {c : List Ld} (hv : VC c) {t w : Rn} (t0 : 0 < t.d) (w0 : 0 < w.d) (hle : t.n * w.d ≤ w.n * t.d) (hno : ∀ y ∈ c, y.n * t.d ≤ t.n * y.d ∨ w.n * y.d < y.n * w.d) {k : Nat} {x : Ld} (h : AtK c t.n t.d k x) : AtK c w.n w.d k x := by
  have key : ∀ y ∈ c, y.n * t.d ≤ t.n * y.d → y.n * w.d ≤ w.n * y.d := fun y hy g => by
    have y0 := hv.den hy
    have := frac_ge (an := w.n) (ad := w.d) (bn := t.n) (bd := t.d) (cn := y.n) (cd := y.d) (by omega) (by omega) (by omega) (by omega) (by omega)
    omega
  refine ⟨h.get, ?_, fun j y hj hy => ?_, fun j y hj hy => ?_⟩
  · have h1 : ¬ cv x t.n t.d > 0 := by have := h.le; omega
    rw [cv_pos] at h1
    have := key x (List.mem_of_getElem? h.get) (by omega)
    have : ¬ cv x w.n w.d > 0 := by rw [cv_pos]; omega
    omega
  · have h1 := cv_neg.1 (h.lo j y hj hy)
    have hm := List.mem_of_getElem? hy
    have y0 := hv.den hm
    rw [cv_neg]
    have hx : x.n * t.d ≤ t.n * x.d := by
      have h1 : ¬ cv x t.n t.d > 0 := by have := h.le; omega
      rw [cv_pos] at h1; omega
    have hxm := List.mem_of_getElem? h.get
    have x0 := hv.den hxm
    have hyx := hv.mono hy (k - j - 1) (by rw [show j + (k - j - 1) + 1 = k by omega]; exact h.get)
    have hxw := key x hxm hx
    exact frac_lt_le (by omega) (by omega) (by omega) hyx hxw
  · have h1 := cv_pos.1 (h.hi j y hj hy)
    rw [cv_pos]
    rcases hno y (List.mem_of_getElem? hy) with g | g
    · omega
    · exact g
theorem nxt_one {c : List Ld} (hv : VC c) (hi : ∀ x ∈ c, I64L x) {t w : Rn} {hd : Option Rn} (t0 : 0 < t.d) (w0 : 0 < w.d) (tw : t.n * w.d ≤ w.n * t.d)
    (h1 : ∀ y ∈ c, y.n * t.d ≤ t.n * y.d ∨ ∃ u, hd = some u ∧ u.n * y.d ≤ y.n * u.d) (h2 : ∀ u, hd = some u → RnOk u ∧ w.n * u.d < u.n * w.d) {k : Nat} {x : Ld} (h : AtK c w.n w.d k x) :
    (hd = none → c[k + 1]?.map frm = none) ∧ ∀ u, hd = some u → (∀ x, c[k + 1]?.map frm = some x → RnOk x ∧ u.n * x.d ≤ x.n * u.d) ∧ ((∃ y ∈ c, frm y = u) → c[k + 1]?.map frm = some u) := by
  cases hn : c[k + 1]? with
  | none =>
    refine ⟨fun _ => rfl, fun u hu => ⟨fun x hx => (by cases hx), fun ⟨y, hy, e⟩ => ?_⟩⟩
    have g1 := crn_none h hn y hy
    have g2 := (h2 u hu).2
    subst e
    have g3 : w.n * y.d < y.n * w.d := g2
    omega
  | some z =>
    have hm := List.mem_of_getElem? hn
    obtain ⟨g1, g2⟩ := crn_some hv h hn
    have z0 := hv.den hm
    have nt : ¬ z.n * t.d ≤ t.n * z.d := fun g => by
      have := frac_ge (an := w.n) (ad := w.d) (bn := t.n) (bd := t.d) (cn := z.n) (cd := z.d) (by omega) (by omega) (by omega) (by omega) (by omega)
      omega
    have oz : RnOk (frm z) := ⟨(hi z hm).n, (hi z hm).d, hv.tm hm⟩
    refine ⟨fun e => ?_, fun u hu => ⟨fun x hx => ?_, fun ⟨y, hy, e⟩ => ?_⟩⟩
    · rcases h1 z hm with g | ⟨u, hu, _⟩
      · exact (nt g).elim
      · rw [e] at hu; cases hu
    · cases hx
      refine ⟨oz, ?_⟩
      rcases h1 z hm with g | ⟨u', hu', g⟩
      · exact (nt g).elim
      · rw [hu] at hu'; cases hu'; exact g
    · have ou := h2 u hu
      have g3 : u.n * z.d ≤ z.n * u.d := by
        rcases h1 z hm with g | ⟨u', hu', g⟩
        · exact (nt g).elim
        · rw [hu] at hu'; cases hu'; exact g
      have g4 : z.n * u.d ≤ u.n * z.d := by
        have := g2 y hy (by have := ou.2; subst e; exact this)
        subst e; exact this
      obtain ⟨e1, e2⟩ := okB_one oz.ok ou.1.ok (by show z.n * u.d = u.n * z.d; omega)
      show some (frm z) = some u
      congr 1
      cases u
      simp only at e1 e2
      rw [← e1, ← e2]
theorem soon_one {u : Rn} (hu : RnOk u) {o x : Option Rn} (ho : ∀ v, o = some v → RnOk v ∧ u.n * v.d ≤ v.n * u.d) (hx : ∀ v, x = some v → RnOk v ∧ u.n * v.d ≤ v.n * u.d) (h : o = some u ∨ x = some u) : soon o x = some u := by
  cases x with
  | none => rcases h with h | h
            · exact h
            · cases h
  | some x => cases o with
    | none => rcases h with h | h
              · cases h
              · exact h
    | some v =>
      show (if (x.n * v.d - v.n * x.d).sign < 0 then some x else some v) = some u
      obtain ⟨ov, gv⟩ := ho v rfl
      obtain ⟨ox, gx⟩ := hx x rfl
      have sg := sg_cases (x.n * v.d - v.n * x.d)
      rcases h with h | h
      · cases h
        rw [if_neg (by omega)]
      · cases h
        by_cases g : (u.n * v.d - v.n * u.d).sign < 0
        · rw [if_pos g]
        · rw [if_neg g]
          obtain ⟨e1, e2⟩ := okB_one ov.ok ox.ok (by omega)
          cases v; cases u
          simp only at e1 e2
          rw [e1, e2]
theorem soon_ge {u : Rn} {o x : Option Rn} (ho : ∀ v, o = some v → RnOk v ∧ u.n * v.d ≤ v.n * u.d) (hx : ∀ v, x = some v → RnOk v ∧ u.n * v.d ≤ v.n * u.d) : ∀ v, soon o x = some v → RnOk v ∧ u.n * v.d ≤ v.n * u.d := by
  intro w h
  cases x with
  | none => exact ho w h
  | some x => cases o with
    | none => exact hx w h
    | some v =>
      have h' : (if (x.n * v.d - v.n * x.d).sign < 0 then some x else some v) = some w := h
      split at h'
      · exact hx w h'
      · exact ho w h'
theorem soon_two {u : Rn} (hu : RnOk u) {o x y : Option Rn} (ho : ∀ v, o = some v → RnOk v ∧ u.n * v.d ≤ v.n * u.d) (hx : ∀ v, x = some v → RnOk v ∧ u.n * v.d ≤ v.n * u.d) (hy : ∀ v, y = some v → RnOk v ∧ u.n * v.d ≤ v.n * u.d) (h : o = some u ∨ x = some u ∨ y = some u) : soon (soon o x) y = some u := by
  refine soon_one hu (soon_ge ho hx) hy ?_
  rcases h with h | h | h
  · exact Or.inl (soon_one hu ho hx (Or.inl h))
  · exact Or.inl (soon_one hu ho hx (Or.inr h))
  · exact Or.inr h
theorem turn_hi {t : Rn} {p q : Pt} {m : Mt} (h1 : okPt p = true) (h2 : okPt q = true) (hm : nextOf (hiP t p q) (loP t p q) = some m) : t.n * m.d < m.n * t.d ∧ hiP ⟨m.n, m.d⟩ p q = loP t p q ∧ loP ⟨m.n, m.d⟩ p q = hiP t p q := by
  by_cases hs : ld t.n t.d q p = true
  · have e1 : hiP t p q = q := if_pos hs
    have e2 : loP t p q = p := if_pos hs
    rw [e1, e2] at hm ⊢
    obtain ⟨hb, ok⟩ := nextOf_some h2 h1 hm
    have a1 := ld_faster (T := t.n) (D := t.d) ok hb
    rw [ld_asym hs] at a1
    have a2 := ld_faster (T := m.n) (D := m.d) ok hb
    have sg := sg_cases (t.n * m.d - m.n * t.d)
    have g : ¬ (t.n * m.d - m.n * t.d).sign ≥ 0 := by simpa using a1.symm
    have a3 : ld m.n m.d p q = true := by rw [a2, Int.sub_self]; rfl
    have a4 := ld_asym a3
    refine ⟨by omega, ?_, ?_⟩
    · unfold hiP; rw [a4]; rfl
    · unfold loP; rw [a4]; rfl
  · have e1 : hiP t p q = p := if_neg hs
    have e2 : loP t p q = q := if_neg hs
    rw [e1, e2] at hm ⊢
    have hs' : ld t.n t.d q p = false := by simpa using hs
    obtain ⟨hb, ok⟩ := nextOf_some h1 h2 hm
    have a1 := ld_faster (T := t.n) (D := t.d) ok hb
    rw [hs'] at a1
    have a2 := ld_faster (T := m.n) (D := m.d) ok hb
    have sg := sg_cases (t.n * m.d - m.n * t.d)
    have g : ¬ (t.n * m.d - m.n * t.d).sign ≥ 0 := by simpa using a1.symm
    have a3 : ld m.n m.d q p = true := by rw [a2, Int.sub_self]; rfl
    refine ⟨by omega, ?_, ?_⟩
    · unfold hiP; rw [a3]; rfl
    · unfold loP; rw [a3]; rfl
structure Chs (l : List Pt) (ca cb : List Ld) (uu : List Rn) (A B : Rn → Pt) : Prop where
  ha : CrA l ca
  hb : CrA l cb
  pw : uu.Pairwise ltR
  ok : ∀ m ∈ uu, RnOk m
  inn : ∀ y ∈ ca ++ cb, frm y ∈ uu
  out : ∀ m ∈ uu, ∃ y ∈ ca ++ cb, frm y = m
  rA : ∀ t ∈ uu, ∃ k x, RdAt l ca t (A t) k x
  rB : ∀ t ∈ uu, ∃ k x, RdAt l cb t (B t) k x
  len : uu.length ≤ 1000
section
variable {uu : List Rn} {A B : Rn → Pt}
theorem Chs.get (c : Chs l ca cb uu A B) {k : Nat} {t : Rn} {r : List Rn} (hd : uu.drop k = t :: r) : t ∈ uu ∧ k < uu.length ∧ uu[k]? = some t ∧ uu[k + 1]? = r.head? := by
  have hk : uu[k]? = some t := by have := congrArg (·[0]?) hd; simpa using this
  have hd' : uu.drop (k + 1) = r := by rw [← List.drop_drop, hd]; rfl
  refine ⟨List.mem_of_getElem? hk, get_lt hk, hk, ?_⟩
  have := congrArg (·[0]?) hd'
  rw [List.getElem?_drop] at this
  simpa [List.head?_eq_getElem?] using this
theorem Chs.sp (c : Chs l ca cb uu A B) {k : Nat} {t : Rn} {r : List Rn} (hd : uu.drop k = t :: r) : ∀ y ∈ ca ++ cb, y.n * t.d ≤ t.n * y.d ∨ ∃ u, r.head? = some u ∧ u.n * y.d ≤ y.n * u.d := by
  obtain ⟨_, _, hk, hx⟩ := c.get hd
  intro y hy
  have := pw_split c.pw hk (c.inn y hy)
  rw [hx] at this
  exact this
theorem Chs.up (c : Chs l ca cb uu A B) {k : Nat} {t : Rn} {r : List Rn} (hd : uu.drop k = t :: r) : ∀ u, r.head? = some u → RnOk u ∧ t.n * u.d < u.n * t.d := by
  obtain ⟨_, _, hk, hx⟩ := c.get hd
  intro u hu
  rw [hu] at hx
  have hm := List.mem_of_getElem? hx
  have h1 := get_lt hk
  have h2 := get_lt hx
  have := List.pairwise_iff_getElem.1 c.pw k (k + 1) h1 h2 (by omega)
  rw [List.getElem?_eq_getElem h1] at hk
  rw [List.getElem?_eq_getElem h2] at hx
  cases hk; cases hx
  exact ⟨c.ok _ hm, this⟩
theorem me_last (hv : Val l) (c : Chs l ca cb uu A B) {t : Rn} {k : Nat} {zs : List Ld} (hd : uu.drop k = [t]) (hz : zs.length ≤ 2 * k) :
    RunsL Tryz.prog 3 3 (loopOf Tryz.prog 27 0) 111 6 (meTr ca cb zs) (meHr l ca cb zs t.n t.d) .ret [(6, .ls 5 (mrun A B zs [t]).length)] [(5, 0, rowL (mrun A B zs [t]))] := by
  obtain ⟨hm, hkl, hk, hx⟩ := c.get hd
  have sp := c.sp hd
  have ln := c.len
  have ot := c.ok t hm
  have t0 := okB_den ot.ok
  obtain ⟨ka, xa, ra⟩ := c.rA t hm
  obtain ⟨kb, xb, rb⟩ := c.rB t hm
  have okA := hv.ok _ ra.mem
  have okQ := hv.ok _ rb.mem
  have na := (nxt_one (hd := none) c.ha.vc c.ha.i64 (t := t) (by omega) (by omega) (Int.le_refl _) (fun y hy => sp y (List.mem_append_left _ hy)) (fun u hu => by cases hu) ra.at_).1 rfl
  have nb := (nxt_one (hd := none) c.hb.vc c.hb.i64 (t := t) (by omega) (by omega) (Int.le_refl _) (fun y hy => sp y (List.mem_append_right _ hy)) (fun u hu => by cases hu) rb.at_).1 rfl
  rw [mrun]
  show RunsL _ _ _ _ _ _ _ _ _ [(6, .ls 5 (mstep (hiP t (A t) (B t)) (loP t (A t) (B t)) zs t none).length)] [(5, 0, rowL (mstep (hiP t (A t) (B t)) (loP t (A t) (B t)) zs t none))]
  rcases hf : nextOf (hiP t (A t) (B t)) (loP t (A t) (B t)) with _ | m
  · rw [mstep_none hf]
    exact (me_round hv c.ha c.hb ot ra rb (z := none) (by omega) (by rw [na, nb]; unfold foR; rw [hf]; rfl)).1 rfl
  · rw [mstep_last hf]
    obtain ⟨tm, e1, e2⟩ := turn_hi okA okQ hf
    have hpl := pushL_len zs t.n t.d (hiP t (A t) (B t)).id
    have okm := foR_ok (p := hiP t (A t) (B t)) (q := loP t (A t) (B t)) (by unfold hiP; split <;> assumption) (by unfold loP; split <;> assumption) ⟨m.n, m.d⟩ (by unfold foR; rw [hf]; rfl)
    have m0 : 1 ≤ m.d := okB_den okm.ok
    have stA := at_later (w := ⟨m.n, m.d⟩) c.ha.vc (t := t) (by omega) (by show 0 < m.d; omega) (Int.le_of_lt tm) (fun y hy => (sp y (List.mem_append_left _ hy)).elim Or.inl (fun ⟨u, hu, _⟩ => by cases hu)) ra.at_
    have stB := at_later (w := ⟨m.n, m.d⟩) c.hb.vc (t := t) (by omega) (by show 0 < m.d; omega) (Int.le_of_lt tm) (fun y hy => (sp y (List.mem_append_right _ hy)).elim Or.inl (fun ⟨u, hu, _⟩ => by cases hu)) rb.at_
    refine (me_round hv c.ha c.hb ot ra rb (z := some ⟨m.n, m.d⟩) (by omega) (by rw [na, nb]; unfold foR; rw [hf]; rfl)).2 ⟨m.n, m.d⟩ rfl ?_
    have hb := (nextOf_some (by unfold hiP; split <;> assumption) (by unfold loP; split <;> assumption) hf).1
    have last := (me_round hv c.ha c.hb okm (pA := A t) (pB := B t) ⟨stA, ra.id, ra.mem⟩ ⟨stB, rb.id, rb.mem⟩ (zs := pushL zs t.n t.d (hiP t (A t) (B t)).id) (z := none) (by omega) (by rw [na, nb, e1, e2]; unfold foR; rw [nextOf_no (by omega)]; rfl)).1 rfl
    rw [e1] at last
    exact last
theorem me_more (hv : Val l) (c : Chs l ca cb uu A B) {t u : Rn} {r : List Rn} {k : Nat} {zs : List Ld} (hd : uu.drop k = t :: u :: r) (hz : zs.length ≤ 2 * k)
    (ih : ∀ s : List Ld, s.length ≤ 2 * (k + 1) → RunsL Tryz.prog 3 3 (loopOf Tryz.prog 27 0) 111 6 (meTr ca cb s) (meHr l ca cb s u.n u.d) .ret [(6, .ls 5 (mrun A B s (u :: r)).length)] [(5, 0, rowL (mrun A B s (u :: r)))]) :
    RunsL Tryz.prog 3 3 (loopOf Tryz.prog 27 0) 111 6 (meTr ca cb zs) (meHr l ca cb zs t.n t.d) .ret [(6, .ls 5 (mrun A B zs (t :: u :: r)).length)] [(5, 0, rowL (mrun A B zs (t :: u :: r)))] := by
  obtain ⟨hm, hkl, hk, hx⟩ := c.get hd
  have sp := c.sp hd
  have up := c.up hd
  have ln := c.len
  have ot := c.ok t hm
  have t0 := okB_den ot.ok
  obtain ⟨ou, tu⟩ := up u rfl
  have u0 := okB_den ou.ok
  obtain ⟨yu, hyu, eyu⟩ := c.out u (List.mem_of_getElem? (hx.trans rfl))
  obtain ⟨ka, xa, ra⟩ := c.rA t hm
  obtain ⟨kb, xb, rb⟩ := c.rB t hm
  have okA := hv.ok _ ra.mem
  have okQ := hv.ok _ rb.mem
  have next : ∀ w : Rn, RnOk w → t.n * w.d ≤ w.n * t.d → w.n * u.d < u.n * w.d → AtK ca w.n w.d ka xa → AtK cb w.n w.d kb xb →
      (∀ v, ca[ka + 1]?.map frm = some v → RnOk v ∧ u.n * v.d ≤ v.n * u.d) ∧ (∀ v, cb[kb + 1]?.map frm = some v → RnOk v ∧ u.n * v.d ≤ v.n * u.d) ∧ (ca[ka + 1]?.map frm = some u ∨ cb[kb + 1]?.map frm = some u) := by
    intro w ow tw wu aa ab
    have w0 := okB_den ow.ok
    have n1 := (nxt_one (hd := some u) c.ha.vc c.ha.i64 (t := t) (w := w) (by omega) (by omega) tw (fun y hy => sp y (List.mem_append_left _ hy)) (fun v hv => by cases hv; exact ⟨ou, wu⟩) aa).2 u rfl
    have n2 := (nxt_one (hd := some u) c.hb.vc c.hb.i64 (t := t) (w := w) (by omega) (by omega) tw (fun y hy => sp y (List.mem_append_right _ hy)) (fun v hv => by cases hv; exact ⟨ou, wu⟩) ab).2 u rfl
    refine ⟨n1.1, n2.1, ?_⟩
    rcases List.mem_append.1 hyu with h | h
    · exact Or.inl (n1.2 ⟨yu, h, eyu⟩)
    · exact Or.inr (n2.2 ⟨yu, h, eyu⟩)
  obtain ⟨ga, gb, gor⟩ := next t ot (Int.le_refl _) tu ra.at_ rb.at_
  have hml := mstep_len (hiP t (A t) (B t)) (loP t (A t) (B t)) zs t (some u)
  have hpl := pushL_len zs t.n t.d (hiP t (A t) (B t)).id
  have ih1 := ih (mstep (hiP t (A t) (B t)) (loP t (A t) (B t)) zs t (some u)) (by omega)
  rw [mrun]
  show RunsL _ _ _ _ _ _ _ _ _ [(6, .ls 5 (mrun A B (mstep (hiP t (A t) (B t)) (loP t (A t) (B t)) zs t (some u)) (u :: r)).length)] [(5, 0, rowL (mrun A B (mstep (hiP t (A t) (B t)) (loP t (A t) (B t)) zs t (some u)) (u :: r)))]
  rcases hf : nextOf (hiP t (A t) (B t)) (loP t (A t) (B t)) with _ | m
  · rw [mstep_none hf] at ih1 ⊢
    exact (me_round hv c.ha c.hb ot ra rb (z := some u) (by omega) (by unfold foR; rw [hf]; exact soon_two ou (fun v h => by cases h) ga gb (Or.inr gor))).2 u rfl ih1
  · obtain ⟨tm, e1, e2⟩ := turn_hi okA okQ hf
    have okm := foR_ok (p := hiP t (A t) (B t)) (q := loP t (A t) (B t)) (by unfold hiP; split <;> assumption) (by unfold loP; split <;> assumption) ⟨m.n, m.d⟩ (by unfold foR; rw [hf]; rfl)
    have m0 : 1 ≤ m.d := okB_den okm.ok
    have sg := sg_cases (m.n * u.d - u.n * m.d)
    by_cases hb : (m.n * u.d - u.n * m.d).sign < 0
    · rw [mstep_bef hf hb] at ih1 ⊢
      have mu : m.n * u.d < u.n * m.d := by omega
      have no : ∀ y ∈ ca ++ cb, y.n * t.d ≤ t.n * y.d ∨ m.n * y.d < y.n * m.d := fun y hy => (sp y hy).elim Or.inl fun ⟨v, hv', g⟩ => by
        cases hv'
        have y0 : 0 < y.d := (List.mem_append.1 hy).elim (fun h => c.ha.vc.den h) (fun h => c.hb.vc.den h)
        exact Or.inr (frac_lt_le (bn := u.n) (bd := u.d) (by omega) (by omega) y0 mu g)
      have stA := at_later (w := ⟨m.n, m.d⟩) c.ha.vc (t := t) (by omega) (by show 0 < m.d; omega) (Int.le_of_lt tm) (fun y hy => no y (List.mem_append_left _ hy)) ra.at_
      have stB := at_later (w := ⟨m.n, m.d⟩) c.hb.vc (t := t) (by omega) (by show 0 < m.d; omega) (Int.le_of_lt tm) (fun y hy => no y (List.mem_append_right _ hy)) rb.at_
      have keep : ∀ o : Option Rn, (∀ v, o = some v → RnOk v ∧ u.n * v.d ≤ v.n * u.d) → ∀ v, o = some v → RnOk v ∧ m.n * v.d ≤ v.n * m.d := fun o ho v hv' => by
        obtain ⟨ov, g⟩ := ho v hv'
        have v0 := okB_den ov.ok
        exact ⟨ov, Int.le_of_lt (frac_lt_le (bn := u.n) (bd := u.d) (by omega) (by omega) (by omega) mu g)⟩
      refine (me_round hv c.ha c.hb ot ra rb (z := some ⟨m.n, m.d⟩) (by omega) (by unfold foR; rw [hf]; exact soon_two okm (fun v h => by cases h; exact ⟨okm, Int.le_refl _⟩) (keep _ ga) (keep _ gb) (Or.inl rfl))).2 ⟨m.n, m.d⟩ rfl ?_
      obtain ⟨ga', gb', gor'⟩ := next ⟨m.n, m.d⟩ okm (Int.le_of_lt tm) mu stA stB
      have hbb := (nextOf_some (by unfold hiP; split <;> assumption) (by unfold loP; split <;> assumption) hf).1
      refine (me_round hv c.ha c.hb okm (pA := A t) (pB := B t) ⟨stA, ra.id, ra.mem⟩ ⟨stB, rb.id, rb.mem⟩ (zs := pushL zs t.n t.d (hiP t (A t) (B t)).id) (z := some u) (by omega) (by rw [e1, e2]; unfold foR; rw [nextOf_no (by omega)]; exact soon_two ou (fun v h => by cases h) ga' gb' (Or.inr gor'))).2 u rfl ?_
      rw [e1]
      exact ih1
    · rw [mstep_nbef hf hb] at ih1 ⊢
      exact (me_round hv c.ha c.hb ot ra rb (z := some u) (by omega) (by unfold foR; rw [hf]; exact soon_two ou (fun v h => by cases h; exact ⟨okm, by show u.n * m.d ≤ m.n * u.d; omega⟩) ga gb (Or.inr gor))).2 u rfl ih1
end
theorem me_loop (hv : Val l) {uu : List Rn} {A B : Rn → Pt} (c : Chs l ca cb uu A B) : ∀ (r : List Rn) (t : Rn) (k : Nat) (zs : List Ld), uu.drop k = t :: r → zs.length ≤ 2 * k →
    RunsL Tryz.prog 3 3 (loopOf Tryz.prog 27 0) 111 6 (meTr ca cb zs) (meHr l ca cb zs t.n t.d) .ret [(6, .ls 5 (mrun A B zs (t :: r)).length)] [(5, 0, rowL (mrun A B zs (t :: r)))] := by
  intro r
  induction r with
  | nil =>
    intro t k zs hd hz
    exact me_last hv c hd hz
  | cons u r ih =>
    intro t k zs hd hz
    exact me_more hv c hd hz fun s hs => ih u (k + 1) s (by rw [← List.drop_drop, hd]; rfl) hs
theorem RMgd_ok (hv : Val l) {us : List Rn} {A B : Rn → Pt} {x0 : Ld} (c : Chs l ca cb (frm x0 :: us) A B) (h0 : ca[0]? = some x0) :
    FnL Tryz.prog 27 3 [fldS 0 l, .ls 1 ca.length, .ls 2 cb.length] [(0, 0, rowP l), (1, 0, rowL ca), (2, 0, rowL cb)] (.ls 3 (mrun A B [] (frm x0 :: us)).length) 1 [(3, 0, rowL (mrun A B [] (frm x0 :: us)))] :=
  me_path h0 ⟨Int.le_refl _, by have := get_lt h0; omega⟩ (me_loop hv c us (frm x0) 0 [] rfl (by simp))
/-- Who leads a crest at a time: a point of the field, if it has them all. -/
noncomputable def ptAt (l : List Pt) (c : List Ld) (t : Rn) : Pt := open Classical in if h : ∃ p k x, RdAt l c t p k x then h.choose else ⟨0, 0, 0⟩
theorem ptAt_spec {c : List Ld} (hc : VC c) (hk : HasAll l c) {t : Rn} (t0 : 0 < t.d) {x0 : Ld} (h0 : c[0]? = some x0) (hle : x0.n * t.d ≤ t.n * x0.d) : ∃ k x, RdAt l c t (ptAt l c t) k x := by
  obtain ⟨k, x, h⟩ := at_ex hc (tn := t.n) (td := t.d) t0 h0 (by
    have : ¬ cv x0 t.n t.d > 0 := by rw [cv_pos]; omega
    omega)
  obtain ⟨p, hp, e⟩ := hk x (List.mem_of_getElem? h.get)
  have ex : ∃ p k x, RdAt l c t p k x := ⟨p, k, x, h, e, hp⟩
  unfold ptAt
  rw [dif_pos ex]
  exact ex.choose_spec
theorem RdAt.ldAt {c : List Ld} (hc : CrA l c) {t : Rn} (ht : RnOk t) {p : Pt} {k : Nat} {x : Ld} (h : RdAt l c t p k x) : LdAt l c t p := by
  have r := LA_ok (by have := hc.vc.len; omega) hc.i64 (fun x hx => hc.vc.tm hx) ⟨ht.n, ht.d, ht.ok⟩ h.at_
  rw [← h.id] at r
  exact ⟨r, h.mem⟩
theorem chs_ex (ha : CrA l ca) (hb : CrA l cb) (ka : HasAll l ca) (kb : HasAll l cb) {x0 y0 : Ld} (h0 : ca[0]? = some x0) (g0 : cb[0]? = some y0) (e0 : frm y0 = frm x0) :
    ∃ rs : List Rn, Chs l ca cb (frm x0 :: cmpA (frm x0) rs) (ptAt l ca) (ptAt l cb) ∧ (frm x0 :: frm x0 :: rs).Perm ((ca ++ cb).map frm) ∧ (frm x0 :: frm x0 :: rs).Pairwise (fun a b => 0 ≤ ordR b a) := by
  obtain ⟨ta, a1⟩ : ∃ ta, ca = x0 :: ta := by
    cases ca with
    | nil => cases h0
    | cons z r => cases h0; exact ⟨r, rfl⟩
  obtain ⟨tb, b1⟩ : ∃ tb, cb = y0 :: tb := by
    cases cb with
    | nil => cases g0
    | cons z r => cases g0; exact ⟨r, rfl⟩
  have ra : ∀ x ∈ ca, RnOk (frm x) := fun x hx => ⟨(ha.i64 x hx).n, (ha.i64 x hx).d, ha.vc.tm hx⟩
  have rb : ∀ x ∈ cb, RnOk (frm x) := fun x hx => ⟨(hb.i64 x hx).n, (hb.i64 x hx).d, hb.vc.tm hx⟩
  have ge : ∀ {c : List Ld} {z : Ld}, VC c → c[0]? = some z → ∀ x ∈ c, z.n * x.d ≤ x.n * z.d := by
    intro c z hc hz x hx
    obtain ⟨k, hk⟩ := List.getElem?_of_mem hx
    cases k with
    | zero => rw [hz] at hk; cases hk; exact Int.le_refl _
    | succ k => exact Int.le_of_lt (hc.mono hz k (by rw [Nat.zero_add]; exact hk))
  have ga := ge ha.vc h0
  have gb : ∀ x ∈ cb, x0.n * x.d ≤ x.n * x0.d := by
    intro x hx
    have := ge hb.vc g0 x hx
    have e1 : y0.n = x0.n := congrArg Rn.n e0
    have e2 : y0.d = x0.d := congrArg Rn.d e0
    rw [← e1, ← e2]; exact this
  have va := ha.vc.len
  have vb := hb.vc.len
  have hok : ∀ x ∈ ca ++ cb, RnOk (frm x) := fun x hx => (List.mem_append.1 hx).elim (ra x) (rb x)
  have hgeq : ∀ x ∈ ca ++ cb, x0.n * (frm x).d ≤ (frm x).n * x0.d := fun x hx => (List.mem_append.1 hx).elim (ga x) (gb x)
  have hR : ∀ m ∈ (ta ++ tb).map frm, RnOk m ∧ x0.n * m.d ≤ m.n * x0.d := by
    intro m hm
    obtain ⟨x, hx, rfl⟩ := List.mem_map.1 hm
    have hx' : x ∈ ca ++ cb := by
      rw [a1, b1]
      rcases List.mem_append.1 hx with h | h
      · exact List.mem_append_left _ (List.mem_cons_of_mem _ h)
      · exact List.mem_append_right _ (List.mem_cons_of_mem _ h)
    exact ⟨hok x hx', hgeq x hx'⟩
  obtain ⟨rs, p1, p2⟩ := sortR_ex fun m hm => (hR m hm).1
  have hp : (frm x0 :: frm x0 :: rs).Perm ((ca ++ cb).map frm) := by
    rw [a1, b1, List.map_append, List.map_cons, List.map_cons, e0]
    show (frm x0 :: frm x0 :: rs).Perm (frm x0 :: (ta.map frm ++ frm x0 :: tb.map frm))
    refine List.Perm.cons _ ?_
    refine (List.Perm.cons _ p1).trans ?_
    rw [List.map_append]
    exact List.perm_middle.symm
  have y0k : RnOk (frm x0) := ra x0 (List.mem_of_getElem? h0)
  have hle : ∀ m ∈ rs, 0 ≤ ordR m (frm x0) := fun m hm => by
    rw [ordR_ge]
    have := (hR m (p1.mem_iff.1 hm)).2
    show m.n * x0.d - x0.n * m.d ≥ 0
    omega
  have hyy : 0 ≤ ordR (frm x0) (frm x0) := by rw [ordR_ge]; show x0.n * x0.d - x0.n * x0.d ≥ 0; omega
  have hs1 : (frm x0 :: rs).Pairwise (fun a b => 0 ≤ ordR b a) := List.pairwise_cons.2 ⟨fun m hm => hle m hm, p2⟩
  have hs : (frm x0 :: frm x0 :: rs).Pairwise (fun a b => 0 ≤ ordR b a) := List.pairwise_cons.2 ⟨fun m hm => by
    rcases List.mem_cons.1 hm with rfl | hm
    · exact hyy
    · exact hle m hm, hs1⟩
  have hokU : ∀ m ∈ frm x0 :: rs, RnOk m := fun m hm => by
    rcases List.mem_cons.1 hm with rfl | hm
    · exact y0k
    · exact (hR m (p1.mem_iff.1 hm)).1
  have sub : ∀ m ∈ frm x0 :: cmpA (frm x0) rs, m ∈ frm x0 :: rs := fun m hm => by
    rcases List.mem_cons.1 hm with rfl | hm
    · exact List.mem_cons_self
    · exact List.mem_cons_of_mem _ (cmpA_mem hm)
  have hgeU : ∀ m ∈ frm x0 :: cmpA (frm x0) rs, x0.n * m.d ≤ m.n * x0.d := fun m hm => by
    rcases List.mem_cons.1 (sub m hm) with rfl | hm
    · exact Int.le_refl _
    · exact (hR m (p1.mem_iff.1 hm)).2
  have hlr : rs.length + 2 = (ca ++ cb).length := by have := hp.length_eq; simpa using this
  have hcl := cmpA_len rs (frm x0)
  refine ⟨rs, ⟨ha, hb, cmpA_lt hokU hs1, fun m hm => hokU m (sub m hm), fun x hx => ?_, fun m hm => ?_, fun t ht => ?_, fun t ht => ?_, ?_⟩, hp, hs⟩
  · have h1 := hp.mem_iff.2 (List.mem_map.2 ⟨x, hx, rfl⟩)
    rcases List.mem_cons.1 h1 with h1 | h1
    · rw [h1]; exact List.mem_cons_self
    · rcases List.mem_cons.1 h1 with h1 | h1
      · rw [h1]; exact List.mem_cons_self
      · rcases cmpA_keep (y := frm x0) h1 with h1 | h1
        · rw [h1]; exact List.mem_cons_self
        · exact List.mem_cons_of_mem _ h1
  · have h1 : m ∈ (ca ++ cb).map frm := hp.mem_iff.1 (by
      rcases List.mem_cons.1 (sub m hm) with h | h
      · rw [h]; simp
      · exact List.mem_cons_of_mem _ (List.mem_cons_of_mem _ h))
    obtain ⟨x, hx, e⟩ := List.mem_map.1 h1
    exact ⟨x, hx, e⟩
  · have ot := hokU t (sub t ht)
    exact ptAt_spec ha.vc ka (by have := okB_den ot.ok; omega) h0 (hgeU t ht)
  · have ot := hokU t (sub t ht)
    refine ptAt_spec hb.vc kb (by have := okB_den ot.ok; omega) g0 ?_
    have e1 : y0.n = x0.n := congrArg Rn.n e0
    have e2 : y0.d = x0.d := congrArg Rn.d e0
    rw [e1, e2]
    exact hgeU t ht
  · rw [List.length_append] at hlr
    simp only [List.length_cons]
    omega
theorem mrun_len {A B : Rn → Pt} : ∀ (ts : List Rn) (s : List Ld), (mrun A B s ts).length ≤ s.length + 2 * ts.length
  | [], s => by simp [mrun]
  | t :: r, s => by
    have h1 := mrun_len (A := A) (B := B) r (mstep (hiP t (A t) (B t)) (loP t (A t) (B t)) s t r.head?)
    have h2 := mstep_len (hiP t (A t) (B t)) (loP t (A t) (B t)) s t r.head?
    rw [mrun]
    simp only [List.length_cons]
    omega
/-- Merge of the program and of the reference, at any field and lists: the same list, or the same error. -/
theorem Merge_any (l : List Pt) {c d : List Ld} (hc : ∀ x ∈ c, I64L x) (hd : ∀ x ∈ d, I64L x) (lc : c.length ≤ 100000) (ld_ : d.length ≤ 100000) :
    (∃ s : List Ld, s.length ≤ 100000 ∧ FnL Tryz.prog 7 3 [fldS 0 l, .ls 1 c.length, .ls 2 d.length] [(0, 0, rowP l), (1, 0, rowL c), (2, 0, rowL d)] (.tu [.one (.ls 3 s.length), .one (.pv (.int .i64 0))]) 1 [(3, 0, rowL s)] ∧
      FnL Tryz.prog 8 3 [fldS 0 l, .ls 1 c.length, .ls 2 d.length] [(0, 0, rowP l), (1, 0, rowL c), (2, 0, rowL d)] (.tu [.one (.ls 3 s.length), .one (.pv (.int .i64 0))]) 1 [(3, 0, rowL s)]) ∨
    (∃ er : Int, FnL Tryz.prog 7 3 [fldS 0 l, .ls 1 c.length, .ls 2 d.length] [(0, 0, rowP l), (1, 0, rowL c), (2, 0, rowL d)] (.pv (.tuple #[.slice none 0 0, .int .i64 er])) 0 [] ∧
      FnL Tryz.prog 8 3 [fldS 0 l, .ls 1 c.length, .ls 2 d.length] [(0, 0, rowP l), (1, 0, rowL c), (2, 0, rowL d)] (.pv (.tuple #[.slice none 0 0, .int .i64 er])) 0 []) := by
  have f1 := PCheck_any l
  have f2 := RCheck_any l
  have p1 := PCk_any hc lc
  have p2 := PCk_any hd ld_
  have q1 := RCk_any hc lc
  have q2 := RCk_any hd ld_
  by_cases he : errL l = 0
  · rw [he] at f1 f2
    have hv := err_val.1 he
    by_cases vc : VC c
    · have z1 : ckL c = 0 := by unfold ckL; exact if_pos vc
      rw [z1] at p1 q1
      by_cases vd : VC d
      · have z2 : ckL d = 0 := by unfold ckL; exact if_pos vd
        rw [z2] at p2 q2
        obtain ⟨x0, hx⟩ := get_some (l := c) (k := 0) vc.pos
        obtain ⟨y0, hy⟩ := get_some (l := d) (k := 0) vd.pos
        have ix : 0 ≤ (0 : Int) ∧ (0 : Int) < (c.length : Int) := ⟨Int.le_refl _, by have := vc.pos; omega⟩
        have iy : 0 ≤ (0 : Int) ∧ (0 : Int) < (d.length : Int) := ⟨Int.le_refl _, by have := vd.pos; omega⟩
        by_cases hq : x0.n = y0.n ∧ x0.d = y0.d
        · have hq' : (!(x0.n == y0.n && (x0.d == y0.d && true))) = false := by simp [hq.1, hq.2]
          by_cases ka : HasAll l c
          · have a1 := FindAll_yes hv lc ka
            have a2 := Known_ok hv lc ka
            by_cases kb : HasAll l d
            · have b1 := FindAll_yes hv ld_ kb
              have b2 := Known_ok hv ld_ kb
              obtain ⟨rs, ch, hp, hs⟩ := chs_ex ⟨hc, vc⟩ ⟨hd, vd⟩ ka kb hx hy (by show Rn.mk y0.n y0.d = Rn.mk x0.n x0.d; rw [hq.1, hq.2])
              have m2 := RMgd_ok hv ch hx
              have m1 := Mgd_ok hv (ca := c) (cb := d) (A := ptAt l c) (B := ptAt l d) (fun x h => (List.mem_append.1 h).elim (fun h => ⟨(hc x h).n, (hc x h).d, vc.tm h⟩) (fun h => ⟨(hd x h).n, (hd x h).d, vd.tm h⟩)) (by rw [List.length_append]; have := vc.len; have := vd.len; omega) hp hs
                (fun t ht => by obtain ⟨k, x, h⟩ := ch.rA t ht; exact h.ldAt ch.ha (ch.ok t ht)) (fun t ht => by obtain ⟨k, x, h⟩ := ch.rB t ht; exact h.ldAt ch.hb (ch.ok t ht))
              refine Or.inl ⟨_, ?_, mg_ok (hf := f1) (ha := p1) (hb := p2) (hx := hx) (hxi := ix) (hy := hy) (hyi := iy) (hq := hq') (hka := a1) (hkb := b1) (hm := m1), rm_ok (hf := f2) (ha := q1) (hb := q2) (hx := hx) (hxi := ix) (hy := hy) (hyi := iy) (hq := hq') (hka := a2) (hkb := b2) (hm := m2)⟩
              have := mrun_len (A := ptAt l c) (B := ptAt l d) (frm x0 :: cmpA (frm x0) rs) []
              have := ch.len
              simp only [List.length_nil] at *
              omega
            · exact Or.inr ⟨6, mg_none2 (hf := f1) (ha := p1) (hb := p2) (hx := hx) (hxi := ix) (hy := hy) (hyi := iy) (hq := hq') (hka := a1) (hkb := FindAll_no hv ld_ kb), rm_none2 (hf := f2) (ha := q1) (hb := q2) (hx := hx) (hxi := ix) (hy := hy) (hyi := iy) (hq := hq') (hka := a2) (hkb := Known_no hv ld_ kb)⟩
          · have nb : ∃ eb : Int, FnL Tryz.prog 22 2 [fldS 0 l, .ls 1 d.length] [(0, 0, rowP l), (1, 0, rowL d)] (.pv (.int .i64 eb)) 0 [] := by
              by_cases kb : HasAll l d
              · exact ⟨0, FindAll_yes hv ld_ kb⟩
              · exact ⟨6, FindAll_no hv ld_ kb⟩
            obtain ⟨eb, hkb⟩ := nb
            exact Or.inr ⟨6, mg_none1 (hf := f1) (ha := p1) (hb := p2) (hx := hx) (hxi := ix) (hy := hy) (hyi := iy) (hq := hq') (hka := FindAll_no hv lc ka) (hkb := hkb), rm_none1 (hf := f2) (ha := q1) (hb := q2) (hx := hx) (hxi := ix) (hy := hy) (hyi := iy) (hq := hq') (hka := Known_no hv lc ka)⟩
        · have hq' : (!(x0.n == y0.n && (x0.d == y0.d && true))) = true := by
            by_cases h1 : x0.n = y0.n
            · by_cases h2 : x0.d = y0.d
              · exact (hq ⟨h1, h2⟩).elim
              · simp [h2]
            · simp [h1]
          exact Or.inr ⟨2, mg_arg (hf := f1) (ha := p1) (hb := p2) (hx := hx) (hxi := ix) (hy := hy) (hyi := iy) (hq := hq'), rm_arg (hf := f2) (ha := q1) (hb := q2) (hx := hx) (hxi := ix) (hy := hy) (hyi := iy) (hq := hq')⟩
      · have z2 : ckL d = 8 := by unfold ckL; exact if_neg vd
        rw [z2] at p2 q2
        exact Or.inr ⟨8, mg_bad2 (hf := f1) (ha := p1) (hb := p2), rm_bad2 (hf := f2) (ha := q1) (hb := q2)⟩
    · have z1 : ckL c = 8 := by unfold ckL; exact if_neg vc
      rw [z1] at p1 q1
      exact Or.inr ⟨8, mg_bad1 (hf := f1) (ha := p1) (hb := p2), rm_bad1 (hf := f2) (ha := q1)⟩
  · exact Or.inr ⟨errL l, mg_field (hf := f1) (ha := p1) (hb := p2) (he := by simpa using he), rm_field (hf := f2) (he := by simpa using he)⟩
end
end Go.Proofs.YtpngjeloiifgnaaGreat
