/-
  One operation over blocks by name: a real run yields what was worked out, for each kind of operation. Conditions: none.
-/
import Derived.Test.YtjhkeinelbeekaaSxC
namespace Go.Proofs.Ytjhkeinelbeekaa
open Go.RowKit
section
variable {P : Program} {W0 : World} {lo : Nat} {β : Bl} {st : St} {w : World} {ρ : Operand → Value}

theorem run_loadVar_one (w : World) (r o : Nat) (ty : TypeId) (v : Value) (d : TypeDesc) (hc : w.cell? ⟨r, o, none⟩ = some v) (hu : P.underlying ty = some d) (hd : d.isRow = false) :
    (loadVar ty ⟨r, o, none⟩).run P w = .ok v w := by
  have hagg : (isAgg ty).run P w = .ok false w := by
    unfold isAgg
    rw [Sem.run_bind, run_underlying hu w]
    cases d <;> simp_all
  simp [loadVar, hagg, load, Sem.run, hc]

theorem run_storeVar_any (w : World) (r o : Nat) (ty : TypeId) (v : Value) (n : Nat) (i : TypeInfo) (ht : w.there r o n) (hi : P.info? ty = some i) (hn : v.cells.size = n) (hs : i.size = n) (h1 : ∀ u ∈ v.cells.toList, u.oneCell' = true) :
    (storeVar ty ⟨r, o, none⟩ v).run P w = .ok () (w.setCells r o v.cells.toList) := by
  have := run_storeCells_cells (P := P) r o v.cells.toList 0 w (fun j hj => by simpa using (ht j (by simp at hj; omega)).1) (fun j hj => by simpa using (ht j (by simp at hj; omega)).2) h1
  simp only [Nat.add_zero] at this
  simp [storeVar, sizeOf, typeInfo, hi, hn, hs, this]

theorem opS_ok {o : Oper} {c : Ch} {out : Out} {q : List Prop} (h : opS P st o c = some (out, q)) (hq : AllP q) (H : HRel W0 lo β st.hp w) (hx : ∀ x ∈ o.op.operands, (st.ev x).is β (ρ x)) : OutOk P β w (execOp ρ o) out := by
  unfold opS at h
  split at h
  · rename_i x ho
    simp only [Option.some.injEq, Prod.mk.injEq] at h
    obtain ⟨rfl, rfl⟩ := h
    refine ⟨_, hx x (by simp [ho, Op.operands]), ?_⟩
    simp [execOp, ho]
  · rename_i x ho
    simp only [Option.some.injEq, Prod.mk.injEq] at h
    obtain ⟨rfl, rfl⟩ := h
    refine ⟨_, hx x (by simp [ho, Op.operands]), ?_⟩
    simp [execOp, ho]
  · -- alloc
    rename_i t ho
    split at h
    · rename_i i hi
      split at h
      · rename_i z hz
        cases ha : z.cells.toList.all Value.oneCell'
        · rw [ha] at h; cases h
        · rw [ha, cond_true] at h
          simp only [Option.some.injEq, Prod.mk.injEq] at h
          obtain ⟨rfl, rfl⟩ := h
          refine ⟨_, SV.isl_v _, fun u hu => List.all_eq_true.1 ha u hu, ?_⟩
          simp [execOp, ho, Instr.alloc, zeroValue, run_typeInfo w hi, hz, newVar, newRow, newObj]
          rfl
      · cases h
    · cases h
  · -- box
    rename_i t x ho
    cases ha : (cellsOf (st.ev x)).all oneS
    · rw [ha] at h; cases h
    · rw [ha, cond_true] at h
      simp only [Option.some.injEq, Prod.mk.injEq] at h
      obtain ⟨rfl, rfl⟩ := h
      have k := cellsOf_is ha (hx x (by simp [ho, Op.operands]))
      refine ⟨_, k, isl_one ha k, ?_⟩
      simp [execOp, ho, Instr.box, newVar, newRow, newObj]
      rfl
  · -- buildSlice
    rename_i t len parts ho
    cases hv : parts.toList.all fun p => (st.ev p.2).isV
    · rw [hv] at h; cases h
    · rw [hv, cond_true] at h
      split at h
      · rename_i e hu
        split at h
        · rename_i i hi
          split at h
          · rename_i z hz
            cases hb : (Nat.ble (len * i.size) 16777216 && !Nat.beq (len * i.size) 0)
            · rw [hb] at h; cases h
            · rw [hb, cond_true] at h
              split at h
              · rename_i cs hcs
                cases ha : cs.toList.all Value.oneCell'
                · rw [ha] at h; cases h
                · rw [ha, cond_true] at h
                  simp only [Option.some.injEq, Prod.mk.injEq] at h
                  obtain ⟨rfl, rfl⟩ := h
                  refine ⟨_, SV.isl_v _, fun u hu => List.all_eq_true.1 ha u hu, ?_⟩
                  have hp : (parts.toList.map fun p => (p.1, ρ p.2)) = parts.toList.map fun p => (p.1, (st.ev p.2).raw) := by
                    refine List.map_congr_left fun p hp => ?_
                    have k := hx p.2 (by simp only [ho, Op.operands]; simp; exact ⟨p.1, by simpa using hp⟩)
                    have kv := List.all_eq_true.1 hv p hp
                    show (p.1, ρ p.2) = _
                    rw [isV_is kv k]
                  simp only [Bool.and_eq_true, Bool.not_eq_true'] at hb
                  have b1 : len * i.size ≤ 16777216 := Nat.le_of_ble_eq_true hb.1
                  have b2 : ¬ len * i.size = 0 := fun e0 => by
                    have := hb.2
                    rw [e0] at this
                    cases this
                  have b3 : ¬ len * i.size > 16777216 := by omega
                  simp only [execOp, ho]
                  refine run_value ?_
                  simp [Instr.buildSlice, run_underlying hu, sizeOf, run_typeInfo w hi, b3, b2, zeroValue, hz, hp, hcs, newRow, newObj]
                  rfl
              · cases h
          · cases h
        · cases h
      · cases h
  · -- load
    rename_i t x ho
    split at h
    · rename_i b q hx'
      have k := hx x (by simp [ho, Op.operands])
      rw [hx'] at k
      obtain ⟨r, hr, hk⟩ := k
      split at h
      · rename_i d i hu hi
        cases hd : d.isRow
        · rw [hd, cond_false] at h
          split at h
          · rename_i s hs
            simp only [Option.some.injEq, Prod.mk.injEq] at h
            obtain ⟨rfl, rfl⟩ := h
            obtain ⟨r', u, h1, h2, h3, h4, h5⟩ := H.cells _ _ _ hs
            rw [hr] at h1
            cases h1
            refine ⟨u, h2, ?_⟩
            simp only [execOp, ho]
            refine run_value ?_
            rw [hk]
            simp [Instr.loadAt, Instr.sureAddr, run_loadVar_one w r q t u d h4 hu hd]
          · cases h
        · rw [hd, cond_true] at h
          split at h
          · rename_i l hl
            simp only [Option.some.injEq, Prod.mk.injEq] at h
            obtain ⟨rfl, rfl⟩ := h
            refine ⟨_, rfl, ?_⟩
            simp only [execOp, ho]
            refine run_value ?_
            rw [hk]
            exact run_loadAt_mid w r q t l d (H.range hr hl) hu hd (by simp [hi, (takeH_get hl).1])
          · cases h
      · cases h
    · cases h
  · -- store
    rename_i t x y ho
    split at h
    · rename_i b q hx'
      have k := hx x (by simp [ho, Op.operands])
      rw [hx'] at k
      obtain ⟨r, hr, hk⟩ := k
      split at h
      · rename_i i hi
        cases hb : (Nat.beq (cellsOf (st.ev y)).length i.size && (cellsOf (st.ev y)).all oneS && haveH st.hp b q i.size)
        · rw [hb] at h; cases h
        · rw [hb, cond_true] at h
          simp only [Option.some.injEq, Prod.mk.injEq] at h
          obtain ⟨rfl, rfl⟩ := h
          simp only [Bool.and_eq_true] at hb
          have ky := cellsOf_is hb.1.2 (hx y (by simp [ho, Op.operands]))
          have e1 := Nat.eq_of_beq_eq_true hb.1.1
          have e2 := (SV.isl_get ky).1
          refine ⟨r, _, hr, ky, isl_one hb.1.2 ky, by rw [← e2, e1]; exact H.there hr hb.2, ?_⟩
          simp only [execOp, ho]
          refine run_unit ?_
          rw [hk]
          simp [Instr.storeAt, Instr.sureAddr, run_storeVar_any w r q t (ρ y) i.size i (H.there hr hb.2) hi (by simp at e2; omega) rfl (isl_one hb.1.2 ky)]
      · cases h
    · cases h
  · -- fieldAddr
    rename_i s x f ho
    split at h
    · rename_i b q hx'
      have k := hx x (by simp [ho, Op.operands])
      rw [hx'] at k
      obtain ⟨r, hr, hk⟩ := k
      split at h
      · rename_i fs hu
        split at h
        · rename_i fd hf
          split at h
          · rename_i i hi
            cases hb : Nat.beq i.size 0
            · rw [hb, cond_false] at h
              simp only [Option.some.injEq, Prod.mk.injEq] at h
              obtain ⟨rfl, rfl⟩ := h
              have hs : ¬ i.size = 0 := fun e0 => by rw [e0] at hb; cases hb
              refine ⟨_, ⟨r, hr, rfl⟩, ?_⟩
              simp only [execOp, ho]
              refine run_value ?_
              rw [hk]
              simp [Instr.fieldAt, run_underlying hu, hf, Instr.sureAddr, fieldPlace, sizeOf, run_typeInfo w hi, hs, Addr.add_mid]
            · rw [hb] at h; cases h
          · cases h
        · cases h
      · cases h
    · cases h
  · -- indexAddr
    rename_i t x ix ho
    split at h
    · rename_i kk i hix
      have ki := hx ix (by simp [ho, Op.operands])
      have k := hx x (by simp [ho, Op.operands])
      rw [hix] at ki
      split at h
      · rename_i len e b q hu hx'
        rw [hx'] at k
        obtain ⟨r, hr, hk⟩ := k
        split at h
        · rename_i inf hi
          split at h
          · rename_i hin
            simp only [Option.some.injEq, Prod.mk.injEq] at h
            obtain ⟨rfl, rfl⟩ := h
            refine ⟨_, ⟨r, hr, rfl⟩, ?_⟩
            simp only [execOp, ho]
            refine run_value ?_
            rw [hk, show ρ ix = _ from ki]
            simp [Instr.indexAt, asIntOf, run_underlying hu, Instr.sureAddr, sizeOf, run_typeInfo w hi, hin, Addr.add_mid]
          · cases h
        · cases h
      · rename_i e b q len cap hu hx'
        rw [hx'] at k
        obtain ⟨r, hr, hk⟩ := k
        split at h
        · rename_i inf hi
          split at h
          · rename_i hin
            simp only [Option.some.injEq, Prod.mk.injEq] at h
            obtain ⟨rfl, rfl⟩ := h
            refine ⟨_, ⟨r, hr, rfl⟩, ?_⟩
            simp only [execOp, ho]
            refine run_value ?_
            rw [hk, show ρ ix = _ from ki]
            simp [Instr.indexAt, asIntOf, run_underlying hu, sizeOf, run_typeInfo w hi, hin, Addr.add_mid]
          · cases h
        · cases h
      · cases h
    · cases h
  · -- nilCheck
    rename_i x ho
    have k := hx x (by simp [ho, Op.operands])
    split at h
    · rename_i b q hx'
      simp only [Option.some.injEq, Prod.mk.injEq] at h
      obtain ⟨rfl, rfl⟩ := h
      rw [hx'] at k
      refine ⟨_, k, ?_⟩
      obtain ⟨r, hr, hk⟩ := k
      simp [execOp, ho, hk]
    · rename_i f cap hx'
      simp only [Option.some.injEq, Prod.mk.injEq] at h
      obtain ⟨rfl, rfl⟩ := h
      rw [hx'] at k
      refine ⟨_, k, ?_⟩
      obtain ⟨r, hr, hk⟩ := k
      simp [execOp, ho, hk]
    · exact generic_ok h hq hx
  · -- makeFunc
    rename_i fn first caps ho
    split at h
    · rename_i f
      cases hb : Nat.beq first.size 0
      · rw [hb] at h; cases h
      · rw [hb, cond_true] at h
        have hz := Nat.eq_of_beq_eq_true hb
        split at h
        · rename_i l hl
          simp only [Option.some.injEq, Prod.mk.injEq] at h
          obtain ⟨rfl, rfl⟩ := h
          have hfirst : first = #[] := by simpa using hz
          have hc : SV.isl β (caps.toList.map st.ev) (caps.toList.map ρ) := by
            have hall : ∀ x ∈ caps.toList, (st.ev x).is β (ρ x) := fun x hm => hx x (by simp [ho, Op.operands]; exact Or.inr (by simpa using hm))
            generalize caps.toList = cl at hall
            induction cl with
            | nil => trivial
            | cons a r ih => exact ⟨hall a (by simp), ih (fun x hm => hall x (by simp [hm]))⟩
          refine ⟨_, ⟨_, allDown_isl hl hc, rfl⟩, ?_⟩
          subst hfirst
          simp [execOp, ho, Instr.makeFunc]
          rw [← Array.toList_map]
        · cases h
    · cases h
  · -- binOp
    rename_i op t x y t' ho
    exact binS_ok ho h hq hx
  · -- call
    rename_i cl ho
    have hargs : SV.isl β (cl.args.toList.map st.ev) (cl.args.toList.map ρ) := by
      have hall : ∀ x ∈ cl.args.toList, (st.ev x).is β (ρ x) := fun x hm => hx x (by simp [ho, Op.operands, Call.operands]; exact Or.inr (by simpa using hm))
      generalize cl.args.toList = al at hall
      induction al with
      | nil => trivial
      | cons a r ih => exact ⟨hall a (by simp), ih (fun x hm => hall x (by simp [hm]))⟩
    split at h
    · rename_i f hf
      have kf := hx f (by simp [ho, Op.operands, Call.operands, hf])
      have hcall : ∀ g (as : Array Value), bodied P g = true → (callFunc g as).run P w = .ok (.enter g as) w := by
        intro g as hg
        unfold bodied at hg
        split at hg
        · rename_i fn hfn
          simp only [Bool.and_eq_true, Bool.not_eq_true'] at hg
          have h1 : ¬ fn.name = "runtime.NumGoroutine" := by simpa using hg.2
          have h2 : ¬ fn.body = none := fun e => by have := hg.1; rw [e] at this; cases this
          simp [callFunc, hfn, h1, h2]
        · cases hg
      split at h
      · rename_i g first cap hev
        rw [hev] at kf
        cases hb : bodied P g
        · rw [hb, cond_false] at h; exact generic_ok h hq hx
        · rw [hb, cond_true] at h
          simp only [Option.some.injEq, Prod.mk.injEq] at h
          obtain ⟨rfl, rfl⟩ := h
          refine ⟨_, SV.isl_append (SV.isl_append (SV.isl_v _) hargs) (SV.isl_v _), ?_⟩
          simp only [execOp, ho, resolve, hf]
          rw [show ρ f = _ from kf]
          simp only [Deferred.ofValue, Sem.run_bind, Sem.run_pure, Result.andThen_ok, invoke, hcall _ _ hb]
          simp
      · rename_i g cap hev
        rw [hev] at kf
        obtain ⟨vs, h1, h2⟩ := kf
        cases hb : bodied P g
        · rw [hb] at h; cases h
        · rw [hb, cond_true] at h
          simp only [Option.some.injEq, Prod.mk.injEq] at h
          obtain ⟨rfl, rfl⟩ := h
          refine ⟨_, SV.isl_append hargs (S0.isl_up h1), ?_⟩
          simp only [execOp, ho, resolve, hf]
          rw [h2]
          simp only [Deferred.ofValue, Sem.run_bind, Sem.run_pure, Result.andThen_ok, invoke, hcall _ _ hb]
          simp
      · cases h
    · rename_i hlen
      split at h
      · rename_i t b q len cap hl ht
        rw [hl] at hargs
        split at h
        · rename_i e hu
          simp only [Option.some.injEq, Prod.mk.injEq] at h
          obtain ⟨rfl, rfl⟩ := h
          refine ⟨_, rfl, ?_⟩
          have hm : cl.args.toList.map ρ = (cl.args.map ρ).toList := by simp
          rw [hm] at hargs
          generalize hA : cl.args.map ρ = A at hargs
          obtain ⟨l⟩ := A
          match l, hargs with
          | [u], hargs =>
            obtain ⟨r, hr, hu'⟩ := hargs.1
            simp only [execOp, ho, resolve, hlen, hA, Sem.run_bind, Sem.run_pure, Result.andThen_ok, invoke, builtin]
            simp [Builtin.len_, ht, run_underlying hu, hu']
        · cases h
      · exact generic_ok h hq hx
    · exact generic_ok h hq hx
  · exact generic_ok h hq hx
end
end Go.Proofs.Ytjhkeinelbeekaa
