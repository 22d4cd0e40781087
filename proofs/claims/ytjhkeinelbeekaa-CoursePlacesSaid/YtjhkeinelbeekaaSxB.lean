/-
  One operation over blocks by name: what it yields, and that a real run yields the same. Conditions: none.
-/
import Derived.Test.YtjhkeinelbeekaaSxA
namespace Go.Proofs.Ytjhkeinelbeekaa
open Go.RowKit

/-! ### Equality of plain values -/
def partV (P : Program) (t : TypeId) (cs : Array Value) (off : Nat) : Option Value :=
  match P.underlying t, P.info? t with
  | some d, some i => bif d.isRow then some (.agg (cs.extract off (off + i.size))) else cs[off]?
  | _, _ => none
def eqF (P : Program) (rec : TypeId → Value → Value → Option Bool) (xs ys : Array Value) : List Field → Option Bool
  | [] => some true
  | f :: fs =>
    bif f.name != "_" then
      match partV P f.type xs f.offset, partV P f.type ys f.offset with
      | some a, some b => match rec f.type a b, eqF P rec xs ys fs with
        | some r, some q => some (r && q)
        | _, _ => none
      | _, _ => none
    else eqF P rec xs ys fs
def eqI (P : Program) (rec : TypeId → Value → Value → Option Bool) (e : TypeId) (c : Nat) (xs ys : Array Value) : List Nat → Option Bool
  | [] => some true
  | i :: is =>
    match partV P e xs (i * c), partV P e ys (i * c) with
    | some a, some b => match rec e a b, eqI P rec e c xs ys is with
      | some r, some q => some (r && q)
      | _, _ => none
    | _, _ => none
def eqB (P : Program) : Nat → TypeId → Value → Value → Option Bool
  | 0, _, _, _ => none
  | d + 1, t, x, y =>
    match P.underlying t, x, y with
    | some (.int _), .int k a, .int l b => if k = l then some (a == b) else none
    | some .bool, .bool a, .bool b => some (a == b)
    | some .string, .string a, .string b => some (a == b)
    | some (.struct fs), .agg xs, .agg ys => bif P.stoodInHeld t then none else eqF P (eqB P d) xs ys fs.toList
    | some (.array n e), .agg xs, .agg ys => match P.info? e with
      | some _ => eqI P (eqB P d) e (P.cellsOf e) xs ys (List.range n)
      | none => none
    | _, _, _ => none

theorem partV_run {P : Program} {t : TypeId} {cs : Array Value} {off : Nat} {v : Value} (h : partV P t cs off = some v) (w : World) : (part t cs off).run P w = .ok v w := by
  unfold partV at h
  split at h
  · rename_i d i hd hi
    have hs : (isAgg t).run P w = .ok d.isRow w := by
      unfold isAgg
      rw [Sem.run_bind, run_underlying hd w]
      cases d <;> rfl
    cases hr : d.isRow
    · rw [hr] at h hs
      simp only [cond_false] at h
      simp [part, hs, h]
    · rw [hr] at h hs
      simp only [cond_true, Option.some.injEq] at h
      subst h
      simp [part, hs, sizeOf, run_typeInfo w hi]
  · cases h
theorem eqF_run {P : Program} {rec : TypeId → Value → Value → Option Bool} {D : Nat} (w : World) (hr : ∀ t x y r, rec t x y = some r → (Op.equalIn D t x y).run P w = .ok r w) (xs ys : Array Value) :
    ∀ {fs : List Field} {r : Bool}, eqF P rec xs ys fs = some r → (Op.eqFields D xs ys fs).run P w = .ok r w
  | [], r, h => by simp [eqF] at h; subst h; simp [Op.eqFields]
  | f :: fs, r, h => by
    by_cases hn : f.name = "_"
    · simp only [eqF, hn, bne_self_eq_false, cond_false] at h
      simp only [Op.eqFields, hn, ne_eq, not_true_eq_false, if_false]
      exact eqF_run w hr xs ys h
    · have hb : (f.name != "_") = true := by simpa using hn
      simp only [eqF, hb, cond_true] at h
      split at h
      · rename_i a b ha hb'
        split at h
        · rename_i r1 q1 h1 h2
          simp only [Option.some.injEq] at h
          subst h
          simp only [Op.eqFields, hn, ne_eq, not_false_eq_true, if_true, Sem.run_bind, partV_run ha w, partV_run hb' w, hr _ _ _ _ h1, Result.andThen_ok]
          cases r1
          · simp
          · simpa using eqF_run w hr xs ys h2
        · cases h
      · cases h
theorem eqI_run {P : Program} {rec : TypeId → Value → Value → Option Bool} {D : Nat} (w : World) (hr : ∀ t x y r, rec t x y = some r → (Op.equalIn D t x y).run P w = .ok r w) (e : TypeId) (c : Nat) (xs ys : Array Value) :
    ∀ {is : List Nat} {r : Bool}, eqI P rec e c xs ys is = some r → (Op.eqItems D e c xs ys is).run P w = .ok r w
  | [], r, h => by simp [eqI] at h; subst h; simp [Op.eqItems]
  | i :: is, r, h => by
    simp only [eqI] at h
    split at h
    · rename_i a b ha hb'
      split at h
      · rename_i r1 q1 h1 h2
        simp only [Option.some.injEq] at h
        subst h
        simp only [Op.eqItems, Sem.run_bind, partV_run ha w, partV_run hb' w, hr _ _ _ _ h1, Result.andThen_ok]
        cases r1
        · simp
        · simpa using eqI_run w hr e c xs ys h2
      · cases h
    · cases h
theorem eqB_run {P : Program} (w : World) : ∀ (d : Nat) (t : TypeId) (x y : Value) (r : Bool), eqB P d t x y = some r → ∀ D, d ≤ D → (Op.equalIn D t x y).run P w = .ok r w := by
  intro d
  induction d with
  | zero => intro t x y r h; simp [eqB] at h
  | succ d ih =>
    intro t x y r h D hD
    obtain ⟨E, rfl⟩ : ∃ E, D = E + 1 := ⟨D - 1, by omega⟩
    have hrec : ∀ t x y r, eqB P d t x y = some r → (Op.equalIn E t x y).run P w = .ok r w := fun t x y r h => ih t x y r h E (by omega)
    unfold eqB at h
    split at h
    · rename_i k a l b hu
      split at h
      · rename_i hk; subst hk; simp only [Option.some.injEq] at h; subst h; exact run_equalIn_int w E t _ _ _ _ hu
      · cases h
    · rename_i a b hu; simp only [Option.some.injEq] at h; subst h; exact run_equalIn_bool' w E t _ _ hu
    · rename_i a b hu; simp only [Option.some.injEq] at h; subst h; rw [beq_toListBytes]; exact run_equalIn_string w E t _ _ hu
    · rename_i fs xs ys hu
      cases hs : P.stoodInHeld t
      · rw [hs] at h
        simp only [cond_false] at h
        have hf : P.fieldsOf t = fs := by simp [Program.fieldsOf, hu]
        rw [run_equalIn_struct w E t xs ys (by rw [hf]; exact hu) hs, hf]
        exact eqF_run w hrec xs ys h
      · rw [hs] at h; simp at h
    · rename_i n e xs ys hu
      split at h
      · rename_i i hi
        rw [run_equalIn_array w E xs ys hu hi]
        exact eqI_run w hrec e _ xs ys h
      · cases h
    · cases h

/-! ### One operation -/
inductive Out where
  | val (x : SV)
  | new (t : TypeId) (cells : List SV) (len : Option Nat)
  | sto (b o : Nat) (cells : List SV)
  | call (f : FuncId) (args : List SV)
def cellsOf : SV → List SV
  | .pv x => x.cells.toList.map .pv
  | s => [s]
def oneS : SV → Bool
  | .pv x => x.oneCell'
  | .any => false
  | _ => true
def takeH (hp : List (Nat × Nat × SV)) (b : Nat) : Nat → Nat → Option (List Value)
  | _, 0 => some []
  | o, n + 1 => match lookH hp b o with
    | some (.pv x) => match takeH hp b (o + 1) n with
      | some l => some (x :: l)
      | none => none
    | _ => none
def haveH (hp : List (Nat × Nat × SV)) (b : Nat) : Nat → Nat → Bool
  | _, 0 => true
  | o, n + 1 => match lookH hp b o with
    | some _ => haveH hp b (o + 1) n
    | none => false
def pops : Op → Bool
  | .binOp .. | .unOp .. | .convert .. => true
  | .call c => match c.callee with
    | .builtin _ => false
    | _ => true
  | _ => false
/-- A value as it is, or another one that it is shown to be. -/
def resolve1 (u : Value) : Ch → Option (Out × List Prop)
  | .k => some (.val (.pv u), [])
  | .t b => match u with
    | .bool e => some (.val (.pv (.bool b)), [e = b])
    | _ => none
  | .r v => some (.val (.pv v), [u = v])
  | .l .. => none
def generic (P : Program) (st : St) (o : Oper) (c : Ch) : Option (Out × List Prop) :=
  bif o.op.operands.toList.all fun x => (st.ev x).isV then
    match o.op with
    | .select .. => none
    | _ => match prun P (execOp (fun x => (st.ev x).raw) o) with
      | some (.value u) => resolve1 u c
      | _ => none
  else none
def binS (P : Program) (st : St) (o : Oper) (op : BinOp) (t : TypeId) (a b : SV) (c : Ch) : Option (Out × List Prop) :=
  match op, a, b, c with
  | .eql, .pv (.agg xs), .pv (.agg ys), .t e => bif P.eqGuardType P.depth t then none else match eqB P 40 t (.agg xs) (.agg ys) with
    | some r => some (.val (.pv (.bool e)), [r = e])
    | none => none
  | .neq, .pv (.agg xs), .pv (.agg ys), .t e => bif P.eqGuardType P.depth t then none else match eqB P 40 t (.agg xs) (.agg ys) with
    | some r => some (.val (.pv (.bool e)), [(!r) = e])
    | none => none
  | .quo, .pv (.int k x), .pv (.int l y), .r v => if k = l then some (.val (.pv v), [¬ y = 0, Value.int k (k.wrap (x.tdiv y)) = v]) else none
  | .rem, .pv (.int k x), .pv (.int l y), .r v => if k = l then some (.val (.pv v), [¬ y = 0, Value.int k (x.tmod y) = v]) else none
  | .shl, .pv (.int k x), .pv (.int _ y), .r v => some (.val (.pv v), [¬ y < 0, Value.int k (k.wrap (x * 2 ^ (min y.toNat k.bits))) = v])
  | .shr, .pv (.int k x), .pv (.int _ y), .r v => some (.val (.pv v), [¬ y < 0, Value.int k (x.fdiv (2 ^ (min y.toNat k.bits))) = v])
  | _, _, _, _ => generic P st o c
def bodied (P : Program) (f : FuncId) : Bool :=
  match P.funcs[f]? with
  | some fn => fn.body.isSome && !(fn.name == "runtime.NumGoroutine")
  | none => false
def opS (P : Program) (st : St) (o : Oper) (c : Ch) : Option (Out × List Prop) :=
  match o.op with
  | .move x => some (.val (st.ev x), [])
  | .assign x => some (.val (st.ev x), [])
  | .alloc t => match P.info? t with
    | some i => match i.zero with
      | some z => bif z.cells.toList.all Value.oneCell' then some (.new t (z.cells.toList.map .pv) none, []) else none
      | none => none
    | none => none
  | .box t x => bif (cellsOf (st.ev x)).all oneS then some (.new t (cellsOf (st.ev x)) none, []) else none
  | .buildSlice t len parts =>
    bif parts.toList.all fun p => (st.ev p.2).isV then
      match P.underlying t with
      | some (.slice e) => match P.info? e with
        | some i => match i.zero with
          | some z =>
            bif Nat.ble (len * i.size) 16777216 && !Nat.beq (len * i.size) 0 then
              match Instr.fill (fun j => some (j * i.size, i.size)) ((Array.range (len * i.size)).map (z.cells[· % z.cells.size]!)) (parts.toList.map fun p => (p.1, (st.ev p.2).raw)) with
              | some cs => bif cs.toList.all Value.oneCell' then some (.new e (cs.toList.map .pv) (some len), []) else none
              | none => none
            else none
          | none => none
        | none => none
      | _ => none
    else none
  | .load t x => match st.ev x with
    | .pp b q => match P.underlying t, P.info? t with
      | some d, some i => bif d.isRow then (match takeH st.hp b q i.size with
          | some l => some (.val (.pv (.agg l.toArray)), [])
          | none => none)
        else match lookH st.hp b q with
          | some s => some (.val s, [])
          | none => none
      | _, _ => none
    | _ => none
  | .store t x y => match st.ev x with
    | .pp b q => match P.info? t with
      | some i => bif Nat.beq (cellsOf (st.ev y)).length i.size && (cellsOf (st.ev y)).all oneS && haveH st.hp b q i.size then some (.sto b q (cellsOf (st.ev y)), []) else none
      | none => none
    | _ => none
  | .fieldAddr s x f => match st.ev x with
    | .pp b q => match P.underlying s with
      | some (.struct fs) => match fs[f]? with
        | some fd => match P.info? fd.type with
          | some i => bif Nat.beq i.size 0 then none else some (.val (.pp b (q + fd.offset)), [])
          | none => none
        | none => none
      | _ => none
    | _ => none
  | .indexAddr t x ix => match st.ev ix with
    | .pv (.int _ i) => match P.underlying t, st.ev x with
      | some (.array len e), .pp b q => match P.info? e with
        | some inf => if 0 ≤ i ∧ i < len then some (.val (.pp b (q + i.toNat * inf.size)), []) else none
        | none => none
      | some (.slice e), .ps b q len _ => match P.info? e with
        | some inf => if 0 ≤ i ∧ i < len then some (.val (.pp b (q + i.toNat * inf.size)), []) else none
        | none => none
      | _, _ => none
    | _ => none
  | .nilCheck x => match st.ev x with
    | .pp b q => some (.val (.pp b q), [])
    | .pc f cap => some (.val (.pc f cap), [])
    | _ => generic P st o c
  | .makeFunc fn first caps => match fn with
    | .func f => bif Nat.beq first.size 0 then (match allDown (caps.toList.map st.ev) with
        | some l => some (.val (.pc f l), [])
        | none => none) else none
    | _ => none
  | .binOp op t x y _ => binS P st o op t (st.ev x) (st.ev y) c
  | .call cl => match cl.callee with
    | .value f => match st.ev f with
      | .pv (.func (.func g) first cap) => bif bodied P g then some (.call g (first.toList.map .pv ++ cl.args.toList.map st.ev ++ cap.toList.map .pv), []) else generic P st o c
      | .pc g cap => bif bodied P g then some (.call g (cl.args.toList.map st.ev ++ cap.map S0.up), []) else none
      | _ => none
    | .builtin .len => match cl.args.toList.map st.ev, cl.argTypes[0]? with
      | [.ps _ _ len _], some t => match P.underlying t with
        | some (.slice _) => some (.val (.pv (goInt len)), [])
        | _ => none
      | _, _ => generic P st o c
    | _ => generic P st o c
  | _ => generic P st o c
end Go.Proofs.Ytjhkeinelbeekaa
