/-
  A region that draws its order and only reads, with callees that make new blocks at most: one walk of the text's order serves.
-/
import Derived.Test.YtjhkeinelbeekaaG
namespace Go.Proofs.Ytjhkeinelbeekaa
open Go.RowKit

/-- A world that has at most new blocks over W. -/
structure Ext (W : World) where
  of : World
  gr : Gr W of
instance (W : World) : Nonempty (Ext W) := ⟨⟨W, Gr.refl W⟩⟩
def ext (W : World) (x : Ext W) : World := x.of
theorem wp_region_gr {P : Program} {id : Nat} {Q : Exit → Act → World → Prop} {a : Act} {w : World} {l : List Oper} (hm : P.follows .mixedOrders = true) (hB : Region.lexB .any l.toArray = true)
    (h : wpQuiet P l.toArray (fun w' => ∃ x, w' = ext w x) (fun a' => ∀ w', (∃ x, w' = ext w x) → Q .normal a' w') l a) : (Code.region id l.toArray true).wp P Q a w :=
  wp_region_quiet (C := fun w' => ∃ x, w' = ext w x) hm hB ⟨⟨_, (Gr.refl w).drew⟩, rfl⟩ (by simpa using h)
theorem calls_ext {P : Program} {f : FuncId} {args : Array Value} {W : World} {x : Ext W} {v : Value}
    (h : Calls P f args (ext W x) fun e w' => e = .returned v ∧ Gr (ext W x) w') : Calls P f args (ext W x) fun e w'' => e = .returned v ∧ ∃ y, w'' = ext W y :=
  h.mono fun _ w' ⟨he, hg⟩ => ⟨he, ⟨w', x.gr.trans hg⟩, rfl⟩
theorem calls_ext_same {P : Program} {f : FuncId} {args : Array Value} {W : World} {x : Ext W} {v : Value}
    (h : Calls P f args (ext W x) fun e w' => e = .returned v ∧ ext W x = w') : Calls P f args (ext W x) fun e w'' => e = .returned v ∧ ∃ y, w'' = ext W y :=
  h.mono fun _ _ ⟨he, hg⟩ => ⟨he, x, hg.symm⟩
theorem ext_cell {W : World} (x : Ext W) (b o : Nat) (hb : b < W.heap.size) : (ext W x).cell? ⟨b, o, none⟩ = W.cell? ⟨b, o, none⟩ := x.gr.cell b o hb
theorem lt_of_cell {w : World} {b o : Nat} {v : Value} (h : w.cell? ⟨b, o, none⟩ = some v) : b < w.heap.size := by
  apply Nat.lt_of_not_le
  intro hb
  simp [World.cell?, Array.getElem?_eq_none hb] at h
theorem ext_cell_some {W : World} {b o : Nat} {v : Value} (h : W.cell? ⟨b, o, none⟩ = some v) : ∀ x, (ext W x).cell? ⟨b, o, none⟩ = some v := fun x => (ext_cell x b o (lt_of_cell h)).trans h
end Go.Proofs.Ytjhkeinelbeekaa
