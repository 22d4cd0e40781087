/-
  Tables, handles and lists of numbers that came in; a call run on them. Conditions: none.
-/
import Derived.Test.YtleaeldgaflmkaaGreatW28
import Derived.ProofKit
import Derived.OpenShut
import Derived.Lib.SmallJoins
import Derived.Deep.Slices
import Derived.Deep.Strs
import Derived.Deep.Fields
import Derived.Carry
import Derived.Test.YtleaeldgaflmkaaGreatW25
namespace Go.Proofs.YtleaeldgaflmkaaGreat
set_option maxRecDepth 100000
open Go.ChangeShapes Go.WideShapes Go.ChangeAt Go.RowKit Go.Joins Go.Deep
section
variable {H:Type} {enc:TypeId×Value→H} {W:World} {base:Nat} {spare:Nat→Bool} {held:Bool}
end
theorem qhI {H:Type} {enc:TypeId×Value→H} {P:Program} {f:Func} {s:ChangeSpec} {apart fresh handsOn again:Bool} {W W':World} {args:Array Value} {v:Value} {ds gs:List (DataW H)} {before pa pv:List MemPlace}
 (hW:DataW.Whole enc P f.params.toList s.vars apart W args.toList ds gs before)
 (hres:∀ (b:Nat) (sp:Nat→Bool) (hd:Bool),DataW.TrodAll enc P W' b sp hd f.resultTypes.toList (v.resultList f.resultTypes.size) (s.fn H (ds++gs)).results [])
 (hargs:∀ sp:Nat→Bool,(∀ p∈before,sp p.block=true)→DataW.TrodAll enc P W' 0 sp true f.params.toList args.toList (s.fn H (ds++gs)).args pa)
 (hvars:∀ sp:Nat→Bool,(∀ p∈before,sp p.block=true)→DataW.TrodVars enc P W' sp s.vars (s.fn H (ds++gs)).vars pv)
 (hps:before=pa++pv) (hg:Gr W W')
 (hok:∀ (j:Nat) (t:TypeId) (r:Value),f.resultTypes[j]?=some t→(v.resultList f.resultTypes.size)[j]?=some r→Value.okWide P W' .any 0 t r) :
 s.post enc P f apart fresh handsOn again W args v W':=by
 have lt:∀ x∈before,x.block<W.heap.size:=hW.lt
 have hold:∀ x∈before,(fun b=>decide (b<W.heap.size)) x.block=true:=fun x hx=>decide_eq_true (lt x hx)
 have all:∀ x∈before,(fun _:Nat=>true) x.block=true:=fun _ _=>rfl
 refine⟨ds,gs,before,[],pa,pv,hW,hres _ _ _,hargs _ hold,hvars _ hold,World.keptBut_mono (fun x hx=>⟨hx,?_⟩) (hg.1.frame (·∈before)),fun _=>⟨hok,_,_,([]++pa)++pv,⟨[]++pa,pv,trodAll_append (hargs _ all) (hres _ _ _),hvars _ all,rfl,?_,?_⟩,?_⟩⟩
 ·rw[hps] at hx;exact Or.inr (List.mem_append.1 hx)
 ·obtain⟨_,_,_,_,_,hz,_⟩:=hW
  intro b off hp
  have hm:=hp
  rw[List.nil_append,← hps] at hm
  have:=lt _ hm
  rw[hg.2.1 _ this]
  exact hz b off hm
 ·obtain⟨_,_,_,_,_,_,hn⟩:=hW
  intro ha
  rw[List.nil_append,← hps]
  exact hn ha
 ·intro x hx _
  rw[List.nil_append,← hps] at hx
  exact hx
inductive ZIns (W:World):List Value→List (TypeId×Nat×Nat×List Value)→Prop where
 | nil:ZIns W [] []
 | cons {u:Value} {us:List Value} {e:TypeId} {es n:Nat} {xs:List Value} {rs:List (TypeId×Nat×Nat×List Value)} (h:Rd W es u n xs) (h1:∀ v∈xs,v.oneCell'=true) (r:ZIns W us rs):ZIns W (u::us) ((e,es,n,xs)::rs)
theorem ZIns.get {W:World} {us:List Value} {rs:List (TypeId×Nat×Nat×List Value)} (h:ZIns W us rs):∀ (k:Nat) (e:TypeId) (es n:Nat) (xs:List Value),rs[k]?=some (e,es,n,xs)→∃ u,us[k]?=some u∧Rd W es u n xs∧∀ v∈xs,v.oneCell'=true:=by
 induction h with
 | nil=>intro k e es n xs h;simp at h
 | cons h h1 r ih=>
  intro k e es n xs hk
  cases k with
  | zero=>cases hk;exact⟨_,rfl,h,h1⟩
  | succ k=>exact ih k e es n xs (by simpa using hk)
theorem ZIns.len {W:World} {us:List Value} {rs:List (TypeId×Nat×Nat×List Value)} (h:ZIns W us rs):us.length=rs.length:=by
 induction h with
 | nil=>rfl
 | cons _ _ _ ih=>simp[ih]
end Go.Proofs.YtleaeldgaflmkaaGreat
