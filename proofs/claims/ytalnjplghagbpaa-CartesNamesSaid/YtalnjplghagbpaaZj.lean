/-
  Tables, handles and lists of numbers that came in; a call run on them. Conditions: none.
-/
import Derived.Test.YtalnjplghagbpaaW23
import Derived.ProofKit
import Derived.OpenShut
import Derived.Lib.SmallJoins
import Derived.Deep.Slices
import Derived.Deep.Strs
import Derived.Deep.Fields
import Derived.Carry
import Derived.Test.YtalnjplghagbpaaW19
namespace Go.Proofs.Ytalnjplghagbpaa
set_option maxRecDepth 100000
open Go.ChangeShapes Go.WideShapes Go.ChangeAt Go.RowKit Go.Joins Go.Deep
section
variable {H:Type} {enc:TypeId×Value→H} {W:World} {base:Nat} {spare:Nat→Bool} {held:Bool}
end
theorem qf4 {H:Type} {enc:TypeId×Value→H} {P:Program} {f:Func} {s:ChangeSpec} {apart fresh handsOn again:Bool} {W W':World} {args:Array Value} {v:Value} {ds gs:List (DataW H)} {before pa pv:List MemPlace}
 (hW:DataW.Whole enc P f.params.toList s.vars apart W args.toList ds gs before)
 (hres:∀ (b:Nat) (sp:Nat→Bool) (hd:Bool),DataW.TrodAll enc P W' b sp hd f.resultTypes.toList (v.resultList f.resultTypes.size) (s.fn H (ds++gs)).results [])
 (hargs:∀ sp:Nat→Bool,(∀ p∈before,sp p.block=true)→DataW.TrodAll enc P W' 0 sp true f.params.toList args.toList (s.fn H (ds++gs)).args pa)
 (hvars:∀ sp:Nat→Bool,(∀ p∈before,sp p.block=true)→DataW.TrodVars enc P W' sp s.vars (s.fn H (ds++gs)).vars pv)
 (hps:before=pa++pv) (hg:Gr W W')
 (hok:∀ (j:Nat) (t:TypeId) (r:Value),f.resultTypes[j]?=some t→(v.resultList f.resultTypes.size)[j]?=some r→Value.okWide P W' .any 0 t r) :
 s.post enc P f apart fresh handsOn again W args v W':=by
 have lt:∀ x∈before,x.block<W.heap.size:=hW.lt
 have hold:∀ x∈before,(fun b=>decide (b<W.heap.size)) x.block=true:=fun x hx=>decide_eq_true (lt x hx)
 have all:∀ x∈before,(fun _:Nat=>true) x.block=true:=fun _ _=>rfl
 refine⟨ds,gs,before,[],pa,pv,hW,hres _ _ _,hargs _ hold,hvars _ hold,World.keptBut_mono (fun x hx=>⟨hx,?_⟩) (hg.1.frame (·∈before)),fun _=>⟨hok,_,_,([]++pa)++pv,⟨[]++pa,pv,trodAll_append (hargs _ all) (hres _ _ _),hvars _ all,rfl,?_,?_⟩,?_⟩⟩
 ·rw[hps] at hx;exact Or.inr (List.mem_append.1 hx)
 ·obtain⟨_,_,_,_,_,hz,_⟩:=hW
  intro b off hp
  have hm:=hp
  rw[List.nil_append,← hps] at hm
  have:=lt _ hm
  rw[hg.2.1 _ this]
  exact hz b off hm
 ·obtain⟨_,_,_,_,_,_,hn⟩:=hW
  intro ha
  rw[List.nil_append,← hps]
  exact hn ha
 ·intro x hx _
  rw[List.nil_append,← hps] at hx
  exact hx
def qf9:Nat→List (TypeId×Nat×Nat×List Value)→List (Nat×Nat×SV)
 | _,[]=>[]
 | j,(e,es,n,xs)::r=>(j,0,.row e es n xs)::qf9 (j+1) r
theorem qbG:∀ (rs:List (TypeId×Nat×Nat×List Value)) (j b o:Nat) (sv:SV),qad (qf9 j rs) b o=some sv→∃ k e es n xs,b=j+k∧rs[k]?=some (e,es,n,xs)∧sv=.row e es n xs
 | [],j,b,o,sv,h=>by cases h
 | (e,es,n,xs)::r,j,b,o,sv,h=>by
  simp only[qf9,qad] at h
  cases hc:(Nat.beq j b&&Nat.beq 0 o)
  ·rw[hc,cond_false] at h
   obtain⟨k,e',es',n',xs',h1,h2,h3⟩:=qbG r (j+1) b o sv h
   exact⟨k+1,e',es',n',xs',by omega,by simpa using h2,h3⟩
  ·rw[hc,cond_true] at h
   rw[Bool.and_eq_true] at hc
   have:=Nat.eq_of_beq_eq_true hc.1
   cases h
   exact⟨0,e,es,n,xs,by omega,rfl,rfl⟩
def qkO (us:List Value):Bl:=⟨fun _=>none,fun b=>us[b]?⟩
inductive ZIns (W:World):List Value→List (TypeId×Nat×Nat×List Value)→Prop where
 | nil:ZIns W [] []
 | cons {u:Value} {us:List Value} {e:TypeId} {es n:Nat} {xs:List Value} {rs:List (TypeId×Nat×Nat×List Value)} (h:Rd W es u n xs) (h1:∀ v∈xs,v.oneCell'=true) (r:ZIns W us rs):ZIns W (u::us) ((e,es,n,xs)::rs)
theorem ZIns.get {W:World} {us:List Value} {rs:List (TypeId×Nat×Nat×List Value)} (h:ZIns W us rs):∀ (k:Nat) (e:TypeId) (es n:Nat) (xs:List Value),rs[k]?=some (e,es,n,xs)→∃ u,us[k]?=some u∧Rd W es u n xs∧∀ v∈xs,v.oneCell'=true:=by
 induction h with
 | nil=>intro k e es n xs h;simp at h
 | cons h h1 r ih=>
  intro k e es n xs hk
  cases k with
  | zero=>cases hk;exact⟨_,rfl,h,h1⟩
  | succ k=>exact ih k e es n xs (by simpa using hk)
theorem ZIns.len {W:World} {us:List Value} {rs:List (TypeId×Nat×Nat×List Value)} (h:ZIns W us rs):us.length=rs.length:=by
 induction h with
 | nil=>rfl
 | cons _ _ _ ih=>simp[ih]
theorem qmX {W:World} {us:List Value} {rs:List (TypeId×Nat×Nat×List Value)} (h:ZIns W us rs):HRel W rs.length (qkO us) (qf9 0 rs) W where
 gr:=Gr.refl W
 live:=fun b r h=>by cases h
 inj:=fun b c r h=>by cases h
 new:=fun b r _ h=>by cases h
 sep:=fun b r h=>by cases h
 cells:=fun b o sv hl hs=>by
  obtain⟨k,e,es,n,xs,_,_,rfl⟩:=qbG rs 0 b o sv hl
  cases hs
 rows:=fun b o e es n xs hl=>by
  obtain⟨k,e',es',n',xs',hb,hk,he⟩:=qbG rs 0 b o _ hl
  cases he
  obtain⟨u,h1,h2,h3⟩:=h.get k e es n xs hk
  have hlt:k<rs.length:=(List.getElem?_eq_some_iff.1 hk).1
  have e0:b=k:=by omega
  subst e0
  exact⟨u,h1,h2,h3,fun _ hx=>h2.lt hx,fun h=>by omega,fun h=>by omega⟩
 rinj:=fun b o e es n xs c o' e' es' n' xs' u v hl hl' h1 h2=>by
  obtain⟨k,_,_,_,_,hb,hk,_⟩:=qbG rs 0 b o _ hl
  have hlt:k<rs.length:=(List.getElem?_eq_some_iff.1 hk).1
  omega
 maps:=fun b o xs hl=>by
  obtain⟨k,_,_,_,_,_,_,he⟩:=qbG rs 0 b o _ hl
  cases he
theorem ql3 {W:World} {us:List Value} {rs:List (TypeId×Nat×Nat×List Value)} (h:ZIns W us rs):(qkO us).dom rs.length:=fun b hb=>⟨rfl,List.getElem?_eq_none (by rw[h.len];exact hb)⟩
theorem Rd.zsl {W:World} {es n:Nat} {u:Value} {xs:List Value} (h:Rd W es u n xs):∃ a c,u=.slice a n c:=by
 obtain⟨_,a,c,e,_⟩:=h
 exact⟨a,c,e⟩
theorem qq0 {W:World} {u0 u1 u2:Value} {lu lf:List Int} {lb:List Bool} {us:List Value} (h0:Rd W 1 u0 lu.length (ziV lu)) (h1:Rd W 1 u1 lb.length (zbV lb)) (h2:Rd W 1 u2 lf.length (ziV lf)):SV.is (qkO (u0::u1::u2::us)) (.ag [.ls 0 lu.length,.ls 1 lb.length,.ls 2 lf.length]) (.agg #[u0,u1,u2]):=
 ⟨[u0,u1,u2],⟨⟨rfl,h0.zsl⟩,⟨rfl,h1.zsl⟩,⟨rfl,h2.zsl⟩,tI⟩,rfl⟩
end Go.Proofs.Ytalnjplghagbpaa
