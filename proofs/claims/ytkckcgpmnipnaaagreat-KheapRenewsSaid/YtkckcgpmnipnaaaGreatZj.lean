/-
  Tables, handles and lists of numbers that came in; a call run on them. Conditions: none.
-/
import Derived.Test.YtkckcgpmnipnaaaGreatW17
import Derived.ProofKit
import Derived.OpenShut
import Derived.Lib.SmallJoins
import Derived.Deep.Slices
import Derived.Deep.Strs
import Derived.Deep.Fields
import Derived.Carry
import Derived.Test.YtkckcgpmnipnaaaGreatW16
namespace Go.Proofs.YtkckcgpmnipnaaaGreat
set_option maxRecDepth 100000
open Go.ChangeShapes Go.WideShapes Go.ChangeAt Go.RowKit Go.Joins Go.Deep
theorem qjZ:laidOutB Tryz.prog=true:=by kernel_rfl
theorem qGN:Tryz.prog.cellsOf 33=3:=by kernel_rfl
theorem qG2:Tryz.prog.cellsOf 30=1:=by kernel_rfl
theorem qGs:Tryz.prog.cellsOf 31=1:=by kernel_rfl
theorem qBC:Tryz.prog.cellsOf 3=1:=by kernel_rfl
theorem qJM:Tryz.prog.cellsOf 4=1:=by kernel_rfl
section
variable {H:Type} {enc:TypeId×Value→H} {W:World} {base:Nat} {spare:Nat→Bool} {held:Bool}
theorem qkZ {a:Addr} {len cap:Nat} {vs:List Value} (hl:vs.length=len) (hc:len≤cap) (h:∀ i v,vs[i]?=some v→W.cell? (a.add i)=some v):Rd W 1 (.slice (some a) len cap) len vs:=by
 refine⟨by omega,some a,cap,rfl,hc,fun j v hv=>?_⟩;have hj:=h j v hv
 have hpos:0<vs.length:=by have:=(List.getElem?_eq_some_iff.1 hv).1;omega
 have h0:=h 0 _ (List.getElem?_eq_getElem hpos);obtain⟨b,off,spot⟩:=a
 have hs:spot=none:=by simpa [Addr.add] using World.cell?_spot h0
 subst hs;exact⟨b,off,rfl,by rw[← Go.WideShapes.add_plain];exact hj⟩
theorem qeq {fuel:Nat} {cs:List Value} {x:DataW H×List MemPlace} (h:DataW.trod enc Tryz.prog W base spare held fuel 30 cs=some x) :
 ∃ (u:Value) (l:List Int),cs=[u]∧Rd W 1 u l.length (ziV l)∧∀ p∈l,(Lit.int .i64 p).wf=true:=by
 rcases open_slice1 Tryz.underlying30 qBC h with ⟨rfl,_⟩ | ⟨a,len,cap,m,n,V,D,Pl,rfl,_,hlc,_,hm,_,hi⟩
 ·exact⟨_,[],rfl,⟨rfl,none,0,rfl,Nat.le_refl _,fun j v hv=>by simp[ziV] at hv⟩,fun p hp=>by simp at hp⟩
 have hlm:len≤m:=by rw[hm];split<;>omega
 have each:∀ i,i<len→∃ p:Int,W.cell? (a.add i)=some (iV p)∧(Lit.int .i64 p).wf=true:=by
  intro i hil;obtain⟨hc,ht⟩:=hi i (by omega);obtain⟨p,e,_,w⟩:=DataW.trod_int Tryz.underlying3 ht;simp at e;exact⟨p,by rw[hc,e],w⟩
 obtain⟨f,hf⟩:=choose_lt (α:=Int) each;refine⟨_,(List.range len).map f,rfl,?_,fun p hp=>?_⟩
 ·have:=qkZ (W:=W) (a:=a) (len:=len) (cap:=cap) (vs:=ziV ((List.range len).map f)) (by simp[ziV]) hlc (fun i v hv=>by
   have hk:i<len:=by have:=(List.getElem?_eq_some_iff.1 hv).1;simpa [ziV] using this
   have e:v=iV (f i):=by simp[ziV,hk] at hv;exact hv.symm
   rw[e];exact (hf i hk).1)
  simpa using this
 ·obtain⟨i,hi',rfl⟩:=List.mem_map.1 hp;exact (hf i (List.mem_range.1 hi')).2
theorem qjL {fuel:Nat} {cs:List Value} {x:DataW H×List MemPlace} (h:DataW.trod enc Tryz.prog W base spare held fuel 31 cs=some x) :
 ∃ (u:Value) (l:List Bool),cs=[u]∧Rd W 1 u l.length (zbV l):=by
 rcases open_slice1 Tryz.underlying31 qJM h with ⟨rfl,_⟩ | ⟨a,len,cap,m,n,V,D,Pl,rfl,_,hlc,_,hm,_,hi⟩
 ·exact⟨_,[],rfl,⟨rfl,none,0,rfl,Nat.le_refl _,fun j v hv=>by simp[zbV] at hv⟩⟩
 have hlm:len≤m:=by rw[hm];split<;>omega
 have each:∀ i,i<len→∃ p:Bool,W.cell? (a.add i)=some (.bool p):=by
  intro i hil;obtain⟨hc,ht⟩:=hi i (by omega);obtain⟨p,e,_⟩:=DataW.trod_bool Tryz.underlying4 ht;simp at e;exact⟨p,by rw[hc,e]⟩
 obtain⟨f,hf⟩:=choose_lt (α:=Bool) each;refine⟨_,(List.range len).map f,rfl,?_⟩
 have:=qkZ (W:=W) (a:=a) (len:=len) (cap:=cap) (vs:=zbV ((List.range len).map f)) (by simp[zbV]) hlc (fun i v hv=>by
  have hk:i<len:=by have:=(List.getElem?_eq_some_iff.1 hv).1;simpa [zbV] using this
  have e:v=.bool (f i):=by simp[zbV,hk] at hv;exact hv.symm
  rw[e];exact hf i hk)
 simpa using this
end
theorem qh5 {H:Type} {enc:TypeId×Value→H} {P:Program} {f:Func} {s:ChangeSpec} {apart fresh handsOn again:Bool} {W W':World} {args:Array Value} {v:Value} {ds gs:List (DataW H)} {before pa pv:List MemPlace}
 (hW:DataW.Whole enc P f.params.toList s.vars apart W args.toList ds gs before)
 (hres:∀ (b:Nat) (sp:Nat→Bool) (hd:Bool),DataW.TrodAll enc P W' b sp hd f.resultTypes.toList (v.resultList f.resultTypes.size) (s.fn H (ds++gs)).results [])
 (hargs:∀ sp:Nat→Bool,(∀ p∈before,sp p.block=true)→DataW.TrodAll enc P W' 0 sp true f.params.toList args.toList (s.fn H (ds++gs)).args pa)
 (hvars:∀ sp:Nat→Bool,(∀ p∈before,sp p.block=true)→DataW.TrodVars enc P W' sp s.vars (s.fn H (ds++gs)).vars pv)
 (hps:before=pa++pv) (hg:Gr W W')
 (hok:∀ (j:Nat) (t:TypeId) (r:Value),f.resultTypes[j]?=some t→(v.resultList f.resultTypes.size)[j]?=some r→Value.okWide P W' .any 0 t r) :
 s.post enc P f apart fresh handsOn again W args v W':=by
 have lt:∀ x∈before,x.block<W.heap.size:=hW.lt
 have hold:∀ x∈before,(fun b=>decide (b<W.heap.size)) x.block=true:=fun x hx=>decide_eq_true (lt x hx)
 have all:∀ x∈before,(fun _:Nat=>true) x.block=true:=fun _ _=>rfl
 refine⟨ds,gs,before,[],pa,pv,hW,hres _ _ _,hargs _ hold,hvars _ hold,World.keptBut_mono (fun x hx=>⟨hx,?_⟩) (hg.1.frame (·∈before)),fun _=>⟨hok,_,_,([]++pa)++pv,⟨[]++pa,pv,trodAll_append (hargs _ all) (hres _ _ _),hvars _ all,rfl,?_,?_⟩,?_⟩⟩
 ·rw[hps] at hx;exact Or.inr (List.mem_append.1 hx)
 ·obtain⟨_,_,_,_,_,hz,_⟩:=hW;intro b off hp;have hm:=hp;rw[List.nil_append,← hps] at hm;have:=lt _ hm;rw[hg.2.1 _ this];exact hz b off hm
 ·obtain⟨_,_,_,_,_,_,hn⟩:=hW;intro ha;rw[List.nil_append,← hps];exact hn ha
 ·intro x hx _;rw[List.nil_append,← hps] at hx;exact hx
def qiD:Nat→List (TypeId×Nat×Nat×List Value)→List (Nat×Nat×SV)
 | _,[]=>[]
 | j,(e,es,n,xs)::r=>(j,0,.row e es n xs)::qiD (j+1) r
theorem qcs:∀ (rs:List (TypeId×Nat×Nat×List Value)) (j b o:Nat) (sv:SV),qaj (qiD j rs) b o=some sv→∃ k e es n xs,b=j+k∧rs[k]?=some (e,es,n,xs)∧sv=.row e es n xs
 | [],j,b,o,sv,h=>by cases h
 | (e,es,n,xs)::r,j,b,o,sv,h=>by
  simp only[qiD,qaj] at h;cases hc:(Nat.beq j b&&Nat.beq 0 o)
  ·rw[hc,cond_false] at h;obtain⟨k,e',es',n',xs',h1,h2,h3⟩:=qcs r (j+1) b o sv h;exact⟨k+1,e',es',n',xs',by omega,by simpa using h2,h3⟩
  ·rw[hc,cond_true] at h;rw[Bool.and_eq_true] at hc;have:=Nat.eq_of_beq_eq_true hc.1;cases h;exact⟨0,e,es,n,xs,by omega,rfl,rfl⟩
def qsp (us:List Value):Bl:=⟨fun _=>none,fun b=>us[b]?⟩
inductive ZIns (W:World):List Value→List (TypeId×Nat×Nat×List Value)→Prop where
 | nil:ZIns W [] []
 | cons {u:Value} {us:List Value} {e:TypeId} {es n:Nat} {xs:List Value} {rs:List (TypeId×Nat×Nat×List Value)} (h:Rd W es u n xs) (h1:∀ v∈xs,v.oneCell'=true) (r:ZIns W us rs):ZIns W (u::us) ((e,es,n,xs)::rs)
theorem ZIns.get {W:World} {us:List Value} {rs:List (TypeId×Nat×Nat×List Value)} (h:ZIns W us rs):∀ (k:Nat) (e:TypeId) (es n:Nat) (xs:List Value),rs[k]?=some (e,es,n,xs)→∃ u,us[k]?=some u∧Rd W es u n xs∧∀ v∈xs,v.oneCell'=true:=by
 induction h with
 | nil=>intro k e es n xs h;simp at h
 | cons h h1 r ih=>
  intro k e es n xs hk
  cases k with
  | zero=>cases hk;exact⟨_,rfl,h,h1⟩
  | succ k=>exact ih k e es n xs (by simpa using hk)
theorem ZIns.len {W:World} {us:List Value} {rs:List (TypeId×Nat×Nat×List Value)} (h:ZIns W us rs):us.length=rs.length:=by
 induction h with
 | nil=>rfl
 | cons _ _ _ ih=>simp[ih]
theorem qsF {W:World} {us:List Value} {rs:List (TypeId×Nat×Nat×List Value)} (h:ZIns W us rs):HRel W rs.length (qsp us) (qiD 0 rs) W where
 gr:=Gr.refl W
 live:=fun b r h=>by cases h
 inj:=fun b c r h=>by cases h
 new:=fun b r _ h=>by cases h
 sep:=fun b r h=>by cases h
 cells:=fun b o sv hl hs=>by
  obtain⟨k,e,es,n,xs,_,_,rfl⟩:=qcs rs 0 b o sv hl;cases hs
 rows:=fun b o e es n xs hl=>by
  obtain⟨k,e',es',n',xs',hb,hk,he⟩:=qcs rs 0 b o _ hl;cases he;obtain⟨u,h1,h2,h3⟩:=h.get k e es n xs hk;have hlt:k<rs.length:=(List.getElem?_eq_some_iff.1 hk).1
  have e0:b=k:=by omega
  subst e0;exact⟨u,h1,h2,h3,fun _ hx=>h2.lt hx,fun h=>by omega,fun h=>by omega⟩
 rinj:=fun b o e es n xs c o' e' es' n' xs' u v hl hl' h1 h2=>by
  obtain⟨k,_,_,_,_,hb,hk,_⟩:=qcs rs 0 b o _ hl;have hlt:k<rs.length:=(List.getElem?_eq_some_iff.1 hk).1;omega
 maps:=fun b o xs hl=>by
  obtain⟨k,_,_,_,_,_,_,he⟩:=qcs rs 0 b o _ hl;cases he
theorem qrT {W:World} {us:List Value} {rs:List (TypeId×Nat×Nat×List Value)} (h:ZIns W us rs):(qsp us).dom rs.length:=fun b hb=>⟨rfl,List.getElem?_eq_none (by rw[h.len];exact hb)⟩
theorem qqk {W:World} {f:FuncId} {us:List Value} {rs:List (TypeId×Nat×Nat×List Value)} {args:List SV} {vs:List Value} (h:Fn f rs.length args (qiD 0 rs) (.pv (.bool true)) 0 []) (hr:ZIns W us rs) (ha:SV.isl (qsp us) args vs) :
 Calls Tryz.prog f vs.toArray W fun e W'=>e=.returned (.bool true)∧Gr W W':=by
 refine (h W (qsp us) vs (qsF hr) (qrT hr) ha).mono fun e W' ⟨v,β',he,_,hx,hh,_⟩=>?_
 cases hx;exact⟨he,hh.gr⟩
end Go.Proofs.YtkckcgpmnipnaaaGreat
