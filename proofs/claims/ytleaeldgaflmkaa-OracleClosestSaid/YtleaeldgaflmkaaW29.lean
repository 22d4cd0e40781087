/-
  Joined: Fq, Vo. Conditions: none.
-/
import Derived.Test.YtleaeldgaflmkaaW26
import Derived.ProofKit
import Derived.OpenShut
import Derived.Lib.SmallJoins
import Derived.Deep.Slices
import Derived.Deep.Strs
import Derived.Deep.Fields
import Derived.Carry
import Derived.Test.YtleaeldgaflmkaaSxQ
import Derived.Test.YtleaeldgaflmkaaW28
import Derived.Test.YtleaeldgaflmkaaW27
namespace Go.Proofs.Ytleaeldgaflmkaa
set_option maxRecDepth 100000
open Go.ChangeShapes Go.WideShapes Go.ChangeAt Go.RowKit Go.Joins Go.Deep
theorem qjF:laidOutB Try.prog=true:=by kernel_rfl
theorem qhX:Try.prog.cellsOf 24=1:=by kernel_rfl
theorem qmJ:Try.prog.cellsOf 22=1:=by kernel_rfl
theorem qmt:Try.prog.cellsOf 46=3:=by kernel_rfl
theorem qll:Try.prog.cellsOf 3=1:=by kernel_rfl
theorem qlO:Try.prog.cellsOf 2=1:=by kernel_rfl
theorem qjl:Try.prog.readableRec 24=true:=by kernel_rfl
theorem qlK:24<Try.prog.types.size:=of_decide_eq_true (by kernel_rfl)
section
variable {H:Type} {enc:TypeId×Value→H} {W:World} {base:Nat} {spare:Nat→Bool} {held:Bool}
theorem qme (f:Nat→Pt):∀ (n j:Nat) (v:Value),(qdY ((List.range n).map f))[j]?=some v→j/3<n∧[iV (f (j/3)).id,iV (f (j/3)).a,iV (f (j/3)).b][j%3]?=some v:=by
 intro n j v h
 have hj:j<n*3:=by
  have:=(List.getElem?_eq_some_iff.1 h).1
  rw[qci] at this
  simpa using this
 have hk:j/3<n:=by omega
 have hg:=qdk (l:=(List.range n).map f) (k:=j/3) (p:=f (j/3)) (by simp[hk])
 refine⟨hk,?_⟩
 have h3:j%3=0∨j%3=1∨j%3=2:=by omega
 have e:j=j/3*3+j%3:=by omega
 rw[e] at h
 rcases h3 with e3 | e3 | e3<;>rw[e3] at h ⊢
 ·rw[Nat.add_zero,hg.1] at h;exact h
 ·rw[hg.2.1] at h;exact h
 ·rw[hg.2.2] at h;exact h
theorem qkf {fuel:Nat} {cs:List Value} {x:DataW H×List MemPlace} (h:DataW.trod enc Try.prog W base spare held fuel 22 cs=some x) :
 ∃ (u:Value) (l:List Pt),cs=[u]∧Rd W 3 u l.length (qdY l)∧∀ p∈l,((Lit.int .i64 p.id).wf=true∧(Lit.int .i64 p.a).wf=true∧(Lit.int .i64 p.b).wf=true):=by
 rcases open_slice Try.underlying22 h with ⟨rfl,_⟩ | ⟨a,len,cap,m,n,D,Pl,rfl,_,hlc,_,hm,_,hi⟩
 ·exact⟨_,[],rfl,⟨rfl,none,0,rfl,Nat.le_refl _,fun j v hv=>by simp[qdY] at hv⟩,fun p hp=>by simp at hp⟩
 have hlm:len≤m:=by rw[hm];split<;>omega
 have each:∀ i,i<len→∃ p:Pt,W.cell? (a.add (i*3))=some (iV p.id)∧W.cell? (a.add (i*3+1))=some (iV p.a)∧W.cell? (a.add (i*3+2))=some (iV p.b)∧
  ((Lit.int .i64 p.id).wf=true∧(Lit.int .i64 p.a).wf=true∧(Lit.int .i64 p.b).wf=true):=by
  intro i hil
  obtain⟨cs',hc,ht⟩:=hi i (by omega)
  rw[qmt] at hc
  obtain⟨y0,y1,y2,n',_,hlen,t0,t1,t2⟩:=trod_struct3 Try.underlying46 ht
  obtain⟨_,hcl,hat⟩:=World.cells?_some hc
  match cs',hcl with
  | [c0,c1,c2],_=>
   obtain⟨pi,e0,_,w0⟩:=DataW.trod_int Try.underlying3 t0
   obtain⟨pa,e1,_,w1⟩:=DataW.trod_int Try.underlying2 t1
   obtain⟨pb,e2,_,w2⟩:=DataW.trod_int Try.underlying2 t2
   simp[qll,qlO] at e0 e1 e2
   refine⟨⟨pi,pa,pb⟩,?_,?_,?_,w0,w1,w2⟩
   ·have:=hat 0 (by omega);rw[add_add] at this;simpa [e0] using this
   ·have:=hat 1 (by omega);rw[add_add] at this;simpa [e1] using this
   ·have:=hat 2 (by omega);rw[add_add] at this;simpa [e2] using this
 haveI:Inhabited Pt:=⟨⟨0,0,0⟩⟩
 obtain⟨f,hf⟩:=choose_lt (α:=Pt) each
 refine⟨_,(List.range len).map f,rfl,⟨qci _,some a,cap,by simp,by simpa using hlc,fun j v hv=>?_⟩,fun p hp=>?_⟩
 ·obtain⟨hk,he⟩:=qme f len j v hv
  obtain⟨c0,c1,c2,_⟩:=hf _ hk
  have hcell:W.cell? (a.add j)=some v:=by
   have h3:j%3=0∨j%3=1∨j%3=2:=by omega
   have e:j=j/3*3+j%3:=by omega
   rcases h3 with e3 | e3 | e3<;>rw[e3] at he e<;>rw[e]<;>simp at he<;>subst he
   ·exact c0
   ·exact c1
   ·exact c2
  obtain⟨b,off,spot⟩:=a
  have hs:spot=none:=by simpa [Addr.add] using World.cell?_spot (hf 0 (by omega)).1
  subst hs
  exact⟨b,off,rfl,by rw[← Go.WideShapes.add_plain];exact hcell⟩
 ·obtain⟨i,hi',rfl⟩:=List.mem_map.1 hp
  exact (hf i (List.mem_range.1 hi')).2.2.2
theorem qi4 {r:Reach} {b0:Nat} {v:Value} {d:DataW H} {p:List MemPlace} (hv:Value.okWide Try.prog W r b0 24 v) (h:DataW.Trod enc Try.prog W base spare held 24 v d p) :
 ∃ (u:Value) (l:List Pt),v=.agg #[u]∧Rd W 3 u l.length (qdY l)∧∀ p∈l,((Lit.int .i64 p.id).wf=true∧(Lit.int .i64 p.a).wf=true∧(Lit.int .i64 p.b).wf=true):=by
 obtain⟨cs,rfl,hsz⟩:=okWide_struct Try.underlying24 hv
 obtain⟨fuel,hf⟩:=h
 obtain⟨y0,n,_,hlen,h0⟩:=trod_struct1 Try.underlying24 hf
 obtain⟨u,l,hc,hr,hb⟩:=qkf h0
 refine⟨u,l,?_,hr,hb⟩
 rw[qmJ] at hc
 have h1:cs.size=1:=hsz.trans qhX
 obtain⟨c0,rfl⟩:∃ c0,cs=#[c0]:=by
  obtain⟨L⟩:=cs
  match L,h1 with
  | [c0],_=>exact⟨c0,rfl⟩
 simp[Value.cells] at hc
 rw[hc]
end
theorem qfk {H:Type} {enc:TypeId×Value→H} {P:Program} {f:Func} {s:ChangeSpec} {apart fresh handsOn again:Bool} {W W':World} {args:Array Value} {v:Value} {ds gs:List (DataW H)} {before pa pv:List MemPlace}
 (hW:DataW.Whole enc P f.params.toList s.vars apart W args.toList ds gs before)
 (hres:∀ (b:Nat) (sp:Nat→Bool) (hd:Bool),DataW.TrodAll enc P W' b sp hd f.resultTypes.toList (v.resultList f.resultTypes.size) (s.fn H (ds++gs)).results [])
 (hargs:∀ sp:Nat→Bool,(∀ p∈before,sp p.block=true)→DataW.TrodAll enc P W' 0 sp true f.params.toList args.toList (s.fn H (ds++gs)).args pa)
 (hvars:∀ sp:Nat→Bool,(∀ p∈before,sp p.block=true)→DataW.TrodVars enc P W' sp s.vars (s.fn H (ds++gs)).vars pv)
 (hps:before=pa++pv) (hg:Gr W W')
 (hok:∀ (j:Nat) (t:TypeId) (r:Value),f.resultTypes[j]?=some t→(v.resultList f.resultTypes.size)[j]?=some r→Value.okWide P W' .any 0 t r) :
 s.post enc P f apart fresh handsOn again W args v W':=by
 have lt:∀ x∈before,x.block<W.heap.size:=hW.lt
 have hold:∀ x∈before,(fun b=>decide (b<W.heap.size)) x.block=true:=fun x hx=>decide_eq_true (lt x hx)
 have all:∀ x∈before,(fun _:Nat=>true) x.block=true:=fun _ _=>rfl
 refine⟨ds,gs,before,[],pa,pv,hW,hres _ _ _,hargs _ hold,hvars _ hold,World.keptBut_mono (fun x hx=>⟨hx,?_⟩) (hg.1.frame (·∈before)),fun _=>⟨hok,_,_,([]++pa)++pv,⟨[]++pa,pv,trodAll_append (hargs _ all) (hres _ _ _),hvars _ all,rfl,?_,?_⟩,?_⟩⟩
 ·rw[hps] at hx;exact Or.inr (List.mem_append.1 hx)
 ·obtain⟨_,_,_,_,_,hz,_⟩:=hW
  intro b off hp
  have hm:=hp
  rw[List.nil_append,← hps] at hm
  have:=lt _ hm
  rw[hg.2.1 _ this]
  exact hz b off hm
 ·obtain⟨_,_,_,_,_,_,hn⟩:=hW
  intro ha
  rw[List.nil_append,← hps]
  exact hn ha
 ·intro x hx _
  rw[List.nil_append,← hps] at hx
  exact hx
def inB (u:Value):Bl:=⟨fun _=>none,fun b=>if b=0 then some u else none,fun _=>none,fun _=>False⟩
theorem qiz:∀ (l:List Pt) (v:Value),v∈qdY l→v.oneCell'=true
 | [],_,h=>by simp[qdY] at h
 | p::r,v,h=>by
  simp only[qdY,List.mem_cons] at h
  rcases h with rfl | rfl | rfl | h
  ·rfl
  ·rfl
  ·rfl
  ·exact qiz r v h
theorem qmG {W:World} {u:Value} {l:List Pt} (h:Rd W 3 u l.length (qdY l)):HRel W 1 (inB u) [(0,0,qap l)] W where
 gr:=Gr.refl W
 live:=fun b r h=>by cases h
 inj:=fun b c r h=>by cases h
 new:=fun b r _ h=>by cases h
 sep:=fun b r h=>by cases h
 cells:=fun b o sv hl hs=>by
  simp only[qab] at hl
  cases hc:(Nat.beq 0 b&&Nat.beq 0 o)<;>rw[hc] at hl
  ·cases hl
  ·cases hl;cases hs
 rows0:=qj6 (qnE (by rfl)) fun b o e es n xs hl=>by
  simp only[qab] at hl
  cases hc:(Nat.beq 0 b&&Nat.beq 0 o)<;>rw[hc] at hl
  ·cases hl
  ·cases hl
   rw[Bool.and_eq_true] at hc
   have hb:0=b:=Nat.eq_of_beq_eq_true hc.1
   subst hb
   exact⟨u,rfl,h,qiz l,fun _ hx=>h.lt hx,fun h=>by omega,fun h=>by omega⟩
 rinj0:=qjn (qnE (by rfl)) fun b o e es n xs c o' e' es' n' xs' u v hl hl' h1 h2=>by
  simp only[qab] at hl
  cases hc:(Nat.beq 0 b&&Nat.beq 0 o)<;>rw[hc] at hl
  ·cases hl
  ·rw[Bool.and_eq_true] at hc
   have hb:0=b:=Nat.eq_of_beq_eq_true hc.1
   omega
 maps:=fun b o xs hl=>(ql8 (by rfl) hl).elim
 fz:=FzIs.no1 (qnE (by rfl)) fun _=>rfl
theorem qmM (u:Value):(inB u).dom 1:=fun b hb=>⟨rfl,if_neg (by omega)⟩
theorem qmo {W:World} {u:Value} {l:List Pt} (h:Rd W 3 u l.length (qdY l)):SV.is (inB u) (qbl 0 l) (.agg #[u]):=by
 obtain⟨_,a,c,hu,_⟩:=h
 exact⟨[u],⟨⟨rfl,a,c,hu⟩,tI⟩,rfl⟩
theorem qly {W:World} {u:Value} {l:List Pt} {f:FuncId} {vs:List Value} (h:Fn f 1 (qbl 0 l::vs.map .pv) [(0,0,qap l)] (.pv (.bool true)) 0 []) (hr:Rd W 3 u l.length (qdY l)) :
 Calls Try.prog f (.agg #[u]::vs).toArray W fun e W'=>e=.returned (.bool true)∧Gr W W':=by
 have hvs:∀ vs:List Value,SV.isl (inB u) (vs.map .pv) vs:=by
  intro vs
  induction vs with
  | nil=>exact tI
  | cons v r ih=>exact⟨rfl,ih⟩
 refine (h W (inB u) (.agg #[u]::vs) (qmG hr) (qmM u) ⟨qmo hr,hvs vs⟩).mono fun e W' ⟨v,β',he,_,hx,hh,_⟩=>?_
 cases hx
 exact⟨he,hh.gr⟩
end Go.Proofs.Ytleaeldgaflmkaa

namespace Go.Proofs.Ytleaeldgaflmkaa
set_option maxRecDepth 100000
open Go.RowKit
section
variable {s:List Pt} {n d:Int}
def ClosIs (s:List Pt) (n d i j N D e:Int):Prop:=((qdI s≠0∧e=qdI s)∨(Val s∧qdJ n d≠0∧e=qdJ n d)∨(Val s∧AskT n d∧s.length<2∧e=42)∨
 (Val s∧AskT n d∧2≤s.length∧e=0∧i=(ptK s (qbA s n d).1).id∧j=(ptK s (qbA s n d).2).id∧DisI s n d (qbA s n d) N D))∧(e≠0→i=0∧j=0∧N=0∧D=0)
theorem ClosIs.uniq {i j N D e i' j' N' D' e':Int} (h:ClosIs s n d i j N D e) (k:ClosIs s n d i' j' N' D' e'):i=i'∧j=j'∧N=N'∧D=D'∧e=e':=by
 obtain⟨h,hz⟩:=h
 obtain⟨k,kz⟩:=k
 have fin:e≠0→e=e'→i=i'∧j=j'∧N=N'∧D=D'∧e=e':=fun h0 he=>by
  obtain⟨a1,a2,a3,a4⟩:=hz h0
  obtain⟨b1,b2,b3,b4⟩:=kz (he▸h0)
  exact⟨a1.trans b1.symm,a2.trans b2.symm,a3.trans b3.symm,a4.trans b4.symm,he⟩
 have nv:qdI s≠0→¬ Val s:=fun h1 hv=>h1 (qfS.2 hv)
 have na:qdJ n d≠0→¬ AskT n d:=fun h1 ha=>h1 (qeu.2 ha)
 rcases h with ⟨h1,h2⟩ | ⟨h1,h2,h3⟩ | ⟨h1,h2,h3,h4⟩ | ⟨h1,h2,h3,h4,h5,h6,h7⟩
 ·rcases k with ⟨k1,k2⟩ | ⟨k1,_⟩ | ⟨k1,_⟩ | ⟨k1,_⟩
  ·exact fin (h2▸h1) (h2.trans k2.symm)
  ·exact (nv h1 k1).elim
  ·exact (nv h1 k1).elim
  ·exact (nv h1 k1).elim
 ·rcases k with ⟨k1,k2⟩ | ⟨k1,k2,k3⟩ | ⟨k1,k2,_⟩ | ⟨k1,k2,_⟩
  ·exact (nv k1 h1).elim
  ·exact fin (h3▸h2) (h3.trans k3.symm)
  ·exact (na h2 k2).elim
  ·exact (na h2 k2).elim
 ·rcases k with ⟨k1,k2⟩ | ⟨k1,k2,k3⟩ | ⟨k1,k2,k3,k4⟩ | ⟨k1,k2,k3,_⟩
  ·exact (nv k1 h1).elim
  ·exact (na k2 h2).elim
  ·exact fin (by rw[h4];decide) (h4.trans k4.symm)
  ·omega
 ·rcases k with ⟨k1,k2⟩ | ⟨k1,k2,k3⟩ | ⟨k1,k2,k3,k4⟩ | ⟨k1,k2,k3,k4,k5,k6,k7⟩
  ·exact (nv k1 h1).elim
  ·exact (na k2 h2).elim
  ·omega
  ·obtain⟨u1,u2⟩:=DisI.uniq h2.in.2.2 h7 k7
   exact⟨h5.trans k5.symm,h6.trans k6.symm,u1,u2,h4.trans k4.symm⟩
theorem qfD (hn:I64 n) (hd:I64 d):Fn 3 1 [qbl 0 s,.pv (qaa n d)] [(0,0,qap s)] (.pv (.bool true)) 0 []:=by
 rcases qh0 s with ⟨_,hg⟩ | ⟨_,hg⟩
 ·exact qns (hgf:=hg)
 ·obtain⟨i,j,N,D,e,h1,h2,hp⟩:=qiW (s:=s) hn hd
  obtain⟨i',j',N',D',e',k1,k2,hr⟩:=qjC (s:=s) hn hd
  obtain⟨rfl,rfl,rfl,rfl,rfl⟩:=ClosIs.uniq (s:=s) ⟨h1,h2⟩ ⟨k1,k2⟩
  exact qmI (hgf:=hg) (h1:=hp) (h2:=hr)
theorem qeK {W:World} {u:Value} (r0:Rd W 3 u s.length (qdY s)) (hn:I64 n) (hd:I64 d) :
 Calls Try.prog 3 #[.agg #[u],.agg #[iV n,iV d]] W fun e W'=>e=.returned (.bool true)∧Gr W W':=
 qly (vs:=[qaa n d]) (qfD hn hd) r0
end
end Go.Proofs.Ytleaeldgaflmkaa
