/-
  Lists by name: what a store, a load, a slice and a literal really do. Conditions: none.
-/
import Derived.Test.YtkckcgpmnipnaaaGreatW4
namespace Go.Proofs.YtkckcgpmnipnaaaGreat
set_option maxRecDepth 100000
open Go.RowKit
theorem qmM (cur us:List Value) (N q:Nat) (h:q+us.length≤N) (hN:N≤cur.length):(cur.take q++us++cur.drop (q+us.length)).take N=qeH (cur.take N) q us:=by
 unfold qeH
 apply List.ext_getElem?
 intro j
 simp only[List.getElem?_take,List.getElem?_append,List.length_append,List.length_take,List.getElem?_drop]
 rw[Nat.min_eq_left (show q≤cur.length by omega),Nat.min_eq_left hN,Nat.min_eq_left (show q≤N by omega)]
 by_cases h1:j<q
 ·simp[show j<N by omega,h1,show j<q+us.length by omega]
 ·by_cases h2:j<q+us.length
  ·simp[h1,h2,show j<N by omega]
  ·simp only[h1,h2,if_false]
   rw[show q+us.length+(j-(q+us.length))=j by omega]
theorem qji {P:Program} {w:World} {base:Nat} {e:TypeId} {es n:Nat} {u:Value} {xs:List Value} (h:w.ownsRow base e es u n xs) {r o n' c q:Nat} (hu:u=.slice (some ⟨r,o,none⟩) n' c) {us:List Value} (hq:q+us.length≤xs.length) (h1:∀ v∈us,v.oneCell'=true) :
 ∃ w',(storeCells ⟨r,o+q,none⟩ us 0).run P w=.ok () w'∧Upd w w' u.ownBlock∧w'.ownsRow base e es u n (qeH xs q us):=by
 rcases h.2 with ⟨rfl,_⟩ | ⟨g,cap,cur,rfl,h3,h4,h5,h6,h7,h8⟩
 ·cases hu
 ·cases hu
  have hN:n*es≤cur.toList.length:=by rw[Array.length_toList,h7];exact Nat.mul_le_mul_right _ h5
  have hl:=h.1
  have hst:=run_storeCells_at P r q e us 0 cur w h4 (by have:=Array.length_toList (xs:=cur);omega) h1
  simp only[Nat.add_zero] at hst
  rw[Nat.zero_add]
  refine⟨_,hst,Upd.setRow h4 _,?_,.inr ⟨r,c,_,rfl,h3,setRow_heap w r cur _ e _ h4,h5,h6,?_,?_⟩⟩
  ·unfold qeH
   simp only[List.length_append,List.length_take,List.length_drop]
   omega
  ·simp only[List.size_toArray,List.length_append,List.length_take,List.length_drop,Array.length_toList]
   have:=Array.length_toList (xs:=cur)
   omega
  ·show (cur.toList.take q++us++cur.toList.drop (q+us.length)).take (n*es)=_
   rw[qmM _ _ _ _ (by omega) hN,h8]
theorem qgT {xs us:List Value} {q:Nat} (h:∀ v∈xs,v.oneCell'=true) (k:∀ v∈us,v.oneCell'=true):∀ v∈qeH xs q us,v.oneCell'=true:=by
 intro v hv
 unfold qeH at hv
 rcases List.mem_append.1 hv with hv | hv
 ·rcases List.mem_append.1 hv with hv | hv
  ·exact h v (List.mem_of_mem_take hv)
  ·exact k v hv
 ·exact h v (List.mem_of_mem_drop hv)
theorem qh3 (off:Nat):∀ (l:List Value) (k:Nat) (cells:Array Value),off+k+l.length≤cells.size→
 ((l.zipIdx k).foldl (fun cs (p:Value×Nat)=>cs.setIfInBounds (off+p.2) p.1) cells).toList=cells.toList.take (off+k)++l++cells.toList.drop (off+k+l.length)
 | [],k,cells,_=>by simp
 | c::l,k,cells,h=>by
  simp only[List.zipIdx_cons,List.foldl_cons]
  rw[qh3 off l (k+1) (cells.setIfInBounds (off+k) c) (by simp at h ⊢;omega)]
  simp only[List.length_cons] at h ⊢
  rw[Array.toList_setIfInBounds]
  apply List.ext_getElem?
  intro j
  have hs:=Array.length_toList (xs:=cells)
  simp only[List.getElem?_append,List.length_append,List.length_take,List.length_set,List.getElem?_take,List.getElem?_drop,List.getElem?_set,List.length_cons,hs]
  rw[Nat.min_eq_left (show off+(k+1)≤cells.size by omega),Nat.min_eq_left (show off+k≤cells.size by omega)]
  by_cases h1:j<off+k
  ·simp[h1,show j<off+(k+1) by omega,show j<off+(k+1)+l.length by omega,show j<off+k+(l.length+1) by omega,show ¬ off+k=j by omega]
  ·by_cases h2:j=off+k
   ·subst h2
    simp[show off+k<off+(k+1) by omega,show off+k<off+(k+1)+l.length by omega,show off+k<cells.size by omega]
   ·by_cases h3:j<off+(k+1)+l.length
    ·simp only[h3,h1,if_true,if_false,show ¬ j<off+(k+1) by omega,show j<off+k+(l.length+1) by omega]
     rw[show j-(off+k)=(j-(off+(k+1)))+1 by omega,List.getElem?_cons_succ]
    ·simp only[h3,if_false,show ¬ j<off+k+(l.length+1) by omega]
     rw[if_neg (by omega)]
     congr 1
     omega
theorem S0.isl_append {β:Bl}:∀ {a b:List S0} {x y:List Value},S0.isl β a x→S0.isl β b y→S0.isl β (a++b) (x++y)
 | [],_,[],_,_,k=>k
 | [],_,_::_,_,h,_=>h.elim
 | _::_,_,[],_,h,_=>h.elim
 | _::_,_,_::_,_,h,k=>⟨h.1,S0.isl_append h.2 k⟩
theorem S0.isl_take {β:Bl}:∀ {a:List S0} {x:List Value} (n:Nat),S0.isl β a x→S0.isl β (a.take n) (x.take n)
 | _,_,0,_=>trivial
 | [],[],_+1,_=>trivial
 | [],_::_,_+1,h=>h.elim
 | _::_,[],_+1,h=>h.elim
 | _::_,_::_,n+1,h=>⟨h.1,S0.isl_take n h.2⟩
theorem S0.isl_drop {β:Bl}:∀ {a:List S0} {x:List Value} (n:Nat),S0.isl β a x→S0.isl β (a.drop n) (x.drop n)
 | _,_,0,h=>h
 | [],[],_+1,_=>trivial
 | [],_::_,_+1,h=>h.elim
 | _::_,[],_+1,h=>h.elim
 | _::_,_::_,n+1,h=>S0.isl_drop n h.2
def qje (β:Bl):List (Nat×SV)→List (Nat×Value)→Prop
 | [],[]=>True
 | p::ps,q::qs=>p.1=q.1∧p.2.is β q.2∧qje β ps qs
 | _,_=>False
theorem qhZ {β:Bl} {s:SV} {v:Value} {ds:List S0} (h:qbD (cellsOf s)=some ds) (k:s.is β v):S0.isl β ds v.cells.toList:=by
 cases s with
 | pv y=>
  simp only[SV.is] at k
  subst k
  exact qaV h (SV.isl_v _)
 | pp b o=>have k':=k;obtain⟨r,_,rfl⟩:=k;exact qaV (ss:=[.pp b o]) h ⟨k',trivial⟩
 | ps b o l c=>have k':=k;obtain⟨r,_,rfl⟩:=k;exact qaV (ss:=[.ps b o l c]) h ⟨k',trivial⟩
 | ls b l=>have k':=k;obtain⟨_,a,c,rfl⟩:=k;exact qaV (ss:=[.ls b l]) h ⟨k',trivial⟩
 | lq b es kk l=>have k':=k;obtain⟨a,n,c,a',c',_,_,_,rfl,_⟩:=k;exact qaV (ss:=[.lq b es kk l]) h ⟨k',trivial⟩
 | lp b q=>have k':=k;obtain⟨r,o,n,c,_,rfl⟩:=k;exact qaV (ss:=[.lp b q]) h ⟨k',trivial⟩
 | ag l=>obtain⟨vs,k,rfl⟩:=k;exact qaV h (S0.isl_up k)
 | pc f cap=>simp[cellsOf,qbD,SV.down] at h
 | tu l=>simp[cellsOf,qbD,SV.down] at h
 | any=>simp[cellsOf,qbD,SV.down] at h
 | row e es n xs=>simp[cellsOf,qbD,SV.down] at h
 | mrow xs=>simp[cellsOf,qbD,SV.down] at h
 | mp b=>have k':=k;obtain⟨r,_,rfl⟩:=k;exact qaV (ss:=[.mp b]) h ⟨k',trivial⟩
theorem qiL {β:Bl} {place place':Nat→Option (Nat×Nat)} (hp:∀ i,place' i=place i):∀ {parts:List (Nat×SV)} {qs:List (Nat×Value)} {cells out:List S0} {cs:List Value},qln place cells parts=some out→qje β parts qs→S0.isl β cells cs→
 ∃ us,Instr.fill place' cs.toArray qs=some us.toArray∧S0.isl β out us∧us.length=cs.length
 | [],[],cells,out,cs,h,_,hc=>by
  simp only[qln,Option.some.injEq] at h
  subst h
  exact⟨cs,rfl,hc,rfl⟩
 | [],_::_,_,_,_,_,h,_=>h.elim
 | _::_,[],_,_,_,_,h,_=>h.elim
 | (i,s)::ps,(i',v)::qs,cells,out,cs,h,hpq,hc=>by
  obtain⟨e1,e2,e3⟩:=hpq
  simp only at e1 e2
  subst e1
  simp only[qln] at h
  split at h
  ·rename_i off size ds hpl hd
   cases hb:(Nat.beq ds.length size&&Nat.ble (off+ds.length) cells.length)
   ·rw[hb] at h;cases h
   ·rw[hb,cond_true] at h
    rw[Bool.and_eq_true] at hb
    have hds:=qhZ hd e2
    have l1:=(S0.isl_get hds).1
    have l2:=(S0.isl_get hc).1
    have b1:=Nat.eq_of_beq_eq_true hb.1
    have b2:=Nat.le_of_ble_eq_true hb.2
    have hvs:v.cells.toList.length=v.cells.size:=Array.length_toList
    have hnew:S0.isl β (qFj cells off ds) (cs.take off++v.cells.toList++cs.drop (off+v.cells.toList.length)):=by
     unfold qFj
     rw[← l1]
     exact S0.isl_append (S0.isl_append (S0.isl_take off hc) hds) (S0.isl_drop _ hc)
    obtain⟨us,f1,f2,f3⟩:=qiL hp h e3 hnew
    refine⟨us,?_,f2,?_⟩
    ·unfold Instr.fill
     rw[hp,hpl]
     simp only
     rw[if_neg (by simp;omega)]
     have hfold:=qh3 off v.cells.toList 0 cs.toArray (by simp;omega)
     have he:v.cells.zipIdx.foldl (fun cs (p:Value×Nat)=>cs.setIfInBounds (off+p.2) p.1) cs.toArray=(cs.take off++v.cells.toList++cs.drop (off+v.cells.toList.length)).toArray:=by
      apply Array.ext'
      rw[← Array.foldl_toList,Array.toList_zipIdx,hfold]
      simp
     rw[← f1]
     congr 1
    ·rw[f3]
     simp only[List.length_append,List.length_take,List.length_drop]
     omega
  ·cases h
theorem qaX {P:Program} {t:TypeId} {i:TypeInfo} (h:P.info? t=some i) (w:World):(sizeOf t).run P w=.ok i.size w:=by simp[sizeOf,run_typeInfo w h]
theorem qgr {P:Program} (w:World):∀ {fs:List Field} {l:List (Nat×Nat)},qd4 P fs=some l→(fs.mapM fun (f:Field)=>(do pure (f.offset,← sizeOf f.type):Sem (Nat×Nat))).run P w=.ok l w
 | [],l,h=>by simp only[qd4,Option.some.injEq] at h;subst h;simp
 | f::r,l,h=>by
  simp only[qd4] at h
  split at h
  ·rename_i i m hi hm
   simp only[Option.some.injEq] at h
   subst h
   rw[List.mapM_cons]
   simp only[Sem.run_bind,Sem.run_pure,Result.andThen_ok,qaX hi w,qgr w hm]
  ·cases h
theorem qdy {β:Bl} {st:St} {ρ:Operand→Value}:∀ {parts:List (Nat×Operand)},(∀ x∈parts.map (·.2),(st.ev x).is β (ρ x))→qje β (parts.map fun p=>(p.1,st.ev p.2)) (parts.map fun p=>(p.1,ρ p.2))
 | [],_=>trivial
 | p::r,h=>⟨rfl,h p.2 (by simp),qdy fun x hx=>h x (by simp at hx ⊢;exact Or.inr hx)⟩
end Go.Proofs.YtkckcgpmnipnaaaGreat
