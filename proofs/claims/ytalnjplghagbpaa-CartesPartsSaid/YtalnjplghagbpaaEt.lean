/-
  CartesParts. Conditions: none.
-/
import Derived.Test.YtalnjplghagbpaaW38
import Derived.Test.YtalnjplghagbpaaW37
import Derived.Test.YtalnjplghagbpaaW29
import Derived.Test.YtalnjplghagbpaaW19
namespace Go.Proofs.Ytalnjplghagbpaa
set_option maxRecDepth 100000
open Go.RowKit
theorem qe3 {lo hi:Nat}:∀ {T:Sh Nat},T.list.Pairwise (· < ·)→(res lo hi T).list=T.list.filter (fun k=>decide (lo≤k∧k<hi))
 | .nil,_=>rfl
 | .node a k b,h=>by
  obtain⟨p1,p2,p3,p4⟩:=qcc h
  have e1:=qe3 (lo:=lo) (hi:=hi) p1
  have e2:=qe3 (lo:=lo) (hi:=hi) p2
  have el:(Sh.node a k b).list=a.list++k::b.list:=rfl
  rw[el,List.filter_append]
  unfold res
  by_cases c1:k<lo
  ·rw[if_pos c1,Sh.filt_none (l:=a.list) fun y hy=>decide_eq_false (by have:=p3 y hy;omega),List.filter_cons_of_neg (by simp;omega),e2]
   rfl
  ·rw[if_neg c1]
   by_cases c2:hi≤k
   ·rw[if_pos c2,Sh.filt_none (l:=k::b.list) fun y hy=>decide_eq_false (by
     rcases List.mem_cons.1 hy with e | hy
     ·omega
     ·have:=p4 y hy;omega),e1,List.append_nil]
   ·rw[if_neg c2,List.filter_cons_of_pos (by simp;omega),← e1,← e2]
    rfl
theorem qqr {f:Nat→Nat} {g h:Nat→Int}:∀ {T:Sh Nat},(∀ k∈T.list,g (f k)=h k)→(T.map f).map g=T.map h
 | .nil,_=>rfl
 | .node a k b,e=>by
  show Sh.node _ _ _=Sh.node _ _ _
  rw[qqr fun y hy=>e y (List.mem_append_left _ hy),qqr fun y hy=>e y (List.mem_append_right _ (List.mem_cons_of_mem _ hy)),e k (List.mem_append_right _ List.mem_cons_self)]
theorem qgE {Q R:Nat→Nat→Prop}:∀ {T:Sh Nat},(∀ a∈T.list,∀ b∈T.list,Q a b→R a b)→T.HO Q→T.HO R
 | .nil,_,_=>tI
 | .node a k b,h,⟨h1,h2,h3,h4⟩=>by
  have mk:k∈(Sh.node a k b).list:=List.mem_append_right _ List.mem_cons_self
  exact⟨fun y hy=>h k mk y (List.mem_append_left _ hy) (h1 y hy),fun y hy=>h k mk y (List.mem_append_right _ (List.mem_cons_of_mem _ hy)) (h2 y hy),
   qgE (fun x hx y hy=>h x (List.mem_append_left _ hx) y (List.mem_append_left _ hy)) h3,qgE (fun x hx y hy=>h x (List.mem_append_right _ (List.mem_cons_of_mem _ hx)) y (List.mem_append_right _ (List.mem_cons_of_mem _ hy))) h4⟩
theorem qpu {Q R:Nat→Nat→Prop} {n:Nat}:∀ {T:Sh Nat},(∀ a∈T.list,∀ b∈T.list,Q a b→R (a+n) (b+n))→T.HO Q→(upS n T).HO R
 | .nil,_,_=>tI
 | .node a k b,h,⟨h1,h2,h3,h4⟩=>by
  have mk:k∈(Sh.node a k b).list:=List.mem_append_right _ List.mem_cons_self
  refine⟨fun y hy=>?_,fun y hy=>?_,qpu (fun x hx y hy=>h x (List.mem_append_left _ hx) y (List.mem_append_left _ hy)) h3,qpu (fun x hx y hy=>h x (List.mem_append_right _ (List.mem_cons_of_mem _ hx)) y (List.mem_append_right _ (List.mem_cons_of_mem _ hy))) h4⟩
  ·rw[Sh.map_list] at hy
   obtain⟨c,hc,rfl⟩:=List.mem_map.1 hy
   exact h k mk c (List.mem_append_left _ hc) (h1 c hc)
  ·rw[Sh.map_list] at hy
   obtain⟨c,hc,rfl⟩:=List.mem_map.1 hy
   exact h k mk c (List.mem_append_right _ (List.mem_cons_of_mem _ hc)) (h2 c hc)
section
variable {s l:List Pt} {tn td rt z:Int} {T S:Sh Nat} {lo hi:Nat}
theorem qlq (hl:hi≤l.length) {k:Nat} (h1:lo≤k) (h2:k<hi):idN (ptL l lo hi hi) (k-lo)=idN l k:=by
 rw[qao (qhJ h1 h2),qao (qah (show k<l.length by omega))]
 rfl
theorem qgS (hu:Up l) (hl:hi≤l.length):Up (ptL l lo hi hi):=fun k p q hp hq=>by
 have h2:=qai hq
 rw[qcz] at h2
 have e1:=qlq (l:=l) (lo:=lo) hl (k:=k+lo) (by omega) (by omega)
 have e2:=qlq (l:=l) (lo:=lo) hl (k:=k+1+lo) (by omega) (by omega)
 rw[Nat.add_sub_cancel,qao hp,qao (qah (show k+lo<l.length by omega))] at e1
 rw[Nat.add_sub_cancel,qao hq,qao (qah (show k+1+lo<l.length by omega))] at e2
 have:=hu.mono (show k+lo<k+1+lo by omega) (qah (by omega)) (qah (by omega))
 omega
theorem qhL (h:Fits ⟨rt,l⟩ T) (hl:hi≤l.length):idT (ptL l lo hi hi) ((res lo hi T).map fun k=>k-lo)=(res lo hi T).map (idN l):=by
 unfold idT
 exact qqr fun k hk=>by
  obtain⟨_,h1,h2⟩:=qcd hk
  exact qlq hl h1 h2
theorem qfB (h:Fits ⟨rt,l⟩ T) (hu:Up l) (hlo:lo≤hi) (hl:hi≤l.length):Fits ⟨shI lo (rtI (res lo hi T)),ptL l lo hi hi⟩ ((res lo hi T).map fun k=>k-lo):=by
 have hr:T.list=List.range l.length:=h.range hu
 have hw:T.list.Pairwise (· < ·):=by rw[hr];exact List.pairwise_lt_range
 have e:=qe3 (lo:=lo) (hi:=hi) hw
 have hwr:(res lo hi T).list.Pairwise (· < ·):=by rw[e];exact hw.filter _
 have hw2:((res lo hi T).list.map fun k=>k-lo).Pairwise (· < ·):=by
  rw[List.pairwise_map]
  exact hwr.imp_of_mem fun ha hb hab=>by
   obtain⟨_,h1,_⟩:=qcd ha
   omega
 have hmem:∀ k,k∈((res lo hi T).list.map fun k=>k-lo)↔k<hi-lo:=fun k=>by
  rw[List.mem_map]
  constructor
  ·rintro⟨c,hc,rfl⟩
   obtain⟨_,h1,h2⟩:=qcd hc
   omega
  ·intro hk
   refine⟨k+lo,?_,by omega⟩
   rw[e,List.mem_filter,hr]
   exact⟨List.mem_range.2 (by omega),by simp;omega⟩
 refine⟨qmw h,?_,?_⟩
 ·rw[Sh.map_list]
  have hp:((res lo hi T).list.map fun k=>k-lo).Perm (List.range (hi-lo)):=(List.perm_ext_iff_of_nodup (hw2.imp fun hab e=>by omega) List.nodup_range).2 fun k=>(hmem k).trans List.mem_range.symm
  show _=(ptL l lo hi hi).length
  rw[hp.length_eq,List.length_range,qcz]
 ·rw[Sh.map_list,List.pairwise_map]
  exact hw2.imp_of_mem fun {a b} ha hb hab=>by
   have ha:=(hmem a).1 ha
   have hb:=(hmem b).1 hb
   have hlen:(ptL l lo hi hi).length=hi-lo:=qcz
   show idN (ptL l lo hi hi) a<idN (ptL l lo hi hi) b
   rw[qao (qah (show a<(ptL l lo hi hi).length by omega)),qao (qah (show b<(ptL l lo hi hi).length by omega))]
   exact (qgS hu hl).mono hab (qah (by omega)) (qah (by omega))
theorem POf (htn:I64 tn) (htd:I64 td) (hs:Val s) (ht:okB tn td=true) (hS:OfSh s tn td S) :
 Fn 18 1 [qaq 0 s,.pv (qaa tn td)] [(0,0,qag s)] (.tu [.ag [.pv (iV (rtI S)),.ls 1 (ofN s S).length],.one (.pv (iV 0))]) 1 [(1,0,qac (ofN s S))]:=by
 obtain⟨r,n,_,hsp,p,_⟩:=qjQ htn htd s
 have e:=qmy hs ht
 obtain⟨rfl,rfl⟩:=hsp e S hS
 rw[e] at p
 exact p
def qra (s:List Pt) (z:Int) (m:Nat):Prop:=m≤s.length∧∀ j p,s[j]?=some p→(j<m↔p.id<z)
theorem qpS {m:Nat} (h:qra s z m):(s.filter fun p=>decide (p.id<z))=s.take m:=by
 obtain⟨h1,h2⟩:=h
 have e:s=s.take m++s.drop m:=(List.take_append_drop m s).symm
 conv=>lhs;rw[e]
 rw[List.filter_append,Sh.filt_all fun p hp=>?_,Sh.filt_none fun p hp=>?_,List.append_nil]
 ·obtain⟨j,hj⟩:=List.getElem?_of_mem hp
  rw[List.getElem?_drop] at hj
  exact decide_eq_false fun h=>by have:=(h2 _ p hj).2 h;omega
 ·obtain⟨j,hj⟩:=List.getElem?_of_mem hp
  rw[List.getElem?_take] at hj
  split at hj
  ·rename_i hlt
   exact decide_eq_true ((h2 j p hj).1 hlt)
  ·cases hj
theorem qm5 {m:Nat} (h:qra s z m):(s.filter fun p=>!decide (p.id<z))=s.drop m:=by
 obtain⟨h1,h2⟩:=h
 have e:s=s.take m++s.drop m:=(List.take_append_drop m s).symm
 conv=>lhs;rw[e]
 rw[List.filter_append,Sh.filt_none (l:=s.take m) fun p hp=>?_,Sh.filt_all fun p hp=>?_,List.nil_append]
 ·obtain⟨j,hj⟩:=List.getElem?_of_mem hp
  rw[List.getElem?_drop] at hj
  have:¬ p.id<z:=fun h=>by have:=(h2 _ p hj).2 h;omega
  simp[this]
 ·obtain⟨j,hj⟩:=List.getElem?_of_mem hp
  rw[List.getElem?_take] at hj
  split at hj
  ·rename_i hlt
   have:=(h2 j p hj).1 hlt
   simp[this]
  ·cases hj
theorem qk9 {m:Nat} {A:Sh Nat} (hs:Val s) (hS:OfSh s tn td S) (hc:qra s z m) (hm:qfr (ofN s S) z m) (ha:Val (s.take m)) (hA:OfSh (s.take m) tn td A) :
 shI 0 (rtI (res 0 m S))=rtI A∧ptL (ofN s S) 0 m m=ofN (s.take m) A:=by
 obtain⟨hf,hu⟩:=qa3 hs hS
 obtain⟨ga,gu⟩:=qa3 ha hA
 have hlen:=qaW (s:=s) S
 have hml:m≤(ofN s S).length:=hm.1
 have hr:S.list=List.range (ofN s S).length:=hf.range hu
 have hw:S.list.Pairwise (· < ·):=by rw[hr];exact List.pairwise_lt_range
 have e1:idT (ptL (ofN s S) 0 m m) ((res 0 m S).map fun k=>k-0)=Sh.cutL z (idT (ofN s S) S):=by
  rw[qhL hf hml]
  exact qgj hw fun k hk=>hm.2 k (hf.rep.lt k hk)
 have t1:=(qe9 hs hS).low hs z
 rw[qpS hc] at t1
 exact (qfB hf hu (Nat.zero_le _) hml).ext ga (qgS hu hml) gu (e1.trans (t1.uniq ha (qe9 ha hA)))
theorem qiD {m:Nat} {B:Sh Nat} (hs:Val s) (hS:OfSh s tn td S) (hc:qra s z m) (hm:qfr (ofN s S) z m) (hb:Val (s.drop m)) (hB:OfSh (s.drop m) tn td B) :
 shI m (rtI (res m (ofN s S).length S))=rtI B∧ptL (ofN s S) m (ofN s S).length (ofN s S).length=ofN (s.drop m) B:=by
 obtain⟨hf,hu⟩:=qa3 hs hS
 obtain⟨ga,gu⟩:=qa3 hb hB
 have hml:m≤(ofN s S).length:=hm.1
 have hr:S.list=List.range (ofN s S).length:=hf.range hu
 have hw:S.list.Pairwise (· < ·):=by rw[hr];exact List.pairwise_lt_range
 have e1:idT (ptL (ofN s S) m (ofN s S).length (ofN s S).length) ((res m (ofN s S).length S).map fun k=>k-m)=Sh.cutH z (idT (ofN s S) S):=by
  rw[qhL hf (Nat.le_refl _)]
  exact qe6 hw (fun k hk=>hf.rep.lt k hk) fun k hk=>hm.2 k (hf.rep.lt k hk)
 have t1:=(qe9 hs hS).high hs z
 rw[qm5 hc] at t1
 exact (qfB hf hu hml (Nat.le_refl _)).ext ga (qgS hu (Nat.le_refl _)) gu (e1.trans (t1.uniq hb (qe9 hb hB)))
theorem qe5 {m:Nat} {A B:Sh Nat} (hm:m≤s.length) {k:Nat} (hk:k<s.length):idN (jnt (ofN (s.take m) A) (ofN (s.drop m) B)) k=idN s k:=by
 have la:(ofN (s.take m) A).length=m:=by rw[qaW,List.length_take];omega
 have lb:(ofN (s.drop m) B).length=s.length-m:=by rw[qaW,List.length_drop]
 rcases Nat.lt_or_ge k m with c | c
 ·have e:idN (ofN (s.take m) A) k=idN (s.take m) k:=qde A (by rw[List.length_take];omega)
  have h1:=qah (n:=ofN (s.take m) A) (k:=k) (by omega)
  have h2:=qah (n:=s) (k:=k) hk
  have h3:(s.take m)[k]?=some (ndT s k):=by rw[List.getElem?_take_of_lt c];exact h2
  rw[qao h1,qao h3] at e
  rw[qao (show (jnt (ofN (s.take m) A) (ofN (s.drop m) B))[k]?=_ by rw[qb9 (by omega)];exact h1),qao h2]
  exact e
 ·have e:idN (ofN (s.drop m) B) (k-m)=idN (s.drop m) (k-m):=qde B (by rw[List.length_drop];omega)
  have h1:=qah (n:=ofN (s.drop m) B) (k:=k-m) (by omega)
  have h2:=qah (n:=s) (k:=k) hk
  have h3:(s.drop m)[k-m]?=some (ndT s k):=by rw[List.getElem?_drop,show m+(k-m)=k by omega];exact h2
  rw[qao h1,qao h3] at e
  have h4:=qbS (l:=ofN (s.take m) A) h1
  rw[la,show k-m+m=k by omega] at h4
  rw[qao h4,qao h2]
  exact e
theorem qk7 {m:Nat} {A B:Sh Nat} (hs:Val s) (hm:m≤s.length):ptD s (jnt (ofN (s.take m) A) (ofN (s.drop m) B))=s∧Kno s (jnt (ofN (s.take m) A) (ofN (s.drop m) B)):=by
 have hj:(jnt (ofN (s.take m) A) (ofN (s.drop m) B)).length=s.length:=by rw[qc6,qaW,qaW,List.length_take,List.length_drop];omega
 refine⟨?_,fun p hp=>?_⟩
 ·apply List.ext_getElem?
  intro k
  by_cases hk:k<s.length
  ·have h1:=qah (n:=jnt (ofN (s.take m) A) (ofN (s.drop m) B)) (k:=k) (by omega)
   have h2:=qah (n:=s) (k:=k) hk
   have e:=qe5 (A:=A) (B:=B) hm hk
   rw[qao h1,qao h2] at e
   unfold ptD
   rw[List.getElem?_map,h1,h2]
   show some (ptI s _)=some _
   rw[e,qb6 hs (List.mem_of_getElem? h2)]
  ·rw[List.getElem?_eq_none (by rw[qb7];omega),List.getElem?_eq_none (by omega)]
 ·obtain⟨k,hk⟩:=List.getElem?_of_mem hp
  have hkl:=qai hk
  have e:=qe5 (A:=A) (B:=B) hm (show k<s.length by omega)
  have h2:=qah (n:=s) (k:=k) (by omega)
  rw[qao hk,qao h2] at e
  exact⟨_,List.mem_of_getElem? h2,e.symm⟩
theorem qmL {m:Nat} {A B:Sh Nat} (hs:Val s) (hS:OfSh s tn td S) (hm:m≤s.length) (ha:Val (s.take m)) (hA:OfSh (s.take m) tn td A) (hb:Val (s.drop m)) (hB:OfSh (s.drop m) tn td B) :
 mgR s (ofN (s.take m) A) (ofN (s.drop m) B) tn td A B=rtI S∧mgN s (ofN (s.take m) A) (ofN (s.drop m) B) tn td A B=ofN s S:=by
 obtain⟨hpt,_⟩:=qk7 (A:=A) (B:=B) hs hm
 obtain⟨fa,_⟩:=qa3 ha hA
 obtain⟨fb,_⟩:=qa3 hb hB
 have la:(ofN (s.take m) A).length=m:=by rw[qaW,List.length_take];omega
 have hj:(jnt (ofN (s.take m) A) (ofN (s.drop m) B)).length=s.length:=by rw[qc6,qaW,qaW,List.length_take,List.length_drop];omega
 have jr:=qeD (s:=s) fa fb
 have eA:A.list=List.range m:=by rw[hA.list,List.length_take];congr 1;omega
 have eB:B.list=List.range (s.length-m):=by rw[hB.list,List.length_drop]
 have eU:(upS m B).list=List.range' m (s.length-m):=by
  rw[Sh.map_list,eB,List.range'_eq_map_range]
  exact List.map_congr_left fun k _=>Nat.add_comm k m
 have hM:OfSh s tn td (Sh.mrg (bX s tn td) A (upS m B)):=by
  have la2:∀ x∈A.list++(upS m B).list,x<s.length:=fun x hx=>by
   rcases List.mem_append.1 hx with h | h
   ·rw[eA] at h;have:=List.mem_range.1 h;omega
   ·rw[eU] at h;have:=(List.mem_range'_1.1 h);omega
  refine⟨Sh.mrg_ho (R:=RX s tn td) (fun x y h=>h) (qgE (fun a ha b hb h=>?_) hA.ho) (qpu (fun a ha b hb h=>?_) hB.ho) (fun x hx y hy h=>RX.tot hs (la2 x (List.mem_append_left _ hx)) (la2 y (List.mem_append_right _ hy)) (fun e=>?_) h) (fun x _ y _ z _ h k=>h.trans k),?_⟩
  ·rw[eA] at ha hb
   have ha:=List.mem_range.1 ha
   have hb:=List.mem_range.1 hb
   have e:∀ j,j<m→ndT (s.take m) j=ndT s j:=fun j hj=>qcb (by rw[List.getElem?_take_of_lt hj];exact qah (by omega))
   unfold RX bX at h ⊢
   rw[e a ha,e b hb] at h
   exact h
  ·rw[eB] at ha hb
   have ha:=List.mem_range.1 ha
   have hb:=List.mem_range.1 hb
   have e:∀ j,j<s.length-m→ndT (s.drop m) j=ndT s (j+m):=fun j hj=>qcb (by rw[List.getElem?_drop,Nat.add_comm];exact qah (by omega))
   unfold RX bX at h ⊢
   rw[e a ha,e b hb] at h
   exact h
  ·rw[eA] at hx
   rw[eU] at hy
   have:=List.mem_range.1 hx
   have:=List.mem_range'_1.1 hy
   omega
  ·rw[Sh.mrg_list,eA,eU,List.range_eq_range',List.range_eq_range']
   have:=List.range'_append (s:=0) (m:=m) (n:=s.length-m) (step:=1)
   rw[Nat.one_mul,Nat.zero_add,show m+(s.length-m)=s.length by omega] at this
   exact this
 have hMS:Sh.mrg (bX s tn td) A (upS m B)=S:=hM.uniq hS
 have hr:=qeJ (bX s tn td) A (upS m B) (jnt (ofN (s.take m) A) (ofN (s.drop m) B)) jr.ra (by have:=jr.rb;rw[la] at this;exact this) (by have:=jr.nd;rw[la] at this;exact this)
 rw[hMS] at hr
 have on:=qa6 (bX s tn td) A (upS m B) (jnt (ofN (s.take m) A) (ofN (s.drop m) B))
 refine⟨?_,?_⟩
 ·unfold mgR
  rw[hpt,la,hMS]
 ·unfold mgN
  rw[hpt,la]
  exact qhe hs hS hr (by rw[on.len,hj]) fun k hk=>by rw[on.id];exact qe5 hm hk
abbrev paK (z:Int):List (Nat×SV):=[(2,.pv (iV z)),(3,.pp 1 0),(4,.pp 2 0),(7,.pp 3 0),(8,.pp 4 0)]
abbrev paT (z:Int) (k:Nat):List (Nat×SV):=[(2,.pv (iV z)),(3,.pp 1 0),(4,.pp 2 0),(7,.pp 3 0),(8,.pp 4 0),(9,.pv (iV (k:Int)))]
abbrev paH (tn td:Int) (s a b:List Pt):List (Nat×Nat×SV):=[(1,0,.ls 0 s.length),(2,0,.pv (iV tn)),(2,1,.pv (iV td)),(3,0,.ls 5 a.length),(4,0,.ls 6 b.length),(0,0,qag s),(5,0,qag a),(6,0,qag b)]
theorem qpx {m:Nat} (hs:s.length≤64) (hc:qra s z m):Rl 1 1 7 0 130 7 (paT z 0) (paH tn td s [] []) (.exit 0) (paK z) (paH tn td s (s.take m) (s.drop m)):=by
 obtain⟨hm,hc⟩:=hc
 have last:=qpM (z:=z) (tn:=tn) (td:=td) (s:=s) (a:=s.take m) (b:=s.drop m) (k:=s.length) (hlt:=df (by omega))
 have last2:Rl 1 1 7 0 130 7 (paT z s.length) (paH tn td s (s.take m) ((s.drop m).take (s.length-m))) (.exit 0) (paK z) (paH tn td s (s.take m) (s.drop m)):=by
  rw[List.take_of_length_le (l:=s.drop m) (by rw[List.length_drop];omega)];exact last
 have r2:=RunsL.roundsZ (P:=Try.prog) (fun k=>paT z k) (fun k=>paH tn td s (s.take m) ((s.drop m).take (k-m))) (N:=s.length) (s.length-m) m (by omega) (fun k k1 k2 r=>by
  obtain⟨p,hp⟩:=qal k2
  have hq:(s.drop m)[k-m]?=some p:=by rw[List.getElem?_drop,show m+(k-m)=k by omega];exact hp
  rw[show k+1-m=k-m+1 by omega,qbK hq] at r
  exact qnm (k:=k) (a:=s.take m) (b:=(s.drop m).take (k-m)) (hlt:=dt (by omega)) (hin:=⟨by omega,by omega⟩) (hk:=hp) (hc:=df fun h=>by have:=(hc k p hp).2 h;omega) (hm:=by rw[List.length_take,List.length_drop];omega) (hs:=qan (by omega)) r)
  last2
 rw[Nat.sub_self,List.take_zero] at r2
 have r1:=RunsL.roundsZ (P:=Try.prog) (fun k=>paT z k) (fun k=>paH tn td s (s.take k) []) (N:=m) m 0 (Nat.zero_add _) (fun k _ k2 r=>by
  obtain⟨p,hp⟩:=qal (l:=s) (k:=k) (by omega)
  rw[qbK hp] at r
  exact qqK (k:=k) (a:=s.take k) (b:=[]) (hlt:=dt (by omega)) (hin:=⟨by omega,by omega⟩) (hk:=hp) (hc:=dt ((hc k p hp).1 k2)) (hm:=by rw[List.length_take];omega) (hs:=qan (by omega)) r) r2
 rw[List.take_zero] at r1
 exact r1
theorem qj3 (htn:I64 tn) (htd:I64 td):Fn 7 1 [qaq 0 s,.pv (qaa tn td),.pv (iV z)] [(0,0,qag s)] (.pv (.bool true)) 0 []:=by
 rcases qwo htn htd s with hft | ⟨hft,hs,ht⟩
 ·exact qky (hft:=hft) (hal:=qjw)
 have hsl:=hs.len
 obtain⟨S,hS⟩:=qeZ (tn:=tn) (td:=td) hs
 obtain⟨hf,hu⟩:=qa3 hs hS
 have hnl:=qaW (s:=s) S
 have h0:=qdJ (qlK hs hS)
 obtain⟨r1,r2,e,n,n0,n2,c1,c2,c3,spec,sp,_⟩:=qis (rt:=rtI S) (l:=ofN s S) (z:=z) (by omega)
 obtain⟨rfl,spec2⟩:=spec h0 hu
 obtain⟨m,hm,rfl,e1,rfl,rfl⟩:=spec2 S hf
 have hml:m≤s.length:=by have:=hm.1;omega
 have hc:qra s z m:=⟨hml,fun j p hp=>by
  have hj:=qai hp
  have:=hm.2 j (by omega)
  rw[qde S hj,qao hp] at this
  exact this⟩
 have ha:Val (s.take m):=qe8 hs (List.take_sublist _ _)
 have hb:Val (s.drop m):=qe8 hs (List.drop_sublist _ _)
 obtain⟨A,hA⟩:=qeZ (tn:=tn) (td:=td) ha
 obtain⟨B,hB⟩:=qeZ (tn:=tn) (td:=td) hb
 obtain⟨fa,ua⟩:=qa3 ha hA
 obtain⟨fb,ub⟩:=qa3 hb hB
 have la:(ofN (s.take m) A).length=m:=by rw[qaW,List.length_take];omega
 have lb:(ofN (s.drop m) B).length=s.length-m:=by rw[qaW,List.length_drop]
 obtain⟨ea1,ea2⟩:=qk9 hs hS hc hm ha hA
 obtain⟨eb1,eb2⟩:=qiD hs hS hc hm hb hB
 rw[ea1,eb1,eb2] at sp
 have hq:=qwe (r:=rtI A) c1 (by omega)
 rw[e1,ea2] at hq
 obtain⟨r3,e3,n3,c4,mspec,m1,_⟩:=qh1 (s:=s) (rt:=rtI A) (l:=ofN (s.take m) A) (x:=rtI B) (m:=ofN (s.drop m) B) htn htd (by omega) (by omega)
 obtain⟨_,hk⟩:=qk7 (A:=A) (B:=B) hs hml
 have hj:(jnt (ofN (s.take m) A) (ofN (s.drop m) B)).length=s.length:=by rw[qc6];omega
 obtain⟨rfl,rfl,rfl⟩:=mspec hs ht A B fa fb (qdJ (qlK ha hA)) (qdJ (qlK hb hB)) (qpV hs hj fun k hk=>qe5 hml hk) hk (by omega)
 obtain⟨em1,em2⟩:=qmL hs hS hml ha hA hb hB
 rw[em1,em2] at m1
 exact qnn (hft:=hft) (hl0:=qpx hsl hc) (h1:=POf htn htd hs ht hS) (h2:=POf htn htd ha ht hA) (h3:=POf htn htd hb ht hB) (hsp:=sp) (hme:=m1) (q1:=hq) (q2:=qiO (by omega)) (q3:=qiO (by omega)) (hal:=qjw)
theorem qiu (s:List Pt) (tn td:Int) (htn:I64 tn) (htd:I64 td) (z:Int):Fn 7 1 [qaq 0 s,.pv (qaa tn td),.pv (iV z)] [(0,0,qag s)] (.pv (.bool true)) 0 []:=qj3 htn htd
end
end Go.Proofs.Ytalnjplghagbpaa
