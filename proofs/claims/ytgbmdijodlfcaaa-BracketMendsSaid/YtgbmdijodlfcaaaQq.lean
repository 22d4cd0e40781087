/-
  BracketMends holds. Conditions: none.
-/
import Derived.Test.YtgbmdijodlfcaaaW38
import Derived.Test.YtgbmdijodlfcaaaW21
namespace Go.Proofs.Ytgbmdijodlfcaaa
set_option maxRecDepth 100000
open Go.RowKit
theorem qcE {α:Type} {X:List α} {k:Nat} {x:α} (h:X[k]?=some x):X.take (k+1)=X.take k++[x]:=by rw[List.take_add_one,h];rfl
theorem qnl {α:Type} {X:List α} {f:α→Bool} {k:Nat} {x:α} (h:X[k]?=some x) (hf:f x=true):(X.filter f)[((X.take k).filter f).length]?=some x:=by
 have e:X=X.take k++x::X.drop (k+1):=by
  obtain⟨hl,rfl⟩:=List.getElem?_eq_some_iff.1 h
  rw[← List.drop_eq_getElem_cons hl,List.take_append_drop]
 have:X.filter f=(X.take k).filter f++x::(X.drop (k+1)).filter f:=by
  conv=>lhs;rw[e]
  rw[List.filter_append,List.filter_cons_of_pos hf]
 rw[this,List.getElem?_append_right (Nat.le_refl _),Nat.sub_self]
 rfl
theorem qpx:∀ (j:Nat),j≤126→(wy j).Pairwise (·≠·):=by
 intro j
 induction j using Nat.strongRecOn with
 | ind j ih=>
  intro hj
  match j,ih,hj with
  | 0,_,_=>rw[qbD];exact .nil
  | i+1,ih,hj=>
   rw[qaM (by omega)]
   refine List.pairwise_cons.2 ⟨fun k hk e=>?_,ih (i/2) (by omega) (by omega)⟩
   have:=qqe (i/2) (by omega) k hk
   omega
section
variable {s:List Pt} {tn td:Int}
theorem qgO:∀ (L:List Nat) (q:Br×List Int),L.Pairwise (·≠·)→(∀ k∈L,k<q.1.w.length)→(rpF s tn td L q).2=q.2++(L.filter fun i=>decide ((rpF s tn td L q).1.w[i]?≠q.1.w[i]?)).map fun (i:Nat)=>(i:Int)
 | [],q,_,_=>by simp[rpF]
 | k::r,q,hd,hl=>by
  obtain⟨h1,h2⟩:=List.pairwise_cons.1 hd
  have hk:=hl k List.mem_cons_self
  have hw:(rpS s tn td q k).1.w=q.1.w.set k (won s tn td (q.1.nd (2*k+1)) (q.1.nd (2*k+2))):=rfl
  have ih:=qgO r (rpS s tn td q k) h2 (fun i hi=>by rw[hw,List.length_set];exact hl i (List.mem_cons_of_mem _ hi))
  show (rpF s tn td r (rpS s tn td q k)).2=q.2++((k::r).filter fun i=>decide ((rpF s tn td r (rpS s tn td q k)).1.w[i]?≠q.1.w[i]?)).map fun (i:Nat)=>(i:Int)
  generalize hz:rpF s tn td r (rpS s tn td q k)=z at ih ⊢
  have e1:z.1.w[k]?=some (won s tn td (q.1.nd (2*k+1)) (q.1.nd (2*k+2))):=by
   rw[← hz,qdZ,qjP _ _ _ fun hm=>h1 k hm rfl,hw,List.getElem?_set,if_pos rfl,if_pos hk]
  have e2:q.1.w[k]?=some (q.1.nd k):=qa5 hk
  have e3:r.filter (fun i=>decide (z.1.w[i]?≠(rpS s tn td q k).1.w[i]?))=r.filter (fun i=>decide (z.1.w[i]?≠q.1.w[i]?)):=by
   refine List.filter_congr fun i hi=>?_
   rw[hw,List.getElem?_set_ne (h1 i hi)]
  rw[ih,e3]
  by_cases hv:won s tn td (q.1.nd (2*k+1)) (q.1.nd (2*k+2))=q.1.nd k
  ·have e4:(rpS s tn td q k).2=q.2:=by unfold rpS;simp only;rw[if_pos hv]
   rw[e4,List.filter_cons_of_neg (by rw[e1,e2,hv];simp)]
  ·have e4:(rpS s tn td q k).2=q.2++[(k:Int)]:=by unfold rpS;simp only;rw[if_neg hv]
   rw[e4,List.filter_cons_of_pos (by rw[e1,e2];simpa using hv),List.map_cons,List.append_assoc]
   rfl
end
section
variable {b o:Br} {J:Nat} {pz id:Int}
abbrev qrD (b o:Br):Nat→Bool:=fun i=>decide (o.w[i]?≠b.w[i]?)
abbrev qeZ (b o:Br) (J:Nat):List Int:=((wy J).filter (qrD b o)).map fun (i:Nat)=>(i:Int)
abbrev qet (b o:Br) (J k:Nat):Nat:=(((wy J).take k).filter (qrD b o)).length
theorem qfz {k:Nat} {i:Nat} (h:(wy J)[k]?=some i):(wyV J)[k]?=some (i:Int):=by unfold wyV;rw[List.getElem?_map,h];rfl
theorem qiL (hJ:J≤126) (hb:b.w.length≤63) (h2:J≤2*b.w.length) (ho:o.w.length=b.w.length):Rl 3 3 7 0 234 11 (bmP (qeZ b o J) (wyV J) pz id 0 0) (bmH b o (qeZ b o J) (wyV J)) (.exit 0)
 [(3,.pv (iV pz)),(4,.pv (iV id)),(5,.pp 3 0),(11,.pp 9 0),(12,.ls 8 (qeZ b o J).length),(16,.ls 10 (wyV J).length),(20,.pv (iV ((qet b o J (wy J).length:Nat):Int)))] (bmH b o (qeZ b o J) (wyV J)):=by
 have hlen:=qdS J
 have hml:(wyV J).length=(wy J).length:=by unfold wyV;rw[List.length_map]
 have last:=qkm (b:=b) (o:=o) (l:=qeZ b o J) (m:=wyV J) (k:=(wy J).length) (j:=qet b o J (wy J).length) (pz:=pz) (id:=id) (hlt:=df (by omega))
 refine RunsL.roundsZ (N:=(wy J).length) (fun k=>bmP (qeZ b o J) (wyV J) pz id (qet b o J k) k) (fun _=>bmH b o (qeZ b o J) (wyV J)) (wy J).length 0 (by omega) (fun k _ hk r=>?_) last
 obtain⟨i,hi⟩:=qaj (l:=wy J) (k:=k) hk
 have him:i∈wy J:=List.mem_of_getElem? hi
 have hil:=qkp J b.w.length hb h2 i him
 have hm:=qfz hi
 have ho1:=qa5 (b:=o) (i:=i) (by omega)
 have hb1:=qa5 (b:=b) hil
 have hin:0≤(k:Int)∧(k:Int)<((wyV J).length:Int):=⟨by omega,by omega⟩
 have hx:decide ((i:Int)≥(b.w.length:Int))=false:=df (by omega)
 have h0:decide ((i:Int)<0)=false:=df (by omega)
 have ix1:0≤(i:Int)∧(i:Int)<(o.w.length:Int):=⟨by omega,by omega⟩
 have ix2:0≤(i:Int)∧(i:Int)<(b.w.length:Int):=⟨by omega,by omega⟩
 have hlt:decide ((k:Int)<((wyV J).length:Int))=true:=dt (by omega)
 by_cases hv:o.nd i=b.nd i
 ·have hn:qet b o J (k+1)=qet b o J k:=by
   unfold qet
   rw[qcE hi,List.filter_append,List.filter_cons_of_neg (by show ¬ decide (o.w[i]?≠b.w[i]?)=true;rw[ho1,hb1,hv];simp)]
   simp
  rw[hn] at r
  by_cases hp:0<k
  ·obtain⟨k',rfl⟩:∃ k',k=k'+1:=⟨k-1,by omega⟩
   obtain⟨i0,hi0⟩:=qaj (l:=wy J) (k:=k') (by omega)
   obtain⟨g1,g2⟩:=qpD J hJ k' i0 i hi0 hi
   have hl0:=qkp J b.w.length hb h2 i0 (List.mem_of_getElem? hi0)
   exact qnv (hlt:=hlt) (hin:=hin) (hk:=hm) (h0:=h0) (hx:=hx) (hp:=dt (by omega)) (z:=(k':Int)) (hk1:=by rw[qbl (by omega) (by omega)];congr 1;omega) (hin2:=⟨by omega,by omega⟩) (hz:=qfz hi0) (z2:=((i0-1:Nat):Int)) (hy:=by rw[qbl (by omega) (by omega)];congr 1;omega) (nz:=by decide) (e1:=(i:Int))
    (hq:=by rw[show Int.tdiv ((i0-1:Nat):Int) 2=(((i0-1)/2:Nat):Int) from rfl,qbl (by omega) (by omega),g2]) (hne:=by simp) (hixo:=ix1) (hix:=ix2) (hv:=ho1) (hu:=hb1) (hvu:=by simp[hv]) (hs:=qah (by omega)) r
  ·exact qot (hlt:=hlt) (hin:=hin) (hk:=hm) (h0:=h0) (hx:=hx) (hp:=df (by omega)) (hixo:=ix1) (hix:=ix2) (hv:=ho1) (hu:=hb1) (hvu:=by simp[hv]) (hs:=qah (by omega)) r
 ·have hP:qrD b o i=true:=by show decide (o.w[i]?≠b.w[i]?)=true;rw[ho1,hb1];simpa using hv
  have hn:qet b o J (k+1)=qet b o J k+1:=by
   unfold qet
   rw[qcE hi,List.filter_append,List.filter_cons_of_pos hP]
   simp
  rw[hn] at r
  have hj:(qeZ b o J)[qet b o J k]?=some (i:Int):=by
   unfold qeZ
   rw[List.getElem?_map,qnl hi hP];rfl
  have hjl:=qaq hj
  have hjs:(qeZ b o J).length≤(wy J).length:=by unfold qeZ;rw[List.length_map];exact List.length_filter_le _ _
  have hge:decide (((qet b o J k:Nat):Int)≥((qeZ b o J).length:Int))=false:=df (by omega)
  have in3:0≤((qet b o J k:Nat):Int)∧((qet b o J k:Nat):Int)<((qeZ b o J).length:Int):=⟨by omega,by omega⟩
  have hj1:iV (IntKind.i64.wrap (((qet b o J k:Nat):Int)+1))=iV ((qet b o J k+1:Nat):Int):=qah (by omega)
  by_cases hp:0<k
  ·obtain⟨k',rfl⟩:∃ k',k=k'+1:=⟨k-1,by omega⟩
   obtain⟨i0,hi0⟩:=qaj (l:=wy J) (k:=k') (by omega)
   obtain⟨g1,g2⟩:=qpD J hJ k' i0 i hi0 hi
   have hl0:=qkp J b.w.length hb h2 i0 (List.mem_of_getElem? hi0)
   exact qmt (hlt:=hlt) (hin:=hin) (hk:=hm) (h0:=h0) (hx:=hx) (hp:=dt (by omega)) (z:=(k':Int)) (hk1:=by rw[qbl (by omega) (by omega)];congr 1;omega) (hin2:=⟨by omega,by omega⟩) (hz:=qfz hi0) (z2:=((i0-1:Nat):Int)) (hy:=by rw[qbl (by omega) (by omega)];congr 1;omega) (nz:=by decide) (e1:=(i:Int))
    (hq:=by rw[show Int.tdiv ((i0-1:Nat):Int) 2=(((i0-1)/2:Nat):Int) from rfl,qbl (by omega) (by omega),g2]) (hne:=by simp) (hixo:=ix1) (hix:=ix2) (hv:=ho1) (hu:=hb1) (hvu:=by simpa using hv) (hge:=hge) (hin3:=in3) (hj:=hj) (hj1:=hj1) (hs:=qah (by omega)) r
  ·exact qmF (hlt:=hlt) (hin:=hin) (hk:=hm) (h0:=h0) (hx:=hx) (hp:=df (by omega)) (hixo:=ix1) (hix:=ix2) (hv:=ho1) (hu:=hb1) (hvu:=by simpa using hv) (hge:=hge) (hin3:=in3) (hj:=hj) (hj1:=hj1) (hs:=qah (by omega)) r
theorem qnx {l:List Int} {j k:Nat}:Rl 3 3 7 2 234 11 (bmI l (wyV J) pz id j k false 0) (bmH b o l (wyV J)) (.exit 4) (qsz l (wyV J) pz id j k (decide (k∈wy J))) (bmH b o l (wyV J)):=by
 have hlen:=qdS J
 have hml:(wyV J).length=(wy J).length:=by unfold wyV;rw[List.length_map]
 have last:Rl 3 3 7 2 234 11 (bmI l (wyV J) pz id j k (decide (k∈(wy J).take (wy J).length)) (wy J).length) (bmH b o l (wyV J)) (.exit 4) (qsz l (wyV J) pz id j k (decide (k∈wy J))) (bmH b o l (wyV J)):=by
  rw[List.take_length]
  by_cases h:k∈wy J
  ·rw[dt h];exact qjS (hlt:=df (by omega))
  ·rw[df h];exact qhD (hlt:=df (by omega))
 refine RunsL.roundsZ (N:=(wy J).length) (fun n=>bmI l (wyV J) pz id j k (decide (k∈(wy J).take n)) n) (fun _=>bmH b o l (wyV J)) (wy J).length 0 (by omega) (fun n _ hn r=>?_) last
 obtain⟨i,hi⟩:=qaj (l:=wy J) (k:=n) hn
 have hlt:decide ((n:Int)<((wyV J).length:Int))=true:=dt (by omega)
 have hin:0≤(n:Int)∧(n:Int)<((wyV J).length:Int):=⟨by omega,by omega⟩
 have hs:=qah (k:=n) (by omega)
 by_cases h:k∈(wy J).take n
 ·rw[dt (show k∈(wy J).take (n+1) by rw[qcE hi];exact List.mem_append_left _ h)] at r
  rw[dt h]
  exact qpF (hlt:=hlt) (hs:=hs) r
 ·rw[df h]
  by_cases e:i=k
  ·rw[dt (show k∈(wy J).take (n+1) by rw[qcE hi,e];simp)] at r
   exact qmA (hlt:=hlt) (hin:=hin) (hk:=qfz hi) (hxk:=by simp[e]) (hs:=hs) r
  ·rw[df (show ¬ k∈(wy J).take (n+1) by rw[qcE hi];simp[h];omega)] at r
   exact qnB (hlt:=hlt) (hin:=hin) (hk:=qfz hi) (hxk:=by simp;omega) (hs:=hs) r
theorem qjQ {l:List Int} {j:Nat} (hb:b.w.length≤63) (ho:o.w.length=b.w.length) (hoff:∀ k,k∉wy J→o.w[k]?=b.w[k]?):Rl 3 3 7 1 234 11 (bmW l (wyV J) pz id j 0) (bmH b o l (wyV J)) (.exit 2)
 [(3,.pv (iV pz)),(4,.pv (iV id)),(5,.pp 3 0),(11,.pp 9 0),(12,.ls 8 l.length),(16,.ls 10 (wyV J).length),(20,.pv (iV (j:Int)))] (bmH b o l (wyV J)):=by
 refine RunsL.roundsZ (N:=b.w.length) (fun k=>bmW l (wyV J) pz id j k) (fun _=>bmH b o l (wyV J)) b.w.length 0 (by omega) (fun k _ hk r=>?_) (qkG (k:=b.w.length) (hlt:=df (by omega)))
 have hr:=qnx (b:=b) (o:=o) (J:=J) (pz:=pz) (id:=id) (l:=l) (j:=j) (k:=k)
 by_cases h:k∈wy J
 ·rw[dt h] at hr
  exact qnq (hlt:=dt (by omega)) (r2:=hr) (hs:=qah (by omega)) r
 ·rw[df h] at hr
  have hv:=qa5 (b:=b) hk
  exact qku (hlt:=dt (by omega)) (r2:=hr) (hino:=⟨by omega,by omega⟩) (hin:=⟨by omega,by omega⟩) (hv:=(hoff k h).trans hv) (hu:=hv) (hs:=qah (by omega)) r
end
section
variable {s:List Pt} {tn td:Int} (htn:I64 tn) (htd:I64 td)
include htn htd in
theorem qnt (b:Br) (pz id:Int):Fn 7 3 [brS 0 1 b,qaz 2 s,.pv (qac tn td),.pv (iV pz),.pv (iV id)] [(0,0,zrI b.p),(1,0,zrI b.w),(2,0,qal s)] (.pv (.bool true)) 0 []:=by
 rcases qpj (s:=s) htn htd b with hft | ⟨hft,V,ht,hk⟩
 ·exact qh7 (hft:=hft) (hal:=qeK)
 have n2:=V.n2
 have hw:=V.w
 have c1:=qsE (b:=b) (z:=pz) (x:=id) htn htd (s:=s) (by omega) (by omega)
 have c2:=qlZ htn htd (s:=s) (b:=b) (by omega) (by omega)
 unfold qcf at c2
 rw[(qdR V ht hk).1,(qdR V ht hk).2] at c2
 by_cases h0:seE b s tn td pz id=0
 ·obtain⟨_,hs,_,z0,z1,hk',ho'⟩:=qr6 h0
  have hzl:pz.toNat<b.p.length:=by omega
  have er:seR s tn td b pz id=rpF s tn td (wy (b.w.length+pz.toNat)) (⟨b.p.set pz.toNat id,b.w⟩,[]):=by unfold seR;rw[if_pos h0]
  have eo:(seR s tn td b pz id).1=plc s tn td b pz.toNat id:=by rw[er,qdZ];rfl
  have el:(seR s tn td b pz id).2=qeZ b (plc s tn td b pz.toNat id) (b.w.length+pz.toNat):=by
   have hi:=qkp (b.w.length+pz.toNat) b.w.length (by omega) (by omega)
   have t:=qgO (s:=s) (tn:=tn) (td:=td) (wy (b.w.length+pz.toNat)) (⟨b.p.set pz.toNat id,b.w⟩,[]) (qpx _ (by omega)) (fun k hk=>hi k hk)
   rw[er,t,qdZ]
   rfl
  unfold qfr at c1
  rw[h0,eo,el] at c1
  have V':=qo2 (tn:=tn) (td:=td) V hs hzl hk' ho'
  have ow:=qnF (s:=s) (tn:=tn) (td:=td) (b:=b) pz.toNat id
  have op:=qhN (s:=s) (tn:=tn) (td:=td) (b:=b) pz.toNat id
  have opl:(plc s tn td b pz.toNat id).p.length=b.p.length:=by rw[op,List.length_set]
  have c3:=qlZ htn htd (s:=s) (b:=plc s tn td b pz.toNat id) (by omega) (by omega)
  unfold qcf at c3
  rw[(qdR V' ht (by rw[op];exact hk')).1,(qdR V' ht (by rw[op];exact hk')).2] at c3
  have c4:=qp2 (b:=b) (by omega) (by omega) pz
  unfold qem at c4
  rw[(qir V ⟨z0,z1⟩).1,(qir V ⟨z0,z1⟩).2] at c4
  have hJ:b.w.length+pz.toNat≤126:=by omega
  have hml:(wyV (b.w.length+pz.toNat)).length≤6:=by unfold wyV;rw[List.length_map];exact qdS _
  have r0:=qiL (b:=b) (o:=plc s tn td b pz.toNat id) (J:=b.w.length+pz.toNat) (pz:=pz) (id:=id) hJ (by omega) (by omega) ow
  have r1:=qjQ (b:=b) (o:=plc s tn td b pz.toNat id) (J:=b.w.length+pz.toNat) (pz:=pz) (id:=id) (l:=qeZ b (plc s tn td b pz.toNat id) (b.w.length+pz.toNat)) (j:=qet b (plc s tn td b pz.toNat id) (b.w.length+pz.toNat) (wy (b.w.length+pz.toNat)).length) (by omega) ow (fun k hk=>qnV hk)
  have hat:(((qet b (plc s tn td b pz.toNat id) (b.w.length+pz.toNat) (wy (b.w.length+pz.toNat)).length:Nat):Int)==((qeZ b (plc s tn td b pz.toNat id) (b.w.length+pz.toNat)).length:Int))=true:=by
   have:(qeZ b (plc s tn td b pz.toNat id) (b.w.length+pz.toNat)).length=qet b (plc s tn td b pz.toNat id) (b.w.length+pz.toNat) (wy (b.w.length+pz.toNat)).length:=by
    unfold qeZ qet
    rw[List.length_map,List.take_length]
   rw[this];simp
  have hl1:(((plc s tn td b pz.toNat id).w.length:Int) !=(b.w.length:Int))=false:=by rw[ow];simp
  have hl2:(((plc s tn td b pz.toNat id).p.length:Int) !=(b.p.length:Int))=false:=by rw[opl];simp
  have h6:decide (((wyV (b.w.length+pz.toNat)).length:Int)>6)=false:=df (by omega)
  have hi:(plc s tn td b pz.toNat id).p[pz.toNat]?=some id:=by rw[op,List.getElem?_set,if_pos rfl,if_pos hzl]
  have hix:0≤pz∧pz<((plc s tn td b pz.toNat id).p.length:Int):=⟨z0,by omega⟩
  by_cases hr:RtB s tn td b
  ·rw[qeX hr] at c2
   rw[qeX (qiy hr hw n2 hzl)] at c3
   exact qmx (hft:=hft) (h1:=c1) (h2:=c2) (hp:=c4) (h3:=c3) (hl1:=hl1) (hl2:=hl2) (h6:=h6) (r0:=r0) (r1:=r1) (hat:=hat) (hix:=hix) (hi:=hi) (hal:=qeK)
  ·rw[qe0 hr] at c2
   exact qnC (hft:=hft) (h1:=c1) (h2:=c2) (hp:=c4) (h3:=c3) (hl1:=hl1) (hl2:=hl2) (h6:=h6) (r0:=r0) (r1:=r1) (hat:=hat) (hix:=hix) (hi:=hi) (hal:=qeK)
 ·exact qmD (hft:=hft) (h1:=c1) (h2:=c2) (he:=by simpa using h0) (hal:=qeK)
end
theorem qhL (b:Br) (s:List Pt) (tn td:Int) (htn:I64 tn) (htd:I64 td) (z x:Int):Fn 7 3 [brS 0 1 b,qaz 2 s,.pv (qac tn td),.pv (iV z),.pv (iV x)] [(0,0,zrI b.p),(1,0,zrI b.w),(2,0,qal s)] (.pv (.bool true)) 0 []:=qnt htn htd b z x
end Go.Proofs.Ytgbmdijodlfcaaa
