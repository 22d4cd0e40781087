/-
  Joined: Eh, Ei. Conditions: none.
-/
import Derived.Test.YtalnjplghagbpaaW33
import Derived.Test.YtalnjplghagbpaaW19
import Derived.Test.YtalnjplghagbpaaW27
import Derived.Test.YtalnjplghagbpaaW23
import Derived.Test.YtalnjplghagbpaaW24
namespace Go.Proofs.Ytalnjplghagbpaa
set_option maxRecDepth 100000
open Go.RowKit
section
variable {rt x:Int} {l m:List Pt} {T:Sh Nat}
def qgf (T:Sh Nat) (k:Nat):Nat:=T.list.idxOf k
theorem qoD {j k:Nat} (hn:T.list.Nodup) (h:T.list[j]?=some k):qgf T k=j:=by
 have hj:=(List.getElem?_eq_some_iff.1 h).1
 have e:T.list[j]=k:=(List.getElem?_eq_some_iff.1 h).2
 unfold qgf
 rw[← e]
 exact hn.idxOf_getElem j hj
theorem qjL {k:Nat} (h:k∈T.list):T.list[qgf T k]?=some k:=by
 unfold qgf
 have hl:T.list.idxOf k<T.list.length:=List.idxOf_lt_length_of_mem h
 rw[List.getElem?_eq_getElem hl,List.getElem_idxOf]
def mvI (T:Sh Nat) (z:Int):Int:=if z = -1 then -1 else (qgf T z.toNat:Int)
def orN (l:List Pt) (T:Sh Nat):List Pt:=T.list.map fun k=>⟨(ndT l k).id,mvI T (ndT l k).a,mvI T (ndT l k).b⟩
theorem orN_len:(orN l T).length=T.list.length:=List.length_map ..
theorem qfs {j k:Nat} (h:T.list[j]?=some k):(orN l T)[j]?=some ⟨(ndT l k).id,mvI T (ndT l k).a,mvI T (ndT l k).b⟩:=by unfold orN;rw[List.getElem?_map,h];rfl
theorem qgR (hn:T.list.Nodup):∀ {A:Sh Nat} {z:Int},Rep l z A→(∀ k∈A.list,k∈T.list)→Rep (orN l T) (mvI T z) (A.map (qgf T))
 | .nil,z,h,_=>by
  have e:z = -1:=h
  subst e
  rfl
 | .node a k b,z,⟨h,p,hp,a1,a2⟩,hk=>by
  have mk:=hk k (List.mem_append_right _ List.mem_cons_self)
  refine⟨?_,⟨p.id,mvI T p.a,mvI T p.b⟩,?_,qgR hn a1 fun j hj=>hk j (List.mem_append_left _ hj),qgR hn a2 fun j hj=>hk j (List.mem_append_right _ (List.mem_cons_of_mem _ hj))⟩
  ·subst h
   unfold mvI
   rw[if_neg (by omega)]
   rfl
  ·have:=qfs (l:=l) (qjL mk)
   rw[qeo hp] at this
   exact this
theorem qtb {k:Nat} (hk:k∈T.list):idN (orN l T) (qgf T k)=idN l k:=by
 rw[qaz (qfs (l:=l) (qjL hk))]
 unfold ndT idN
 rfl
theorem qcU {α β:Type} {f g:α→β}:∀ {S:Sh α},(∀ a∈S.list,f a=g a)→S.map f=S.map g
 | .nil,_=>rfl
 | .node a k b,h=>by
  show Sh.node (a.map f) (f k) (b.map f)=Sh.node (a.map g) (g k) (b.map g)
  rw[qcU fun j hj=>h j (List.mem_append_left _ hj),qcU fun j hj=>h j (List.mem_append_right _ (List.mem_cons_of_mem _ hj)),h k (List.mem_append_right _ List.mem_cons_self)]
theorem qeJ {α β γ:Type} {f:α→β} {g:β→γ}:∀ {S:Sh α},(S.map f).map g=S.map (g∘f)
 | .nil=>rfl
 | .node a k b=>by
  show Sh.node ((a.map f).map g) (g (f k)) ((b.map f).map g)=Sh.node (a.map (g∘f)) ((g∘f) k) (b.map (g∘f))
  rw[qeJ,qeJ]
  rfl
theorem qeX:idT (orN l T) (T.map (qgf T))=idT l T:=by
 unfold idT
 rw[qeJ]
 exact qcU fun k hk=>qtb hk
theorem qfk (h:Fits ⟨rt,l⟩ T):Fits ⟨mvI T rt,orN l T⟩ (T.map (qgf T))∧Up (orN l T):=by
 have hn:=h.nodup
 have hids:(T.map (qgf T)).list.map (idN (orN l T))=T.list.map (idN l):=by
  have:=congrArg Sh.list (qeX (l:=l) (T:=T))
  unfold idT at this
  rw[Sh.map_list (idN (orN l T)),Sh.map_list (idN l)] at this
  exact this
 refine⟨⟨qgR hn h.rep fun k hk=>hk,?_,?_⟩,fun j p q hp hq=>?_⟩
 ·show (T.map (qgf T)).list.length=(orN l T).length
  rw[Sh.map_list,List.length_map,orN_len]
 ·show ((T.map (qgf T)).list.map (idN (orN l T))).Pairwise _
  rw[hids]
  exact h.up
 ·have hq':=qak hq
  rw[orN_len] at hq'
  have g1:=List.getElem?_eq_getElem (show j<T.list.length by omega)
  have g2:=List.getElem?_eq_getElem hq'
  have e1:=qfs (l:=l) g1
  have e2:=qfs (l:=l) g2
  rw[hp] at e1
  rw[hq] at e2
  cases e1
  cases e2
  exact qgw h.up g1 g2
theorem qfC {x y:Tr} {T T':Sh Nat} (h:Fits x T) (h':Fits y T') (u:Up x.n) (u':Up y.n):(x.r=y.r∧x.n=y.n)↔idT x.n T=idT y.n T':=by
 refine⟨fun ⟨e1,e2⟩=>?_,fun e=>h.ext h' u u' e⟩
 have r1:=h.rep
 rw[e1,e2] at r1
 rw[r1.uniq h'.rep,e2]
abbrev clC (n:Nat) (c:List Int) (z y:Int):Prop:=Fn 88 2 [.pv (iV z),.pp 0 0] [(0,0,.ls 1 n),(1,0,.row 3 1 n (ziV c))] (.pv (iV y)) 0 []
theorem PMv {n:Nat} {c:List Int} {z:Int} (hz : -1≤z∧z<(n:Int)) (hc:∀ k,k<n→c[k]?=some (qgf T k:Int)):clC n c z (mvI T z):=by
 unfold mvI
 by_cases h:z = -1
 ·rw[if_pos h];exact qrS (h:=beq_iff_eq.2 h)
 ·rw[if_neg h];exact qoS (h:=beq_eq_false_iff_ne.2 h) (hin:=⟨by omega,by omega⟩) (hg:=hc z.toNat (by omega))
def plc (T:Sh Nat) (n j:Nat):List Int:=(List.range n).map fun k=>if k∈T.list.take j then (qgf T k:Int) else 0
theorem qdL {n j:Nat}:(plc T n j).length=n:=by unfold plc;rw[List.length_map,List.length_range]
theorem qhA {n j k:Nat} (h:k<n):(plc T n j)[k]?=some (if k∈T.list.take j then (qgf T k:Int) else 0):=by unfold plc;rw[List.getElem?_map,List.getElem?_range h];rfl
theorem qmV {n:Nat}:plc T n 0=List.replicate n 0:=by
 refine List.ext_getElem? fun k=>?_
 rcases Nat.lt_or_ge k n with h | h
 ·rw[qhA h,List.getElem?_replicate,if_pos h];simp
 ·rw[List.getElem?_eq_none (by rw[qdL];exact h),List.getElem?_eq_none (by rw[List.length_replicate];exact h)]
theorem qmb {n j k:Nat} (hn:T.list.Nodup) (hk:T.list[j]?=some k):plc T n (j+1)=(plc T n j).set k (j:Int):=by
 refine List.ext_getElem? fun v=>?_
 rcases Nat.lt_or_ge v n with h | h
 ·rw[qhA h,List.getElem?_set,qbg hk]
  by_cases e:k=v
  ·subst e
   rw[if_pos rfl,qdL,if_pos h,if_pos (by simp),qoD hn hk]
  ·rw[if_neg e,qhA h]
   have:(v∈T.list.take j++[k])↔v∈T.list.take j:=by simp[Ne.symm e]
   simp only[this]
 ·rw[List.getElem?_eq_none (by rw[qdL];exact h),List.getElem?_eq_none (by rw[List.length_set,qdL];exact h)]
theorem qt6 (hl:l.length≤999999) (h:Fits ⟨rt,l⟩ T):Fn 50 1 [trS 0 rt l] [(0,0,qaa l)] (trS 1 (mvI T rt) (orN l T)) 1 [(1,0,qaa (orN l T))]:=by
 have hTl:T.list.length=l.length:=h.all
 have hn:=h.nodup
 have hw:=qfX hl (qeP h)
 rw[zrI,qco,hTl] at hw
 have at2:∀ j,j<l.length→∃ k,T.list[j]?=some k∧k<l.length:=fun j hj=>by
  have hk:=List.getElem?_eq_getElem (show j<T.list.length by omega)
  exact⟨_,hk,h.rep.lt _ (List.mem_of_getElem? hk)⟩
 have loop:=RunsL.roundsZ (fun j=>[(1,.pp 1 0),(2,.pp 2 0),(3,.ls 3 l.length),(5,.pp 5 0),(21,.ls 3 l.length),(22,.pv (iV (l.length:Int))),(23,.pv (iV (j:Int)))])
  (fun j=>[(1,0,.pv (iV rt)),(1,1,.ls 0 l.length),(2,0,.pv (iV 0)),(2,1,.pv (.slice none 0 0)),(5,0,.ls 4 l.length),(0,0,qaa l),(3,0,.row 3 1 l.length (ziV (wL T))),(4,0,.row 3 1 l.length (ziV (plc T l.length j)))]) (N:=l.length) l.length 0 (Nat.zero_add _) (fun j _ hj r=>by
   obtain⟨k,hk,hkl⟩:=at2 j hj
   rw[qmb hn hk] at r
   exact qnB (z:=(k:Int)) (c1:=plc T l.length j) (hlt:=dt (by omega)) (hin:=⟨by omega,by omega⟩) (hg:=qd1 hk) (hzi:=⟨by omega,by omega⟩) (hl:=by rw[qdL];exact hkl) (hs:=qah (by omega)) r)
  (qqC (rt:=rt) (l:=l) (n:=l.length) (k:=l.length) (g:=wL T) (c1:=plc T l.length l.length) (hlt:=df (by omega)))
 rw[qmV] at loop
 have hc:∀ k,k<l.length→(plc T l.length l.length)[k]?=some (qgf T k:Int):=fun k hk=>by
  rw[qhA hk,List.take_of_length_le (by omega),if_pos ((h.mem k).2 hk)]
 have lnk:∀ k,k<l.length→(-1≤(ndT l k).a∧(ndT l k).a<(l.length:Int))∧(-1≤(ndT l k).b∧(ndT l k).b<(l.length:Int)):=fun k hk=>h.lnk _ (List.mem_of_getElem? (qat hk))
 have loop2:=RunsL.roundsZ (fun j=>[(1,.pp 1 0),(2,.pp 2 0),(8,.pc 88 [.pp 5 0]),(9,.pp 6 0),(39,.ls 3 l.length),(40,.pv (iV (l.length:Int))),(41,.pv (iV (j:Int)))])
  (fun j=>[(1,0,.pv (iV rt)),(1,1,.ls 0 l.length),(2,0,.pv (iV 0)),(2,1,.pv (.slice none 0 0)),(5,0,.ls 4 l.length),(0,0,qaa l),(3,0,.row 3 1 l.length (ziV (wL T))),(4,0,.row 3 1 l.length (ziV (plc T l.length l.length))),(6,0,.pv (iV (mvI T rt))),(6,1,.ls 7 j),(7,0,.row 26 3 j (qam ((orN l T).take j)))]) (N:=l.length) l.length 0 (Nat.zero_add _) (fun j _ hj r=>by
   obtain⟨k,hk,hkl⟩:=at2 j hj
   obtain⟨k1,k2⟩:=lnk k hkl
   rw[qbg (qfs (l:=l) hk),qgE] at r
   exact qjl (z:=(k:Int)) (hlt:=dt (by omega)) (hin:=⟨by omega,by omega⟩) (hg:=qd1 hk) (hzi:=⟨by omega,by omega⟩) (hp:=qat hkl) (ha:=PMv k1 hc) (hb:=PMv k2 hc) (hn:=by omega) (hs:=qah (by omega)) r)
  (qny (rt:=rt) (l:=l) (n:=l.length) (k:=l.length) (g:=wL T) (c1:=plc T l.length l.length) (x:=mvI T rt) (N:=l.length) (vs:=qam ((orN l T).take l.length)) (hlt:=df (by omega)))
 have ol:(orN l T).length=l.length:=orN_len.trans hTl
 rw[List.take_of_length_le (Nat.le_of_eq ol)] at loop2
 show Fn 50 1 [trS 0 rt l] [(0,0,qaa l)] (.ag [.pv (iV (mvI T rt)),.ls 1 (orN l T).length]) 1 [(1,0,.row 26 3 (orN l T).length (qam (orN l T)))]
 rw[ol]
 exact qs2 (hw:=hw) (m0:=by omega) (m1:=by omega) (r0:=loop) (hr:=PMv h.root.1 hc) (rr1:=loop2)
theorem qom (p q:Pt):((p.id==q.id)&&((p.a==q.a)&&((p.b==q.b)&&true)))=pT (p=q):=by
 by_cases h:p=q
 ·subst h;rw[qd8 rfl];simp
 ·rw[qdn h]
  obtain⟨p1,p2,p3⟩:=p
  obtain⟨q1,q2,q3⟩:=q
  by_cases h1:p1=q1<;>by_cases h2:p2=q2<;>by_cases h3:p3=q3<;>simp_all
theorem qvH (hl:l.length≤999999):Fn 87 2 [.ls 0 l.length,.ls 1 m.length] [(0,0,qaa l),(1,0,qaa m)] (.pv (.bool (pT (l=m)))) 0 []:=by
 by_cases hlen:l.length=m.length
 ·have h0:((l.length:Int) !=(m.length:Int))=false:=by simp[hlen]
  have step:∀ k,k≤l.length→(∀ j,j<k→l[j]?=m[j]?)→∀ {e:Exit} {tm2:TmL} {hp2:HpL},
   Rl 2 2 87 0 26 2 [(0,.ls 0 l.length),(1,.ls 1 m.length),(12,.pv (iV (l.length:Int))),(13,.pv (iV (k:Int)))] [(0,0,qaa l),(1,0,qaa m)] e tm2 hp2→
   Rl 2 2 87 0 26 2 [(0,.ls 0 l.length),(1,.ls 1 m.length),(12,.pv (iV (l.length:Int))),(13,.pv (iV ((0:Nat):Int)))] [(0,0,qaa l),(1,0,qaa m)] e tm2 hp2:=by
   intro k hk hs e tm2 hp2 r
   refine RunsL.roundsZ (fun j=>[(0,.ls 0 l.length),(1,.ls 1 m.length),(12,.pv (iV (l.length:Int))),(13,.pv (iV (j:Int)))]) (fun _=>[(0,0,qaa l),(1,0,qaa m)]) (N:=k) k 0 (Nat.zero_add _) (fun j _ hj r=>?_) r
   obtain⟨p,hp⟩:=qao (l:=l) (k:=j) (by omega)
   exact qlJ (hlt:=dt (by omega)) (hk:=hp) (hin:=⟨by omega,by omega⟩) (hm:=by rw[← hs j hj];exact hp) (hin2:=⟨by omega,by omega⟩) (hne:=by rw[qom,qd8 rfl];rfl) (hs:=qah (by omega)) r
  rcases qaT (fun j=>l[j]?=m[j]?) l.length with h | ⟨j,hj,hb,hf⟩
  ·have e:l=m:=List.ext_getElem? fun j=>by
    rcases Nat.lt_or_ge j l.length with hj | hj
    ·exact h j hj
    ·rw[List.getElem?_eq_none hj,List.getElem?_eq_none (by omega)]
   rw[qd8 e]
   exact qqz (hl:=h0) (r0:=step l.length (Nat.le_refl _) h (qpZ (hlt:=df (by omega))))
  ·rw[qdn fun e=>hb (by rw[e])]
   obtain⟨p,hp⟩:=qao (l:=l) (k:=j) hj
   obtain⟨q,hq⟩:=qao (l:=m) (k:=j) (by omega)
   exact qs7 (hl:=h0) (r0:=step j (Nat.le_of_lt hj) hf (qpi (hlt:=dt (by omega)) (hk:=hp) (hin:=⟨by omega,by omega⟩) (hm:=hq) (hin2:=⟨by omega,by omega⟩) (hne:=by rw[qom,qdn fun e=>hb (by rw[hp,hq,e])];rfl)))
 ·rw[qdn fun e=>hlen (by rw[e])]
  exact qoY (hl:=by simpa using fun h:(l.length:Int)=(m.length:Int)=>hlen (by omega))
theorem PEq (hl:l.length≤999999):Fn 49 2 [trS 0 rt l,trS 1 x m] [(0,0,qaa l),(1,0,qaa m)] (.pv (.bool (pT (rt=x∧l=m)))) 0 []:=by
 by_cases h:rt=x
 ·have e:pT (rt=x∧l=m)=pT (l=m):=by
   by_cases h2:l=m
   ·rw[qd8 h2,qd8 ⟨h,h2⟩]
   ·rw[qdn h2,qdn fun k=>h2 k.2]
  rw[e]
  exact qsG (hr:=beq_iff_eq.2 h) (hq:=qvH hl)
 ·rw[qdn fun k=>h k.1]
  exact qmU (hr:=beq_eq_false_iff_ne.2 h)
theorem qhV {p q:Prop} (h:p↔q):pT p=pT q:=by
 by_cases hp:p
 ·rw[qd8 hp,qd8 (h.1 hp)]
 ·rw[qdn hp,qdn fun k=>hp (h.2 k)]
theorem qko (hl:l.length≤999999) (hm:m.length≤999999):∃ (w:Bool) (e:Int),(chE ⟨rt,l⟩=0→chE ⟨x,m⟩=0→e=0∧∀ T T',Fits ⟨rt,l⟩ T→Fits ⟨x,m⟩ T'→w=pT (idT l T=idT m T'))∧
 Fn 16 2 [trS 0 rt l,trS 1 x m] [(0,0,qaa l),(1,0,qaa m)] (.pv (.tuple #[.bool w,iV e])) 0 []∧
 Fn 33 2 [trS 0 rt l,trS 1 x m] [(0,0,qaa l),(1,0,qaa m)] (.pv (.tuple #[.bool w,iV e])) 0 []:=by
 have cP:=qlc (rt:=rt) hl
 have cR:=qst (rt:=rt) hl
 have dP:=qlc (rt:=x) hm
 have dR:=qst (rt:=x) hm
 by_cases h0:chE ⟨rt,l⟩=0
 ·by_cases h1:chE ⟨x,m⟩=0
  ·obtain⟨T,hT⟩:=VT.of h0
   obtain⟨T',hT'⟩:=VT.of h1
   rw[h0] at cP cR
   rw[h1] at dP dR
   have hr:=qhm (rt:=rt) (x:=x) hT.rep hT'.rep
   have o1:=qfk hT
   have o2:=qfk hT'
   have hq:=PEq (rt:=mvI T rt) (x:=mvI T' x) (l:=orN l T) (m:=orN m T') (by rw[orN_len];have e:T.list.length=l.length:=hT.all;omega)
   rw[qhV (qfC o1.1 o2.1 o1.2 o2.2),qeX,qeX] at hq
   refine⟨_,0,fun _ _=>⟨rfl,fun S S' hS hS'=>?_⟩,qrv (h1:=cP) (h2:=dP) (ho:=qt6 hl hT) (ho2:=qt6 hm hT') (hq:=hq),qsl (hc:=cR) (hce:=eq0 rfl) (hc2:=dR) (hce2:=eq0 rfl) (hal:=qvz (hal:=hr))⟩
   rw[hT.rep.uniq hS.rep,hT'.rep.uniq hS'.rep]
  ·rw[h0] at cP cR
   exact⟨false,chE ⟨x,m⟩,fun _ k=>(h1 k).elim,qsH (h1:=cP) (h2:=dP) (he:=ne0 h1),qsV (hc:=cR) (hce:=eq0 rfl) (hc2:=dR) (hce2:=ne0 h1)⟩
 ·exact⟨false,chE ⟨rt,l⟩,fun k=>(h0 k).elim,qq5 (h1:=cP) (h2:=dP) (he:=ne0 h0),quu (hc:=cR) (hce:=ne0 h0)⟩
theorem qeB {s:List Pt} {tn td:Int} (htn:I64 tn) (htd:I64 td) (hl:l.length≤999999):∃ (w:Bool) (e:Int),(chE ⟨rt,l⟩=0→tE s tn td=0→e=0∧∀ T S,Fits ⟨rt,l⟩ T→OfSh s tn td S→w=pT (idT l T=idT (ofN s S) S))∧
 Fn 11 2 [trS 0 rt l,qas 1 s,.pv (qab tn td)] [(0,0,qaa l),(1,0,qag s)] (.pv (.tuple #[.bool w,iV e])) 0 []∧
 Fn 31 2 [trS 0 rt l,qas 1 s,.pv (qab tn td)] [(0,0,qaa l),(1,0,qag s)] (.pv (.tuple #[.bool w,iV e])) 0 []:=by
 have cP:=qlc (rt:=rt) hl
 have cR:=qst (rt:=rt) hl
 have hR:=qf8 htn htd s
 have hP:=qbq s
 have hck:∃ e3,Pure Try.prog 48 #[qab tn td] (iV e3):=by
  by_cases ht:okB tn td=true
  ·exact⟨_,qca htn htd ht⟩
  ·exact⟨_,qb0 htn htd ht⟩
 obtain⟨e3,hck⟩:=hck
 by_cases h0:chE ⟨rt,l⟩=0
 ·rw[h0] at cP cR
  by_cases h1:qec s=0
  ·have hs:=qcY.1 h1
   rw[h1] at hP
   by_cases ht:okB tn td=true
   ·obtain⟨T,hT⟩:=VT.of h0
    obtain⟨S,hS⟩:=qja (tn:=tn) (td:=td) hs
    rw[qiN hs ht] at hR ⊢
    have o1:=qfk hT
    obtain⟨f2,u2⟩:=qdA hs hS
    have hr:=qhm (rt:=rt) (x:=rtI S) hT.rep f2.rep
    have hq:=PEq (rt:=mvI T rt) (x:=rtI S) (l:=orN l T) (m:=ofN s S) (by rw[orN_len];have e:T.list.length=l.length:=hT.all;omega)
    rw[qhV (qfC o1.1 f2 o1.2 u2),qeX] at hq
    refine⟨_,0,fun _ _=>⟨rfl,fun T' S' hT' hS'=>?_⟩,qrZ (h1:=cP) (h2:=hP) (h3:=qca htn htd ht) (ho:=qt6 hl hT) (hg:=qrR htn htd ht hs hS) (hq:=hq),qrQ (hc:=cR) (hce:=eq0 rfl) (ht:=hR) (hte:=eq0 rfl) (hm:=qru htn htd hs hS) (hal:=qvz (hal:=hr))⟩
    rw[hT.rep.uniq hT'.rep,hS.uniq hS']
   ·have e:tE s tn td=8:=by unfold tE;rw[if_pos h1,if_neg ht]
    rw[e] at hR ⊢
    exact⟨false,8,fun _ h=>(by cases h),qrJ (h1:=cP) (h2:=hP) (h3:=qb0 htn htd ht) (he:=by decide),qrh (hc:=cR) (hce:=eq0 rfl) (ht:=hR) (hte:=by decide)⟩
  ·have e:tE s tn td=qec s:=by unfold tE;rw[if_neg h1]
   rw[e] at hR ⊢
   exact⟨false,qec s,fun _ h=>(h1 h).elim,qt2 (h1:=cP) (h2:=hP) (h3:=hck) (he:=ne0 h1),qrh (hc:=cR) (hce:=eq0 rfl) (ht:=hR) (hte:=ne0 h1)⟩
 ·exact⟨false,chE ⟨rt,l⟩,fun k=>(h0 k).elim,qs3 (h1:=cP) (h2:=hP) (h3:=hck) (he:=ne0 h0),qut (hc:=cR) (hce:=ne0 h0)⟩
end
end Go.Proofs.Ytalnjplghagbpaa

namespace Go.Proofs.Ytalnjplghagbpaa
set_option maxRecDepth 100000
open Go.RowKit
section
variable {rt z:Int} {l:List Pt} {T:Sh Nat}
theorem UAt (hl:l.length≤999999):∃ y:Int,Fn 68 1 [trS 0 rt l,.pv (iV z)] [(0,0,qaa l)] (.pv (iV y)) 0 []∧(y<0↔∀ (k:Nat) (p:Pt),l[k]?=some p→p.id≠z):=by
 have step:∀ m,m≤l.length→(∀ j,j<m→∀ p,l[j]?=some p→p.id≠z)→∀ {e:Exit} {tm2:TmL} {hp2:HpL},
  Rl 1 1 68 0 22 2 [(1,.pv (iV z)),(2,.pp 1 0),(5,.pv (iV (m:Int)))] [(1,0,.pv (iV rt)),(1,1,.ls 0 l.length),(0,0,qaa l)] e tm2 hp2→
  Rl 1 1 68 0 22 2 [(1,.pv (iV z)),(2,.pp 1 0),(5,.pv (iV ((0:Nat):Int)))] [(1,0,.pv (iV rt)),(1,1,.ls 0 l.length),(0,0,qaa l)] e tm2 hp2:=by
  intro m hm hs e tm2 hp2 r
  refine RunsL.roundsZ (fun j=>[(1,.pv (iV z)),(2,.pp 1 0),(5,.pv (iV (j:Int)))]) (fun _=>[(1,0,.pv (iV rt)),(1,1,.ls 0 l.length),(0,0,qaa l)]) (N:=m) m 0 (Nat.zero_add _) (fun j _ hj r=>?_) r
  obtain⟨p,hp⟩:=qao (l:=l) (k:=j) (by omega)
  exact qmH (hlt:=dt (by omega)) (hk:=hp) (hin:=⟨by omega,by omega⟩) (he:=beq_eq_false_iff_ne.2 (hs j hj p hp)) (hs:=qah (by omega)) r
 rcases qaT (fun j=>∀ p,l[j]?=some p→p.id≠z) l.length with h | ⟨j,hj,hb,hf⟩
 ·exact⟨-1,qrL (r0:=step l.length (Nat.le_refl _) h (qqa (hlt:=df (by omega)))),⟨fun _ k p hp=>h k (qak hp) p hp,fun _=>by decide⟩⟩
 ·simp only[Classical.not_forall,ne_eq,Classical.not_not] at hb
  obtain⟨p,hp,e⟩:=hb
  exact⟨(j:Int),qpG (r0:=step j (Nat.le_of_lt hj) hf (qqm (hlt:=dt (by omega)) (hk:=hp) (hin:=⟨by omega,by omega⟩) (he:=beq_iff_eq.2 e))),⟨fun h=>by omega,fun h=>(h j p hp e).elim⟩⟩
abbrev deT (z y:Int) (k:Nat):List (Nat×SV):=[(1,.pv (iV z)),(2,.pp 1 0),(7,.pv (iV y)),(8,.pv (iV (k:Int)))]
theorem qvO:∀ {A:Sh Nat} {y:Int} (k:Nat),Rep l y A→(idT l A).list.Pairwise (· < ·)→k+A.list.length≤999999→
 (z∈(idT l A).list→Rl 1 1 12 0 41 2 (deT z y k) [(1,0,.pv (iV rt)),(1,1,.ls 0 l.length),(0,0,qaa l)] .ret [(4,.pv (iV ((k+Sh.dep z (idT l A):Nat):Int))),(5,.pv (iV 0))] [])∧
 (z∉(idT l A).list→Rl 1 1 12 0 41 2 (deT z y k) [(1,0,.pv (iV rt)),(1,1,.ls 0 l.length),(0,0,qaa l)] (.exit 0) [] []):=by
 intro A
 induction A with
 | nil=>
  intro y k h _ _
  have e:y = -1:=h
  subst e
  exact⟨fun h=>(by cases h),fun _=>qql (hne:=rfl)⟩
 | node a j b iha ihb=>
  intro y k ⟨h,p,hp,a1,a2⟩ hup hk
  subst h
  have hj:=qak hp
  have hl':(Sh.node a j b).list.length=a.list.length+(b.list.length+1):=by simp[Sh.list]
  have ei:idN l j=p.id:=qaz hp
  have el:(idT l (.node a j b)).list=(idT l a).list++p.id::(idT l b).list:=by
   show (idT l a).list++idN l j::(idT l b).list=_
   rw[ei]
  rw[el] at hup
  obtain⟨u1,u2,u3,u4⟩:=Sh.up_split hup
  have ed:Sh.dep z (idT l (.node a j b))=if z=p.id then 0 else if z<p.id then Sh.dep z (idT l a)+1 else Sh.dep z (idT l b)+1:=by
   show (if z=idN l j then 0 else if z<idN l j then Sh.dep z (idT l a)+1 else Sh.dep z (idT l b)+1)=_
   rw[ei]
  have hne:((j:Int) !=(-1))=true:=by simp
  rcases Int.lt_trichotomy z p.id with c | c | c
  ·obtain⟨i1,i2⟩:=iha (k+1) a1 u1 (by omega)
   refine⟨fun hz=>?_,fun hz=>?_⟩
   ·have hm:z∈(idT l a).list:=by
     rw[el] at hz
     rcases List.mem_append.1 hz with h | h
     ·exact h
     ·rcases List.mem_cons.1 h with h | h
      ·omega
      ·have:=u4 z h;omega
    rw[ed,if_neg (by omega),if_pos c,show k+(Sh.dep z (idT l a)+1)=k+1+Sh.dep z (idT l a) by omega]
    exact qsA (y:=(j:Int)) (hne:=hne) (hin:=⟨by omega,by omega⟩) (hk:=hp) (h1:=dt c) (hs:=qah (by omega)) (i1 hm)
   ·exact qsA (y:=(j:Int)) (hne:=hne) (hin:=⟨by omega,by omega⟩) (hk:=hp) (h1:=dt c) (hs:=qah (by omega)) (i2 fun h=>hz (by rw[el];exact List.mem_append_left _ h))
  ·refine⟨fun _=>?_,fun hz=>(hz (by rw[el,c];exact List.mem_append_right _ List.mem_cons_self)).elim⟩
   rw[ed,if_pos c,Nat.add_zero]
   exact qpP (y:=(j:Int)) (hne:=hne) (hin:=⟨by omega,by omega⟩) (hk:=hp) (h1:=df (by omega)) (h2:=df (by omega))
  ·obtain⟨i1,i2⟩:=ihb (k+1) a2 u2 (by omega)
   refine⟨fun hz=>?_,fun hz=>?_⟩
   ·have hm:z∈(idT l b).list:=by
     rw[el] at hz
     rcases List.mem_append.1 hz with h | h
     ·have:=u3 z h;omega
     ·rcases List.mem_cons.1 h with h | h
      ·omega
      ·exact h
    rw[ed,if_neg (by omega),if_neg (by omega),show k+(Sh.dep z (idT l b)+1)=k+1+Sh.dep z (idT l b) by omega]
    exact qsF (y:=(j:Int)) (hne:=hne) (hin:=⟨by omega,by omega⟩) (hk:=hp) (h1:=df (by omega)) (h2:=dt c) (hs:=qah (by omega)) (i1 hm)
   ·exact qsF (y:=(j:Int)) (hne:=hne) (hin:=⟨by omega,by omega⟩) (hk:=hp) (h1:=df (by omega)) (h2:=dt c) (hs:=qah (by omega)) (i2 fun h=>hz (by rw[el];exact List.mem_append_right _ (List.mem_cons_of_mem _ h)))
theorem qog (h:Fits ⟨rt,l⟩ T):(idT l T).list.Pairwise (· < ·):=by
 unfold idT
 rw[Sh.map_list]
 exact h.up
theorem qkd (h:Fits ⟨rt,l⟩ T):z∈(idT l T).list↔∃ (k:Nat) (p:Pt),l[k]?=some p∧p.id=z:=by
 unfold idT
 rw[Sh.map_list,List.mem_map]
 constructor
 ·rintro⟨k,hk,e⟩
  have hkl:=h.rep.lt k hk
  exact⟨k,_,qat hkl,by rw[← qaz (qat hkl)];exact e⟩
 ·rintro⟨k,p,hp,e⟩
  exact⟨k,(h.mem k).2 (qak hp),(qaz hp).trans e⟩
theorem qev (hl:l.length≤999999):∃ (v e:Int),(chE ⟨rt,l⟩=0→∀ T,Fits ⟨rt,l⟩ T→(z∈(idT l T).list→e=0∧v=(Sh.dep z (idT l T):Int))∧(z∉(idT l T).list→v=0∧e=6))∧
 Fn 12 1 [trS 0 rt l,.pv (iV z)] [(0,0,qaa l)] (.pv (.tuple #[iV v,iV e])) 0 []∧
 Fn 32 1 [trS 0 rt l,.pv (iV z)] [(0,0,qaa l)] (.pv (.tuple #[iV v,iV e])) 0 []:=by
 have cP:=qlc (rt:=rt) hl
 have cR:=qst (rt:=rt) hl
 by_cases h0:chE ⟨rt,l⟩=0
 ·rw[h0] at cP cR
  obtain⟨T,hT⟩:=VT.of h0
  have hTl:T.list.length=l.length:=hT.all
  obtain⟨y,hy,hy2⟩:=UAt (rt:=rt) (z:=z) hl
  obtain⟨d1,d2⟩:=qvO (rt:=rt) (z:=z) 0 hT.rep (qog hT) (by omega)
  by_cases hz:z∈(idT l T).list
  ·have hyn:¬ y<0:=fun h=>by
    obtain⟨k,p,hp,e⟩:=(qkd hT).1 hz
    exact hy2.1 h k p hp e
   have r0:=d1 hz
   rw[Nat.zero_add] at r0
   refine⟨(Sh.dep z (idT l T):Int),0,fun _ T' hT'=>?_,qtc (hc:=cP) (hce:=eq0 rfl) (r0:=r0),qsx (hc:=cR) (hce:=eq0 rfl) (hat:=hy) (hy:=df hyn) (hab:=qth hT.rep (qog hT) hz (by omega))⟩
   rw[← hT.rep.uniq hT'.rep]
   exact⟨fun _=>⟨rfl,rfl⟩,fun h=>(h hz).elim⟩
  ·have hyn:y<0:=hy2.2 fun k p hp e=>hz ((qkd hT).2 ⟨k,p,hp,e⟩)
   refine⟨0,6,fun _ T' hT'=>?_,qsd (hc:=cP) (hce:=eq0 rfl) (r0:=d2 hz),qs4 (hc:=cR) (hce:=eq0 rfl) (hat:=hy) (hy:=dt hyn)⟩
   rw[← hT.rep.uniq hT'.rep]
   exact⟨fun h=>(hz h).elim,fun _=>⟨rfl,rfl⟩⟩
 ·exact⟨0,chE ⟨rt,l⟩,fun k=>(h0 k).elim,qsq (hc:=cP) (hce:=ne0 h0),qup (hc:=cR) (hce:=ne0 h0)⟩
end
section
variable {rt x z tn td:Int} {s l m:List Pt}
theorem qtY {g:List Int} (hn:g.length≤1000000):Fn 23 2 [.ls 0 g.length,.ls 1 g.length] [(0,0,.row 3 1 g.length (ziV g)),(1,0,.row 3 1 g.length (ziV g))] (.pv (.bool true)) 0 []:=by
 have:=qo9 (l:=g) (m:=g) (by simp) (RunsL.rounds (fun k=>[(0,.ls 0 g.length),(1,.ls 1 g.length),(5,.pv (iV (k:Int)))]) (fun _=>[(0,0,qi2 g),(1,0,qi2 g)]) g.length 0 (Nat.zero_add _)
  (fun k _ hk r=>by
   obtain⟨p,hp⟩:=qao hk
   exact qno hp (qa4 hk) hp (qa4 hk) (dt (by omega)) (by simp) (qah (by omega)) r)
  (qp4 (df (by omega))))
 exact this
end
end Go.Proofs.Ytalnjplghagbpaa
