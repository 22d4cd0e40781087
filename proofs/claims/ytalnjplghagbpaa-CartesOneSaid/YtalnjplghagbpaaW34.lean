/-
  Joined: Eh, Ei. Conditions: none.
-/
import Derived.Test.YtalnjplghagbpaaW33
import Derived.Test.YtalnjplghagbpaaW19
import Derived.Test.YtalnjplghagbpaaW27
import Derived.Test.YtalnjplghagbpaaW23
import Derived.Test.YtalnjplghagbpaaW24
namespace Go.Proofs.Ytalnjplghagbpaa
set_option maxRecDepth 100000
open Go.RowKit
section
variable {rt x:Int} {l m:List Pt} {T:Sh Nat}
def qfP (T:Sh Nat) (k:Nat):Nat:=T.list.idxOf k
theorem qpV {j k:Nat} (hn:T.list.Nodup) (h:T.list[j]?=some k):qfP T k=j:=by
 have hj:=(List.getElem?_eq_some_iff.1 h).1
 have e:T.list[j]=k:=(List.getElem?_eq_some_iff.1 h).2
 unfold qfP
 rw[← e]
 exact hn.idxOf_getElem j hj
theorem qjv {k:Nat} (h:k∈T.list):T.list[qfP T k]?=some k:=by
 unfold qfP
 have hl:T.list.idxOf k<T.list.length:=List.idxOf_lt_length_of_mem h
 rw[List.getElem?_eq_getElem hl,List.getElem_idxOf]
def mvI (T:Sh Nat) (z:Int):Int:=if z = -1 then -1 else (qfP T z.toNat:Int)
def orN (l:List Pt) (T:Sh Nat):List Pt:=T.list.map fun k=>⟨(ndT l k).id,mvI T (ndT l k).a,mvI T (ndT l k).b⟩
theorem orN_len:(orN l T).length=T.list.length:=List.length_map ..
theorem qfw {j k:Nat} (h:T.list[j]?=some k):(orN l T)[j]?=some ⟨(ndT l k).id,mvI T (ndT l k).a,mvI T (ndT l k).b⟩:=by unfold orN;rw[List.getElem?_map,h];rfl
theorem qgy (hn:T.list.Nodup):∀ {A:Sh Nat} {z:Int},Rep l z A→(∀ k∈A.list,k∈T.list)→Rep (orN l T) (mvI T z) (A.map (qfP T))
 | .nil,z,h,_=>by
  have e:z = -1:=h
  subst e
  rfl
 | .node a k b,z,⟨h,p,hp,a1,a2⟩,hk=>by
  have mk:=hk k (List.mem_append_right _ List.mem_cons_self)
  refine⟨?_,⟨p.id,mvI T p.a,mvI T p.b⟩,?_,qgy hn a1 fun j hj=>hk j (List.mem_append_left _ hj),qgy hn a2 fun j hj=>hk j (List.mem_append_right _ (List.mem_cons_of_mem _ hj))⟩
  ·subst h
   unfold mvI
   rw[if_neg (by omega)]
   rfl
  ·have:=qfw (l:=l) (qjv mk)
   rw[qd0 hp] at this
   exact this
theorem qrt {k:Nat} (hk:k∈T.list):idN (orN l T) (qfP T k)=idN l k:=by
 rw[qav (qfw (l:=l) (qjv hk))]
 unfold ndT idN
 rfl
theorem qcZ {α β:Type} {f g:α→β}:∀ {S:Sh α},(∀ a∈S.list,f a=g a)→S.map f=S.map g
 | .nil,_=>rfl
 | .node a k b,h=>by
  show Sh.node (a.map f) (f k) (b.map f)=Sh.node (a.map g) (g k) (b.map g)
  rw[qcZ fun j hj=>h j (List.mem_append_left _ hj),qcZ fun j hj=>h j (List.mem_append_right _ (List.mem_cons_of_mem _ hj)),h k (List.mem_append_right _ List.mem_cons_self)]
theorem qeL {α β γ:Type} {f:α→β} {g:β→γ}:∀ {S:Sh α},(S.map f).map g=S.map (g∘f)
 | .nil=>rfl
 | .node a k b=>by
  show Sh.node ((a.map f).map g) (g (f k)) ((b.map f).map g)=Sh.node (a.map (g∘f)) ((g∘f) k) (b.map (g∘f))
  rw[qeL,qeL]
  rfl
theorem qes:idT (orN l T) (T.map (qfP T))=idT l T:=by
 unfold idT
 rw[qeL]
 exact qcZ fun k hk=>qrt hk
theorem qer (h:Fits ⟨rt,l⟩ T):Fits ⟨mvI T rt,orN l T⟩ (T.map (qfP T))∧Up (orN l T):=by
 have hn:=h.nodup
 have hids:(T.map (qfP T)).list.map (idN (orN l T))=T.list.map (idN l):=by
  have:=congrArg Sh.list (qes (l:=l) (T:=T))
  unfold idT at this
  rw[Sh.map_list (idN (orN l T)),Sh.map_list (idN l)] at this
  exact this
 refine⟨⟨qgy hn h.rep fun k hk=>hk,?_,?_⟩,fun j p q hp hq=>?_⟩
 ·show (T.map (qfP T)).list.length=(orN l T).length
  rw[Sh.map_list,List.length_map,orN_len]
 ·show ((T.map (qfP T)).list.map (idN (orN l T))).Pairwise _
  rw[hids]
  exact h.up
 ·have hq':=qam hq
  rw[orN_len] at hq'
  have g1:=List.getElem?_eq_getElem (show j<T.list.length by omega)
  have g2:=List.getElem?_eq_getElem hq'
  have e1:=qfw (l:=l) g1
  have e2:=qfw (l:=l) g2
  rw[hp] at e1
  rw[hq] at e2
  cases e1
  cases e2
  exact qfU h.up g1 g2
theorem qfC {x y:Tr} {T T':Sh Nat} (h:Fits x T) (h':Fits y T') (u:Up x.n) (u':Up y.n):(x.r=y.r∧x.n=y.n)↔idT x.n T=idT y.n T':=by
 refine⟨fun ⟨e1,e2⟩=>?_,fun e=>h.ext h' u u' e⟩
 have r1:=h.rep
 rw[e1,e2] at r1
 rw[r1.uniq h'.rep,e2]
abbrev clC (n:Nat) (c:List Int) (z y:Int):Prop:=Fn 88 2 [.pv (iV z),.pp 0 0] [(0,0,.ls 1 n),(1,0,.row 3 1 n (ziV c))] (.pv (iV y)) 0 []
theorem PMv {n:Nat} {c:List Int} {z:Int} (hz : -1≤z∧z<(n:Int)) (hc:∀ k,k<n→c[k]?=some (qfP T k:Int)):clC n c z (mvI T z):=by
 unfold mvI
 by_cases h:z = -1
 ·rw[if_pos h];exact qr4 (h:=beq_iff_eq.2 h)
 ·rw[if_neg h];exact qoM (h:=beq_eq_false_iff_ne.2 h) (hin:=⟨by omega,by omega⟩) (hg:=hc z.toNat (by omega))
def plc (T:Sh Nat) (n j:Nat):List Int:=(List.range n).map fun k=>if k∈T.list.take j then (qfP T k:Int) else 0
theorem qdp {n j:Nat}:(plc T n j).length=n:=by unfold plc;rw[List.length_map,List.length_range]
theorem qha {n j k:Nat} (h:k<n):(plc T n j)[k]?=some (if k∈T.list.take j then (qfP T k:Int) else 0):=by unfold plc;rw[List.getElem?_map,List.getElem?_range h];rfl
theorem qma {n:Nat}:plc T n 0=List.replicate n 0:=by
 refine List.ext_getElem? fun k=>?_
 rcases Nat.lt_or_ge k n with h | h
 ·rw[qha h,List.getElem?_replicate,if_pos h];simp
 ·rw[List.getElem?_eq_none (by rw[qdp];exact h),List.getElem?_eq_none (by rw[List.length_replicate];exact h)]
theorem qmH {n j k:Nat} (hn:T.list.Nodup) (hk:T.list[j]?=some k):plc T n (j+1)=(plc T n j).set k (j:Int):=by
 refine List.ext_getElem? fun v=>?_
 rcases Nat.lt_or_ge v n with h | h
 ·rw[qha h,List.getElem?_set,qbW hk]
  by_cases e:k=v
  ·subst e
   rw[if_pos rfl,qdp,if_pos h,if_pos (by simp),qpV hn hk]
  ·rw[if_neg e,qha h]
   have:(v∈T.list.take j++[k])↔v∈T.list.take j:=by simp[Ne.symm e]
   simp only[this]
 ·rw[List.getElem?_eq_none (by rw[qdp];exact h),List.getElem?_eq_none (by rw[List.length_set,qdp];exact h)]
theorem qt2 (hl:l.length≤999999) (h:Fits ⟨rt,l⟩ T):Fn 50 1 [trS 0 rt l] [(0,0,qab l)] (trS 1 (mvI T rt) (orN l T)) 1 [(1,0,qab (orN l T))]:=by
 have hTl:T.list.length=l.length:=h.all
 have hn:=h.nodup
 have hw:=qj5 hl (qhA h)
 rw[zrI,qcq,hTl] at hw
 have at2:∀ j,j<l.length→∃ k,T.list[j]?=some k∧k<l.length:=fun j hj=>by
  have hk:=List.getElem?_eq_getElem (show j<T.list.length by omega)
  exact⟨_,hk,h.rep.lt _ (List.mem_of_getElem? hk)⟩
 have loop:=RunsL.roundsZ (fun j=>[(1,.pp 1 0),(2,.pp 2 0),(3,.ls 3 l.length),(5,.pp 5 0),(21,.ls 3 l.length),(22,.pv (iV (l.length:Int))),(23,.pv (iV (j:Int)))])
  (fun j=>[(1,0,.pv (iV rt)),(1,1,.ls 0 l.length),(2,0,.pv (iV 0)),(2,1,.pv (.slice none 0 0)),(5,0,.ls 4 l.length),(0,0,qab l),(3,0,.row 3 1 l.length (ziV (wL T))),(4,0,.row 3 1 l.length (ziV (plc T l.length j)))]) (N:=l.length) l.length 0 (Nat.zero_add _) (fun j _ hj r=>by
   obtain⟨k,hk,hkl⟩:=at2 j hj
   rw[qmH hn hk] at r
   exact qlO (z:=(k:Int)) (c1:=plc T l.length j) (hlt:=dt (by omega)) (hin:=⟨by omega,by omega⟩) (hg:=qdV hk) (hzi:=⟨by omega,by omega⟩) (hl:=by rw[qdp];exact hkl) (hs:=qah (by omega)) r)
  (qo9 (rt:=rt) (l:=l) (n:=l.length) (k:=l.length) (g:=wL T) (c1:=plc T l.length l.length) (hlt:=df (by omega)))
 rw[qma] at loop
 have hc:∀ k,k<l.length→(plc T l.length l.length)[k]?=some (qfP T k:Int):=fun k hk=>by
  rw[qha hk,List.take_of_length_le (by omega),if_pos ((h.mem k).2 hk)]
 have lnk:∀ k,k<l.length→(-1≤(ndT l k).a∧(ndT l k).a<(l.length:Int))∧(-1≤(ndT l k).b∧(ndT l k).b<(l.length:Int)):=fun k hk=>h.lnk _ (List.mem_of_getElem? (qal hk))
 have loop2:=RunsL.roundsZ (fun j=>[(1,.pp 1 0),(2,.pp 2 0),(8,.pc 88 [.pp 5 0]),(9,.pp 6 0),(39,.ls 3 l.length),(40,.pv (iV (l.length:Int))),(41,.pv (iV (j:Int)))])
  (fun j=>[(1,0,.pv (iV rt)),(1,1,.ls 0 l.length),(2,0,.pv (iV 0)),(2,1,.pv (.slice none 0 0)),(5,0,.ls 4 l.length),(0,0,qab l),(3,0,.row 3 1 l.length (ziV (wL T))),(4,0,.row 3 1 l.length (ziV (plc T l.length l.length))),(6,0,.pv (iV (mvI T rt))),(6,1,.ls 7 j),(7,0,.row 26 3 j (qao ((orN l T).take j)))]) (N:=l.length) l.length 0 (Nat.zero_add _) (fun j _ hj r=>by
   obtain⟨k,hk,hkl⟩:=at2 j hj
   obtain⟨k1,k2⟩:=lnk k hkl
   rw[qbW (qfw (l:=l) hk),qgc] at r
   exact qjk (z:=(k:Int)) (hlt:=dt (by omega)) (hin:=⟨by omega,by omega⟩) (hg:=qdV hk) (hzi:=⟨by omega,by omega⟩) (hp:=qal hkl) (ha:=PMv k1 hc) (hb:=PMv k2 hc) (hn:=by omega) (hs:=qah (by omega)) r)
  (qm3 (rt:=rt) (l:=l) (n:=l.length) (k:=l.length) (g:=wL T) (c1:=plc T l.length l.length) (x:=mvI T rt) (N:=l.length) (vs:=qao ((orN l T).take l.length)) (hlt:=df (by omega)))
 have ol:(orN l T).length=l.length:=orN_len.trans hTl
 rw[List.take_of_length_le (Nat.le_of_eq ol)] at loop2
 show Fn 50 1 [trS 0 rt l] [(0,0,qab l)] (.ag [.pv (iV (mvI T rt)),.ls 1 (orN l T).length]) 1 [(1,0,.row 26 3 (orN l T).length (qao (orN l T)))]
 rw[ol]
 exact qqO (hw:=hw) (m0:=by omega) (m1:=by omega) (r0:=loop) (hr:=PMv h.root.1 hc) (rr1:=loop2)
theorem qnK (p q:Pt):((p.id==q.id)&&((p.a==q.a)&&((p.b==q.b)&&true)))=pT (p=q):=by
 by_cases h:p=q
 ·subst h;rw[qcH rfl];simp
 ·rw[qco h]
  obtain⟨p1,p2,p3⟩:=p
  obtain⟨q1,q2,q3⟩:=q
  by_cases h1:p1=q1<;>by_cases h2:p2=q2<;>by_cases h3:p3=q3<;>simp_all
theorem quM (hl:l.length≤999999):Fn 87 2 [.ls 0 l.length,.ls 1 m.length] [(0,0,qab l),(1,0,qab m)] (.pv (.bool (pT (l=m)))) 0 []:=by
 by_cases hlen:l.length=m.length
 ·have h0:((l.length:Int) !=(m.length:Int))=false:=by simp[hlen]
  have step:∀ k,k≤l.length→(∀ j,j<k→l[j]?=m[j]?)→∀ {e:Exit} {tm2:TmL} {hp2:HpL},
   Rl 2 2 87 0 26 2 [(0,.ls 0 l.length),(1,.ls 1 m.length),(12,.pv (iV (l.length:Int))),(13,.pv (iV (k:Int)))] [(0,0,qab l),(1,0,qab m)] e tm2 hp2→
   Rl 2 2 87 0 26 2 [(0,.ls 0 l.length),(1,.ls 1 m.length),(12,.pv (iV (l.length:Int))),(13,.pv (iV ((0:Nat):Int)))] [(0,0,qab l),(1,0,qab m)] e tm2 hp2:=by
   intro k hk hs e tm2 hp2 r
   refine RunsL.roundsZ (fun j=>[(0,.ls 0 l.length),(1,.ls 1 m.length),(12,.pv (iV (l.length:Int))),(13,.pv (iV (j:Int)))]) (fun _=>[(0,0,qab l),(1,0,qab m)]) (N:=k) k 0 (Nat.zero_add _) (fun j _ hj r=>?_) r
   obtain⟨p,hp⟩:=qaj (l:=l) (k:=j) (by omega)
   exact qln (hlt:=dt (by omega)) (hk:=hp) (hin:=⟨by omega,by omega⟩) (hm:=by rw[← hs j hj];exact hp) (hin2:=⟨by omega,by omega⟩) (hne:=by rw[qnK,qcH rfl];rfl) (hs:=qah (by omega)) r
  rcases qaL (fun j=>l[j]?=m[j]?) l.length with h | ⟨j,hj,hb,hf⟩
  ·have e:l=m:=List.ext_getElem? fun j=>by
    rcases Nat.lt_or_ge j l.length with hj | hj
    ·exact h j hj
    ·rw[List.getElem?_eq_none hj,List.getElem?_eq_none (by omega)]
   rw[qcH e]
   exact qnX (hl:=h0) (r0:=step l.length (Nat.le_refl _) h (qpz (hlt:=df (by omega))))
  ·rw[qco fun e=>hb (by rw[e])]
   obtain⟨p,hp⟩:=qaj (l:=l) (k:=j) hj
   obtain⟨q,hq⟩:=qaj (l:=m) (k:=j) (by omega)
   exact qr1 (hl:=h0) (r0:=step j (Nat.le_of_lt hj) hf (qpJ (hlt:=dt (by omega)) (hk:=hp) (hin:=⟨by omega,by omega⟩) (hm:=hq) (hin2:=⟨by omega,by omega⟩) (hne:=by rw[qnK,qco fun e=>hb (by rw[hp,hq,e])];rfl)))
 ·rw[qco fun e=>hlen (by rw[e])]
  exact qps (hl:=by simpa using fun h:(l.length:Int)=(m.length:Int)=>hlen (by omega))
theorem PEq (hl:l.length≤999999):Fn 49 2 [trS 0 rt l,trS 1 x m] [(0,0,qab l),(1,0,qab m)] (.pv (.bool (pT (rt=x∧l=m)))) 0 []:=by
 by_cases h:rt=x
 ·have e:pT (rt=x∧l=m)=pT (l=m):=by
   by_cases h2:l=m
   ·rw[qcH h2,qcH ⟨h,h2⟩]
   ·rw[qco h2,qco fun k=>h2 k.2]
  rw[e]
  exact qr7 (hr:=beq_iff_eq.2 h) (hq:=quM hl)
 ·rw[qco fun k=>h k.1]
  exact qme (hr:=beq_eq_false_iff_ne.2 h)
theorem qdh {p q:Prop} (h:p↔q):pT p=pT q:=by
 by_cases hp:p
 ·rw[qcH hp,qcH (h.1 hp)]
 ·rw[qco hp,qco fun k=>hp (h.2 k)]
theorem qkL (hl:l.length≤999999) (hm:m.length≤999999):∃ (w:Bool) (e:Int),(chE ⟨rt,l⟩=0→chE ⟨x,m⟩=0→e=0∧∀ T T',Fits ⟨rt,l⟩ T→Fits ⟨x,m⟩ T'→w=pT (idT l T=idT m T'))∧
 Fn 16 2 [trS 0 rt l,trS 1 x m] [(0,0,qab l),(1,0,qab m)] (.pv (.tuple #[.bool w,iV e])) 0 []∧
 Fn 33 2 [trS 0 rt l,trS 1 x m] [(0,0,qab l),(1,0,qab m)] (.pv (.tuple #[.bool w,iV e])) 0 []:=by
 have cP:=qsk (rt:=rt) hl
 have cR:=qqi (rt:=rt) hl
 have dP:=qsk (rt:=x) hm
 have dR:=qqi (rt:=x) hm
 by_cases h0:chE ⟨rt,l⟩=0
 ·by_cases h1:chE ⟨x,m⟩=0
  ·obtain⟨T,hT⟩:=VT.of h0
   obtain⟨T',hT'⟩:=VT.of h1
   rw[h0] at cP cR
   rw[h1] at dP dR
   have hr:=qhB (rt:=rt) (x:=x) hT.rep hT'.rep
   have o1:=qer hT
   have o2:=qer hT'
   have hq:=PEq (rt:=mvI T rt) (x:=mvI T' x) (l:=orN l T) (m:=orN m T') (by rw[orN_len];have e:T.list.length=l.length:=hT.all;omega)
   rw[qdh (qfC o1.1 o2.1 o1.2 o2.2),qes,qes] at hq
   refine⟨_,0,fun _ _=>⟨rfl,fun S S' hS hS'=>?_⟩,qrl (h1:=cP) (h2:=dP) (ho:=qt2 hl hT) (ho2:=qt2 hm hT') (hq:=hq),qre (hc:=cR) (hce:=eq0 rfl) (hc2:=dR) (hce2:=eq0 rfl) (hal:=quE (hal:=hr))⟩
   rw[hT.rep.uniq hS.rep,hT'.rep.uniq hS'.rep]
  ·rw[h0] at cP cR
   exact⟨false,chE ⟨x,m⟩,fun _ k=>(h1 k).elim,qud (h1:=cP) (h2:=dP) (he:=ne0 h1),qsp (hc:=cR) (hce:=eq0 rfl) (hc2:=dR) (hce2:=ne0 h1)⟩
 ·exact⟨false,chE ⟨rt,l⟩,fun k=>(h0 k).elim,qt3 (h1:=cP) (h2:=dP) (he:=ne0 h0),qti (hc:=cR) (hce:=ne0 h0)⟩
theorem qir {s:List Pt} {tn td:Int} (htn:I64 tn) (htd:I64 td) (hl:l.length≤999999):∃ (w:Bool) (e:Int),(chE ⟨rt,l⟩=0→tE s tn td=0→e=0∧∀ T S,Fits ⟨rt,l⟩ T→OfSh s tn td S→w=pT (idT l T=idT (ofN s S) S))∧
 Fn 11 2 [trS 0 rt l,qax 1 s,.pv (qaa tn td)] [(0,0,qab l),(1,0,qag s)] (.pv (.tuple #[.bool w,iV e])) 0 []∧
 Fn 31 2 [trS 0 rt l,qax 1 s,.pv (qaa tn td)] [(0,0,qab l),(1,0,qag s)] (.pv (.tuple #[.bool w,iV e])) 0 []:=by
 have cP:=qsk (rt:=rt) hl
 have cR:=qqi (rt:=rt) hl
 have hR:=qds htn htd s
 have hP:=qei s
 have hck:∃ e3,Pure Try.prog 48 #[qaa tn td] (iV e3):=by
  by_cases ht:okB tn td=true
  ·exact⟨_,qcD htn htd ht⟩
  ·exact⟨_,qcs htn htd ht⟩
 obtain⟨e3,hck⟩:=hck
 by_cases h0:chE ⟨rt,l⟩=0
 ·rw[h0] at cP cR
  by_cases h1:qdT s=0
  ·have hs:=qeU.1 h1
   rw[h1] at hP
   by_cases ht:okB tn td=true
   ·obtain⟨T,hT⟩:=VT.of h0
    obtain⟨S,hS⟩:=qgb (tn:=tn) (td:=td) hs
    rw[qik hs ht] at hR ⊢
    have o1:=qer hT
    obtain⟨f2,u2⟩:=qcz hs hS
    have hr:=qhB (rt:=rt) (x:=rtI S) hT.rep f2.rep
    have hq:=PEq (rt:=mvI T rt) (x:=rtI S) (l:=orN l T) (m:=ofN s S) (by rw[orN_len];have e:T.list.length=l.length:=hT.all;omega)
    rw[qdh (qfC o1.1 f2 o1.2 u2),qes] at hq
    refine⟨_,0,fun _ _=>⟨rfl,fun T' S' hT' hS'=>?_⟩,qqn (h1:=cP) (h2:=hP) (h3:=qcD htn htd ht) (ho:=qt2 hl hT) (hg:=qrT htn htd ht hs hS) (hq:=hq),qrC (hc:=cR) (hce:=eq0 rfl) (ht:=hR) (hte:=eq0 rfl) (hm:=qrJ htn htd hs hS) (hal:=quE (hal:=hr))⟩
    rw[hT.rep.uniq hT'.rep,hS.uniq hS']
   ·have e:tE s tn td=8:=by unfold tE;rw[if_pos h1,if_neg ht]
    rw[e] at hR ⊢
    exact⟨false,8,fun _ h=>(by cases h),qtc (h1:=cP) (h2:=hP) (h3:=qcs htn htd ht) (he:=by decide),qrs (hc:=cR) (hce:=eq0 rfl) (ht:=hR) (hte:=by decide)⟩
  ·have e:tE s tn td=qdT s:=by unfold tE;rw[if_neg h1]
   rw[e] at hR ⊢
   exact⟨false,qdT s,fun _ h=>(h1 h).elim,qtD (h1:=cP) (h2:=hP) (h3:=hck) (he:=ne0 h1),qrs (hc:=cR) (hce:=eq0 rfl) (ht:=hR) (hte:=ne0 h1)⟩
 ·exact⟨false,chE ⟨rt,l⟩,fun k=>(h0 k).elim,qt8 (h1:=cP) (h2:=hP) (h3:=hck) (he:=ne0 h0),qtQ (hc:=cR) (hce:=ne0 h0)⟩
end
end Go.Proofs.Ytalnjplghagbpaa

namespace Go.Proofs.Ytalnjplghagbpaa
set_option maxRecDepth 100000
open Go.RowKit
section
variable {rt z:Int} {l:List Pt} {T:Sh Nat}
theorem UAt (hl:l.length≤999999):∃ y:Int,Fn 68 1 [trS 0 rt l,.pv (iV z)] [(0,0,qab l)] (.pv (iV y)) 0 []∧(y<0↔∀ (k:Nat) (p:Pt),l[k]?=some p→p.id≠z):=by
 have step:∀ m,m≤l.length→(∀ j,j<m→∀ p,l[j]?=some p→p.id≠z)→∀ {e:Exit} {tm2:TmL} {hp2:HpL},
  Rl 1 1 68 0 22 2 [(1,.pv (iV z)),(2,.pp 1 0),(5,.pv (iV (m:Int)))] [(1,0,.pv (iV rt)),(1,1,.ls 0 l.length),(0,0,qab l)] e tm2 hp2→
  Rl 1 1 68 0 22 2 [(1,.pv (iV z)),(2,.pp 1 0),(5,.pv (iV ((0:Nat):Int)))] [(1,0,.pv (iV rt)),(1,1,.ls 0 l.length),(0,0,qab l)] e tm2 hp2:=by
  intro m hm hs e tm2 hp2 r
  refine RunsL.roundsZ (fun j=>[(1,.pv (iV z)),(2,.pp 1 0),(5,.pv (iV (j:Int)))]) (fun _=>[(1,0,.pv (iV rt)),(1,1,.ls 0 l.length),(0,0,qab l)]) (N:=m) m 0 (Nat.zero_add _) (fun j _ hj r=>?_) r
  obtain⟨p,hp⟩:=qaj (l:=l) (k:=j) (by omega)
  exact qmc (hlt:=dt (by omega)) (hk:=hp) (hin:=⟨by omega,by omega⟩) (he:=beq_eq_false_iff_ne.2 (hs j hj p hp)) (hs:=qah (by omega)) r
 rcases qaL (fun j=>∀ p,l[j]?=some p→p.id≠z) l.length with h | ⟨j,hj,hb,hf⟩
 ·exact⟨-1,qrr (r0:=step l.length (Nat.le_refl _) h (qnY (hlt:=df (by omega)))),⟨fun _ k p hp=>h k (qam hp) p hp,fun _=>by decide⟩⟩
 ·simp only[Classical.not_forall,ne_eq,Classical.not_not] at hb
  obtain⟨p,hp,e⟩:=hb
  exact⟨(j:Int),qpH (r0:=step j (Nat.le_of_lt hj) hf (qpK (hlt:=dt (by omega)) (hk:=hp) (hin:=⟨by omega,by omega⟩) (he:=beq_iff_eq.2 e))),⟨fun h=>by omega,fun h=>(h j p hp e).elim⟩⟩
abbrev deT (z y:Int) (k:Nat):List (Nat×SV):=[(1,.pv (iV z)),(2,.pp 1 0),(7,.pv (iV y)),(8,.pv (iV (k:Int)))]
theorem quS:∀ {A:Sh Nat} {y:Int} (k:Nat),Rep l y A→(idT l A).list.Pairwise (· < ·)→k+A.list.length≤999999→
 (z∈(idT l A).list→Rl 1 1 12 0 41 2 (deT z y k) [(1,0,.pv (iV rt)),(1,1,.ls 0 l.length),(0,0,qab l)] .ret [(4,.pv (iV ((k+Sh.dep z (idT l A):Nat):Int))),(5,.pv (iV 0))] [])∧
 (z∉(idT l A).list→Rl 1 1 12 0 41 2 (deT z y k) [(1,0,.pv (iV rt)),(1,1,.ls 0 l.length),(0,0,qab l)] (.exit 0) [] []):=by
 intro A
 induction A with
 | nil=>
  intro y k h _ _
  have e:y = -1:=h
  subst e
  exact⟨fun h=>(by cases h),fun _=>qp1 (hne:=rfl)⟩
 | node a j b iha ihb=>
  intro y k ⟨h,p,hp,a1,a2⟩ hup hk
  subst h
  have hj:=qam hp
  have hl':(Sh.node a j b).list.length=a.list.length+(b.list.length+1):=by simp[Sh.list]
  have ei:idN l j=p.id:=qav hp
  have el:(idT l (.node a j b)).list=(idT l a).list++p.id::(idT l b).list:=by
   show (idT l a).list++idN l j::(idT l b).list=_
   rw[ei]
  rw[el] at hup
  obtain⟨u1,u2,u3,u4⟩:=Sh.up_split hup
  have ed:Sh.dep z (idT l (.node a j b))=if z=p.id then 0 else if z<p.id then Sh.dep z (idT l a)+1 else Sh.dep z (idT l b)+1:=by
   show (if z=idN l j then 0 else if z<idN l j then Sh.dep z (idT l a)+1 else Sh.dep z (idT l b)+1)=_
   rw[ei]
  have hne:((j:Int) !=(-1))=true:=by simp
  rcases Int.lt_trichotomy z p.id with c | c | c
  ·obtain⟨i1,i2⟩:=iha (k+1) a1 u1 (by omega)
   refine⟨fun hz=>?_,fun hz=>?_⟩
   ·have hm:z∈(idT l a).list:=by
     rw[el] at hz
     rcases List.mem_append.1 hz with h | h
     ·exact h
     ·rcases List.mem_cons.1 h with h | h
      ·omega
      ·have:=u4 z h;omega
    rw[ed,if_neg (by omega),if_pos c,show k+(Sh.dep z (idT l a)+1)=k+1+Sh.dep z (idT l a) by omega]
    exact qrz (y:=(j:Int)) (hne:=hne) (hin:=⟨by omega,by omega⟩) (hk:=hp) (h1:=dt c) (hs:=qah (by omega)) (i1 hm)
   ·exact qrz (y:=(j:Int)) (hne:=hne) (hin:=⟨by omega,by omega⟩) (hk:=hp) (h1:=dt c) (hs:=qah (by omega)) (i2 fun h=>hz (by rw[el];exact List.mem_append_left _ h))
  ·refine⟨fun _=>?_,fun hz=>(hz (by rw[el,c];exact List.mem_append_right _ List.mem_cons_self)).elim⟩
   rw[ed,if_pos c,Nat.add_zero]
   exact qpe (y:=(j:Int)) (hne:=hne) (hin:=⟨by omega,by omega⟩) (hk:=hp) (h1:=df (by omega)) (h2:=df (by omega))
  ·obtain⟨i1,i2⟩:=ihb (k+1) a2 u2 (by omega)
   refine⟨fun hz=>?_,fun hz=>?_⟩
   ·have hm:z∈(idT l b).list:=by
     rw[el] at hz
     rcases List.mem_append.1 hz with h | h
     ·have:=u3 z h;omega
     ·rcases List.mem_cons.1 h with h | h
      ·omega
      ·exact h
    rw[ed,if_neg (by omega),if_neg (by omega),show k+(Sh.dep z (idT l b)+1)=k+1+Sh.dep z (idT l b) by omega]
    exact qqD (y:=(j:Int)) (hne:=hne) (hin:=⟨by omega,by omega⟩) (hk:=hp) (h1:=df (by omega)) (h2:=dt c) (hs:=qah (by omega)) (i1 hm)
   ·exact qqD (y:=(j:Int)) (hne:=hne) (hin:=⟨by omega,by omega⟩) (hk:=hp) (h1:=df (by omega)) (h2:=dt c) (hs:=qah (by omega)) (i2 fun h=>hz (by rw[el];exact List.mem_append_right _ (List.mem_cons_of_mem _ h)))
theorem qnm (h:Fits ⟨rt,l⟩ T):(idT l T).list.Pairwise (· < ·):=by
 unfold idT
 rw[Sh.map_list]
 exact h.up
theorem qf0 (h:Fits ⟨rt,l⟩ T):z∈(idT l T).list↔∃ (k:Nat) (p:Pt),l[k]?=some p∧p.id=z:=by
 unfold idT
 rw[Sh.map_list,List.mem_map]
 constructor
 ·rintro⟨k,hk,e⟩
  have hkl:=h.rep.lt k hk
  exact⟨k,_,qal hkl,by rw[← qav (qal hkl)];exact e⟩
 ·rintro⟨k,p,hp,e⟩
  exact⟨k,(h.mem k).2 (qam hp),(qav hp).trans e⟩
theorem qiw (hl:l.length≤999999):∃ (v e:Int),(chE ⟨rt,l⟩=0→∀ T,Fits ⟨rt,l⟩ T→(z∈(idT l T).list→e=0∧v=(Sh.dep z (idT l T):Int))∧(z∉(idT l T).list→e=6))∧
 Fn 12 1 [trS 0 rt l,.pv (iV z)] [(0,0,qab l)] (.pv (.tuple #[iV v,iV e])) 0 []∧
 Fn 32 1 [trS 0 rt l,.pv (iV z)] [(0,0,qab l)] (.pv (.tuple #[iV v,iV e])) 0 []:=by
 have cP:=qsk (rt:=rt) hl
 have cR:=qqi (rt:=rt) hl
 by_cases h0:chE ⟨rt,l⟩=0
 ·rw[h0] at cP cR
  obtain⟨T,hT⟩:=VT.of h0
  have hTl:T.list.length=l.length:=hT.all
  obtain⟨y,hy,hy2⟩:=UAt (rt:=rt) (z:=z) hl
  obtain⟨d1,d2⟩:=quS (rt:=rt) (z:=z) 0 hT.rep (qnm hT) (by omega)
  by_cases hz:z∈(idT l T).list
  ·have hyn:¬ y<0:=fun h=>by
    obtain⟨k,p,hp,e⟩:=(qf0 hT).1 hz
    exact hy2.1 h k p hp e
   have r0:=d1 hz
   rw[Nat.zero_add] at r0
   refine⟨(Sh.dep z (idT l T):Int),0,fun _ T' hT'=>?_,qrD (hc:=cP) (hce:=eq0 rfl) (r0:=r0),qqP (hc:=cR) (hce:=eq0 rfl) (hat:=hy) (hy:=df hyn) (hab:=qrZ hT.rep (qnm hT) hz (by omega))⟩
   rw[← hT.rep.uniq hT'.rep]
   exact⟨fun _=>⟨rfl,rfl⟩,fun h=>(h hz).elim⟩
  ·have hyn:y<0:=hy2.2 fun k p hp e=>hz ((qf0 hT).2 ⟨k,p,hp,e⟩)
   refine⟨0,6,fun _ T' hT'=>?_,qqu (hc:=cP) (hce:=eq0 rfl) (r0:=d2 hz),qrm (hc:=cR) (hce:=eq0 rfl) (hat:=hy) (hy:=dt hyn)⟩
   rw[← hT.rep.uniq hT'.rep]
   exact⟨fun h=>(hz h).elim,fun _=>rfl⟩
 ·exact⟨0,chE ⟨rt,l⟩,fun k=>(h0 k).elim,qtC (hc:=cP) (hce:=ne0 h0),quk (hc:=cR) (hce:=ne0 h0)⟩
end
section
variable {rt x z tn td:Int} {s l m:List Pt}
theorem qrL:(70<l.length∧Fn 26 1 [trS 0 rt l] [(0,0,qab l)] (.pv (.bool true)) 0 [])∨(l.length≤70∧Fn 26 1 [trS 0 rt l] [(0,0,qab l)] (.pv (.bool false)) 0 []):=by
 by_cases h:70<l.length
 ·exact Or.inl ⟨h,qlS (h:=dt (by omega))⟩
 ·exact Or.inr ⟨by omega,qkD (h:=df (by omega))⟩
end
end Go.Proofs.Ytalnjplghagbpaa
