/-
  Joined: Eg, Eh. Conditions: none.
-/
import Derived.Test.YtkckcgpmnipnaaaGreatW43
import Derived.Test.YtkckcgpmnipnaaaGreatW44
import Derived.Test.YtkckcgpmnipnaaaGreatW49
import Derived.Test.YtkckcgpmnipnaaaGreatW21
namespace Go.Proofs.YtkckcgpmnipnaaaGreat
set_option maxRecDepth 100000
open Go.RowKit
def edK (g:List Int) (k:Nat):List P2:=(List.range k).map fun j=>⟨g.getD (j+1) 0,g.getD (j/2) 0⟩
def edF (g:List Int):List P2:=edK g (g.length-1)
theorem qsM (g:List Int) (k:Nat):edK g (k+1)=edK g k++[⟨g.getD (k+1) 0,g.getD (k/2) 0⟩]:=by
 unfold edK
 rw[List.range_succ,List.map_append]
 rfl
theorem qk4 (g:List Int) (k:Nat):(edK g k).length=k:=by simp[edK]
theorem qbi (g:List Int):(edF g).length=g.length-1:=qk4 g _
theorem qxs {g:List Int} {x:P2} (h:x∈edF g):∃ k,g[k+1]?=some x.a∧g[k/2]?=some x.b:=by
 obtain⟨k,hk,rfl⟩:=List.mem_map.1 h
 have hk':=List.mem_range.1 hk
 refine⟨k,?_,?_⟩
 ·show g[k+1]?=some (g.getD (k+1) 0)
  rw[List.getD_eq_getElem?_getD,List.getElem?_eq_getElem (show k+1<g.length by omega)];rfl
 ·show g[k/2]?=some (g.getD (k/2) 0)
  rw[List.getD_eq_getElem?_getD,List.getElem?_eq_getElem (show k/2<g.length by omega)];rfl
theorem qkt {k:Nat} (h:k≤1000000):iV (IntKind.i64.wrap (Int.tdiv (k:Int) 2))=iV ((k/2:Nat):Int):=by
 have e:Int.tdiv (k:Int) 2=((k/2:Nat):Int):=by rw[Int.tdiv_eq_ediv_of_nonneg (by omega)];omega
 rw[e,qap (by omega) (by omega)]
theorem qhF {k:Nat} (h:k≤1000000):iV (IntKind.i64.wrap (((k+1:Nat):Int)-1))=iV (k:Int):=by
 rw[qap (by omega) (by omega)]
 congr 1
 omega
theorem qie {k:Nat} (h:k≤1000000):Pure Tryz.prog 112 #[iV ((k+1:Nat):Int)] (iV ((k/2:Nat):Int)):=
 qqg (h1:=qhF h) (nz:=by decide) (h2:=qkt h)
theorem qkU {g:List Int} {k:Nat} {u v:Int} (hu:g[k+1]?=some u) (hv:g[k/2]?=some v):p2V (edK g (k+1))=p2V (edK g k)++[iV u,iV v]:=by
 rw[qsM,qer]
 simp[p2V,List.getD_eq_getElem?_getD,hu,hv]
section
variable {g:List Int}
abbrev eoT (n k:Nat):List (Nat×SV):=[(0,.ls 0 n),(3,.ls 1 k),(4,.pv (iV ((k+1:Nat):Int)))]
abbrev eoH (g:List Int) (k:Nat) (vs:List Value):List (Nat×Nat×SV):=[(0,0,zrI g),(1,0,.row 90 2 k vs)]
theorem qrN (hn:g.length≤100000):∀ (r k:Nat),k+r=g.length-1→Rl 1 1 53 0 25 2 (eoT g.length k) (eoH g k (p2V (edK g k))) (.exit 0) [(3,.ls 1 (g.length-1))] (eoH g (g.length-1) (p2V (edF g))):=by
 intro r
 induction r with
 | zero=>
  intro k hk
  have:k=g.length-1:=by omega
  subst this
  exact qyU (hlt:=df (by omega))
 | succ r ih=>
  intro k hk
  obtain⟨u,hu⟩:∃ u,g[k+1]?=some u:=⟨_,List.getElem?_eq_getElem (by omega)⟩
  obtain⟨v,hv⟩:∃ v,g[k/2]?=some v:=⟨_,List.getElem?_eq_getElem (by omega)⟩
  have:=ih (k+1) (by omega)
  rw[qkU hu hv] at this
  exact qqe (hlt:=dt (by omega)) (hpa:=qie (by omega)) (i2:=by omega) (i1:=by omega) (g2:=hv) (g1:=hu) (hm:=by omega) (hs:=qal (by omega)) (r:=this)
theorem qdr (hn:g.length≤100000):Fn 53 1 [.ls 0 g.length] [(0,0,zrI g)] (.ls 1 (edF g).length) 1 [(1,0,qgF (edF g))]:=by
 unfold qgF
 rw[qbi]
 exact qsE (r0:=qrN hn (g.length-1) 0 (Nat.zero_add _))
theorem qqf (hn:g.length≤100000):∀ (r k:Nat),k+r=g.length-1→Rl 1 1 54 0 26 2 (eoT g.length k) (eoH g k (p2V (edK g k))) (.exit 0) [(3,.ls 1 (g.length-1))] (eoH g (g.length-1) (p2V (edF g))):=by
 intro r
 induction r with
 | zero=>
  intro k hk
  have:k=g.length-1:=by omega
  subst this
  exact qyz (hlt:=df (by omega))
 | succ r ih=>
  intro k hk
  obtain⟨u,hu⟩:∃ u,g[k+1]?=some u:=⟨_,List.getElem?_eq_getElem (by omega)⟩
  obtain⟨v,hv⟩:∃ v,g[k/2]?=some v:=⟨_,List.getElem?_eq_getElem (by omega)⟩
  have:=ih (k+1) (by omega)
  rw[qkU hu hv] at this
  exact qqQ (hlt:=dt (by omega)) (h1:=qhF (by omega)) (h2:=qkt (by omega)) (nz:=by decide) (i2:=by omega) (i1:=by omega) (g2:=hv) (g1:=hu) (hm:=by omega) (hs:=qal (by omega)) (r:=this)
theorem qmD (hn:g.length≤100000):Fn 54 1 [.ls 0 g.length] [(0,0,zrI g)] (.ls 1 (edF g).length) 1 [(1,0,qgF (edF g))]:=by
 unfold qgF
 rw[qbi]
 exact qsR (r0:=qqf hn (g.length-1) 0 (Nat.zero_add _))
end
section
variable {α β:Type}
def qfi (b:α→α→Bool):Nat→List α→Nat→List α
 | 0,h,_=>h
 | _+1,h,0=>h
 | r+1,h,i+1=>match h[i+1]?,h[i/2]? with
  | some p,some q=>bif b p q then qfi b r ((h.set (i+1) q).set (i/2) p) (i/2) else h
  | _,_=>h
def qcN (b:α→α→Bool) (l:List α):List α:=l.foldl (fun h p=>qfi b (h.length+1) (h++[p]) h.length) []
theorem qet {h:List α} {i j:Nat} {p q:α} (hp:h[i]?=some p) (hq:h[j]?=some q):((h.set i q).set j p).Perm h:=by
 obtain⟨hi,rfl⟩:=List.getElem?_eq_some_iff.1 hp
 obtain⟨hj,rfl⟩:=List.getElem?_eq_some_iff.1 hq
 exact List.set_set_perm hi hj
theorem qgu (b:α→α→Bool):∀ (r:Nat) (h:List α) (i:Nat),(qfi b r h i).Perm h
 | 0,h,_=>List.Perm.refl _
 | _+1,h,0=>List.Perm.refl _
 | r+1,h,i+1=>by
  unfold qfi
  split
  ·rename_i p q hp hq
   cases b p q
   ·exact List.Perm.refl _
   ·exact (qgu b r _ _).trans (qet hp hq)
  ·exact List.Perm.refl _
theorem qf0 (b:α→α→Bool) (l:List α) (p:α):qcN b (l++[p])=qfi b ((qcN b l).length+1) (qcN b l++[p]) (qcN b l).length:=by
 unfold qcN
 rw[List.foldl_append]
 rfl
theorem qge (b:α→α→Bool):∀ (l acc:List α),(l.foldl (fun h p=>qfi b (h.length+1) (h++[p]) h.length) acc).Perm (acc++l)
 | [],acc=>by rw[List.append_nil];exact List.Perm.refl _
 | p::l,acc=>by
  refine (qge b l _).trans (((qgu b _ _ _).append_right l).trans ?_)
  rw[List.append_assoc]
  exact List.Perm.refl _
theorem qdb (b:α→α→Bool) (l:List α):(qcN b l).Perm l:=qge b l []
end
section
variable {s:List Pt} {tn td:Int}
theorem qf8 (h1:I64 tn) (h2:I64 td) (ht:okB tn td=true) {p q:Pt} (hp:qgM p=true) (hq:qgM q=true) (hne:p.id≠q.id):Pure Tryz.prog 172 #[ptV p,ptV q,qaa tn td] (.bool (ld tn td p q)):=
 qtG (ha:=qp0 h1 h2 hp hq ht hne)
abbrev riT (m j:Nat):List (Nat×SV):=[(0,.ls 6 m),(3,.pp 7 0),(4,.pv (iV (j:Int)))]
abbrev riH (s:List Pt) (tn td:Int) (m:Nat) (vs:List Value):List (Nat×Nat×SV):=[(1,0,.ls 0 s.length),(2,0,.pv (iV tn)),(2,1,.pv (iV td)),(0,0,qad s),(7,0,.pv (iV tn)),(7,1,.pv (iV td)),(6,0,.row 137 3 m vs)]
theorem qth {h:List Pt} (nd:(h.map Pt.id).Nodup) {i j:Nat} (hne:i≠j) {p q:Pt} (hp:h[i]?=some p) (hq:h[j]?=some q):p.id≠q.id:=fun e=>by
 have h1:(h.map Pt.id)[i]?=some p.id:=by rw[List.getElem?_map,hp];rfl
 have h2:(h.map Pt.id)[j]?=some p.id:=by rw[List.getElem?_map,hq,e];rfl
 obtain⟨k1,e1⟩:=List.getElem?_eq_some_iff.1 h1
 obtain⟨k2,e2⟩:=List.getElem?_eq_some_iff.1 h2
 exact hne ((List.getElem_inj nd).1 (e1.trans e2.symm))
theorem qrd (h1:I64 tn) (h2:I64 td) (ht:okB tn td=true) (h0:List Pt):∀ (r j:Nat) (h:List Pt),j<r→j<h.length→h.length=h0.length→h.length≤1000→(∀ p∈h,qgM p=true)→(h.map Pt.id).Nodup→
 Rl 1 7 105 0 41 8 (riT h0.length j) (riH s tn td h0.length (qa3 h)) (.exit 0) [] (riH s tn td h0.length (qa3 (qfi (ld tn td) r h j))):=by
 intro r
 induction r with
 | zero=>intro j h hj;omega
 | succ r ih=>
  intro j h hj hl hh hn ok nd
  cases j with
  | zero=>exact qrs (h:=h0) (h0:=df (by omega))
  | succ j=>
   obtain⟨p,hp⟩:∃ u,h[j+1]?=some u:=⟨_,List.getElem?_eq_getElem hl⟩
   obtain⟨q,hq⟩:∃ u,h[j/2]?=some u:=⟨_,List.getElem?_eq_getElem (by omega)⟩
   have ha:=qf8 h1 h2 ht (ok p (List.mem_of_getElem? hp)) (ok q (List.mem_of_getElem? hq)) (qth nd (by omega) hp hq)
   have hpa:=qie (k:=j) (by omega)
   have k0:decide (((j+1:Nat):Int)>0)=true:=dt (by omega)
   have i1:0≤((j+1:Nat):Int)∧((j+1:Nat):Int)<(h0.length:Int):=⟨by omega,by omega⟩
   have i2:0≤((j/2:Nat):Int)∧((j/2:Nat):Int)<(h0.length:Int):=⟨by omega,by omega⟩
   unfold qfi
   simp only[hp,hq]
   cases hb:ld tn td p q
   ·rw[hb] at ha
    exact qqk (h:=h0) (h0:=k0) (i1:=i1) (i2:=i2) (g1:=hp) (g2:=hq) (hpa:=hpa) (hah:=ha)
   ·rw[hb] at ha
    simp only[cond_true]
    have hm:=qet hp hq
    have:=ih (j/2) ((h.set (j+1) q).set (j/2) p) (by omega) (by simp only[List.length_set];omega) (by simp only[List.length_set];omega) (by simp only[List.length_set];omega) (fun x hx=>ok x (hm.mem_iff.1 hx)) ((hm.map Pt.id).nodup_iff.2 nd)
    exact qAH (h:=h0) (h0:=k0) (i1:=i1) (i2:=i2) (g1:=hp) (g2:=hq) (hpa:=hpa) (hah:=ha) (l1:=hl) (l2:=by omega) (r:=this)
end
end Go.Proofs.YtkckcgpmnipnaaaGreat

namespace Go.Proofs.YtkckcgpmnipnaaaGreat
set_option maxRecDepth 100000
open Go.RowKit
section
variable {s:List Pt} {tn td:Int}
abbrev grT (n k:Nat):List (Nat×SV):=[(3,.pp 2 0),(5,.ls 3 k),(12,.ls 0 n),(13,.pv (iV (n:Int))),(14,.pv (iV (k:Int)))]
abbrev grH (s:List Pt) (tn td:Int) (k:Nat) (vs:List Value):List (Nat×Nat×SV):=[(1,0,.ls 0 s.length),(2,0,.pv (iV tn)),(2,1,.pv (iV td)),(0,0,qad s),(3,0,.row 137 3 k vs)]
theorem qhg (hs:Val s):(s.map Pt.id).Nodup:=hs.up.lt_pw.imp fun h=>by omega
theorem qb2 {α:Type} {l:List α} {k:Nat} {p:α} (h:l[k]?=some p):l.take (k+1)=l.take k++[p]:=by rw[List.take_add_one,h];rfl
theorem qeP (l:List Pt):(qcN (ld tn td) l).length=l.length:=(qdb _ l).length_eq
theorem qs1 (h1:I64 tn) (h2:I64 td) (ht:okB tn td=true) (hs:Val s):∀ (r k:Nat),k+r=s.length→
 Rl 1 1 51 0 39 4 (grT s.length k) (grH s tn td k (qa3 (qcN (ld tn td) (s.take k)))) (.exit 0) [(5,.ls 3 s.length)] (grH s tn td s.length (qa3 (qcN (ld tn td) s))):=by
 have hl:=hs.len
 intro r
 induction r with
 | zero=>
  intro k hk
  have:k=s.length:=by omega
  subst this
  rw[List.take_length]
  exact qxt (hlt:=df (by omega))
 | succ r ih=>
  intro k hk
  obtain⟨p,hp⟩:∃ p,s[k]?=some p:=⟨_,List.getElem?_eq_getElem (by omega)⟩
  have lk:(qcN (ld tn td) (s.take k)).length=k:=by rw[qeP,List.length_take];omega
  have pm:(qcN (ld tn td) (s.take k)++[p]).Perm (s.take (k+1)):=by rw[qb2 hp];exact (qdb _ _).append_right _
  have l1:(qcN (ld tn td) (s.take k)++[p]).length=k+1:=by rw[List.length_append,lk];rfl
  have R:=qrd (s:=s) h1 h2 ht (qcN (ld tn td) (s.take k)++[p]) (k+1) k _ (by omega) (by omega) rfl (by omega) (fun x hx=>hs.ok x (List.mem_of_mem_take (pm.mem_iff.1 hx)))
   ((pm.map Pt.id).nodup_iff.2 (by rw[List.map_take];exact (qhg hs).sublist (List.take_sublist _ _)))
  rw[l1,qcH] at R
  have G:=ih (k+1) (by omega)
  rw[qb2 hp,qf0,lk] at G
  exact qtR (hlt:=dt (by omega)) (hin:=by omega) (hk:=hp) (hm:=by omega) (h1:=qhF (by omega)) (r0:=R) (hs:=qal (by omega)) (r:=G)
abbrev giT (n k:Nat):List (Nat×SV):=[(8,.ls 4 k),(26,.ls 3 n),(27,.pv (iV (n:Int))),(28,.pv (iV (k:Int)))]
abbrev giH (h:List Pt) (n k:Nat) (vs:List Value):List (Nat×Nat×SV):=[(3,0,.row 137 3 n (qa3 h)),(4,0,.row 3 1 k vs)]
theorem qrS {h:List Pt} {n:Nat} (hn:h.length=n) (hl:n≤1000):∀ (r k:Nat),k+r=n→
 Rl 1 1 51 1 39 5 (giT n k) (giH h n k (ziV ((h.take k).map Pt.id))) (.exit 2) [(8,.ls 4 n)] (giH h n n (ziV (h.map Pt.id))):=by
 intro r
 induction r with
 | zero=>
  intro k hk
  have:k=n:=by omega
  subst this
  rw[← hn,List.take_length,hn]
  exact qyg (hlt:=df (by omega))
 | succ r ih=>
  intro k hk
  obtain⟨p,hp⟩:∃ p,h[k]?=some p:=⟨_,List.getElem?_eq_getElem (by omega)⟩
  have G:=ih (k+1) (by omega)
  rw[qb2 hp,List.map_append,qaW] at G
  exact qpM (hlt:=dt (by omega)) (hin:=by omega) (hk:=hp) (hm:=by omega) (hs:=qal (by omega)) (r:=G)
def qbo (s:List Pt) (tn td:Int):List Int:=(qcN (ld tn td) s).map Pt.id
theorem qbj (s:List Pt) (tn td:Int):(qbo s tn td).length=s.length:=by unfold qbo;rw[List.length_map,qeP]
theorem qfW (s:List Pt) (tn td:Int):(qbo s tn td).Perm (s.map Pt.id):=(qdb _ s).map _
theorem qtd (h1:I64 tn) (h2:I64 td) (ht:okB tn td=true) (hs:Val s):Fn 51 1 [qas 0 s,.pv (qaa tn td)] [(0,0,qad s)] (.ls 1 (qbo s tn td).length) 1 [(1,0,zrI (qbo s tn td))]:=by
 unfold zrI
 rw[qbj]
 exact qrZ (r0:=qs1 h1 h2 ht hs s.length 0 (Nat.zero_add _)) (r1:=qrS (qeP s) (by have:=hs.len;omega) s.length 0 (Nat.zero_add _))
end
def ptO (x:P2):Pt:=⟨0,x.a,x.b⟩
abbrev qpg (l:List P2):List Pt:=l.map ptO
section
variable {l:List P2}
theorem quc {l:List P2} {x:P2} (h:x∉l):∀ q∈qpg l,¬ (q.a=(ptO x).a∧q.b=(ptO x).b):=fun q hq e=>by
 obtain⟨y,hy,rfl⟩:=List.mem_map.1 hq
 have:y=x:=by
  cases y
  cases x
  have e1:=e.1
  have e2:=e.2
  simp only[ptO] at e1 e2
  rw[e1,e2]
 exact h (this▸hy)
theorem qrH (nd:l.Nodup) (hn:l.length≤1000):∀ (r k:Nat),k+r=l.length→
 Rl 1 1 106 0 17 2 [(3,.mp 1),(7,.ls 0 l.length),(8,.pv (iV (l.length:Int))),(9,.pv (iV (k:Int)))] [(1,0,.mrow (qaI (qpg (l.take k)))),(0,0,qgF l)] (.exit 0) [(3,.mp 1)] [(1,0,.mrow (qaI (qpg l))),(0,0,qgF l)]:=by
 intro r
 induction r with
 | zero=>
  intro k hk
  have:k=l.length:=by omega
  subst this
  rw[List.take_length]
  exact qwV (hlt:=df (by omega))
 | succ r ih=>
  intro k hk
  obtain⟨x,hx⟩:∃ p,l[k]?=some p:=⟨_,List.getElem?_eq_getElem (by omega)⟩
  have G:=ih (k+1) (by omega)
  have hno:x∉l.take k:=fun h=>by
   have h2:=nd.sublist (List.take_sublist (k+1) l)
   rw[qb2 hx,List.nodup_append] at h2
   exact h2.2.2 x h x (List.mem_singleton.2 rfl) rfl
  have hP:=qkz (p:=ptO x) (quc hno)
  rw[qb2 hx] at G
  unfold qpg at G
  rw[List.map_append] at G
  exact qtA (x:=x) (hlt:=dt (by omega)) (hin:=by omega) (hk:=hx) (hP:=hP) (hs:=qal (by omega)) (r:=G)
theorem qh1 (nd:l.Nodup) (hn:l.length≤1000):Fn 106 1 [.ls 0 l.length] [(0,0,qgF l)] (.mp 1) 1 [(1,0,.mrow (qaI (qpg l)))]:=
 qs9 (r0:=qrH nd hn l.length 0 (Nat.zero_add _))
end
theorem qqt {c:Ck} (hn:c.l.length≤1000):∀ (r k:Nat),k+r=c.l.length→
 Rl 8 8 107 0 22 10 [(3,.ls 9 k),(8,.ls 1 c.l.length),(9,.pv (iV (c.l.length:Int))),(10,.pv (iV (k:Int)))] [(1,0,qam c.l),(9,0,.row 90 2 k (p2V ((c.l.take k).map abP)))] (.exit 0) [(3,.ls 9 c.l.length)] [(1,0,qam c.l),(9,0,.row 90 2 c.l.length (p2V (c.l.map abP)))]:=by
 intro r
 induction r with
 | zero=>
  intro k hk
  have:k=c.l.length:=by omega
  subst this
  rw[List.take_length]
  exact qyx (hlt:=df (by omega))
 | succ r ih=>
  intro k hk
  obtain⟨p,hp⟩:∃ p,c.l[k]?=some p:=⟨_,List.getElem?_eq_getElem (by omega)⟩
  have G:=ih (k+1) (by omega)
  rw[qb2 hp,List.map_append,qer] at G
  exact qsg (hlt:=dt (by omega)) (hin:=by omega) (hk:=hp) (hm:=by omega) (hs:=qal (by omega)) (r:=G)
theorem qfH {c:Ck} (hn:c.l.length≤1000) (nd:(c.l.map abP).Nodup):Fn 107 8 [qaz c] (qaC c) (.mp 8) 1 [(8,0,.mrow (qaI (qpg (c.l.map abP))))]:=by
 have h:=qh1 nd (by rw[List.length_map];exact hn)
 unfold qgF at h
 rw[List.length_map] at h
 exact qpK (r0:=qqt hn c.l.length 0 (Nat.zero_add _)) (hs:=h)
theorem qsJ {s:List Pt} (hn:s.length≤1000):∀ (r k:Nat),k+r=s.length→Rl 2 2 109 0 26 2 [(0,.ls 0 s.length),(1,.ls 1 s.length),(12,.pv (iV (s.length:Int))),(13,.pv (iV (k:Int)))] [(0,0,qad s),(1,0,qad s)] (.exit 0) [] []:=by
 intro r
 induction r with
 | zero=>
  intro k hk
  exact qwZ (hlt:=df (by omega))
 | succ r ih=>
  intro k hk
  obtain⟨p,hp⟩:∃ p,s[k]?=some p:=⟨_,List.getElem?_eq_getElem (by omega)⟩
  exact qrU (hlt:=dt (by omega)) (i1:=by omega) (g1:=hp) (hne:=by simp) (hs:=qal (by omega)) (r:=ih (k+1) (by omega))
theorem qta {s:List Pt} (hn:s.length≤1000):Fn 109 2 [.ls 0 s.length,.ls 1 s.length] [(0,0,qad s),(1,0,qad s)] (.pv (.bool true)) 0 []:=
 qrJ (hl:=by simp) (r0:=qsJ hn s.length 0 (Nat.zero_add _))
inductive CAll:Ck→List P2→Ck→Prop where
 | nil (o:Ck):CAll o [] o
 | ok {c o o':Ck} {g:P2} {l:List P2}:cyE c g.a g.b=0→qhy c g.a g.b o→CAll o l o'→CAll c (g::l) o'
theorem quG {s:List Pt} {tn td:Int} (h1:I64 tn) (h2:I64 td):∀ (l m:List P2) (o:Ck),CInv s tn td m o→(∀ g∈l,qbC g.a g.b=true∧(∃ q∈s,q.id=g.a)∧∃ q∈s,q.id=g.b)→(m++l).Nodup→(m++l).length≤200→∃ o',CAll o l o'∧CInv s tn td (m++l) o'
 | [],m,o,I,_,_,_=>⟨o,.nil o,by rw[List.append_nil];exact I⟩
 | g::l,m,o,I,hl,nd,hn=>by
  obtain⟨hc,ha,hb⟩:=hl g List.mem_cons_self
  have hg:g∉m:=fun h=>by
   rw[List.nodup_append] at nd
   exact nd.2.2 g h g List.mem_cons_self rfl
  have e:m++g::l=(m++[g])++l:=by rw[List.append_assoc];rfl
  obtain⟨cy,o1,ho,I1⟩:=qvJ I h1 h2 hc ha hb hg (by rw[List.length_append,List.length_cons] at hn;omega)
  obtain⟨o',hr,I'⟩:=quG h1 h2 l (m++[g]) o1 I1 (fun g hg=>hl g (List.mem_cons_of_mem _ hg)) (by rw[← e];exact nd) (by rw[← e];exact hn)
  exact⟨o',.ok cy ho hr,by rw[e];exact I'⟩
section
variable {l:List P2}
abbrev rnT (n k:Nat):List (Nat×SV):=[(3,.pp 10 0),(6,.pp 12 0),(9,.mp 14),(57,.ls 9 n),(58,.pv (iV (n:Int))),(59,.pv (iV (k:Int)))]
abbrev rnK (o:Ck):List (Nat×Nat×SV):=[(10,0,.pv (iV o.tn)),(10,1,.pv (iV o.td)),(10,2,.ls 16 o.s.length),(10,3,.pv (iV o.x)),(10,4,.ls 17 o.l.length),(10,5,.ls 18 o.u.length),(10,6,.ls 19 o.b.length),(10,7,.ls 20 o.fr.length),(10,8,.ls 21 o.ev.length),(10,9,.ls 22 o.wh.length),(10,10,.ls 23 o.d.length),(12,0,.pv (iV 0)),(12,1,.pv (iV 0)),(12,2,.pv (.slice none 0 0)),(12,3,.pv (iV 0)),(12,4,.pv (.slice none 0 0)),(12,5,.pv (.slice none 0 0)),(12,6,.pv (.slice none 0 0)),(12,7,.pv (.slice none 0 0)),(12,8,.pv (.slice none 0 0)),(12,9,.pv (.slice none 0 0)),(12,10,.pv (.slice none 0 0)),(16,0,qad o.s),(17,0,qam o.l),(18,0,zrI o.u),(19,0,zrB o.b),(20,0,zrI o.fr),(21,0,qar o.ev),(22,0,zrI o.wh),(23,0,qaP o.d)]
theorem qqp (hn:l.length≤1000) {o':Ck}:∀ (r k:Nat) (o:Ck),k+r=l.length→V9 o→I64 o.tn→I64 o.td→CAll o (l.drop k) o'→
 Rl 10 10 52 1 79 24 (rnT l.length k) (rnK o++[(14,0,.mrow (qaI [])),(9,0,qgF l)]) (.exit 2) [(3,.pp 10 0),(6,.pp 12 0)] (rnK o'):=by
 intro r
 induction r with
 | zero=>
  intro k o hk _ _ _ hr
  rw[List.drop_eq_nil_of_le (by omega)] at hr
  cases hr
  exact quO (hlt:=df (by omega))
 | succ r ih=>
  intro k o hk V h1 h2 hr
  have hlk:k<l.length:=by omega
  obtain⟨g,hg⟩:=qai hlk
  rw[qbc hg] at hr
  have S:=V.small h1 h2
  have hs:=V.s.len
  cases hr with
  | @ok _ o1 _ _ _ h ho hr=>
   obtain⟨V',e1,e2,_⟩:=V.certify h1 h2 h ho
   exact qpZ (hlt:=dt (by omega)) (hin:=qak hlk) (hk:=hg) (hL:=qhb (m:=[]) (p:=ptO g) fun q hq=>by cases hq) (hc:=(qik S (by omega) g.a g.b).2 h o1 ho) (hs:=qal (by omega)) (r:=ih (k+1) o1 (by omega) V' (by rw[e1];exact h1) (by rw[e2];exact h2) hr)
end
section
variable {s:List Pt} {tn td:Int}
theorem qhS {g:List Int} (h:g.Nodup):(edF g).Nodup:=by
 unfold edF edK
 rw[List.Nodup,List.pairwise_map]
 refine (List.nodup_range (n:=g.length-1)).imp_of_mem fun {i j} hi hj hne e=>hne ?_
 have h1:=List.mem_range.1 hi
 have h2:=List.mem_range.1 hj
 have e1:g.getD (i+1) 0=g.getD (j+1) 0:=congrArg P2.a e
 rw[List.getD_eq_getElem?_getD,List.getD_eq_getElem?_getD,List.getElem?_eq_getElem (show i+1<g.length by omega),List.getElem?_eq_getElem (show j+1<g.length by omega)] at e1
 have:=(List.getElem_inj h).1 e1
 omega
theorem qds (hs:Val s):(qbo s tn td).Nodup:=(qfW s tn td).nodup_iff.2 (qhg hs)
theorem qm2 {i:Int} (h:i∈qbo s tn td):∃ q∈s,q.id=i:=by
 obtain⟨q,hq,e⟩:=List.mem_map.1 ((qfW s tn td).mem_iff.1 h)
 exact⟨q,hq,e⟩
theorem qmP (hs:Val s) {g:List Int} (nd:g.Nodup) (hg:∀ i∈g,∃ q∈s,q.id=i):∀ x∈edF g,qbC x.a x.b=true∧(∃ q∈s,q.id=x.a)∧∃ q∈s,q.id=x.b:=fun x hx=>by
 obtain⟨k,ha,hb⟩:=qxs hx
 obtain⟨p,hp,ep⟩:=hg _ (List.mem_of_getElem? ha)
 obtain⟨q,hq,eq⟩:=hg _ (List.mem_of_getElem? hb)
 have kp:=qbI.1 (hs.ok p hp)
 have kq:=qbI.1 (hs.ok q hq)
 have hne:x.a≠x.b:=fun e=>by
  obtain⟨i1,j1⟩:=List.getElem?_eq_some_iff.1 ha
  obtain⟨i2,j2⟩:=List.getElem?_eq_some_iff.1 hb
  have:=(List.getElem_inj nd).1 (j1.trans (e.trans j2.symm))
  omega
 refine⟨?_,⟨p,hp,ep⟩,q,hq,eq⟩
 unfold qbC
 exact decide_eq_true ⟨by omega,by omega,by omega,by omega,hne⟩
theorem qr8 (h1:I64 tn) (h2:I64 td) (ht:okB tn td=true) (hs:Val s):∃ o,CAll (qca s tn td) (edF (qbo s tn td)) o∧CInv s tn td (edF (qbo s tn td)) o:=
 quG h1 h2 _ [] (qca s tn td) (qxw hs ht) (qmP hs (qds hs) fun _=>qm2) (qhS (qds hs)) (by show (edF _).length≤200;rw[qbi,qbj];have:=hs.len;omega)
abbrev khZ:Value:=.agg #[(iV 0),(iV 0),(.slice none 0 0),(iV 0),(.slice none 0 0),(.slice none 0 0),(.slice none 0 0),(.slice none 0 0),(.slice none 0 0),(.slice none 0 0),(.slice none 0 0),(.slice none 0 0)]
abbrev khS (o:Ck) (g:List Int):S1:=.ag [.pv (iV o.tn),.pv (iV o.td),.ls 1 o.s.length,.pv (iV o.x),.ls 2 o.l.length,.ls 3 o.u.length,.ls 4 o.b.length,.ls 5 o.fr.length,.ls 6 o.ev.length,.ls 7 o.wh.length,.ls 8 o.d.length,.ls 9 g.length]
abbrev khP (o:Ck) (g:List Int):List (Nat×Nat×SV):=[(1,0,qad o.s),(2,0,qam o.l),(3,0,zrI o.u),(4,0,zrB o.b),(5,0,zrI o.fr),(6,0,qar o.ev),(7,0,zrI o.wh),(8,0,qaP o.d),(9,0,zrI g)]
abbrev qAW (f:FuncId) (s:List Pt) (tn td e:Int):Prop:=Fn f 1 [qas 0 s,.pv (qaa tn td)] [(0,0,qad s)] (.pv (.tuple #[khZ,iV e])) 0 []
abbrev qHk (f:FuncId) (s:List Pt) (tn td:Int) (o:Ck) (g:List Int):Prop:=Fn f 1 [qas 0 s,.pv (qaa tn td)] [(0,0,qad s)] (.tu [khS o g,.one (.pv (iV 0))]) 9 (khP o g)
theorem qmv (h1:I64 tn) (h2:I64 td):(tE s tn td≠0→qAW 12 s tn td (tE s tn td))∧(tE s tn td=0→∀ o,CAll (qca s tn td) (edF (qbo s tn td)) o→qHk 12 s tn td o (qbo s tn td)):=by
 obtain⟨n1,n2⟩:=qGL (s:=s) h1 h2
 refine⟨fun h=>qv7 (hn:=n1 h) (he:=by simpa using h),fun h o ho=>?_⟩
 obtain⟨hs,ht⟩:=qjc h
 have hl:=hs.len
 have hg:=qtd h1 h2 ht hs
 have gl:(qbo s tn td).length≤64:=by rw[qbj];exact hl
 have he:=qdr (g:=qbo s tn td) (by omega)
 have nd:=qhS (qds (tn:=tn) (td:=td) hs)
 have el:(edF (qbo s tn td)).length≤64:=by rw[qbi];omega
 have q1:=qh1 nd (by omega)
 have q2:=qfH (c:=qca s tn td) (Nat.zero_le _) List.nodup_nil
 have q3:=qta (s:=s) (by omega)
 generalize hE:edF (qbo s tn td)=E at *
 cases ho with
 | nil=>exact qGJ (c:=qca s tn td) (hn:=n2 h) (hg:=hg) (he:=he) (hr:=qFZ (c:=qca s tn td) (hs1:=q1) (hs2:=q2) (h0:=rfl) (heq:=q3) (h1:=rfl))
 | @ok _ o1 _ x l hc hy hr=>
  have V:=qiE hs ht
  have S:=V.small h1 h2
  obtain⟨V',e1,e2,_⟩:=V.certify h1 h2 hc hy
  have R:=qqp (l:=x::l) (by omega) l.length 1 o1 (by simp;omega) V' (by rw[e1];exact h1) (by rw[e2];exact h2) hr
  exact qGD (c:=qca s tn td) (hn:=n2 h) (hg:=hg) (he:=he) (hr:=qFG (c:=qca s tn td) (x:=x) (hs1:=q1) (hs2:=q2) (h0:=rfl) (heq:=q3) (h1:=dt (by simp)) (hin:=by simp) (hk:=rfl) (hL:=qhb (m:=[]) (p:=ptO x) fun q hq=>by cases hq) (hc:=(qik S (show s.length≤70 by omega) x.a x.b).2 hc o1 hy) (r0:=R))
end
end Go.Proofs.YtkckcgpmnipnaaaGreat
