/-
  Joined: Ej, Ek. Conditions: none.
-/
import Derived.Test.YtkckcgpmnipnaaaGreatW50
import Derived.Test.YtkckcgpmnipnaaaGreatW44
import Derived.Test.YtkckcgpmnipnaaaGreatW21
import Derived.Test.YtkckcgpmnipnaaaGreatW43
import Derived.Test.YtkckcgpmnipnaaaGreatBe
import Derived.Test.YtkckcgpmnipnaaaGreatW28
namespace Go.Proofs.YtkckcgpmnipnaaaGreat
set_option maxRecDepth 100000
open Go.RowKit
section
variable {s:List Pt} {tn td:Int}
theorem qrC (h1:I64 tn) (h2:I64 td) (hs:Val s) {p q:Pt} (hp:p∈s) (hq:q∈s):Fn 42 1 [qas 0 s,.pv (qaa tn td),.pv (iV p.id),.pv (iV q.id)] [(0,0,qad s)] (.pv (.bool (ld tn td p q))) 0 []:=by
 obtain⟨j,hj⟩:=List.mem_iff_getElem?.1 hp
 obtain⟨k,hk⟩:=List.mem_iff_getElem?.1 hq
 exact qqn (hu:=qe4 hs hj rfl) (ij:=qak (qaj hj)) (gj:=hj) (hv:=qe4 hs hk rfl) (ik:=qak (qaj hk)) (gk:=hk) (hl:=qgQ h1 h2 (hs.ok p hp) (hs.ok q hq))
abbrev rrT (n j:Nat):List (Nat×SV):=[(3,.pv (iV (j:Int))),(4,.pp 2 0),(5,.pp 3 0),(9,.ls 5 n)]
abbrev rrH (s:List Pt) (tn td:Int) (n:Nat) (vs:List Value):List (Nat×Nat×SV):=[(2,0,.ls 0 s.length),(3,0,.pv (iV tn)),(3,1,.pv (iV td)),(0,0,qad s),(5,0,.row 3 1 n vs)]
theorem qqT (h1:I64 tn) (h2:I64 td) (hs:Val s) (h0:List Int):∀ (r j:Nat) (h:List Pt),j<r→j<h.length→h.length=h0.length→h.length≤1000→(∀ p∈h,p∈s)→
 Rl 2 2 81 0 52 6 (rrT h0.length j) (rrH s tn td h0.length (ziV (h.map Pt.id))) (.exit 0) [(9,.ls 5 h0.length)] [(5,0,.row 3 1 h0.length (ziV ((qfi (ld tn td) r h j).map Pt.id)))]:=by
 intro r
 induction r with
 | zero=>intro j h hj;omega
 | succ r ih=>
  intro j h hj hl hh hn ok
  cases j with
  | zero=>exact qqV (gs:=h0) (h0:=df (by omega))
  | succ j=>
   obtain⟨p,hp⟩:∃ u,h[j+1]?=some u:=⟨_,List.getElem?_eq_getElem hl⟩
   obtain⟨q,hq⟩:∃ u,h[j/2]?=some u:=⟨_,List.getElem?_eq_getElem (by omega)⟩
   have ha:=qrC h1 h2 hs (ok p (List.mem_of_getElem? hp)) (ok q (List.mem_of_getElem? hq))
   have k0:decide (((j+1:Nat):Int)>0)=true:=dt (by omega)
   have i1:0≤((j+1:Nat):Int)∧((j+1:Nat):Int)<(h0.length:Int):=⟨by omega,by omega⟩
   have i2:0≤((j/2:Nat):Int)∧((j/2:Nat):Int)<(h0.length:Int):=⟨by omega,by omega⟩
   have g1:(h.map Pt.id)[j+1]?=some p.id:=by rw[List.getElem?_map,hp];rfl
   have g2:(h.map Pt.id)[j/2]?=some q.id:=by rw[List.getElem?_map,hq];rfl
   unfold qfi
   simp only[hp,hq]
   cases hb:ld tn td p q
   ·rw[hb] at ha
    exact qqO (gs:=h0) (h0:=k0) (i1:=i1) (i2:=i2) (g1:=g1) (g2:=g2) (nz:=by decide) (h1:=qhF (by omega)) (h2:=qkt (by omega)) (hA:=ha)
   ·rw[hb] at ha
    simp only[cond_true]
    have hm:=qet hp hq
    have R:=ih (j/2) ((h.set (j+1) q).set (j/2) p) (by omega) (by simp only[List.length_set];omega) (by simp only[List.length_set];omega) (by simp only[List.length_set];omega) (fun x hx=>ok x (hm.mem_iff.1 hx))
    rw[List.map_set,List.map_set] at R
    exact qDd (gs:=h0) (h0:=k0) (i1:=i1) (i2:=i2) (g1:=g1) (g2:=g2) (nz:=by decide) (h1:=qhF (by omega)) (h2:=qkt (by omega)) (hA:=ha) (l1:=by rw[List.length_map];exact hl) (l2:=by rw[List.length_map];omega) (r:=R)
theorem qoW (h1:I64 tn) (h2:I64 td) (hs:Val s) {h:List Pt} {n j:Nat} (hn:h.length=n) (hl:n≤1000) (hj:j<n) (ok:∀ p∈h,p∈s) :
 Fn 81 2 [qas 0 s,.pv (qaa tn td),.ls 1 n,.pv (iV (j:Int))] [(0,0,qad s),(1,0,.row 3 1 n (ziV (h.map Pt.id)))] (.ls 2 n) 1 [(2,0,.row 3 1 n (ziV ((qfi (ld tn td) (j+1) h j).map Pt.id)))]:=by
 have R:=qqT h1 h2 hs (h.map Pt.id) (j+1) j h (by omega) (by omega) (by rw[List.length_map]) (by omega) ok
 rw[List.length_map,hn] at R
 have e:0+n=n:=Nat.zero_add n
 rw[← e] at R
 have P:=qsk (n:=n) (hm:=by omega) (r0:=R)
 rw[e] at P
 exact P
abbrev hpT (k:Nat):List (Nat×SV):=[(2,.pp 1 0),(3,.pp 2 0),(4,.pp 3 0),(5,.ls 4 k),(6,.pv (iV (k:Int)))]
abbrev hpH (s:List Pt) (tn td:Int) (k:Nat) (vs:List Value):List (Nat×Nat×SV):=[(1,0,.ls 0 s.length),(2,0,.pv (iV tn)),(2,1,.pv (iV td)),(3,0,.pv (iV 0)),(3,1,.pv (iV 0)),(3,2,.pv (.slice none 0 0)),(3,3,.pv (iV 0)),(3,4,.pv (.slice none 0 0)),(3,5,.pv (.slice none 0 0)),(3,6,.pv (.slice none 0 0)),(3,7,.pv (.slice none 0 0)),(3,8,.pv (.slice none 0 0)),(3,9,.pv (.slice none 0 0)),(3,10,.pv (.slice none 0 0)),(3,11,.pv (.slice none 0 0)),(0,0,qad s),(4,0,.row 3 1 k vs)]
theorem qsu (h1:I64 tn) (h2:I64 td) (hs:Val s):∀ (r k:Nat),k+r=s.length→
 Rl 1 1 33 0 44 5 (hpT k) (hpH s tn td k (ziV ((qcN (ld tn td) (s.take k)).map Pt.id))) (.exit 0) [(2,.pp 1 0),(3,.pp 2 0),(4,.pp 3 0),(5,.ls 4 (qbo s tn td).length)] (hpH s tn td (qbo s tn td).length (ziV (qbo s tn td))):=by
 have hl:=hs.len
 intro r
 induction r with
 | zero=>
  intro k hk
  have e:(qbo s tn td).length=k:=by rw[qbj];omega
  rw[e,List.take_of_length_le (by omega)]
  exact qwf (hlt:=df (by omega))
 | succ r ih=>
  intro k hk
  obtain⟨p,hp⟩:∃ p,s[k]?=some p:=⟨_,List.getElem?_eq_getElem (by omega)⟩
  have lk:(qcN (ld tn td) (s.take k)).length=k:=by rw[qeP,List.length_take];omega
  have l1:(qcN (ld tn td) (s.take k)++[p]).length=k+1:=by rw[List.length_append,lk];rfl
  have R:=qoW (h:=qcN (ld tn td) (s.take k)++[p]) (n:=k+1) (j:=k) h1 h2 hs l1 (by omega) (by omega) (fun x hx=>by
   rw[List.mem_append] at hx
   rcases hx with hx | hx
   ·exact List.mem_of_mem_take ((qdb _ _).mem_iff.1 hx)
   ·rw[List.mem_singleton.1 hx];exact List.mem_of_getElem? hp)
  rw[List.map_append,qaW] at R
  have e0:0+k=k:=Nat.zero_add k
  have G:=ih (k+1) (by omega)
  rw[qb2 hp,qf0,lk] at G
  exact qtN (hlt:=dt (by omega)) (hin:=by omega) (hk:=hp) (hm1:=by omega) (hm2:=by omega) (hr:=by rw[e0];exact R) (hs:=qal (by omega)) (r:=G)
abbrev qId (s:List Pt) (tn td:Int):SV:=.ag [.pv (iV tn),.pv (iV td),.ls 1 s.length,.pv (iV 0),.ls 7 0,.ls 2 (qca s tn td).u.length,.ls 3 (qca s tn td).b.length,.ls 4 (qca s tn td).fr.length,.ls 6 0,.ls 5 (qca s tn td).wh.length,.ls 8 0]
theorem qAf (hn:s.length≤1000000):Fn 82 1 [qas 0 s,.pv (qaa tn td)] [(0,0,qad s)] (qId s tn td) 8 [(8,0,qaP []),(7,0,qam []),(1,0,qad s),(2,0,zrI (qca s tn td).u),(3,0,zrB (qca s tn td).b),(4,0,zrI (qca s tn td).fr),(5,0,zrI (qca s tn td).wh),(6,0,qar [])]:=by
 have b:=qsb (o:=qca s tn td) (tn:=tn) (td:=td) (hf:=qj9 hn) (hb:=qtI (n:=200) (by omega))
 have b1:=qjJ 171 3 b (.ag (.cons (.same _) (.cons (.same _) (.cons (.same _) (.cons (.same _) (.cons .nil (.cons (.same _) (.cons (.same _) (.cons (.same _) (.cons (.same _) (.cons (.same _) (.cons (.same _) .nil))))))))))))
 exact qjJ 134 3 b1 (.ag (.cons (.same _) (.cons (.same _) (.cons (.same _) (.cons (.same _) (.cons (.same _) (.cons (.same _) (.cons (.same _) (.cons (.same _) (.cons (.same _) (.cons (.same _) (.cons .nil .nil))))))))))))
abbrev rwT (n k:Nat):List (Nat×SV):=[(2,.ls 9 n),(6,.pp 12 0),(8,.pp 21 0),(12,.pv (iV (k:Int)))]
abbrev rwK (o:Ck):List (Nat×Nat×SV):=[(21,0,.pv (iV o.tn)),(21,1,.pv (iV o.td)),(21,2,.ls 13 o.s.length),(21,3,.pv (iV o.x)),(21,4,.ls 14 o.l.length),(21,5,.ls 15 o.u.length),(21,6,.ls 16 o.b.length),(21,7,.ls 17 o.fr.length),(21,8,.ls 18 o.ev.length),(21,9,.ls 19 o.wh.length),(21,10,.ls 20 o.d.length),(12,0,.pv (iV 0)),(12,1,.pv (iV 0)),(12,2,.pv (.slice none 0 0)),(12,3,.pv (iV 0)),(12,4,.pv (.slice none 0 0)),(12,5,.pv (.slice none 0 0)),(12,6,.pv (.slice none 0 0)),(12,7,.pv (.slice none 0 0)),(12,8,.pv (.slice none 0 0)),(12,9,.pv (.slice none 0 0)),(12,10,.pv (.slice none 0 0)),(13,0,qad o.s),(14,0,qam o.l),(15,0,zrI o.u),(16,0,zrB o.b),(17,0,zrI o.fr),(18,0,qar o.ev),(19,0,zrI o.wh),(20,0,qaP o.d)]
theorem qBq {c:Ck} {a b:Int} (h:adE c a b=0):qeN c.l a b=false:=by
 cases hh:qeN c.l a b
 ·rfl
 ·unfold adE at h
  rw[if_pos hh] at h
  cases h
theorem qrg {l:List P2} (hn:l.length≤1000) {o':Ck}:∀ (r k:Nat) (o:Ck),k+r=l.length→V9 o→I64 o.tn→I64 o.td→CAll o (l.drop k) o'→
 Rl 10 10 78 1 90 22 (rwT l.length k) (rwK o++[(9,0,qgF l)]) (.exit 2) [(6,.pp 12 0),(8,.pp 21 0)] (rwK o'):=by
 intro r
 induction r with
 | zero=>
  intro k o hk _ _ _ hr
  rw[List.drop_eq_nil_of_le (by omega)] at hr
  cases hr
  exact qyi (hlt:=df (by omega))
 | succ r ih=>
  intro k o hk V h1 h2 hr
  have hlk:k<l.length:=by omega
  obtain⟨g,hg⟩:=qai hlk
  rw[qbc hg] at hr
  have S:=V.small h1 h2
  have hvl:=V.v.len
  cases hr with
  | @ok _ o1 _ _ _ h ho hr=>
   obtain⟨_,q1,q2,q3,q4⟩:=qDb h
   obtain⟨V',e1,e2,_⟩:=V.certify h1 h2 h ho
   have hh:=qi6 o.x (l:=o.l) (by omega) g.a g.b
   rw[qBq q4] at hh
   exact qs0 (hlt:=dt (by omega)) (hin:=qak hlk) (hk:=hg) (hh:=hh) (ha:=(qk1 S V q1 q2 q3).2 q4 o1 ho) (hs:=qal (by omega)) (r:=ih (k+1) o1 (by omega) V' (by rw[e1];exact h1) (by rw[e2];exact h2) hr)
theorem qlR {l:List Pt} (hn:l.length≤1000000):Fn 41 2 [qas 0 l,qas 1 l] [(0,0,qad l),(1,0,qad l)] (.pv (.bool true)) 0 []:=qpm hn
theorem qmf (h1:I64 tn) (h2:I64 td):(tE s tn td≠0→qAW 13 s tn td (tE s tn td))∧(tE s tn td=0→∀ o,CAll (qca s tn td) (edF (qbo s tn td)) o→qHk 13 s tn td o (qbo s tn td)):=by
 have c1:=qgg s
 refine⟨fun h=>?_,fun h o ho=>?_⟩
 ·by_cases hs:qf7 s=0
  ·have ht:¬ okB tn td=true:=fun ht=>h (by unfold tE;rw[if_pos hs,if_pos ht])
   have e:tE s tn td=8:=by unfold tE;rw[if_pos hs,if_neg ht]
   rw[hs] at c1
   rw[e]
   exact qBa (h1:=c1) (h2:=qen h1 h2 ht)
  ·have e:tE s tn td=qf7 s:=by unfold tE;rw[if_neg hs]
   rw[e]
   exact qC6 (h1:=c1) (he:=by simpa using hs)
 ·obtain⟨hs,ht⟩:=qjc h
  have hl:=hs.len
  rw[qc0.2 hs] at c1
  have gl:(qbo s tn td).length≤64:=by rw[qbj];exact hl
  have el:(edF (qbo s tn td)).length≤64:=by rw[qbi];omega
  have V:=qiE hs ht
  have S:=V.small h1 h2
  have R:=qsf (c:=qca s tn td) (o:=o) (ht:=quE S (by show s.length≤_;omega)) (h0:=rfl) (hf:=qlR (by show s.length≤_;omega)) (r0:=qrg (l:=edF (qbo s tn td)) (by omega) (edF (qbo s tn td)).length 0 (qca s tn td) (Nat.zero_add _) V h1 h2 ho)
  exact qDq (h1:=c1) (h2:=qfo h1 h2 ht) (hH:=qqb (c:=qca s tn td) (r0:=qsu h1 h2 hs s.length 0 (Nat.zero_add _)) (hb:=qAf (by omega)) (ho:=qmD (g:=qbo s tn td) (by omega)) (hR:=R))
end
end Go.Proofs.YtkckcgpmnipnaaaGreat

namespace Go.Proofs.YtkckcgpmnipnaaaGreat
set_option maxRecDepth 100000
open Go.RowKit
theorem qkV:∀ {l m:List Int},l.Perm m→l.Pairwise (fun x y=>x≤y)→m.Pairwise (fun x y=>x≤y)→l=m
 | [],m,h,_,_=>h.nil_eq
 | a::l,[],h,_,_=>by have:=h.length_eq;simp at this
 | a::l,b::m,h,h1,h2=>by
  have ha:a∈b::m:=h.mem_iff.1 List.mem_cons_self
  have hb:b∈a::l:=h.mem_iff.2 List.mem_cons_self
  rw[List.pairwise_cons] at h1 h2
  have e:a=b:=by
   rcases List.mem_cons.1 ha with e | e
   ·exact e
   ·rcases List.mem_cons.1 hb with e' | e'
    ·exact e'.symm
    ·have:=h1.1 b e'
     have:=h2.1 a e
     omega
  subst e
  rw[qkV h.cons_inv h1.2 h2.2]
theorem qfF:∀ {l m:List Int},l.Nodup→(∀ x∈l,x∈m)→m.length≤l.length→l.Perm m
 | [],m,_,_,hn=>by
  have:m=[]:=List.eq_nil_of_length_eq_zero (by simpa using hn)
  rw[this]
 | x::l,m,nd,hs,hn=>by
  have hx:=hs x List.mem_cons_self
  rw[List.nodup_cons] at nd
  have ih:=qfF (l:=l) (m:=m.erase x) nd.2 (fun y hy=>(List.mem_erase_of_ne (fun e=>nd.1 (by rw[← e];exact hy))).2 (hs y (List.mem_cons_of_mem _ hy))) (by rw[List.length_erase_of_mem hx];simp at hn;omega)
  exact (ih.cons x).trans (List.perm_cons_erase hx).symm
def qia (c:Ck) (g:List Int):Bool:=decide (sortI g=c.s.map Pt.id)
theorem qg9 {c:Ck} (hs:Val c.s) {g:List Int}:qia c g=true↔g.Perm (c.s.map Pt.id):=by
 unfold qia
 rw[decide_eq_true_iff]
 refine⟨fun h=>h▸(qcr g).symm,fun h=>qkV ((qcr g).trans h) (qkJ g) (hs.up.lt_pw.imp fun h=>by omega)⟩
section
variable {s:List Pt} {gs:List Int}
abbrev FVI:SV:=.pv (.func (.func 119) #[] #[])
abbrev kqT (n m k:Nat):List (Nat×SV):=[(1,.ls 1 m),(2,FVI),(15,.ls 0 n),(16,.pv (iV (n:Int))),(17,.pv (iV (k:Int)))]
theorem qsF (hl:gs.length=s.length) (hn:s.length≤1000):∀ (r k:Nat),k+r=gs.length→
 (gs.drop k=(s.map Pt.id).drop k→Rl 2 2 118 0 32 2 (kqT gs.length s.length k) [(0,0,zrI gs),(1,0,qad s)] (.exit 0) [] [])∧
 (gs.drop k≠(s.map Pt.id).drop k→Rl 2 2 118 0 32 2 (kqT gs.length s.length k) [(0,0,zrI gs),(1,0,qad s)] .ret [(6,.pv (.bool false))] []):=by
 intro r
 induction r with
 | zero=>
  intro k hk
  refine⟨fun _=>qwQ (hlt:=df (by omega)),fun h=>?_⟩
  rw[List.drop_eq_nil_of_le (by omega),List.drop_eq_nil_of_le (by rw[List.length_map];omega)] at h
  exact (h rfl).elim
 | succ r ih=>
  intro k hk
  obtain⟨z,hz⟩:∃ z,gs[k]?=some z:=⟨_,List.getElem?_eq_getElem (by omega)⟩
  obtain⟨p,hp⟩:∃ p,s[k]?=some p:=⟨_,List.getElem?_eq_getElem (by omega)⟩
  have hp':(s.map Pt.id)[k]?=some p.id:=by rw[List.getElem?_map,hp];rfl
  have k0:decide ((k:Int)<(gs.length:Int))=true:=dt (by omega)
  rw[qbc hz,qbc hp']
  by_cases e:z=p.id
  ·have hc:=qs6 (z:=z) (p:=p) (hw:=by simpa using e)
   refine⟨fun h=>?_,fun h=>?_⟩
   ·exact qj0 (hlt:=k0) (i1:=by omega) (g1:=hz) (i2:=by omega) (g2:=hp) (hc:=hc) (hs:=qal (by omega)) (r:=(ih (k+1) (by omega)).1 (by injection h))
   ·exact qj0 (hlt:=k0) (i1:=by omega) (g1:=hz) (i2:=by omega) (g2:=hp) (hc:=hc) (hs:=qal (by omega)) (r:=(ih (k+1) (by omega)).2 fun h'=>h (by rw[e,h']))
  ·have hc:=qzQ (z:=z) (p:=p) (hw:=by simpa using e)
   exact⟨fun h=>(e (by injection h)).elim,fun _=>qzT (hlt:=k0) (i1:=by omega) (g1:=hz) (i2:=by omega) (g2:=hp) (hc:=hc)⟩
theorem qvH (hn:s.length≤1000):Fn 118 2 [.ls 0 gs.length,.ls 1 s.length,FVI] [(0,0,zrI gs),(1,0,qad s)] (.pv (.bool (decide (gs=s.map Pt.id)))) 0 []:=by
 by_cases hl:gs.length=s.length
 ·obtain⟨a,b⟩:=qsF hl hn gs.length 0 (Nat.zero_add _)
  rw[List.drop_zero,List.drop_zero] at a b
  have l0:((gs.length:Int) !=(s.length:Int))=false:=by simp[hl]
  by_cases e:gs=s.map Pt.id
  ·rw[dt e];exact qqd (hl:=l0) (r0:=a e)
  ·rw[df e];exact qoy (hl:=l0) (r0:=b e)
 ·have e:gs≠s.map Pt.id:=fun e=>hl (by rw[e,List.length_map])
  rw[df e]
  exact qyI (hl:=by simp;omega)
end
section
variable {c:Ck} {g:List Int}
abbrev khA (c:Ck) (g:List Int):SV:=.ag [.pv (iV c.tn),.pv (iV c.td),.ls 0 c.s.length,.pv (iV c.x),.ls 1 c.l.length,.ls 2 c.u.length,.ls 3 c.b.length,.ls 4 c.fr.length,.ls 5 c.ev.length,.ls 6 c.wh.length,.ls 7 c.d.length,.ls 8 g.length]
abbrev khQ (c:Ck) (g:List Int):List (Nat×Nat×SV):=qaC c++[(8,0,zrI g)]
theorem qi2 (hn:g.length≤1000):Fn 116 2 [qG7] (vHI g) (.ls 2 (sortI g).length) 1 [(2,0,zrI (sortI g))]:=by
 unfold zrI
 rw[qce]
 exact qFe (hc:=qFT (ha:=qjI (by omega))) (hm:=qfh g (by omega))
theorem qqv (hn:g.length≤1000) (hs:c.s.length≤1000):Fn 58 9 [khA c g] (khQ c g) (.pv (.bool (qia c g))) 0 []:=
 qqK (hq:=qi2 hn) (he:=qvH hs)
noncomputable def qg7 (c:Ck) (x:P2):Bool:=qeN c.l x.a x.b&&qgN c.s c.tn c.td (ptO x)
noncomputable def qwN (c:Ck) (l:List P2):Bool:=l.all (qg7 c)&&decide (c.l.length=l.length)
theorem qpt {s:List Pt} (hs:Val s) {i:Int} (h:∃ q∈s,q.id=i):∃ p∈s,p.id=i∧qBK 184 s i p 0:=by
 obtain⟨p,hp,e⟩:=h
 obtain⟨k,hk⟩:=List.mem_iff_getElem?.1 hp
 have c1:=qem s
 rw[qc0.2 hs] at c1
 exact⟨p,hp,e,qmN hk (qak (qaj hk)) c1 (qpI hs hk e)⟩
theorem qmm (V:V9 c) (h1:I64 c.tn) (h2:I64 c.td) {x:P2} (hc:qbC x.a x.b=true) (ha:∃ q∈c.s,q.id=x.a) (hb:∃ q∈c.s,q.id=x.b) :
 Fn 120 8 [qaz c,.pv (qah x.a x.b)] (qaC c) (.pv (.bool (qgN c.s c.tn c.td (ptO x)))) 0 []:=by
 obtain⟨p,hp,ep,fp⟩:=qpt V.s hb
 obtain⟨q,hq,eq⟩:=qpt V.s ha
 unfold qbC at hc
 have hc':=of_decide_eq_true hc
 have e:qgN c.s c.tn c.td (ptO x)=ld c.tn c.td p q:=by
  show ld c.tn c.td (qcS c.s x.b) (qcS c.s x.a)=_
  rw[← ep,← eq.1,qcj V.s hp,qcj V.s hq]
 rw[e]
 exact qsQ (h1:=fp) (h2:=eq.2) (h3:=qf8 h1 h2 V.t (V.s.ok p hp) (V.s.ok q hq) (by rw[ep,eq.1];omega))
theorem qo8 {x:P2}:qeN c.l x.a x.b=true↔x∈c.l.map abP:=by
 rw[qdN,List.mem_map]
 constructor
 ·rintro⟨p,hp,e1,e2⟩
  exact⟨p,hp,by cases x;simp_all[abP]⟩
 ·rintro⟨p,hp,rfl⟩
  exact⟨p,hp,rfl,rfl⟩
theorem V9.cnd (V:V9 c):(c.l.map abP).Nodup:=by
 rw[List.Nodup,List.pairwise_iff_getElem]
 intro i j hi hj hij e
 rw[List.length_map] at hi hj
 rw[List.getElem_map,List.getElem_map] at e
 refine V.v.dis i j _ _ hij (List.getElem?_eq_getElem hi) (List.getElem?_eq_getElem hj) ⟨congrArg P2.a e,congrArg P2.b e⟩
theorem qra {l:List P2} {x:P2}:qcp Tryz.prog 167 (qaI (qpg l)) (qah x.a x.b) false (.bool (decide (x∈l))):=by
 by_cases h:x∈l
 ·rw[dt h];exact qjX (p:=ptO x) (q:=ptO x) (List.mem_map.2 ⟨x,h,rfl⟩) ⟨rfl,rfl⟩
 ·rw[df h];exact qhb (p:=ptO x) (quc h)
theorem qpf:∀ (ps:List (Value×Value)),(kvL ps).length=2*ps.length
 | []=>rfl
 | p::r=>by
  have:=qpf r
  unfold kvL at this ⊢
  rw[List.flatMap_cons,List.length_append,this]
  simp
  omega
theorem qrL (l:List P2):(qaI (qpg l)).length/2=l.length:=by
 unfold qaI
 rw[qpf]
 unfold qjP qpg
 rw[List.length_map,List.length_map]
 omega
abbrev kfT (n k:Nat):List (Nat×SV):=[(1,.pp 9 0),(3,.ls 10 n),(4,.mp 11),(13,.ls 10 n),(14,.pv (iV (n:Int))),(15,.pv (iV (k:Int)))]
abbrev khB (c:Ck) (g:List Int):List (Nat×Nat×SV):=[(9,0,.pv (iV c.tn)),(9,1,.pv (iV c.td)),(9,2,.ls 0 c.s.length),(9,3,.pv (iV c.x)),(9,4,.ls 1 c.l.length),(9,5,.ls 2 c.u.length),(9,6,.ls 3 c.b.length),(9,7,.ls 4 c.fr.length),(9,8,.ls 5 c.ev.length),(9,9,.ls 6 c.wh.length),(9,10,.ls 7 c.d.length),(9,11,.ls 8 g.length)]
abbrev kfH (c:Ck) (g:List Int) (l:List P2):List (Nat×Nat×SV):=khB c g++([(10,0,qgF l),(11,0,.mrow (qaI (qpg (c.l.map abP))))]++khQ c g)
abbrev kfE (c:Ck) (l:List P2):List (Nat×Nat×SV):=[(10,0,qgF l),(11,0,.mrow (qaI (qpg (c.l.map abP))))]
theorem qsB (V:V9 c) (h1:I64 c.tn) (h2:I64 c.td) {l:List P2} (hl:∀ x∈l,qbC x.a x.b=true∧(∃ q∈c.s,q.id=x.a)∧∃ q∈c.s,q.id=x.b) (hn:l.length≤1000):∀ (r k:Nat),k+r=l.length→
 ((l.drop k).all (qg7 c)=true→Rl 9 9 59 0 36 12 (kfT l.length k) (kfH c g l) (.exit 0) [(3,.ls 10 l.length),(4,.mp 11)] (kfE c l))∧
 ((l.drop k).all (qg7 c)=false→Rl 9 9 59 0 36 12 (kfT l.length k) (kfH c g l) .ret [(2,.pv (.bool false))] []):=by
 intro r
 induction r with
 | zero=>
  intro k hk
  rw[List.drop_eq_nil_of_le (by omega)]
  exact⟨fun _=>qxF (hlt:=df (by omega)),fun h=>by cases h⟩
 | succ r ih=>
  intro k hk
  have hlk:k<l.length:=by omega
  obtain⟨x,hx⟩:=qai hlk
  obtain⟨q1,q2,q3⟩:=hl x (List.mem_of_getElem? hx)
  rw[qbc hx,List.all_cons]
  have L:=qra (l:=c.l.map abP) (x:=x)
  have Hd:=qmm V h1 h2 q1 q2 q3
  have k0:decide ((k:Int)<(l.length:Int))=true:=dt (by omega)
  have I:=ih (k+1) (by omega)
  unfold qg7 at I ⊢
  cases hh:qeN c.l x.a x.b
  ·have:x∉c.l.map abP:=fun h=>by rw[qo8.2 h] at hh;cases hh
   rw[df this] at L
   exact⟨fun h=>by simp at h,fun _=>qCQ (hlt:=k0) (i1:=qak hlk) (g1:=hx) (hL:=L)⟩
  ·rw[dt (qo8.1 hh)] at L
   cases ho:qgN c.s c.tn c.td (ptO x)
   ·rw[ho] at Hd
    exact⟨fun h=>by simp at h,fun _=>qyV (hlt:=k0) (i1:=qak hlk) (g1:=hx) (hL:=L) (hh:=Hd)⟩
   ·rw[ho] at Hd
    exact⟨fun h=>qke (hlt:=k0) (i1:=qak hlk) (g1:=hx) (hL:=L) (hh:=Hd) (hs:=qal (by omega)) (r:=I.1 (by simpa using h)),fun h=>qke (hlt:=k0) (i1:=qak hlk) (g1:=hx) (hL:=L) (hh:=Hd) (hs:=qal (by omega)) (r:=I.2 (by simpa using h))⟩
theorem qno (V:V9 c) (h1:I64 c.tn) (h2:I64 c.td) (nd:g.Nodup) (hg:∀ i∈g,∃ q∈c.s,q.id=i) (hn:g.length≤1000):Fn 59 9 [khA c g] (khQ c g) (.pv (.bool (qwN c (edF g)))) 0 []:=by
 have hvl:=V.v.len
 have el:(edF g).length≤1000:=by rw[qbi];omega
 obtain⟨a,b⟩:=qsB (g:=g) (l:=edF g) V h1 h2 (qmP V.s nd hg) el (edF g).length 0 (Nat.zero_add _)
 rw[List.drop_zero] at a b
 have q1:=qdr (g:=g) (by omega)
 have q2:=qfH (c:=c) (by omega) V.cnd
 have sl:=qrL (c.l.map abP)
 rw[List.length_map] at sl
 unfold qwN
 cases ha:(edF g).all (qg7 c)
 ·exact qms (h1:=q1) (h2:=q2) (r0:=b ha)
 ·by_cases e:c.l.length=(edF g).length
  ·rw[dt e];exact qw0 (h1:=q1) (h2:=q2) (r0:=a ha) (hn:=by rw[sl,e];simp)
  ·rw[df e];exact qqN (h1:=q1) (h2:=q2) (r0:=a ha) (hn:=by rw[sl];simp;omega)
noncomputable def qbJ (c:Ck) (g:List Int):Int:=open Classical in if V9 c∧qia c g=true∧qwN c (edF g)=true then 0 else 8
theorem qn4 (hs:Val c.s) (h:qia c g=true):g.Nodup∧∀ i∈g,∃ q∈c.s,q.id=i:=by
 have p:=(qg9 hs).1 h
 refine⟨p.nodup_iff.2 (qhg hs),fun i hi=>?_⟩
 obtain⟨q,hq,e⟩:=List.mem_map.1 (p.mem_iff.1 hi)
 exact⟨q,hq,e⟩
theorem qcB (S:S9 c) (hs:c.s.length≤70) (hn:g.length≤70):Fn 21 9 [khA c g] (khQ c g) (.pv (iV (qbJ c g))) 0 []:=by
 have hc:=qht S hs
 by_cases V:V9 c
 ·rw[qec V] at hc
  have ho:=qqv (c:=c) (g:=g) (by omega) (by omega)
  cases h0:qia c g
  ·rw[h0] at ho
   have e:qbJ c g=8:=by unfold qbJ;rw[if_neg (by rw[h0];simp)]
   rw[e]
   exact qsS (hc:=hc) (hh:=ho)
  ·rw[h0] at ho
   obtain⟨n1,n2⟩:=qn4 V.s h0
   have hf:=qno V S.tn S.td n1 n2 (by omega)
   cases hF:qwN c (edF g)
   ·rw[hF] at hf
    have e:qbJ c g=8:=by unfold qbJ;rw[if_neg (by rw[hF];simp)]
    rw[e]
    exact qvs (hc:=hc) (hh:=ho) (hf:=hf)
   ·rw[hF] at hf
    have e:qbJ c g=0:=by unfold qbJ;rw[if_pos ⟨V,h0,hF⟩]
    rw[e]
    exact qBD (hc:=hc) (hh:=ho) (hf:=hf)
 ·rw[qdi V] at hc
  have e:qbJ c g=8:=by unfold qbJ;rw[if_neg fun h=>V h.1]
  rw[e]
  exact qn8 (hc:=hc)
end
end Go.Proofs.YtkckcgpmnipnaaaGreat
