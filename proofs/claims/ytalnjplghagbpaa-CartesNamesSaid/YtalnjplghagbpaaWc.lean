/-
  CartesNames. Conditions: none.
-/
import Derived.Test.YtalnjplghagbpaaW29
import Derived.Test.YtalnjplghagbpaaW28
import Derived.Test.YtalnjplghagbpaaW31
import Derived.Test.YtalnjplghagbpaaW38
import Derived.Test.YtalnjplghagbpaaW19
namespace Go.Proofs.Ytalnjplghagbpaa
set_option maxRecDepth 100000
open Go.RowKit
def qll (n:Nat) (d:Int):List Pt:=(List.range n).map fun k:Nat=>⟨d+(k:Int),-1,((k+1:Nat):Int)⟩
theorem qe4 {n:Nat} {d:Int}:(qll n d).length=n:=by unfold qll;rw[List.length_map,List.length_range]
theorem qaD {n:Nat} {d:Int}:(qaA n d).length=n:=by unfold qaA;rw[List.length_map,List.length_range]
theorem qgL {n k:Nat} {d:Int} (h:k<n):(qll n d)[k]?=some ⟨d+(k:Int),-1,((k+1:Nat):Int)⟩:=by unfold qll;rw[List.getElem?_map,List.getElem?_range h];rfl
theorem qbt {n k:Nat} {d:Int} (h:k<n):(qaA n d)[k]?=some ⟨d+(k:Int),-1,if k+1<n then ((k+1:Nat):Int) else -1⟩:=by unfold qaA;rw[List.getElem?_map,List.getElem?_range h];rfl
theorem qm6 {n:Nat} {d:Int} (h:0<n):(qll n d).set (n-1) ⟨d+((n-1:Nat):Int),-1,-1⟩=qaA n d:=by
 apply List.ext_getElem?
 intro k
 by_cases hk:k<n
 ·rw[qbt hk,List.getElem?_set]
  by_cases e:n-1=k
  ·rw[if_pos e,if_pos (by rw[qe4];omega),if_neg (by omega),e]
  ·rw[if_neg e,qgL hk,if_pos (by omega)]
 ·rw[List.getElem?_eq_none (by rw[List.length_set,qe4];omega),List.getElem?_eq_none (by rw[qaD];omega)]
abbrev rwT (n:Nat) (d:Int) (k:Nat):List (Nat×SV):=[(0,.pv (iV (n:Int))),(1,.pv (iV d)),(4,.pp 0 0),(5,.pp 1 0),(6,.pv (iV (k:Int)))]
abbrev rwE (n:Nat) (d:Int):List (Nat×SV):=[(0,.pv (iV (n:Int))),(1,.pv (iV d)),(4,.pp 0 0),(5,.pp 1 0)]
abbrev rwH (r:Int) (m:Nat) (vs:List Value):List (Nat×Nat×SV):=[(0,0,.pv (iV 0)),(0,1,.pv (.slice none 0 0)),(1,0,.pv (iV r)),(1,1,.ls 2 m),(2,0,.row 26 3 m vs)]
theorem qlt {n:Nat} {d:Int} (h0:0<n) (hn:n≤1000) (hd:0≤d) (hd2:d≤1000):Fn 9 0 [.pv (iV (n:Int)),.pv (iV d)] [] (.ag [.pv (iV 0),.ls 0 (qaA n d).length]) 1 [(0,0,qaa (qaA n d))]:=by
 have step:∀ (c k:Nat) (r:Int),k+c=n→(0<k→r=0)→Rl 0 0 9 0 34 3 (rwT n d k) (rwH r k (qam ((qll n d).take k))) (.exit 0) (rwE n d) (rwH 0 n (qam (qll n d))):=by
  intro c
  induction c with
  | zero=>
   intro k r hk hr
   have e:k=n:=by omega
   subst e
   rw[hr h0,List.take_of_length_le (Nat.le_of_eq qe4)]
   exact qpp (hlt:=df (by omega))
  | succ c ih=>
   intro k r hk hr
   have hq:=qgL (d:=d) (show k<n by omega)
   have r1:=ih (k+1) 0 (by omega) fun _=>rfl
   rw[qbg hq,← qeY] at r1
   exact qlB (k:=k) (m:=k) (vs:=qam ((qll n d).take k)) (y:=d+(k:Int)) (hlt:=dt (by omega)) (ha:=by rw[qan (by omega) (by omega)]) (hb:=qah (by omega)) (hn:=by omega) (hs:=qah (by omega)) r1
 have r0:=step n 0 (-1) (by omega) fun h=>absurd h (Nat.lt_irrefl 0)
 rw[List.take_zero] at r0
 have hp:(qll n d)[n-1]?=some ⟨d+((n-1:Nat):Int),-1,((n-1+1:Nat):Int)⟩:=qgL (by omega)
 have g:=qrH (n:=n) (z:=d) (m:=n) (l:=qll n d) (j:=n-1) (r0:=r0) (hp0:=dt (by omega)) (hj:=by rw[qan (by omega) (by omega)];congr 1;omega) (hji:=⟨by omega,by omega⟩) (hk:=hp)
 rw[show (Pt.mk (Pt.mk (d+((n-1:Nat):Int)) (-1) ((n-1+1:Nat):Int)).id (Pt.mk (d+((n-1:Nat):Int)) (-1) ((n-1+1:Nat):Int)).a (-1))=⟨d+((n-1:Nat):Int),-1,-1⟩ from rfl,qm6 h0] at g
 rw[show qaa (qaA n d)=.row 26 3 n (qam (qaA n d)) by rw[qaa,qaD],qaD]
 exact g
def chS:Nat→Nat→Sh Nat
 | _,0=>.nil
 | k,m+1=>.node .nil k (chS (k+1) m)
theorem qe1:∀ (m k:Nat),(chS k m).list=List.range' k m
 | 0,_=>rfl
 | m+1,k=>by
  show []++k::(chS (k+1) m).list=k::List.range' (k+1) m
  rw[qe1 m (k+1)]
  rfl
theorem qnP {n:Nat} {d:Int}:∀ (m k:Nat),k+m=n→Rep (qaA n d) (if m=0 then -1 else (k:Int)) (chS k m)
 | 0,_,_=>rfl
 | m+1,k,h=>by
  refine⟨if_neg (by omega),_,qbt (k:=k) (by omega),rfl,?_⟩
  have r:=qnP (n:=n) (d:=d) m (k+1) (by omega)
  by_cases e:m=0
  ·rw[if_pos e] at r
   show Rep _ (if k+1<n then ((k+1:Nat):Int) else -1) _
   rw[if_neg (by omega)]
   exact r
  ·rw[if_neg e] at r
   show Rep _ (if k+1<n then ((k+1:Nat):Int) else -1) _
   rw[if_pos (by omega)]
   exact r
theorem qrr {n:Nat} {d:Int}:Up (qaA n d):=fun k p q hp hq=>by
 have h2:=qak hq
 rw[qaD] at h2
 rw[qbt (by omega)] at hp hq
 cases hp
 cases hq
 show d+(k:Int)<d+((k+1:Nat):Int)
 omega
theorem qeT {n:Nat} {d:Int} (h0:0<n):Fits ⟨0,qaA n d⟩ (chS 0 n):=by
 have r:=qnP (n:=n) (d:=d) n 0 (by omega)
 rw[if_neg (by omega)] at r
 refine⟨r,?_,?_⟩
 ·show _=(qaA n d).length
  rw[qe1,List.length_range',qaD]
 ·rw[qe1,List.pairwise_map]
  have hpw:(List.range' 0 n).Pairwise (· < ·):=List.pairwise_lt_range'
  exact hpw.imp_of_mem fun {a b} ha hb hab=>by
   have ha:=(List.mem_range'_1.1 ha).2
   have hb:=(List.mem_range'_1.1 hb).2
   show idN (qaA n d) a<idN (qaA n d) b
   rw[qaz (qbt (show a<n by omega)),qaz (qbt (show b<n by omega))]
   show d+(a:Int)<d+(b:Int)
   omega
theorem qsa {n:Nat} {d:Int} (h0:0<n) (hn:n≤64) (hd:0≤d) (hd2:d≤1000):chE ⟨0,qaA n d⟩=0:=qdC ⟨by show (qaA n d).length≤64;rw[qaD];exact hn,fun p hp=>by
 obtain⟨k,hk⟩:=List.getElem?_of_mem hp
 have hkl:=qak hk
 have hkl:k<n:=by rw[← qaD (n:=n) (d:=d)];exact hkl
 have e:(qaA n d)[k]?=some p:=hk
 rw[qbt hkl] at e
 cases e
 show 0≤d+(k:Int)∧d+(k:Int)≤65535
 omega,_,qeT h0⟩
theorem qfe:Fits ⟨-1,[]⟩ .nil:=⟨rfl,rfl,List.Pairwise.nil⟩
theorem qjH:chE ⟨-1,[]⟩=0:=qdC ⟨by decide,fun p hp=>(by cases hp),_,qfe⟩
section
variable {rt:Int} {l:List Pt} {w:Int}
theorem qe9 (hl:¬ 64<l.length) (h:¬ ((-1≤rt∧rt<(l.length:Int))∧(rt = -1↔l.length=0))):chE ⟨rt,l⟩=8:=qcm hl fun v=>by
 obtain⟨T,f⟩:=v.tree
 exact h f.root
theorem qoo (hl:¬ 64<l.length) (h:¬ ∀ p∈l,(-1≤p.a∧p.a<(l.length:Int))∧(-1≤p.b∧p.b<(l.length:Int))):chE ⟨rt,l⟩=8:=qcm hl fun v=>by
 obtain⟨T,f⟩:=v.tree
 exact h f.lnk
theorem qoc (hl:¬ 64<l.length) (h:¬ ∀ p∈l,0≤p.id∧p.id≤65535):chE ⟨rt,l⟩=8:=qcm hl fun v=>h v.rng
theorem qoq {T:Sh Nat} (hl:¬ 64<l.length) (hr:Rep l rt T) (h:T.list.length≠l.length):chE ⟨rt,l⟩=8:=qcm hl fun v=>by
 obtain⟨S,f⟩:=v.tree
 rw[f.rep.uniq hr] at f
 exact h f.all
theorem qr7 {T:Sh Nat} (hl:¬ 64<l.length) (hr:Rep l rt T) (h:¬ (T.list.map (idN l)).Pairwise (· < ·)):chE ⟨rt,l⟩=8:=qcm hl fun v=>by
 obtain⟨S,f⟩:=v.tree
 rw[f.rep.uniq hr] at f
 exact h f.up
theorem qo4:chE ⟨0,[Pt.mk (3) (0) (-1)]⟩=8:=qcm (by decide) fun v=>by
 obtain⟨T,f⟩:=v.tree
 have hr:Rep [Pt.mk (3) (0) (-1)] 0 T:=f.rep
 have ha:T.list.length=1:=f.all
 cases T with
 | nil=>exact absurd (show (0:Int) = -1 from hr) (by decide)
 | node a k b=>
  obtain⟨e,p,hp,a1,_⟩:=hr
  have e0:k=0:=by omega
  subst e0
  cases hp
  cases a with
  | nil=>exact absurd (show (0:Int) = -1 from a1) (by decide)
  | node a' k' b'=>
   simp[Sh.list] at ha
   omega
structure BadC (rt:Int) (l:List Pt) (w:Int):Prop where
 c1:Fn 10 1 [trS 0 rt l] [(0,0,qaa l)] (.pv (.tuple #[.slice none 0 0,iV w])) 0 []
 c2:Fn 11 2 [trS 0 rt l,qas 1 qaQ,.pv (qab 0 0)] [(0,0,qaa l),(1,0,qag qaQ)] (.pv (.tuple #[.bool false,iV w])) 0 []
 c3:Fn 12 1 [trS 0 rt l,.pv (iV (-1))] [(0,0,qaa l)] (.pv (.tuple #[iV 0,iV w])) 0 []
 c4:Fn 13 1 [trS 0 rt l,.pv (iV 0)] [(0,0,qaa l)] (.pv (.tuple #[.agg #[iV 0,.slice none 0 0],.agg #[iV 0,.slice none 0 0],iV w])) 0 []
 c5:Fn 14 3 [trS 0 (-1) [],trS 1 rt l,qas 2 qap,.pv (qab 0 0)] [(0,0,qaa []),(1,0,qaa l),(2,0,qag qap)] (.pv (.tuple #[.agg #[iV 0,.slice none 0 0],iV w])) 0 []
 c6:Fn 16 2 [trS 0 rt l,trS 1 (-1) []] [(0,0,qaa l),(1,0,qaa [])] (.pv (.tuple #[.bool false,iV w])) 0 []
 c7:Fn 16 2 [trS 0 (-1) [],trS 1 rt l] [(0,0,qaa []),(1,0,qaa l)] (.pv (.tuple #[.bool false,iV w])) 0 []
 c8:Fn 17 1 [trS 0 rt l] [(0,0,qaa l)] (.pv (iV w)) 0 []
theorem qd6 (hl:l.length≤999999):∃ e,(Up l→e=0)∧(¬ Up l→e=32)∧Fn 52 1 [.ls 0 l.length] [(0,0,qaa l)] (.pv (iV (e))) 0 []:=by
 rcases PCo hl with ⟨h,r⟩ | ⟨h,r⟩
 ·exact⟨0,fun _=>rfl,fun k=>(k h).elim,r⟩
 ·exact⟨32,fun k=>(h k).elim,fun _=>rfl,r⟩
theorem qdd:Pure Try.prog 48 #[qab 0 0] (iV 8):=qb0 ⟨by decide,by decide⟩ ⟨by decide,by decide⟩ (by decide)
theorem qkH:Pure Try.prog 48 #[qab 0 1] (iV 0):=qca ⟨by decide,by decide⟩ ⟨by decide,by decide⟩ (by decide)
theorem qoI:qec qaQ=4:=by
 unfold qec
 rw[if_pos (by show 64<(List.replicate 65 (Pt.mk 0 0 0)).length;rw[List.length_replicate];omega)]
theorem qhL:Fn 47 1 [qas 0 qaQ] [(0,0,qag qaQ)] (.pv (iV 4)) 0 []:=by
 have:=qbq qaQ
 rw[qoI] at this
 exact this
theorem qcE:Fn 47 1 [qas 0 qap] [(0,0,qag qap)] (.pv (iV 0)) 0 []:=by
 have:=qbq qap
 rw[qcY.2 qbF] at this
 exact this
theorem qhJ (h:chE ⟨rt,l⟩=w) (hw:w≠0) (hl:l.length≤999):BadC rt l w:=by
 have cp:=qlc (rt:=rt) (l:=l) (by omega)
 have cn:=qlc (rt:=-1) (l:=[]) (by decide)
 rw[h] at cp
 rw[qjH] at cn
 obtain⟨e,_,_,co⟩:=qd6 (l:=l) (by omega)
 obtain⟨e2,_,_,co2⟩:=qd6 (l:=[]) (by decide)
 exact⟨qse (hc:=cp) (hce:=ne0 hw),qs3 (h1:=cp) (h2:=qhL) (h3:=qdd) (he:=ne0 hw),qsq (hc:=cp) (hce:=ne0 hw),qvf (h1:=cp) (h2:=co) (he:=ne0 hw),
  qu8 (h1:=cn) (h2:=cp) (h3:=co2) (h4:=co) (h5:=qcE) (h6:=qdd) (he:=ne0 hw),qq5 (h1:=cp) (h2:=cn) (he:=ne0 hw),qsH (h1:=cn) (h2:=cp) (he:=ne0 hw),cp⟩
end
abbrev tuL:List Pt:=[Pt.mk (5) (-1) (-1),Pt.mk (2) (-1) (0),Pt.mk (1) (-1) (1)]
abbrev shT:Sh Nat:=.node .nil 2 (.node .nil 1 (.node .nil 0 .nil))
theorem qfr:Fits ⟨2,tuL⟩ shT:=⟨⟨rfl,_,rfl,rfl,⟨rfl,_,rfl,rfl,⟨rfl,_,rfl,rfl,rfl⟩⟩⟩,rfl,by decide⟩
theorem qiM:chE ⟨2,tuL⟩=0:=qdC ⟨by decide,by decide,_,qfr⟩
theorem qq1:¬ Up tuL:=fun h=>absurd (h 0 _ _ rfl rfl) (by decide)
theorem qvc:Fn 19 0 [] [] (.ag [.ls 0 0]) 1 [(0,0,.row 80 3 0 [])]:=by
 have h:Fn 19 0 [] [] (.pv (.agg #[.slice none 0 0])) 0 []:=qeR 200 [] [] tI tI (by kernel_rfl)
 have h2:Fn 19 0 [] [] (.ag [.pv (.slice none 0 0)]) 0 []:=qlN h (fun β v hv=>⟨[.slice none 0 0],⟨rfl,tI⟩,hv⟩) (fun _ _ _ h=>h)
 exact qfd 80 3 h2 (.ag (.cons .nil .nil))
theorem qqd:Val []:=⟨by decide,fun p hp=>(by cases hp),fun k p q hp=>by simp at hp⟩
theorem qrw:OfSh [] 0 1 .nil:=⟨tI,rfl⟩
theorem qnz {l m:List Pt} {x:Int} {B:Sh Nat} (hB:Fits ⟨x,m⟩ B) (h:l.length+m.length≤999999):Fn 58 1 [.ls 0 m.length,.pv (iV (l.length:Int))] [(0,0,qaa m)] (.ls 1 (shN (l.length:Int) m).length) 1 [(1,0,qaa (shN (l.length:Int) m))]∧
 Fn 59 3 [.ps 2 0 2 2] [(2,0,.ls 0 l.length),(2,1,.ls 1 (shN (l.length:Int) m).length),(0,0,qaa l),(1,0,qaa (shN (l.length:Int) m))] (.ls 3 (jnt l m).length) 1 [(3,0,qaa (jnt l m))]:=
 ⟨qor (l:=m) (v:=(l.length:Int)) (by omega) (qjz hB (by omega)).1 (by omega) (by omega),qvK (by rw[qcX];omega)⟩
theorem qgy:Fn 3 0 [] [] (.pv (.bool true)) 0 []:=by
 have z0:I64 0:=⟨by decide,by decide⟩
 have z1:I64 1:=⟨by decide,by decide⟩
 have z2:I64 2:=⟨by decide,by decide⟩
 have b0:=qhJ (rt:=0) (l:=qaA 65 0) (w:=4) (qdw (by show 64<(qaA 65 0).length;rw[qaD];omega)) (by decide) (by rw[qaD];omega)
 have b1:=qhJ (rt:=0) (l:=[]) (w:=8) (qe9 (by decide) (by decide)) (by decide) (by decide)
 have b2:=qhJ (rt:=1) (l:=[Pt.mk (3) (-1) (-1)]) (w:=8) (qe9 (by decide) (by decide)) (by decide) (by decide)
 have b3:=qhJ (rt:=-2) (l:=[]) (w:=8) (qe9 (by decide) (by decide)) (by decide) (by decide)
 have b4:=qhJ (rt:=-1) (l:=[Pt.mk (3) (-1) (-1)]) (w:=8) (qe9 (by decide) (by decide)) (by decide) (by decide)
 have b5:=qhJ qo4 (by decide) (by decide)
 have b6:=qhJ (rt:=0) (l:=[Pt.mk (3) (-1) (1)]) (w:=8) (qoo (by decide) (by decide)) (by decide) (by decide)
 have b7:=qhJ (rt:=0) (l:=[Pt.mk (3) (-1) (-1),Pt.mk (4) (-1) (-1)]) (w:=8) (qoq (T:=.node .nil 0 .nil) (by decide) ⟨rfl,_,rfl,rfl,rfl⟩ (by decide)) (by decide) (by decide)
 have b8:=qhJ (rt:=0) (l:=[Pt.mk (3) (1) (-1),Pt.mk (4) (-1) (-1)]) (w:=8) (qr7 (T:=.node (.node .nil 1 .nil) 0 .nil) (by decide) ⟨rfl,_,rfl,⟨rfl,_,rfl,rfl,rfl⟩,rfl⟩ (by decide)) (by decide) (by decide)
 have b9:=qhJ (rt:=0) (l:=[Pt.mk (3) (-1) (1),Pt.mk (3) (-1) (-1)]) (w:=8) (qr7 (T:=.node .nil 0 (.node .nil 1 .nil)) (by decide) ⟨rfl,_,rfl,rfl,⟨rfl,_,rfl,rfl,rfl⟩⟩ (by decide)) (by decide) (by decide)
 have b10:=qhJ (rt:=0) (l:=[Pt.mk (-1) (-1) (-1)]) (w:=8) (qoc (by decide) (by decide)) (by decide) (by decide)
 have b11:=qhJ (rt:=0) (l:=[Pt.mk (65536) (-1) (-1)]) (w:=8) (qoc (by decide) (by decide)) (by decide) (by decide)
 have b12:=qhJ (rt:=0) (l:=[Pt.mk (3) (-1) (-1),Pt.mk (5) (2) (-1),Pt.mk (4) (1) (-1)]) (w:=8) (qoq (T:=.node .nil 0 .nil) (by decide) ⟨rfl,_,rfl,rfl,rfl⟩ (by decide)) (by decide) (by decide)
 have b13:=qhJ (rt:=0) (l:=[Pt.mk (3) (-2) (-1)]) (w:=8) (qoo (by decide) (by decide)) (by decide) (by decide)
 have loop:=quH b0.c1 b0.c2 b0.c3 b0.c4 qce b0.c5 b0.c6 b0.c7 b0.c8 (quT b1.c1 b1.c2 b1.c3 b1.c4 qce b1.c5 b1.c6 b1.c7 b1.c8 (qvk b2.c1 b2.c2 b2.c3 b2.c4 qce b2.c5 b2.c6 b2.c7 b2.c8 (qvh b3.c1 b3.c2 b3.c3 b3.c4 qce b3.c5 b3.c6 b3.c7 b3.c8 (qug b4.c1 b4.c2 b4.c3 b4.c4 qce b4.c5 b4.c6 b4.c7 b4.c8
  (qub b5.c1 b5.c2 b5.c3 b5.c4 qce b5.c5 b5.c6 b5.c7 b5.c8 (quA b6.c1 b6.c2 b6.c3 b6.c4 qce b6.c5 b6.c6 b6.c7 b6.c8 (quB b7.c1 b7.c2 b7.c3 b7.c4 qce b7.c5 b7.c6 b7.c7 b7.c8 (quI b8.c1 b8.c2 b8.c3 b8.c4 qce b8.c5 b8.c6 b8.c7 b8.c8 (qtW b9.c1 b9.c2 b9.c3 b9.c4 qce b9.c5 b9.c6 b9.c7 b9.c8
  (qrP b10.c1 b10.c2 b10.c3 b10.c4 qce b10.c5 b10.c6 b10.c7 b10.c8 (qrD b11.c1 b11.c2 b11.c3 b11.c4 qce b11.c5 b11.c6 b11.c7 b11.c8 (qsf b12.c1 b12.c2 b12.c3 b12.c4 qce b12.c5 b12.c6 b12.c7 b12.c8 (qr5 b13.c1 b13.c2 b13.c3 b13.c4 qce b13.c5 b13.c6 b13.c7 b13.c8 qnb)))))))))))))
 obtain⟨hfB,huB⟩:=qn2
 have a1:=qpn (s:=qaQ) (tn:=0) (td:=0) (h1:=qhL) (h2:=qdd) (he:=by decide)
 have a2:=POf (s:=[]) z0 z1 qqd (by decide) qrw
 have a3:=qsO (s:=qap) (tn:=0) (td:=0) (h1:=qcE) (h2:=qdd) (he:=by decide)
 have ckT:=qlc (rt:=2) (l:=tuL) (by decide)
 rw[qiM] at ckT
 obtain⟨w4,e4,s4,a4,_⟩:=qko (rt:=2) (x:=0) (l:=tuL) (m:=qn0) (by decide) (by decide)
 obtain⟨rfl,s4a⟩:=s4 qiM qm1
 have s4b:=s4a _ _ qfr hfB
 rw[qd8 (show idT tuL shT=idT qn0 shB from rfl)] at s4b
 subst s4b
 obtain⟨w5,e5,s5,a5,_⟩:=qeB (rt:=2) (l:=tuL) (s:=qap) (tn:=2) (td:=1) z2 z1 (by decide)
 obtain⟨rfl,s5a⟩:=s5 qiM (qiN qbF (by decide))
 have s5b:=s5a _ _ qfr qlU
 rw[qd8 (show idT tuL shT=idT (ofN qap shB) shB from rfl)] at s5b
 subst s5b
 obtain⟨w6,e6,s6,a6,_⟩:=qeB (rt:=2) (l:=tuL) (s:=qap) (tn:=0) (td:=1) z0 z1 (by decide)
 obtain⟨rfl,s6a⟩:=s6 qiM (qiN qbF (by decide))
 have s6b:=s6a _ _ qfr qsC
 rw[qdn (show ¬ idT tuL shT=idT (ofN qap shA) shA from fun h=>by cases h)] at s6b
 subst s6b
 have a7:=qrJ (h1:=ckT) (h2:=qcE) (h3:=qdd) (he:=by decide)
 obtain⟨eT,_,coT2,coT⟩:=qd6 (l:=tuL) (by decide)
 obtain rfl:=coT2 qq1
 have a8:=qu1 (z:=2) (h1:=ckT) (h2:=coT) (he:=by decide)
 obtain⟨v,e,hv,d1,_⟩:=qev (rt:=0) (z:=3) (l:=qn0) (by decide)
 obtain⟨rfl,rfl⟩:=(hv qm1 shB hfB).2 (by decide)
 obtain⟨g,_,hg,d4,_⟩:=qlZ (rt:=2) (l:=tuL) (by decide)
 have hga:=hg qiM _ qfr
 rw[qiM] at d4
 have hgb:g=[1,2,5]:=hga
 subst hgb
 have ck:∀ {n:Nat} {d:Int},0<n→n≤64→0≤d→d≤1000→Fn 17 1 [trS 0 0 (qaA n d)] [(0,0,qaa (qaA n d))] (.pv (iV (0))) 0 []:=fun {n d} h1 h2 h3 h4=>by
  have:=qlc (rt:=0) (l:=qaA n d) (by rw[qaD];omega)
  rw[qsa h1 h2 h3 h4] at this
  exact this
 have cr:∀ {n:Nat} {d:Int},n≤64→Fn 52 1 [.ls 0 (qaA n d).length] [(0,0,qaa (qaA n d))] (.pv (iV (0))) 0 []:=fun {n d} h=>by
  rcases PCo (l:=qaA n d) (by rw[qaD];omega) with ⟨_,r⟩ | ⟨h,_⟩
  ·exact r
  ·exact (h qrr).elim
 have m1:=qu7 (tn:=0) (td:=0) (h1:=ckT) (h2:=ck (n:=1) (d:=9) (by decide) (by decide) (by decide) (by decide)) (h3:=coT) (h4:=cr (n:=1) (d:=9) (by decide)) (h5:=qhL) (h6:=qdd) (he:=by decide)
 have m2:=qux (tn:=0) (td:=0) (h1:=ck (n:=1) (d:=1) (by decide) (by decide) (by decide) (by decide)) (h2:=ck (n:=1) (d:=2) (by decide) (by decide) (by decide) (by decide)) (h3:=cr (n:=1) (d:=1) (by decide)) (h4:=cr (n:=1) (d:=2) (by decide)) (h5:=qhL) (h6:=qdd) (he:=by decide)
 have m3:=qum (tn:=0) (td:=0) (h1:=ck (n:=1) (d:=1) (by decide) (by decide) (by decide) (by decide)) (h2:=ck (n:=1) (d:=2) (by decide) (by decide) (by decide) (by decide)) (h3:=cr (n:=1) (d:=1) (by decide)) (h4:=cr (n:=1) (d:=2) (by decide)) (h5:=qcE) (h6:=qdd) (he:=by decide)
 have lj:∀ {n n':Nat} {d d':Int},(jnt (qaA n d) (qaA n' d')).length=n+n':=by intros;rw[qi5,qaD,qaD]
 obtain⟨h41,h42⟩:=qnz (l:=qaA 40 0) (qeT (n:=25) (d:=50) (by decide)) (by rw[qaD,qaD];omega)
 obtain⟨f4,_,_,co4⟩:=qd6 (l:=jnt (qaA 40 0) (qaA 25 50)) (by rw[lj];omega)
 have m4:Fn 14 3 [trS 0 0 (qaA 40 0),trS 1 0 (qaA 25 50),qas 2 qap,.pv (qab 0 1)] [(0,0,qaa (qaA 40 0)),(1,0,qaa (qaA 25 50)),(2,0,qag qap)] (.pv (.tuple #[.agg #[iV 0,.slice none 0 0],iV 4])) 0 []:=by
  rcases qtH (l:=jnt (qaA 40 0) (qaA 25 50)) qbF (by rw[lj];omega) with ⟨_,hpo⟩ | ⟨_,hpo⟩
  ·exact qmp (h1:=ck (by decide) (by decide) (by decide) (by decide)) (h2:=ck (by decide) (by decide) (by decide) (by decide)) (h3:=cr (by decide)) (h4:=cr (by decide)) (h5:=qcE) (h6:=qkH) (hsh:=h41) (hca:=h42) (hpo:=hpo) (h7:=qfa (h:=dt (by rw[lj];omega))) (h8:=co4)
  ·exact qkN (h1:=ck (by decide) (by decide) (by decide) (by decide)) (h2:=ck (by decide) (by decide) (by decide) (by decide)) (h3:=cr (by decide)) (h4:=cr (by decide)) (h5:=qcE) (h6:=qkH) (hsh:=h41) (hca:=h42) (hpo:=hpo) (h7:=qfa (h:=dt (by rw[lj];omega))) (h8:=co4)
 obtain⟨h51,h52⟩:=qnz (l:=qaA 1 3) (qeT (n:=1) (d:=5) (by decide)) (by rw[qaD,qaD];omega)
 obtain⟨f5,_,_,co5⟩:=qd6 (l:=jnt (qaA 1 3) (qaA 1 5)) (by rw[lj];omega)
 have m5:Fn 14 3 [trS 0 0 (qaA 1 3),trS 1 0 (qaA 1 5),qas 2 qap,.pv (qab 0 1)] [(0,0,qaa (qaA 1 3)),(1,0,qaa (qaA 1 5)),(2,0,qag qap)] (.pv (.tuple #[.agg #[iV 0,.slice none 0 0],iV 6])) 0 []:=by
  rcases qtH (l:=jnt (qaA 1 3) (qaA 1 5)) qbF (by rw[lj];omega) with ⟨hk,_⟩ | ⟨_,hpo⟩
  ·have:=(qjM.1 hk).1 _ (List.mem_of_getElem? (qbt (n:=1) (k:=0) (d:=3) (by decide)))
   exact absurd this (by decide)
  ·exact qmz (h1:=ck (by decide) (by decide) (by decide) (by decide)) (h2:=ck (by decide) (by decide) (by decide) (by decide)) (h3:=cr (by decide)) (h4:=cr (by decide)) (h5:=qcE) (h6:=qkH) (hsh:=h51) (hca:=h52) (hpo:=hpo) (h7:=qcM (h:=df (by rw[lj];omega))) (h8:=co5) (hee:=by decide)
 obtain⟨h61,h62⟩:=qnz (l:=qaA 1 2) (qeT (n:=2) (d:=1) (by decide)) (by rw[qaD,qaD];omega)
 obtain⟨f6,_,k6,co6⟩:=qd6 (l:=jnt (qaA 1 2) (qaA 2 1)) (by rw[lj];omega)
 obtain rfl:=k6 fun h=>absurd ((qrN.1 h).2.2 _ _ (qbt (n:=1) (k:=0) (d:=2) (by decide)) (qbt (n:=2) (k:=0) (d:=1) (by decide))) (by decide)
 have m6:Fn 14 3 [trS 0 0 (qaA 1 2),trS 1 0 (qaA 2 1),qas 2 qap,.pv (qab 0 1)] [(0,0,qaa (qaA 1 2)),(1,0,qaa (qaA 2 1)),(2,0,qag qap)] (.pv (.tuple #[.agg #[iV 0,.slice none 0 0],iV 32])) 0 []:=by
  rcases qtH (l:=jnt (qaA 1 2) (qaA 2 1)) qbF (by rw[lj];omega) with ⟨_,hpo⟩ | ⟨hk,_⟩
  ·exact qqh (h1:=ck (by decide) (by decide) (by decide) (by decide)) (h2:=ck (by decide) (by decide) (by decide) (by decide)) (h3:=cr (by decide)) (h4:=cr (by decide)) (h5:=qcE) (h6:=qkH) (hsh:=h61) (hca:=h62) (hpo:=hpo) (h7:=qcM (h:=df (by rw[lj];omega))) (h8:=co6)
  ·exact (hk (qjM.2 ⟨fun p hp=>by
    obtain⟨k,hk⟩:=List.getElem?_of_mem hp
    have hkl:=qak hk
    rw[qaD] at hkl
    rw[qbt hkl] at hk
    cases hk
    have e:k=0:=by omega
    subst e
    decide,fun p hp=>by
    obtain⟨k,hk⟩:=List.getElem?_of_mem hp
    have hkl:=qak hk
    rw[qaD] at hkl
    rw[qbt hkl] at hk
    cases hk
    have e:k=0∨k=1:=by omega
    rcases e with e | e<;>subst e<;>decide⟩)).elim
 have ckN:=qlc (rt:=-1) (l:=[]) (by decide)
 rw[qjH] at ckN
 obtain⟨eN,coN1,_,coN⟩:=qd6 (l:=[]) (by decide)
 obtain rfl:=coN1 fun k p q hp=>by simp at hp
 obtain⟨hn1,hn2⟩:=qnz (l:=[]) qfe (by decide)
 have hpo:Fn 60 2 [qas 0 qap,.ls 1 ([]:List Pt).length] [(0,0,qag qap),(1,0,qaa [])] (.tu [.one (.ls 2 (ptD qap []).length),.one (.pv (iV 0))]) 1 [(2,0,qag (ptD qap []))]:=by
  rcases qtH (l:=[]) qbF (by decide) with ⟨_,r⟩ | ⟨h,_⟩
  ·exact r
  ·exact (h fun p hp=>(by cases hp)).elim
 have d2:=qm5 (tn:=0) (td:=1) (s:=qap) (rt:=-1) (l:=[]) (n1:=[]) (n2:=[]) (n3:=[]) (d:=ptD qap []) (x1:=-1) (z:=-1) (h1:=ckN) (h3:=coN) (h5:=qcE) (h6:=qkH) (hsh:=hn1) (hca:=hn2) (hpo:=hpo) (h7:=qcM (h:=by decide)) (h8:=coN) (hfu:=qoh (h:=by decide)) (hj:=qrM (h0:=by decide))
 have d3:=qob (rt:=-1) (z:=7) (l:=[]) (T:=.nil) (m:=0) (by decide) qfe qjH (fun k p q hp=>by simp at hp) ⟨Nat.le_refl _,fun j hj=>absurd hj (Nat.not_lt_zero j)⟩
 rw[← qeQ (m:=0) qfe (fun k p q hp=>by simp at hp) (Nat.le_refl _)] at d3
 exact ql6 (w0:=qlt (by decide) (by decide) (by decide) (by decide)) (r0:=loop) (a1:=a1) (hn:=qvc) (hat0:=qnc) (a2:=a2) (hg:=qce) (a3:=a3) (hc:=qri) (a4:=a4) (hat2:=qnc) (a5:=a5) (a6:=a6) (a7:=a7) (a8:=a8) (w1:=qlt (by decide) (by decide) (by decide) (by decide)) (b1:=m1) (w2:=qlt (by decide) (by decide) (by decide) (by decide)) (w3:=qlt (by decide) (by decide) (by decide) (by decide)) (b2:=m2) (b3:=m3)
  (w4:=qlt (by decide) (by decide) (by decide) (by decide)) (w5:=qlt (by decide) (by decide) (by decide) (by decide)) (b4:=m4) (w6:=qlt (by decide) (by decide) (by decide) (by decide)) (w7:=qlt (by decide) (by decide) (by decide) (by decide)) (b5:=m5) (w8:=qlt (by decide) (by decide) (by decide) (by decide)) (b6:=m6) (d1:=d1) (d2:=d2) (d3:=d3) (d4:=d4) (q1:=qji (by decide)) (q2:=qvB (n:=0) (l:=[]) (by decide) (by decide)) (q3:=qtY (by decide)) (hal:=qpa)
theorem qiC:Pure Try.prog 3 #[] (.bool true):=qcB qgy
end Go.Proofs.Ytalnjplghagbpaa
