/-
  Joined: Ek, El, Em, Eo, Ep, Et. Conditions: none.
-/
import Derived.Test.YtalnjplghagbpaaEj
import Derived.Test.YtalnjplghagbpaaW28
import Derived.Test.YtalnjplghagbpaaW19
import Derived.Test.YtalnjplghagbpaaW34
import Derived.Test.YtalnjplghagbpaaW27
import Derived.Test.YtalnjplghagbpaaZj
import Derived.Test.YtalnjplghagbpaaW23
import Derived.Test.YtalnjplghagbpaaW24
namespace Go.Proofs.Ytalnjplghagbpaa
set_option maxRecDepth 100000
open Go.RowKit
theorem qlN {P:Program} {f:FuncId} {k m:Nat} {args:List SV} {pre post post':List (Nat×Nat×SV)} {S S':SV} (h:FnL P f k args pre S m post) (hs:∀ β v,S.is β v→S'.is β v) (hp:∀ b o sv,qad post' b o=some sv→qad post b o=some sv):FnL P f k args pre S' m post':=by
 intro w β us H hd hi
 exact (h w β us H hd hi).mono fun e w' ⟨v,β',he,hle,hx,hh,hd'⟩=>⟨v,β',he,hle,hs _ _ hx,hh.imp hp,hd'⟩
section
variable {P:Program} {f:FuncId} {args:List SV} {pre:List (Nat×Nat×SV)} {e:Int}
end
section
variable {rt z:Int} {l:List Pt} {T:Sh Nat}
theorem qvF:∀ X:Sh Nat,shI 0 (rtI X)=rtI X
 | .nil=>rfl
 | .node a k b=>by
  show (if (k:Int)<0 then -1 else (k:Int)-((0:Nat):Int))=(k:Int)
  rw[if_neg (by omega)]
  omega
theorem qjm {m:Nat}:∀ X:Sh Nat,fuI (0-(m:Int)) (rtI X)=shI m (rtI X)
 | .nil=>rfl
 | .node a k b=>by
  show (if (k:Int) = -1 then -1 else (k:Int)+(0-(m:Int)))=(if (k:Int)<0 then -1 else (k:Int)-(m:Int))
  rw[if_neg (by omega),if_neg (by omega)]
  omega
theorem qnZ {m:Nat} (h:Fits ⟨rt,l⟩ T) (hu:Up l) {j:Nat} (hj:j<l.length):∃ A B,Rep l (ndT l j).a A∧Rep l (ndT l j).b B∧(∀ y∈A.list,y<l.length)∧(∀ y∈B.list,y<l.length)∧
 (ptM m l.length T l)[j]?=some (if j<m then ⟨(ndT l j).id,rtI (res 0 m A),rtI (res 0 m B)⟩ else ⟨(ndT l j).id,rtI (res m l.length A),rtI (res m l.length B)⟩):=by
 have hr:T.list=List.range l.length:=h.range hu
 have hm:j∈T.list:=by rw[hr];exact List.mem_range.2 hj
 obtain⟨A,B,h1,h2,_,_⟩:=h.rep.sub2 j hm
 have hw:T.list.Pairwise (· < ·):=by rw[hr];exact List.pairwise_lt_range
 have e:=qkq (N:=l.length) (m:=m) h.rep rfl hw j hm A B h1 h2
 exact⟨A,B,h1,h2,h1.lt,h2.lt,by rw[← e];exact qat (by rw[(qba T l).len];exact hj)⟩
theorem qeQ {m:Nat} (h:Fits ⟨rt,l⟩ T) (hu:Up l) (hm:m≤l.length):shN (0-(m:Int)) ((ptM m l.length T l).drop m)=ptL l m l.length l.length:=by
 have hlen:(ptM m l.length T l).length=l.length:=(qba T l).len
 apply List.ext_getElem?
 intro j
 by_cases hj:m+j<l.length
 ·obtain⟨A,B,h1,h2,_,_,e⟩:=qnZ (m:=m) h hu hj
  have e2:=qrE (l:=l) (n:=m) (j:=l.length) (k:=m+j) (by omega) hj
  rw[Nat.add_sub_cancel_left] at e2
  unfold shN
  rw[List.getElem?_map,List.getElem?_drop,e,e2,if_neg (by omega)]
  unfold ptN
  rw[qnM h1,qnM h2,← qjm,← qjm]
  rfl
 ·rw[List.getElem?_eq_none (by rw[qcX,List.length_drop];omega),List.getElem?_eq_none (by rw[qpL];omega)]
theorem qpM {m:Nat} (hl:l.length≤999999) (h:Fits ⟨rt,l⟩ T) (hu:Up l):qtw (ptM m l.length T l):=by
 intro p hp
 obtain⟨j,hj⟩:=List.getElem?_of_mem hp
 have hjl:=qak hj
 rw[(qba T l).len] at hjl
 obtain⟨A,B,_,_,h3,h4,e⟩:=qnZ (m:=m) h hu hjl
 rw[hj] at e
 have r1:=qdX (l:=l) (lo:=0) (hi:=m) h3 (by omega)
 have r2:=qdX (l:=l) (lo:=0) (hi:=m) h4 (by omega)
 have r3:=qdX (l:=l) (lo:=m) (hi:=l.length) h3 (by omega)
 have r4:=qdX (l:=l) (lo:=m) (hi:=l.length) h4 (by omega)
 cases e
 split
 ·exact⟨⟨by show -3000000≤rtI _;omega,by show rtI _≤3000000;omega⟩,by show -3000000≤rtI _;omega,by show rtI _≤3000000;omega⟩
 ·exact⟨⟨by show -3000000≤rtI _;omega,by show rtI _≤3000000;omega⟩,by show -3000000≤rtI _;omega,by show rtI _≤3000000;omega⟩
theorem qob {m:Nat} (hl:l.length≤999999) (h:Fits ⟨rt,l⟩ T) (hc:chE ⟨rt,l⟩=0) (hu:Up l) (hm:qpd l z m) :
 Fn 13 1 [trS 0 rt l,.pv (iV z)] [(0,0,qaa l)] (.tu [.ag [.pv (iV (shI 0 (rtI (res 0 m T)))),.lq 1 3 0 m],.ag [.pv (iV (shI m (rtI (res m l.length T)))),.ls 2 (ptL l m l.length l.length).length],.one (.pv (iV 0))]) 2 [(1,0,qaa (ptM m l.length T l)),(2,0,qaa (ptL l m l.length l.length))]:=by
 have on:=qba (m:=m) (N:=l.length) T l
 have hlen:(ptM m l.length T l).length=l.length:=on.len
 have hmo:=hm
 obtain⟨m1,m2⟩:=hm
 have hr:T.list=List.range l.length:=h.range hu
 have hw:T.list.Pairwise (· < ·):=by rw[hr];exact List.pairwise_lt_range
 have cP:=qlc (rt:=rt) hl
 rw[hc] at cP
 have cO:Fn 52 1 [.ls 0 l.length] [(0,0,qaa l)] (.pv (iV (0))) 0 []:=by
  rcases PCo hl with ⟨_,h⟩ | ⟨h,_⟩
  ·exact h
  ·exact (h hu).elim
 have cL:=quC (n:=ptM m l.length T l) hl hmo hlen fun j _=>on.id j
 have cS:=qpt (l:=ptM m l.length T l) (m:=m) (v:=0-(m:Int)) (by omega) (by omega) (fun p hp=>qpM hl h hu p (List.mem_of_mem_drop hp)) (by omega) (by omega)
 have hlt:∀ y∈T.list,y<l.length:=h.rep.lt
 have g1:=qdX (lo:=m) (hi:=l.length) hlt (by omega)
 have e1:(qaa (ptM m l.length T l))=.row 26 3 l.length (qam (ptM m l.length T l)):=by rw[qaa,hlen]
 rw[e1,hlen] at cL
 rw[hlen,qeQ h hu m1] at cS
 rw[e1,qvF,← qjm]
 exact qsw (p1:=⟨0,0,0⟩) (p2:=⟨0,0,0⟩) (h1:=cP) (h2:=cO) (hcl:=qsk (by omega)) (hp:=qp5 h.rep rfl hw m2) (hle:=cL) (t1:=tI) (p0:=by omega) (hn1:=by rw[qan (by omega) (by omega)]) (hfu:=PFu (by omega) (by omega) (by omega) (by omega)) (hn2:=by rw[qan (by omega) (by omega)]) (hsh:=cS) (Nat.zero_le _) m1
end
end Go.Proofs.Ytalnjplghagbpaa

namespace Go.Proofs.Ytalnjplghagbpaa
set_option maxRecDepth 100000
open Go.RowKit
theorem qm9 {β:Bl} {s:S0} {r:List S0} {us:List Value} (h:S0.isl β (s::r) us):∃ u t,us=u::t∧s.is β u∧S0.isl β r t:=by
 match us,h with
 | u::t,⟨h1,h2⟩=>exact⟨u,t,rfl,h1,h2⟩
theorem qrB {β:Bl} {us:List Value} (h:S0.isl β [] us):us=[]:=by
 match us,h with
 | [],_=>rfl
theorem qoV {k:Nat} {β:Bl} {pre:List (Nat×Nat×SV)} {w:World} {b es n m:Nat} {e:TypeId} {xs:List Value} {v:Value} (H:HRel w k β pre w) (h:qad pre b 0=some (.row e es n xs)) (hi:(S0.ls b m).is β v):Rd w es v n xs:=by
 obtain⟨y,ey,R⟩:=H.rows b 0 e es n xs h
 rw[hi.1] at ey
 cases ey
 exact R.rd
theorem qgD {f:FuncId} {k:Nat} {pre:List (Nat×Nat×SV)} {w:World} {β:Bl} {us:List Value} {v:Value} (H:HRel w k β pre w) (hd:β.dom k) (h:Calls Try.prog f us.toArray w fun e w'=>e=.returned v∧Gr w w') :
 Calls Try.prog f us.toArray w fun e w'=>∃ (v':Value) (β':Bl),e=.returned v'∧β.le β'∧(SV.pv v).is β' v'∧HRel w (k+0) β' [] w'∧β'.dom (k+0):=
 h.mono fun _ _ ⟨he,hg⟩=>⟨_,β,he,Bl.le_refl _,rfl,(H.gr_mono hg).imp (fun _ _ _ h=>(by cases h)),hd⟩
theorem qgV {W:World} {f:FuncId} {us:List Value} {rs:List (TypeId×Nat×Nat×List Value)} {args:List SV} {vs:List Value} {v:Value} (h:Fn f rs.length args (qf9 0 rs) (.pv v) 0 []) (hr:ZIns W us rs) (ha:SV.isl (qkO us) args vs) :
 Calls Try.prog f vs.toArray W fun e W'=>e=.returned v∧Gr W W':=by
 refine (h W (qkO us) vs (qmX hr) (ql3 hr) ha).mono fun e W' ⟨v,β',he,_,hx,hh,_⟩=>?_
 cases hx
 exact⟨he,hh.gr⟩
theorem qj4 {w:World} {es n n' k nn c c':Nat} {a a':Option Addr} {xs:List Value} (R:Rd w es (.slice a nn c) n xs) (hk:k+n'≤nn) (hc:n'≤c') (hp:0<n'→∃ r o,a=some ⟨r,o,none⟩∧a'=some ⟨r,o+k*es,none⟩) :
 Rd w es (.slice a' n' c') n' ((xs.drop (k*es)).take (n'*es)):=by
 obtain⟨hl,a2,c2,he,hnc,hrd⟩:=R
 have e1:=he
 simp only[Value.slice.injEq] at e1
 obtain⟨rfl,rfl,rfl⟩:=e1
 have hm:(k+n')*es≤nn*es:=Nat.mul_le_mul_right es hk
 rw[Nat.add_mul] at hm
 have hlen:((xs.drop (k*es)).take (n'*es)).length=n'*es:=by rw[List.length_take,List.length_drop];omega
 rcases Nat.eq_zero_or_pos n' with h0 | h0
 ·subst h0
  refine⟨hlen,a',c',rfl,hc,fun j v hj=>?_⟩
  rw[Nat.zero_mul,List.take_zero] at hj
  simp at hj
 ·obtain⟨r,o,ea,ea'⟩:=hp h0
  subst ea ea'
  refine⟨hlen,_,_,rfl,hc,fun j v hj=>⟨r,o+k*es,rfl,?_⟩⟩
  have hj':xs[k*es+j]?=some v:=by
   rw[List.getElem?_take] at hj
   split at hj
   ·rw[List.getElem?_drop] at hj;exact hj
   ·cases hj
  obtain⟨r',o',er,hcell⟩:=hrd _ v hj'
  cases er
  rw[show o+k*es+j=o+(k*es+j) by omega]
  exact hcell
theorem qkg (l:List Pt) (n:Nat):(qam l).take (n*3)=qam (l.take n):=by
 rcases Nat.lt_or_ge n l.length with h | h
 ·have e:qam l=qam (l.take n)++qam (l.drop n):=by rw[← qbT,List.take_append_drop]
  rw[e,List.take_append_of_le_length (by rw[qa6,List.length_take];omega),List.take_of_length_le (by rw[qa6,List.length_take];omega)]
 ·rw[List.take_of_length_le (by rw[qa6];omega),List.take_of_length_le h]
theorem qvB {r:Int} {n:Nat} {l:List Pt} (hn:n≤l.length) (hl:l.length≤1000000):Fn 22 2 [.ag [.pv (iV r),.lq 0 3 0 n],trS 1 r (l.take n)] [(0,0,qaa l),(1,0,qaa (l.take n))] (.pv (.bool true)) 0 []:=by
 have h:=qji (rt:=r) (l:=l.take n) (by rw[List.length_take];omega)
 have hlen:(l.take n).length=n:=by rw[List.length_take];omega
 intro w β us H hd hi
 match us,hi with
 | [a,c],⟨⟨ws,hws,ha⟩,⟨wt,ht,hb⟩,_⟩=>
 obtain⟨u,r',ew,hu,k1⟩:=qm9 hws
 obtain⟨y,r3,ew3,⟨a',nn,cc,a'',c',hg,hle,hc',hy,hp⟩,k3⟩:=qm9 k1
 have er:=qrB k3
 obtain⟨u2,r2,ew2,hu2,k2⟩:=qm9 ht
 obtain⟨y2,r4,ew4,hy2,k4⟩:=qm9 k2
 have er4:=qrB k4
 have hu':u=iV r:=hu
 have hu2':u2=iV r:=hu2
 subst er ew3 er4 ew4 ew ew2 ha hb hy hu' hu2'
 obtain⟨y0,e0,R0⟩:=H.rows 0 0 _ _ _ _ rfl
 rw[hg] at e0
 cases e0
 have R1:=qj4 R0.rd hle hc' hp
 rw[Nat.zero_mul,List.drop_zero,qkg] at R1
 have R2:=qoV H rfl hy2
 rw[hlen] at R2
 have h2:Fn 22 2 [.ag [.pv (iV r),.ls 0 n],.ag [.pv (iV r),.ls 1 n]] [(0,0,.row 26 3 n (qam (l.take n))),(1,0,.row 26 3 n (qam (l.take n)))] (.pv (.bool true)) 0 []:=by
  have e:∀ b,trS b r (l.take n)=.ag [.pv (iV r),.ls b n]:=fun b=>by rw[trS,hlen]
  have e2:qaa (l.take n)=.row 26 3 n (qam (l.take n)):=by rw[qaa,hlen]
  rw[e,e,e2] at h
  exact h
 exact qgD (us:=[_,_]) H hd (qgV (rs:=[(26,3,n,qam (l.take n)),(26,3,n,qam (l.take n))]) (us:=[_,y2]) h2 (.cons R1 (qgx _) (.cons R2 (qgx _) .nil))
  ⟨⟨[_,_],⟨rfl,⟨rfl,R1.zsl⟩,tI⟩,rfl⟩,⟨[_,_],⟨rfl,⟨rfl,R2.zsl⟩,tI⟩,rfl⟩,tI⟩)
section
variable {s l:List Pt} {tn td rt:Int}
theorem quW (hs:Val s) {T:Sh Nat} (h:OfSh s tn td T):VT ⟨rtI T,ofN s T⟩:=by
 obtain⟨hf,_⟩:=qdA hs h
 have hl:=qc9 (s:=s) T
 refine⟨by show (ofN s T).length≤64;rw[hl];exact hs.len,fun p hp=>?_,T,hf⟩
 obtain⟨k,hk⟩:=List.getElem?_of_mem hp
 have hkl:=qak hk
 rw[hl] at hkl
 have e:=qhz T hkl
 rw[qaz hk,qaz (qat hkl)] at e
 have:=qbU.1 (hs.ok _ (List.mem_of_getElem? (qat hkl)))
 omega
end
end Go.Proofs.Ytalnjplghagbpaa

namespace Go.Proofs.Ytalnjplghagbpaa
set_option maxRecDepth 100000
open Go.RowKit
theorem qcB {f:FuncId} {v:Value} (h:Fn f 0 [] [] (.pv v) 0 []):Pure Try.prog f #[] v:=by
 intro w
 have H0:HRel w 0 Bl.no [] w:=⟨Gr.refl w,fun _ _ e=>(by cases e),fun _ _ _ e=>(by cases e),fun _ _ _ e=>(by cases e),fun _ _ e=>(by cases e),fun _ _ _ e=>(by cases e),fun _ _ _ _ _ _ e=>(by cases e),fun _ _ _ _ _ _ _ _ _ _ _ _ _ _ e=>(by cases e),fun _ _ _ e=>(by cases e)⟩
 refine (h w Bl.no [] H0 (fun _ _=>⟨rfl,rfl⟩) tI).mono fun e w' ⟨u,β',he,_,hx,hh,_⟩=>?_
 cases hx
 exact⟨he,hh.gr⟩
abbrev shA:Sh Nat:=.node (.node .nil 0 .nil) 1 (.node .nil 2 .nil)
abbrev shB:Sh Nat:=.node .nil 0 (.node .nil 1 (.node .nil 2 .nil))
theorem qbF:Val qap:=
 ⟨by decide,by decide,fun k p q hp hq=>by
  match k,hp,hq with
  | 0,hp,hq=>simp[qap] at hp hq;subst hp hq;decide
  | 1,hp,hq=>simp[qap] at hp hq;subst hp hq;decide
  | n+2,_,hq=>simp[qap] at hq⟩
theorem qsC:OfSh qap 0 1 shA:=
 ⟨⟨fun y hy=>by (simp[Sh.list] at hy;subst hy;rfl),fun y hy=>by (simp[Sh.list] at hy;subst hy;rfl),⟨fun y hy=>by (simp[Sh.list] at hy),fun y hy=>by (simp[Sh.list] at hy),tI,tI⟩,⟨fun y hy=>by (simp[Sh.list] at hy),fun y hy=>by (simp[Sh.list] at hy),tI,tI⟩⟩,rfl⟩
theorem qlU:OfSh qap 2 1 shB:=
 ⟨⟨fun y hy=>by (simp[Sh.list] at hy),fun y hy=>by (simp[Sh.list] at hy;rcases hy with rfl | rfl<;>rfl),tI,⟨fun y hy=>by (simp[Sh.list] at hy),fun y hy=>by (simp[Sh.list] at hy;subst hy;rfl),tI,⟨fun y hy=>by (simp[Sh.list] at hy),fun y hy=>by (simp[Sh.list] at hy),tI,tI⟩⟩⟩,rfl⟩
abbrev qn0:List Pt:=[Pt.mk (1) (-1) (1),Pt.mk (2) (-1) (2),Pt.mk (5) (-1) (-1)]
theorem qn2:Fits ⟨0,qn0⟩ shB∧Up qn0:=qdA qbF qlU
theorem qm1:chE ⟨0,qn0⟩=0:=qdC (quW qbF qlU)
theorem qsu:qpd qn0 2 1:=⟨by decide,fun j hj=>by
 match j,hj with
 | 0,_=>exact⟨fun _=>by decide,fun _=>by decide⟩
 | 1,_=>exact⟨fun h=>by omega,fun h=>absurd h (by decide)⟩
 | 2,_=>exact⟨fun h=>by omega,fun h=>absurd h (by decide)⟩
 | n+3,h=>exact absurd h (by simp)⟩
theorem qou {tn:Int} {T:Sh Nat} (hn:I64 tn) (ht:okB tn 1=true) (h:OfSh qap tn 1 T) :
 Fn 18 1 [qas 0 qap,.pv (qab tn 1)] [(0,0,qag qap)] (.tu [.ag [.pv (iV (rtI T)),.ls 1 (ofN qap T).length],.one (.pv (iV 0))]) 1 [(1,0,qaa (ofN qap T))]:=by
 obtain⟨r,n,_,hs,p,_⟩:=qku hn (td:=1) ⟨by decide,by decide⟩ qap
 have e:=qiN qbF ht
 obtain⟨rfl,rfl⟩:=hs e T h
 rw[e] at p
 exact p
theorem qpa:Pure Try.prog 24 #[] (.bool true):=by
 obtain⟨hf,hu⟩:=qn2
 obtain⟨v,e,hv,hd,_⟩:=qev (rt:=0) (z:=5) (l:=qn0) (by decide)
 obtain⟨rfl,rfl⟩:=(hv qm1 shB hf).1 (by decide)
 have sp:=qob (z:=2) (m:=1) (by decide) hf qm1 hu qsu
 rw[← qeQ hf hu (by decide)] at sp
 have h:=qve (hg:=qce) (hat0:=qnc) (h1:=qou (tn:=0) ⟨by decide,by decide⟩ rfl qsC) (hat2:=qnc) (h2:=qou (tn:=2) ⟨by decide,by decide⟩ rfl qlU) (hd:=hd) (hs:=sp) (hc:=qri) (q1:=qji (by decide)) (q2:=qji (by decide)) (q3:=qvB (n:=1) (l:=[Pt.mk (1) (-1) (-1),Pt.mk (2) (-1) (2),Pt.mk (5) (-1) (-1)]) (by decide) (by decide)) (q4:=qji (by decide))
 exact qcB h
section
variable {s l:List Pt} {tn td rt:Int}
end
end Go.Proofs.Ytalnjplghagbpaa

namespace Go.Proofs.Ytalnjplghagbpaa
set_option maxRecDepth 100000
open Go.RowKit
theorem qiL {l:List Pt} (hv:Val l) {k:Nat} {p:Pt} {id:Int} (hk:l[k]?=some p) (he:p.id=id):Fn 93 1 [qas 0 l,.pv (iV id)] [(0,0,qag l)] (.pv (.tuple #[ptV p,iV 0])) 0 []:=by
 have c:=qbq l
 rw[qcY.2 hv] at c
 exact qlf hk (qa4 (qak hk)) c (qnf hv hk he)
theorem qk8 {l:List Pt} (hv:Val l) {id:Int} (hno:∀ p∈l,p.id≠id):Fn 93 1 [qas 0 l,.pv (iV id)] [(0,0,qag l)] (.pv (.tuple #[ptV ⟨0,0,0⟩,iV 6])) 0 []:=by
 have c:=qbq l
 rw[qcY.2 hv] at c
 rcases place l hv id with ⟨k,p,hk,he⟩ | ⟨_,k,hkl,hlo,hhi⟩
 ·exact (hno p (List.mem_of_getElem? hk) he).elim
 ·exact qmm c (qpU hv hkl hlo hhi)
section
variable {s l m:List Pt} {tn td rt x:Int}
def Kno (s l:List Pt):Prop:=∀ p∈l,∃ q∈s,q.id=p.id
def ptD (s l:List Pt):List Pt:=l.map fun p=>ptI s p.id
theorem qgH:(ptD s l).length=l.length:=List.length_map ..
abbrev poT (l:List Pt) (n k:Nat):List (Nat×SV):=[(2,.pp 2 0),(6,.ls 3 n),(11,.ls 1 l.length),(12,.pv (iV (l.length:Int))),(13,.pv (iV (k:Int)))]
abbrev poH (s l:List Pt) (n:Nat) (vs:List Value):List (Nat×Nat×SV):=[(2,0,.ls 0 s.length),(0,0,qag s),(1,0,qaa l),(3,0,.row 80 3 n vs)]
theorem qtH (hs:Val s) (hl:l.length≤999999):(Kno s l∧Fn 60 2 [qas 0 s,.ls 1 l.length] [(0,0,qag s),(1,0,qaa l)] (.tu [.one (.ls 2 (ptD s l).length),.one (.pv (iV 0))]) 1 [(2,0,qag (ptD s l))])∨
 (¬ Kno s l∧Fn 60 2 [qas 0 s,.ls 1 l.length] [(0,0,qag s),(1,0,qaa l)] (.pv (.tuple #[.slice none 0 0,iV (6)])) 0 []):=by
 have step:∀ n,n≤l.length→(∀ k,k<n→∀ p,l[k]?=some p→∃ q∈s,q.id=p.id)→∀ {e:Exit} {tm2:TmL} {hp2:HpL},
  Rl 2 2 60 0 33 4 (poT l n n) (poH s l n (qam ((ptD s l).take n))) e tm2 hp2→
  Rl 2 2 60 0 33 4 (poT l 0 0) (poH s l 0 (qam ((ptD s l).take 0))) e tm2 hp2:=by
  intro n hn h e tm2 hp2 r
  refine RunsL.roundsZ (fun j=>poT l j j) (fun j=>poH s l j (qam ((ptD s l).take j))) (N:=n) n 0 (Nat.zero_add _) (fun j _ hj r=>?_) r
  obtain⟨p,hp⟩:=qao (l:=l) (k:=j) (by omega)
  obtain⟨q,hq,he⟩:=h j hj p hp
  obtain⟨i,hi⟩:=List.getElem?_of_mem hq
  have hd:(ptD s l)[j]?=some q:=by
   unfold ptD
   rw[List.getElem?_map,hp]
   show some (ptI s p.id)=some q
   rw[← he,qdS hs hq]
  rw[qbg hd,← qeY] at r
  exact qng (k:=j) (n:=j) (vs:=qam ((ptD s l).take j)) (hlt:=dt (by omega)) (hk:=hp) (hin:=⟨by omega,by omega⟩) (hf:=qiL hs hi he) (he:=rfl) (hn:=by omega) (hs:=qah (by omega)) r
 rcases qaT (fun k=>∀ p,l[k]?=some p→∃ q∈s,q.id=p.id) l.length with h | ⟨k,hk,hb,hf⟩
 ·refine Or.inl ⟨fun p hp=>by
   obtain⟨k,hk⟩:=List.getElem?_of_mem hp
   exact h k (qak hk) p hk,?_⟩
  have last:=qo3 (s:=s) (l:=l) (k:=l.length) (n:=l.length) (vs:=qam ((ptD s l).take l.length)) (hlt:=df (by omega))
  have run:=step l.length (Nat.le_refl _) h last
  rw[List.take_of_length_le (l:=ptD s l) (Nat.le_of_eq qgH),List.take_zero] at run
  rw[show qag (ptD s l)=.row 80 3 l.length (qam (ptD s l)) by rw[qag,qgH],qgH]
  exact qtd (r0:=run)
 ·simp only[Classical.not_forall] at hb
  obtain⟨p,hp,hb⟩:=hb
  refine Or.inr ⟨fun h=>hb (h p (List.mem_of_getElem? hp)),?_⟩
  have run:=step k (Nat.le_of_lt hk) hf (qp9 (k:=k) (n:=k) (vs:=qam ((ptD s l).take k)) (hlt:=dt (by omega)) (hk:=hp) (hin:=⟨by omega,by omega⟩) (hf:=qk8 hs fun q hq e=>hb ⟨q,hq,e⟩) (he:=rfl))
  rw[List.take_zero] at run
  exact qqb (r0:=run)
theorem qvK (h:l.length+m.length≤999999):Fn 59 3 [.ps 2 0 2 2] [(2,0,.ls 0 l.length),(2,1,.ls 1 m.length),(0,0,qaa l),(1,0,qaa m)] (.ls 3 (l++m).length) 1 [(3,0,qaa (l++m))]:=by
 have e1:0+l.length+m.length=(l++m).length:=by rw[List.length_append];omega
 have e2:[]++qam l++qam m=qam (l++m):=by rw[List.nil_append,qbT]
 have q1:iV (IntKind.i64.wrap ((0:Int)+(l.length:Int)))=iV (l.length:Int):=by rw[qan (by omega) (by omega),Int.zero_add]
 have q2:iV (IntKind.i64.wrap ((l.length:Int)+(m.length:Int)))=iV (((l.length+m.length:Nat):Int)):=by rw[qan (by omega) (by omega)];rfl
 by_cases hz:0<l.length+m.length
 ·have:=qvQ (l:=l) (m:=m) (hq1:=q1) (hm1:=df (by omega)) (hq2:=q2) (hm2:=df (by omega)) (hgr:=qt9 (h0:=df (by omega)) (hs:=by rw[qan (by omega) (by omega),Int.sub_zero]) (hg:=dt (by omega)) (a0:=by omega) (a1:=by omega)) (ha1:=by omega) (ha2:=by omega)
  rw[e1,e2] at this
  exact this
 ·have:=quj (l:=l) (m:=m) (hq1:=q1) (hm1:=df (by omega)) (hq2:=q2) (hm2:=df (by omega)) (hgr:=qq4 (h0:=df (by omega)) (hs:=by rw[qan (by omega) (by omega),Int.sub_zero]) (hg:=df (by omega))) (ha1:=by omega) (ha2:=by omega)
  rw[e1,e2] at this
  exact this
def jnt (l m:List Pt):List Pt:=l++shN (l.length:Int) m
theorem qi5:(jnt l m).length=l.length+m.length:=by unfold jnt;rw[List.length_append,qcX]
theorem qcZ {k:Nat} (h:k<l.length):(jnt l m)[k]?=l[k]?:=by unfold jnt;rw[List.getElem?_append_left h]
theorem qcz {k:Nat} {p:Pt} (h:m[k]?=some p):(jnt l m)[k+l.length]?=some ⟨p.id,fuI (l.length:Int) p.a,fuI (l.length:Int) p.b⟩:=by
 unfold jnt shN
 rw[List.getElem?_append_right (by omega),Nat.add_sub_cancel,List.getElem?_map,h]
 rfl
theorem qjM:Kno s (jnt l m)↔Kno s l∧Kno s m:=by
 constructor
 ·intro h
  refine⟨fun p hp=>h p (List.mem_append_left _ hp),fun p hp=>?_⟩
  exact h ⟨p.id,fuI (l.length:Int) p.a,fuI (l.length:Int) p.b⟩ (List.mem_append_right _ (List.mem_map_of_mem (f:=fun p:Pt=>(⟨p.id,fuI (l.length:Int) p.a,fuI (l.length:Int) p.b⟩:Pt)) hp))
 ·rintro⟨h1,h2⟩ p hp
  rcases List.mem_append.1 hp with h | h
  ·exact h1 p h
  ·obtain⟨q,hq,rfl⟩:=List.mem_map.1 h
   exact h2 q hq
theorem qjz {T:Sh Nat} (h:Fits ⟨rt,l⟩ T) (hl:l.length≤999999):qtw l∧(∀ p∈l,-1≤p.a∧-1≤p.b):=by
 have hk:=h.lnk
 refine⟨fun p hp=>?_,fun p hp=>?_⟩
 ·obtain⟨h1,h2⟩:=hk p hp
  simp only at h1 h2
  exact⟨⟨by omega,by omega⟩,by omega,by omega⟩
 ·obtain⟨h1,h2⟩:=hk p hp
  exact⟨h1.1,h2.1⟩
end
end Go.Proofs.Ytalnjplghagbpaa

namespace Go.Proofs.Ytalnjplghagbpaa
set_option maxRecDepth 100000
open Go.RowKit
section
variable {s l m:List Pt} {tn td rt x:Int}
theorem qrN:Up (jnt l m)↔Up l∧Up m∧(∀ p q,l[l.length-1]?=some p→m[0]?=some q→p.id<q.id):=by
 constructor
 ·intro h
  refine⟨fun k p q hp hq=>?_,fun k p q hp hq=>?_,fun p q hp hq=>?_⟩
  ·exact h k p q (by rw[qcZ (qak hp)];exact hp) (by rw[qcZ (qak hq)];exact hq)
  ·have:=h (k+l.length) _ _ (qcz hp) (by rw[show k+l.length+1=k+1+l.length by omega];exact qcz hq)
   exact this
  ·have hl:=qak hp
   have h2:=qcz (l:=l) hq
   rw[Nat.zero_add] at h2
   have:=h (l.length-1) p _ (by rw[qcZ hl];exact hp) (by rw[show l.length-1+1=l.length by omega];exact h2)
   exact this
 ·rintro⟨h1,h2,h3⟩ k p q hp hq
  rcases Nat.lt_or_ge (k+1) l.length with c | c
  ·rw[qcZ (by omega)] at hp
   rw[qcZ c] at hq
   exact h1 k p q hp hq
  ·have hql:=qak hq
   rw[qi5] at hql
   obtain⟨q',hq'⟩:=qao (l:=m) (k:=k+1-l.length) (by omega)
   have e2:=qcz (l:=l) hq'
   rw[show k+1-l.length+l.length=k+1 by omega,hq] at e2
   have e2:=Option.some.inj e2
   rcases Nat.lt_or_ge k l.length with d | d
   ·rw[qcZ d] at hp
    have e:k=l.length-1:=by omega
    subst e
    have hz:l.length-1+1-l.length=0:=by omega
    rw[hz] at hq'
    have:=h3 p q' hp hq'
    rw[e2]
    exact this
   ·obtain⟨p',hp'⟩:=qao (l:=m) (k:=k-l.length) (by omega)
    have e1:=qcz (l:=l) hp'
    rw[show k-l.length+l.length=k by omega,hp] at e1
    have e1:=Option.some.inj e1
    have:=h2 (k-l.length) p' q' hp' (by rw[show k-l.length+1=k+1-l.length by omega];exact hq')
    rw[e1,e2]
    exact this
end
end Go.Proofs.Ytalnjplghagbpaa

namespace Go.Proofs.Ytalnjplghagbpaa
set_option maxRecDepth 100000
open Go.RowKit
section
variable {s l:List Pt} {tn td rt z:Int} {T S:Sh Nat} {lo hi:Nat}
theorem POf (htn:I64 tn) (htd:I64 td) (hs:Val s) (ht:okB tn td=true) (hS:OfSh s tn td S) :
 Fn 18 1 [qas 0 s,.pv (qab tn td)] [(0,0,qag s)] (.tu [.ag [.pv (iV (rtI S)),.ls 1 (ofN s S).length],.one (.pv (iV 0))]) 1 [(1,0,qaa (ofN s S))]:=by
 obtain⟨r,n,_,hsp,p,_⟩:=qku htn htd s
 have e:=qiN hs ht
 obtain⟨rfl,rfl⟩:=hsp e S hS
 rw[e] at p
 exact p
end
end Go.Proofs.Ytalnjplghagbpaa
