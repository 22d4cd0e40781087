/-
  Joined: Ek, Er, El, Em, En. Conditions: none.
-/
import Derived.Test.YtalnjplghagbpaaEj
import Derived.Test.YtalnjplghagbpaaW28
import Derived.Test.YtalnjplghagbpaaW19
import Derived.Test.YtalnjplghagbpaaZj
import Derived.Test.YtalnjplghagbpaaW24
import Derived.Test.YtalnjplghagbpaaW27
import Derived.Deep.Strs
import Derived.Test.YtalnjplghagbpaaW32
namespace Go.Proofs.Ytalnjplghagbpaa
set_option maxRecDepth 100000
open Go.RowKit
section
variable {P:Program} {f:FuncId} {args:List SV} {pre:List (Nat×Nat×SV)} {e:Int}
end
section
variable {rt z:Int} {l:List Pt} {T:Sh Nat}
theorem qtl:∀ X:Sh Nat,shI 0 (rtI X)=rtI X
 | .nil=>rfl
 | .node a k b=>by
  show (if (k:Int)<0 then -1 else (k:Int)-((0:Nat):Int))=(k:Int)
  rw[if_neg (by omega)]
  omega
theorem qiR {m:Nat}:∀ X:Sh Nat,fuI (0-(m:Int)) (rtI X)=shI m (rtI X)
 | .nil=>rfl
 | .node a k b=>by
  show (if (k:Int) = -1 then -1 else (k:Int)+(0-(m:Int)))=(if (k:Int)<0 then -1 else (k:Int)-(m:Int))
  rw[if_neg (by omega),if_neg (by omega)]
  omega
theorem qmL {m:Nat} (h:Fits ⟨rt,l⟩ T) (hu:Up l) {j:Nat} (hj:j<l.length):∃ A B,Rep l (ndT l j).a A∧Rep l (ndT l j).b B∧(∀ y∈A.list,y<l.length)∧(∀ y∈B.list,y<l.length)∧
 (ptM m l.length T l)[j]?=some (if j<m then ⟨(ndT l j).id,rtI (res 0 m A),rtI (res 0 m B)⟩ else ⟨(ndT l j).id,rtI (res m l.length A),rtI (res m l.length B)⟩):=by
 have hr:T.list=List.range l.length:=h.range hu
 have hm:j∈T.list:=by rw[hr];exact List.mem_range.2 hj
 obtain⟨A,B,h1,h2,_,_⟩:=h.rep.sub2 j hm
 have hw:T.list.Pairwise (· < ·):=by rw[hr];exact List.pairwise_lt_range
 have e:=qjY (N:=l.length) (m:=m) h.rep rfl hw j hm A B h1 h2
 exact⟨A,B,h1,h2,h1.lt,h2.lt,by rw[← e];exact qag (by rw[(qa4 T l).len];exact hj)⟩
theorem qg8 {m:Nat} (h:Fits ⟨rt,l⟩ T) (hu:Up l) (hm:m≤l.length):shN (0-(m:Int)) ((ptM m l.length T l).drop m)=ptL l m l.length l.length:=by
 have hlen:(ptM m l.length T l).length=l.length:=(qa4 T l).len
 apply List.ext_getElem?
 intro j
 by_cases hj:m+j<l.length
 ·obtain⟨A,B,h1,h2,_,_,e⟩:=qmL (m:=m) h hu hj
  have e2:=qpI (l:=l) (n:=m) (j:=l.length) (k:=m+j) (by omega) hj
  rw[Nat.add_sub_cancel_left] at e2
  unfold shN
  rw[List.getElem?_map,List.getElem?_drop,e,e2,if_neg (by omega)]
  unfold ptN
  rw[qmG h1,qmG h2,← qiR,← qiR]
  rfl
 ·rw[List.getElem?_eq_none (by rw[qeD,List.length_drop];omega),List.getElem?_eq_none (by rw[qoA];omega)]
theorem qoU {m:Nat} (hl:l.length≤999999) (h:Fits ⟨rt,l⟩ T) (hu:Up l):qsu (ptM m l.length T l):=by
 intro p hp
 obtain⟨j,hj⟩:=List.getElem?_of_mem hp
 have hjl:=qal hj
 rw[(qa4 T l).len] at hjl
 obtain⟨A,B,_,_,h3,h4,e⟩:=qmL (m:=m) h hu hjl
 rw[hj] at e
 have r1:=qdv (l:=l) (lo:=0) (hi:=m) h3 (by omega)
 have r2:=qdv (l:=l) (lo:=0) (hi:=m) h4 (by omega)
 have r3:=qdv (l:=l) (lo:=m) (hi:=l.length) h3 (by omega)
 have r4:=qdv (l:=l) (lo:=m) (hi:=l.length) h4 (by omega)
 cases e
 split
 ·exact⟨⟨by show -3000000≤rtI _;omega,by show rtI _≤3000000;omega⟩,by show -3000000≤rtI _;omega,by show rtI _≤3000000;omega⟩
 ·exact⟨⟨by show -3000000≤rtI _;omega,by show rtI _≤3000000;omega⟩,by show -3000000≤rtI _;omega,by show rtI _≤3000000;omega⟩
theorem qqd {m:Nat} (hl:l.length≤999999) (h:Fits ⟨rt,l⟩ T) (hc:chE ⟨rt,l⟩=0) (hu:Up l) (hm:qog l z m) :
 Fn 13 1 [trS 0 rt l,.pv (iV z)] [(0,0,qae l)] (.tu [.ag [.pv (iV (shI 0 (rtI (res 0 m T)))),.lq 1 3 0 m],.ag [.pv (iV (shI m (rtI (res m l.length T)))),.ls 2 (ptL l m l.length l.length).length],.one (.pv (iV 0))]) 2 [(1,0,qae (ptM m l.length T l)),(2,0,qae (ptL l m l.length l.length))]:=by
 have on:=qa4 (m:=m) (N:=l.length) T l
 have hlen:(ptM m l.length T l).length=l.length:=on.len
 have hmo:=hm
 obtain⟨m1,m2⟩:=hm
 have hr:T.list=List.range l.length:=h.range hu
 have hw:T.list.Pairwise (· < ·):=by rw[hr];exact List.pairwise_lt_range
 have cP:=qs8 (rt:=rt) hl
 rw[hc] at cP
 have cO:Fn 52 1 [.ls 0 l.length] [(0,0,qae l)] (.pv (iV (0))) 0 []:=by
  rcases PCo hl with ⟨_,h⟩ | ⟨h,_⟩
  ·exact h
  ·exact (h hu).elim
 have cL:=qr2 (n:=ptM m l.length T l) hl hmo hlen fun j _=>on.id j
 have cS:=qnS (l:=ptM m l.length T l) (m:=m) (v:=0-(m:Int)) (by omega) (by omega) (fun p hp=>qoU hl h hu p (List.mem_of_mem_drop hp)) (by omega) (by omega)
 have hlt:∀ y∈T.list,y<l.length:=h.rep.lt
 have g1:=qdv (lo:=m) (hi:=l.length) hlt (by omega)
 have e1:(qae (ptM m l.length T l))=.row 26 3 l.length (qaq (ptM m l.length T l)):=by rw[qae,hlen]
 rw[e1,hlen] at cL
 rw[hlen,qg8 h hu m1] at cS
 rw[e1,qtl,← qiR]
 exact qqw (p1:=⟨0,0,0⟩) (p2:=⟨0,0,0⟩) (h1:=cP) (h2:=cO) (hcl:=qqM (by omega)) (hp:=qo2 h.rep rfl hw m2) (hle:=cL) (t1:=tI) (p0:=by omega) (hn1:=by rw[qax (by omega) (by omega)]) (hfu:=PFu (by omega) (by omega) (by omega) (by omega)) (hn2:=by rw[qax (by omega) (by omega)]) (hsh:=cS) (Nat.zero_le _) m1
end
end Go.Proofs.Ytalnjplghagbpaa

namespace Go.Proofs.Ytalnjplghagbpaa
set_option maxRecDepth 100000
open Go.ChangeShapes Go.WideShapes Go.ChangeAt Go.RowKit Go.Joins Go.Deep
section
variable {H:Type} {enc:TypeId×Value→H} {W:World} {base:Nat} {spare:Nat→Bool} {held:Bool}
end
section
variable {W:World} {f:FuncId} {s l m:List Pt} {x y:Int} {u v w:Value} {vs:List Value} {t i:Value}
theorem qtr (h:Fn f 1 (qay 0 s::.pv t::vs.map .pv) [(0,0,qah s)] (.pv (.bool true)) 0 []) (hs:Rd W 3 u s.length (qaq s)) :
 Calls Try.prog f (.agg #[u]::t::vs).toArray W fun e W'=>e=.returned (.bool true)∧Gr W W':=
 qk4 (rs:=[(80,3,s.length,qaq s)]) (us:=[u]) h (.cons hs (qeh s) .nil) ⟨⟨[u],⟨⟨rfl,hs.zsl⟩,tI⟩,rfl⟩,rfl,SV.isl_v vs⟩
end
end Go.Proofs.Ytalnjplghagbpaa

namespace Go.Proofs.Ytalnjplghagbpaa
set_option maxRecDepth 100000
open Go.RowKit
theorem qmj {β:Bl} {s:S0} {r:List S0} {us:List Value} (h:S0.isl β (s::r) us):∃ u t,us=u::t∧s.is β u∧S0.isl β r t:=by
 match us,h with
 | u::t,⟨h1,h2⟩=>exact⟨u,t,rfl,h1,h2⟩
theorem qp1 {β:Bl} {us:List Value} (h:S0.isl β [] us):us=[]:=by
 match us,h with
 | [],_=>rfl
theorem qoW {k:Nat} {β:Bl} {pre:List (Nat×Nat×SV)} {w:World} {b es n m:Nat} {e:TypeId} {xs:List Value} {v:Value} (H:HRel w k β pre w) (h:qac pre b 0=some (.row e es n xs)) (hi:(S0.ls b m).is β v):Rd w es v n xs:=by
 obtain⟨y,ey,R⟩:=H.rows b 0 e es n xs h
 rw[hi.1] at ey
 cases ey
 exact R.rd
theorem qf4 {f:FuncId} {k:Nat} {pre:List (Nat×Nat×SV)} {w:World} {β:Bl} {us:List Value} {v:Value} (H:HRel w k β pre w) (hd:β.dom k) (h:Calls Try.prog f us.toArray w fun e w'=>e=.returned v∧Gr w w') :
 Calls Try.prog f us.toArray w fun e w'=>∃ (v':Value) (β':Bl),e=.returned v'∧β.le β'∧(SV.pv v).is β' v'∧HRel w (k+0) β' [] w'∧β'.dom (k+0):=
 h.mono fun _ _ ⟨he,hg⟩=>⟨_,β,he,Bl.le_refl _,rfl,(H.gr_mono hg).imp (fun _ _ _ h=>(by cases h)),hd⟩
theorem qfM {W:World} {f:FuncId} {us:List Value} {rs:List (TypeId×Nat×Nat×List Value)} {args:List SV} {vs:List Value} {v:Value} (h:Fn f rs.length args (qdS 0 rs) (.pv v) 0 []) (hr:ZIns W us rs) (ha:SV.isl (qhv us) args vs) :
 Calls Try.prog f vs.toArray W fun e W'=>e=.returned v∧Gr W W':=by
 refine (h W (qhv us) vs (qhj hr) (qgH hr) ha).mono fun e W' ⟨v,β',he,_,hx,hh,_⟩=>?_
 cases hx
 exact⟨he,hh.gr⟩
theorem qi3 {w:World} {es n n' k nn c c':Nat} {a a':Option Addr} {xs:List Value} (R:Rd w es (.slice a nn c) n xs) (hk:k+n'≤nn) (hc:n'≤c') (hp:0<n'→∃ r o,a=some ⟨r,o,none⟩∧a'=some ⟨r,o+k*es,none⟩) :
 Rd w es (.slice a' n' c') n' ((xs.drop (k*es)).take (n'*es)):=by
 obtain⟨hl,a2,c2,he,hnc,hrd⟩:=R
 have e1:=he
 simp only[Value.slice.injEq] at e1
 obtain⟨rfl,rfl,rfl⟩:=e1
 have hm:(k+n')*es≤nn*es:=Nat.mul_le_mul_right es hk
 rw[Nat.add_mul] at hm
 have hlen:((xs.drop (k*es)).take (n'*es)).length=n'*es:=by rw[List.length_take,List.length_drop];omega
 rcases Nat.eq_zero_or_pos n' with h0 | h0
 ·subst h0
  refine⟨hlen,a',c',rfl,hc,fun j v hj=>?_⟩
  rw[Nat.zero_mul,List.take_zero] at hj
  simp at hj
 ·obtain⟨r,o,ea,ea'⟩:=hp h0
  subst ea ea'
  refine⟨hlen,_,_,rfl,hc,fun j v hj=>⟨r,o+k*es,rfl,?_⟩⟩
  have hj':xs[k*es+j]?=some v:=by
   rw[List.getElem?_take] at hj
   split at hj
   ·rw[List.getElem?_drop] at hj;exact hj
   ·cases hj
  obtain⟨r',o',er,hcell⟩:=hrd _ v hj'
  cases er
  rw[show o+k*es+j=o+(k*es+j) by omega]
  exact hcell
theorem qkt (l:List Pt) (n:Nat):(qaq l).take (n*3)=qaq (l.take n):=by
 rcases Nat.lt_or_ge n l.length with h | h
 ·have e:qaq l=qaq (l.take n)++qaq (l.drop n):=by rw[← qch,List.take_append_drop]
  rw[e,List.take_append_of_le_length (by rw[qaT,List.length_take];omega),List.take_of_length_le (by rw[qaT,List.length_take];omega)]
 ·rw[List.take_of_length_le (by rw[qaT];omega),List.take_of_length_le h]
theorem qtj {r:Int} {n:Nat} {l:List Pt} (hn:n≤l.length) (hl:l.length≤1000000):Fn 22 2 [.ag [.pv (iV r),.lq 0 3 0 n],trS 1 r (l.take n)] [(0,0,qae l),(1,0,qae (l.take n))] (.pv (.bool true)) 0 []:=by
 have h:=qlS (rt:=r) (l:=l.take n) (by rw[List.length_take];omega)
 have hlen:(l.take n).length=n:=by rw[List.length_take];omega
 intro w β us H hd hi
 match us,hi with
 | [a,c],⟨⟨ws,hws,ha⟩,⟨wt,ht,hb⟩,_⟩=>
 obtain⟨u,r',ew,hu,k1⟩:=qmj hws
 obtain⟨y,r3,ew3,⟨a',nn,cc,a'',c',hg,hle,hc',hy,hp⟩,k3⟩:=qmj k1
 have er:=qp1 k3
 obtain⟨u2,r2,ew2,hu2,k2⟩:=qmj ht
 obtain⟨y2,r4,ew4,hy2,k4⟩:=qmj k2
 have er4:=qp1 k4
 have hu':u=iV r:=hu
 have hu2':u2=iV r:=hu2
 subst er ew3 er4 ew4 ew ew2 ha hb hy hu' hu2'
 obtain⟨y0,e0,R0⟩:=H.rows 0 0 _ _ _ _ rfl
 rw[hg] at e0
 cases e0
 have R1:=qi3 R0.rd hle hc' hp
 rw[Nat.zero_mul,List.drop_zero,qkt] at R1
 have R2:=qoW H rfl hy2
 rw[hlen] at R2
 have h2:Fn 22 2 [.ag [.pv (iV r),.ls 0 n],.ag [.pv (iV r),.ls 1 n]] [(0,0,.row 26 3 n (qaq (l.take n))),(1,0,.row 26 3 n (qaq (l.take n)))] (.pv (.bool true)) 0 []:=by
  have e:∀ b,trS b r (l.take n)=.ag [.pv (iV r),.ls b n]:=fun b=>by rw[trS,hlen]
  have e2:qae (l.take n)=.row 26 3 n (qaq (l.take n)):=by rw[qae,hlen]
  rw[e,e,e2] at h
  exact h
 exact qf4 (us:=[_,_]) H hd (qfM (rs:=[(26,3,n,qaq (l.take n)),(26,3,n,qaq (l.take n))]) (us:=[_,y2]) h2 (.cons R1 (qeh _) (.cons R2 (qeh _) .nil))
  ⟨⟨[_,_],⟨rfl,⟨rfl,R1.zsl⟩,tI⟩,rfl⟩,⟨[_,_],⟨rfl,⟨rfl,R2.zsl⟩,tI⟩,rfl⟩,tI⟩)
section
variable {s l:List Pt} {tn td rt:Int}
theorem qqH (hs:Val s) {T:Sh Nat} (h:OfSh s tn td T):VT ⟨rtI T,ofN s T⟩:=by
 obtain⟨hf,_⟩:=qdc hs h
 have hl:=qce (s:=s) T
 refine⟨by show (ofN s T).length≤64;rw[hl];exact hs.len,fun p hp=>?_,T,hf⟩
 obtain⟨k,hk⟩:=List.getElem?_of_mem hp
 have hkl:=qal hk
 rw[hl] at hkl
 have e:=qfe T hkl
 rw[qaw hk,qaw (qag hkl)] at e
 have:=qbL.1 (hs.ok _ (List.mem_of_getElem? (qag hkl)))
 omega
theorem qjs {R:Int→Int→Prop} {Q:Nat→Nat→Prop} {f:Nat→Int}:∀ {T:Sh Nat},(∀ a∈T.list,∀ b∈T.list,Q a b→R (f a) (f b))→T.HO Q→(T.map f).HO R
 | .nil,_,_=>tI
 | .node a k b,h,⟨h1,h2,h3,h4⟩=>by
  have mk:k∈(Sh.node a k b).list:=List.mem_append_right _ List.mem_cons_self
  refine⟨fun y hy=>?_,fun y hy=>?_,qjs (fun x hx y hy=>h x (List.mem_append_left _ hx) y (List.mem_append_left _ hy)) h3,qjs (fun x hx y hy=>h x (List.mem_append_right _ (List.mem_cons_of_mem _ hx)) y (List.mem_append_right _ (List.mem_cons_of_mem _ hy))) h4⟩
  ·rw[Sh.map_list] at hy
   obtain⟨c,hc,rfl⟩:=List.mem_map.1 hy
   exact h k mk c (List.mem_append_left _ hc) (h1 c hc)
  ·rw[Sh.map_list] at hy
   obtain⟨c,hc,rfl⟩:=List.mem_map.1 hy
   exact h k mk c (List.mem_append_right _ (List.mem_cons_of_mem _ hc)) (h2 c hc)
theorem ids_range:(List.range s.length).map (idN s)=s.map Pt.id:=by
 apply List.ext_getElem?
 intro j
 by_cases h:j<s.length
 ·rw[List.getElem?_map,List.getElem?_range h,List.getElem?_map,qag h]
  show some (idN s j)=some (ndT s j).id
  rw[qaw (qag h)]
 ·rw[List.getElem?_eq_none (by simp;omega),List.getElem?_eq_none (by simp;omega)]
theorem qn1 (hs:Val s) {T:Sh Nat} (h:OfSh s tn td T):TreeOf s tn td (idT (ofN s T) T):=by
 have e:idT (ofN s T) T=T.map (idN s):=by
  unfold idT
  have:∀ S:Sh Nat,(∀ k∈S.list,k<s.length)→S.map (idN (ofN s T))=S.map (idN s):=by
   intro S
   induction S with
   | nil=>intro _;rfl
   | node a k b iha ihb=>
    intro hk
    show Sh.node _ _ _=Sh.node _ _ _
    rw[iha fun y hy=>hk y (List.mem_append_left _ hy),ihb fun y hy=>hk y (List.mem_append_right _ (List.mem_cons_of_mem _ hy)),qfe T (hk k (List.mem_append_right _ List.mem_cons_self))]
  exact this T fun k hk=>by rw[h.list] at hk;exact List.mem_range.1 hk
 rw[e]
 refine⟨by rw[Sh.map_list,h.list];exact ids_range,qjs (fun a ha b hb hab=>?_) h.ho⟩
 rw[h.list] at ha hb
 have ha:=List.mem_range.1 ha
 have hb:=List.mem_range.1 hb
 show ld tn td (ptI s (idN s a)) (ptI s (idN s b))=true
 rw[qaw (qag ha),qaw (qag hb),qbQ hs (List.mem_of_getElem? (qag ha)),qbQ hs (List.mem_of_getElem? (qag hb))]
 exact hab
end
end Go.Proofs.Ytalnjplghagbpaa

namespace Go.Proofs.Ytalnjplghagbpaa
set_option maxRecDepth 100000
open Go.RowKit
theorem qeu {f:FuncId} {v:Value} (h:Fn f 0 [] [] (.pv v) 0 []):Pure Try.prog f #[] v:=by
 intro w
 have H0:HRel w 0 Bl.no [] w:=⟨Gr.refl w,fun _ _ e=>(by cases e),fun _ _ _ e=>(by cases e),fun _ _ _ e=>(by cases e),fun _ _ e=>(by cases e),fun _ _ _ e=>(by cases e),fun _ _ _ _ _ _ e=>(by cases e),fun _ _ _ _ _ _ _ _ _ _ _ _ _ _ e=>(by cases e),fun _ _ _ e=>(by cases e)⟩
 refine (h w Bl.no [] H0 (fun _ _=>⟨rfl,rfl⟩) tI).mono fun e w' ⟨u,β',he,_,hx,hh,_⟩=>?_
 cases hx
 exact⟨he,hh.gr⟩
abbrev shA:Sh Nat:=.node (.node .nil 0 .nil) 1 (.node .nil 2 .nil)
abbrev shB:Sh Nat:=.node .nil 0 (.node .nil 1 (.node .nil 2 .nil))
theorem qfX:Val qbH:=
 ⟨by decide,by decide,fun k p q hp hq=>by
  match k,hp,hq with
  | 0,hp,hq=>simp[qbH] at hp hq;subst hp hq;decide
  | 1,hp,hq=>simp[qbH] at hp hq;subst hp hq;decide
  | n+2,_,hq=>simp[qbH] at hq⟩
theorem qso:OfSh qbH 0 1 shA:=
 ⟨⟨fun y hy=>by (simp[Sh.list] at hy;subst hy;rfl),fun y hy=>by (simp[Sh.list] at hy;subst hy;rfl),⟨fun y hy=>by (simp[Sh.list] at hy),fun y hy=>by (simp[Sh.list] at hy),tI,tI⟩,⟨fun y hy=>by (simp[Sh.list] at hy),fun y hy=>by (simp[Sh.list] at hy),tI,tI⟩⟩,rfl⟩
theorem qnW:OfSh qbH 2 1 shB:=
 ⟨⟨fun y hy=>by (simp[Sh.list] at hy),fun y hy=>by (simp[Sh.list] at hy;rcases hy with rfl | rfl<;>rfl),tI,⟨fun y hy=>by (simp[Sh.list] at hy),fun y hy=>by (simp[Sh.list] at hy;subst hy;rfl),tI,⟨fun y hy=>by (simp[Sh.list] at hy),fun y hy=>by (simp[Sh.list] at hy),tI,tI⟩⟩⟩,rfl⟩
abbrev qqR:List Pt:=[Pt.mk (1) (-1) (1),Pt.mk (2) (-1) (2),Pt.mk (5) (-1) (-1)]
theorem qrg:Fits ⟨0,qqR⟩ shB∧Up qqR:=qdc qfX qnW
theorem qpq:chE ⟨0,qqR⟩=0:=qe0 (qqH qfX qnW)
theorem qp7:qog qqR 2 1:=⟨by decide,fun j hj=>by
 match j,hj with
 | 0,_=>exact⟨fun _=>by decide,fun _=>by decide⟩
 | 1,_=>exact⟨fun h=>by omega,fun h=>absurd h (by decide)⟩
 | 2,_=>exact⟨fun h=>by omega,fun h=>absurd h (by decide)⟩
 | n+3,h=>exact absurd h (by simp)⟩
theorem qm5 {tn:Int} {T:Sh Nat} (hn:I64 tn) (ht:okB tn 1=true) (h:OfSh qbH tn 1 T) :
 Fn 18 1 [qay 0 qbH,.pv (qaa tn 1)] [(0,0,qah qbH)] (.tu [.ag [.pv (iV (rtI T)),.ls 1 (ofN qbH T).length],.one (.pv (iV 0))]) 1 [(1,0,qae (ofN qbH T))]:=by
 obtain⟨r,n,_,hs,p,_⟩:=qi7 hn (td:=1) ⟨by decide,by decide⟩ qbH
 have e:=qht qfX ht
 obtain⟨rfl,rfl⟩:=hs e T h
 rw[e] at p
 exact p
theorem qel:Pure Try.prog 24 #[] (.bool true):=by
 obtain⟨hf,hu⟩:=qrg
 obtain⟨v,e,hv,hd,_⟩:=qdT (rt:=0) (z:=5) (l:=qqR) (by decide)
 obtain⟨rfl,rfl⟩:=(hv qpq shB hf).1 (by decide)
 have sp:=qqd (z:=2) (m:=1) (by decide) hf qpq hu qp7
 rw[← qg8 hf hu (by decide)] at sp
 have h:=qsM (hg:=qsF) (hat0:=qq9) (h1:=qm5 (tn:=0) ⟨by decide,by decide⟩ rfl qso) (hat2:=qq9) (h2:=qm5 (tn:=2) ⟨by decide,by decide⟩ rfl qnW) (hd:=hd) (hs:=sp) (hc:=qsO) (q1:=qlS (by decide)) (q2:=qlS (by decide)) (q3:=qtj (n:=1) (l:=[Pt.mk (1) (-1) (-1),Pt.mk (2) (-1) (2),Pt.mk (5) (-1) (-1)]) (by decide) (by decide)) (q4:=qlS (by decide))
 exact qeu h
section
variable {s l:List Pt} {tn td rt:Int}
theorem qtp (htn:I64 tn) (htd:I64 td) (s:List Pt):Fn 38 1 [qay 0 s,.pv (qaa tn td)] [(0,0,qah s)] (.pv (.bool false)) 0 []∨
 (Fn 38 1 [qay 0 s,.pv (qaa tn td)] [(0,0,qah s)] (.pv (.bool true)) 0 []∧Val s∧okB tn td=true):=by
 rcases qjp s with ⟨_,hg⟩ | ⟨_,hg⟩
 ·exact Or.inl (qiQ (hgf:=hg))
 have hT:=qfC htn htd s
 by_cases h0:qeK s=0
 ·by_cases ht:okB tn td=true
  ·have hs:=qgn.1 h0
   rw[qht hs ht] at hT
   exact Or.inr ⟨qnJ (hgf:=hg) (ht:=hT),hs,ht⟩
  ·have e:tE s tn td=8:=by unfold tE;rw[if_pos h0,if_neg ht]
   rw[e] at hT
   exact Or.inl (qgJ (hgf:=hg) (ht:=hT) (he:=by decide))
 ·have e:tE s tn td=qeK s:=by unfold tE;rw[if_neg h0]
  rw[e] at hT
  exact Or.inl (qgJ (hgf:=hg) (ht:=hT) (he:=beq_eq_false_iff_ne.2 h0))
end
end Go.Proofs.Ytalnjplghagbpaa

namespace Go.Proofs.Ytalnjplghagbpaa
set_option maxRecDepth 100000
open Go.RowKit
section
variable {s:List Pt} {tn td z:Int}
theorem qmW (hv:Val s) (htn:I64 tn) (htd:I64 td) (ht:okB tn td=true) (hne:0<s.length):∃ t m,Srt s tn td t∧t[0]?=some m∧Fn 42 1 [qay 0 s,.pv (qaa tn td)] [(0,0,qah s)] (.pv (.tuple #[iV m.id,iV 0])) 0 []:=by
 obtain⟨t,hs⟩:=qkM (tn:=tn) (td:=td) hv
 obtain⟨m,hm⟩:=qap (l:=t) (k:=0) (by rw[hs.len];exact hne)
 have h:=qiX htn htd s
 rw[qht hv ht] at h
 exact⟨t,m,hs,hm,qkj h (by rw[beq_eq_false_iff_ne];omega) (qoL hv ⟨htn,htd,ht⟩ hs hm)⟩
theorem qgu (htn:I64 tn) (htd:I64 td) (ht:okB tn td=true):Fn 42 1 [qay 0 [],.pv (qaa tn td)] [(0,0,qah [])] (.pv (.tuple #[iV 0,iV 42])) 0 []:=by
 have h:=qiX htn htd []
 rw[qht ⟨by decide,fun p hp=>by (cases hp),fun k p q hp=>by simp at hp⟩ ht] at h
 exact qlg h (by decide)
theorem qc8 (hs:Val s) {a b:Nat} (ha:a<s.length) (hb:b<s.length):idN s a≤idN s b↔a≤b:=by
 constructor
 ·intro h
  rcases Nat.lt_or_ge b a with c | c
  ·have:=qgR hs c ha;omega
  ·exact c
 ·intro h
  rcases Nat.eq_or_lt_of_le h with c | c
  ·rw[c];exact Int.le_refl _
  ·have:=qgR hs c hb;omega
theorem qpS (hs:Val s) {a b:Nat} (ha:a<s.length) (hb:b<s.length):RI s tn td (idN s a) (idN s b)↔ld tn td (ndT s a) (ndT s b)=true:=by
 unfold RI
 rw[qaw (qag ha),qaw (qag hb),qbQ hs (List.mem_of_getElem? (qag ha)),qbQ hs (List.mem_of_getElem? (qag hb))]
theorem qre (hs:Val s) {i j:Nat} (hi:i<s.length) (hj:j<s.length):Sh.Rul (RI s tn td) (s.map Pt.id) (idN s i) (idN s j)↔RuI s tn td i j:=by
 constructor
 ·intro h k k1 k2 k3
  have hk:k<s.length:=by omega
  have m1:=qc8 hs hi hk
  have m2:=qc8 hs hj hk
  have m3:=qc8 hs hk hi
  have m4:=qc8 hs hk hj
  have m5:=qc8 hs hi hj
  refine (qpS hs hi hk).1 (h (idN s k) (by rw[← ids_range];exact List.mem_map_of_mem (List.mem_range.2 hk)) ⟨by omega,by omega⟩ fun e=>k3 ?_)
  omega
 ·intro h c hc hb hne
  rw[← ids_range] at hc
  obtain⟨k,hk,rfl⟩:=List.mem_map.1 hc
  have hk:=List.mem_range.1 hk
  have m1:=qc8 hs hi hk
  have m2:=qc8 hs hj hk
  have m3:=qc8 hs hk hi
  have m4:=qc8 hs hk hj
  have m5:=qc8 hs hi hj
  exact (qpS hs hi hk).2 (h k (by omega) (by omega) fun e=>hne (by rw[e]))
open Classical in
noncomputable def qfF (s:List Pt) (tn td:Int) (j k:Nat):Nat:=((List.range k).filter fun i=>decide (i≠j∧RuI s tn td i j)).length
open Classical in
theorem qdK (j k:Nat):qfF s tn td j (k+1)=qfF s tn td j k+if k≠j∧RuI s tn td k j then 1 else 0:=by
 unfold qfF
 rw[List.range_succ,List.filter_append,List.length_append]
 split
 ·rename_i h
  rw[List.filter_cons_of_pos (by simpa using h)]
  rfl
 ·rename_i h
  rw[List.filter_cons_of_neg (by simpa using h)]
  rfl
theorem qn7 (j k:Nat):qfF s tn td j k≤k:=by
 unfold qfF
 exact Nat.le_trans (List.length_filter_le _ _) (by rw[List.length_range];exact Nat.le_refl _)
open Classical in
theorem qob (hs:Val s) {S:Sh Int} (h:TreeOf s tn td S) {j:Nat} (hj:j<s.length):Sh.dep (idN s j) S=qfF s tn td j s.length:=by
 rw[h.dep hs (by rw[← ids_range];exact List.mem_map_of_mem (List.mem_range.2 hj))]
 unfold qfF
 have e:(s.map Pt.id)=(List.range s.length).map (idN s):=ids_range.symm
 conv=>lhs;rw[show ∀ q:Int→Bool,(s.map Pt.id).filter q=((List.range s.length).map (idN s)).filter q from fun q=>by rw[e]]
 rw[List.filter_map,List.length_map]
 congr 1
 refine List.filter_congr fun i hi=>?_
 have hi:=List.mem_range.1 hi
 have m1:=qc8 hs hi hj
 have m2:=qc8 hs hj hi
 show decide _=decide _
 rw[decide_eq_decide,qre hs hi hj]
 exact⟨fun ⟨a,b⟩=>⟨fun e=>a (by rw[e]),b⟩,fun ⟨a,b⟩=>⟨fun e=>a (by omega),b⟩⟩
abbrev toT (x y:Int) (j n k:Nat):List (Nat×SV):=[(3,.pp 1 0),(4,.pp 2 0),(7,.pp 4 0),(9,.pv (iV x)),(11,.pv (iV y)),(13,.pv (iV (j:Int))),(14,.pv (iV (n:Int))),(15,.pv (iV (k:Int)))]
abbrev toH (r1 tn td:Int) (s n1:List Pt):List (Nat×Nat×SV):=[(1,0,.ls 0 s.length),(2,0,.pv (iV tn)),(2,1,.pv (iV td)),(4,0,.pv (iV r1)),(4,1,.ls 3 n1.length),(0,0,qah s),(3,0,qae n1)]
theorem qoo (htn:I64 tn) (htd:I64 td):Fn 8 1 [qay 0 s,.pv (qaa tn td),.pv (iV z)] [(0,0,qah s)] (.pv (.bool true)) 0 []:=by
 rcases qtp htn htd s with hft | ⟨hft,hs,ht⟩
 ·exact qj3 (hft:=hft) (hal:=qel)
 have hsl:=hs.len
 obtain⟨S,hS⟩:=qke (tn:=tn) (td:=td) hs
 obtain⟨hf,hu⟩:=qdc hs hS
 have hT:=qn1 hs hS
 have hnl:=qce (s:=s) S
 have h0:=qe0 (qqH hs hS)
 have ho:Fn 18 1 [qay 0 s,.pv (qaa tn td)] [(0,0,qah s)] (.tu [.ag [.pv (iV (rtI S)),.ls 1 (ofN s S).length],.one (.pv (iV 0))]) 1 [(1,0,qae (ofN s S))]:=by
  obtain⟨r,n,_,hsp,p,_⟩:=qi7 htn htd s
  have e:=qht hs ht
  obtain⟨rfl,rfl⟩:=hsp e S hS
  rw[e] at p
  exact p
 have hc:=qs1 (rt:=rtI S) (l:=ofN s S) (by omega)
 rw[h0] at hc
 obtain⟨v,e,hd,d1,_⟩:=qdT (rt:=rtI S) (l:=ofN s S) (z:=z) (by omega)
 obtain⟨hd1,hd2⟩:=hd h0 S hf
 have hln:(((ofN s S).length:Int) !=(s.length:Int))=false:=by simp;omega
 by_cases hz:z∈s.map Pt.id
 ·obtain⟨q,hq,he⟩:=List.mem_map.1 hz
  obtain⟨j,hj⟩:=List.getElem?_of_mem hq
  have hjl:=qal hj
  have hzi:idN s j=z:=by rw[qaw hj];exact he
  obtain⟨rfl,rfl⟩:=hd1 (by rw[hT.ids];exact hz)
  obtain⟨t,m,ht1,ht2,hl⟩:=qmW hs htn htd ht (by omega)
  have htop:=hT.top_is hs ht1 ht2
  have hdep:Sh.dep z (idT (ofN s S) S)=qfF s tn td j s.length:=by rw[← hzi];exact qob hs hT hjl
  rw[hdep] at d1
  have loop:=RunsL.roundsZ (P:=Try.prog) (fun k=>toT m.id (qfF s tn td j s.length:Nat) j (qfF s tn td j k) k) (fun _=>toH (rtI S) tn td s (ofN s S)) (N:=s.length) s.length 0 (Nat.zero_add _) (fun k _ hk r=>by
   by_cases hkj:k=j
   ·have ec:qfF s tn td j (k+1)=qfF s tn td j k:=by rw[qdK,if_neg fun h=>h.1 hkj];rfl
    rw[ec] at r
    exact qlB (hlt:=dt (by omega)) (hne:=by simp;omega) (hs:=qak (by omega)) r
   ·have hr:=qqm htn htd ht hs (i:=k) (j:=j) (by omega) hjl
    have hle:=qn7 (s:=s) (tn:=tn) (td:=td) j k
    by_cases hru:RuI s tn td k j
    ·have ec:qfF s tn td j (k+1)=qfF s tn td j k+1:=by rw[qdK,if_pos ⟨hkj,hru⟩]
     rw[ec] at r
     rw[qin hru] at hr
     exact qlM (hlt:=dt (by omega)) (hne:=by simp;omega) (hr:=hr) (hn1:=qak (by omega)) (hs:=qak (by omega)) r
    ·have ec:qfF s tn td j (k+1)=qfF s tn td j k:=by rw[qdK,if_neg fun h=>hru h.2];rfl
     rw[ec] at r
     rw[qiq hru] at hr
     exact qqC (hlt:=dt (by omega)) (hne:=by simp;omega) (hr:=hr) (hs:=qak (by omega)) r)
   (qnO (hlt:=df (by omega)))
  cases S with
  | nil=>
   have h1:(List.range s.length).length=0:=by rw[← hS.list];rfl
   rw[List.length_range] at h1
   omega
  | node a k b=>
   have hkl:k<(ofN s (.node a k b)).length:=(hf.mem k).1 (List.mem_append_right _ List.mem_cons_self)
   have hid:(ndT (ofN s (.node a k b)) k).id=m.id:=by
    have e:(Sh.node (idT (ofN s (.node a k b)) a) (idN (ofN s (.node a k b)) k) (idT (ofN s (.node a k b)) b)).top=some m.id:=htop
    have e2:some (idN (ofN s (.node a k b)) k)=some m.id:=e
    rw[← qaw (qag hkl)]
    exact Option.some.inj e2
   exact qlf (hft:=hft) (ho:=ho) (hl:=hl) (hd:=d1) (ha:=qpO hs hj he) (hc:=hc) (hln:=hln) (hpos:=dt (by omega)) (hj0:=dt (by omega)) (hz0:=beq_eq_false_iff_ne.2 (by omega)) (hjn:=df (by omega)) (hl0:=loop) (hix:=⟨by show (0:Int)≤(k:Int);omega,by show (k:Int)<_;omega⟩) (hk:=qag hkl) (hx:=beq_iff_eq.2 hid) (hy:=beq_iff_eq.2 rfl) (hal:=qel)
 ·obtain⟨rfl,rfl⟩:=hd2 (by rw[hT.ids];exact hz)
  have ha:=qsk (l:=s) hsl (id:=z) fun p hp e=>hz (by rw[← e];exact List.mem_map_of_mem hp)
  by_cases hn:s.length=0
  ·have e:s=[]:=List.eq_nil_of_length_eq_zero hn
   have hl:Fn 42 1 [qay 0 s,.pv (qaa tn td)] [(0,0,qah s)] (.pv (.tuple #[iV 0,iV 42])) 0 []:=by
    rw[e];exact qgu htn htd ht
   exact qit (hft:=hft) (ho:=ho) (hl:=hl) (hd:=d1) (ha:=ha) (hc:=hc) (hln:=hln) (hpos:=df (by omega)) (hz0:=beq_iff_eq.2 (by omega)) (hal:=qel)
  ·obtain⟨t,m,_,_,hl⟩:=qmW hs htn htd ht (by omega)
   exact qlC (hft:=hft) (ho:=ho) (hl:=hl) (hd:=d1) (ha:=ha) (hc:=hc) (hln:=hln) (hpos:=dt (by omega)) (hz0:=beq_eq_false_iff_ne.2 (by omega)) (hal:=qel)
theorem qkB (s:List Pt) (tn td:Int) (htn:I64 tn) (htd:I64 td) (z:Int):Fn 8 1 [qay 0 s,.pv (qaa tn td),.pv (iV z)] [(0,0,qah s)] (.pv (.bool true)) 0 []:=qoo htn htd
end
end Go.Proofs.Ytalnjplghagbpaa
