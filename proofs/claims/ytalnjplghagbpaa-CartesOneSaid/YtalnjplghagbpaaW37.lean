/-
  Joined: Ek, Er, El, Em. Conditions: none.
-/
import Derived.Test.YtalnjplghagbpaaEj
import Derived.Test.YtalnjplghagbpaaW29
import Derived.Test.YtalnjplghagbpaaW19
import Derived.Test.YtalnjplghagbpaaZj
import Derived.Test.YtalnjplghagbpaaW24
import Derived.Test.YtalnjplghagbpaaW27
import Derived.Deep.Strs
import Derived.Test.YtalnjplghagbpaaW34
import Derived.Test.YtalnjplghagbpaaW30
import Derived.Test.YtalnjplghagbpaaW28
namespace Go.Proofs.Ytalnjplghagbpaa
set_option maxRecDepth 100000
open Go.RowKit
section
variable {P:Program} {f:FuncId} {args:List SV} {pre:List (Nat×Nat×SV)} {e:Int}
end
section
variable {rt z:Int} {l:List Pt} {T:Sh Nat}
theorem quJ:∀ X:Sh Nat,shI 0 (rtI X)=rtI X
 | .nil=>rfl
 | .node a k b=>by
  show (if (k:Int)<0 then -1 else (k:Int)-((0:Nat):Int))=(k:Int)
  rw[if_neg (by omega)]
  omega
theorem qiR {m:Nat}:∀ X:Sh Nat,fuI (0-(m:Int)) (rtI X)=shI m (rtI X)
 | .nil=>rfl
 | .node a k b=>by
  show (if (k:Int) = -1 then -1 else (k:Int)+(0-(m:Int)))=(if (k:Int)<0 then -1 else (k:Int)-(m:Int))
  rw[if_neg (by omega),if_neg (by omega)]
  omega
theorem qnG {m:Nat} (h:Fits ⟨rt,l⟩ T) (hu:Up l) {j:Nat} (hj:j<l.length):∃ A B,Rep l (ndT l j).a A∧Rep l (ndT l j).b B∧(∀ y∈A.list,y<l.length)∧(∀ y∈B.list,y<l.length)∧
 (ptM m l.length T l)[j]?=some (if j<m then ⟨(ndT l j).id,rtI (res 0 m A),rtI (res 0 m B)⟩ else ⟨(ndT l j).id,rtI (res m l.length A),rtI (res m l.length B)⟩):=by
 have hr:T.list=List.range l.length:=h.range hu
 have hm:j∈T.list:=by rw[hr];exact List.mem_range.2 hj
 obtain⟨A,B,h1,h2,_,_⟩:=h.rep.sub2 j hm
 have hw:T.list.Pairwise (· < ·):=by rw[hr];exact List.pairwise_lt_range
 have e:=qki (N:=l.length) (m:=m) h.rep rfl hw j hm A B h1 h2
 exact⟨A,B,h1,h2,h1.lt,h2.lt,by rw[← e];exact qal (by rw[(qa5 T l).len];exact hj)⟩
theorem qhr {m:Nat} (h:Fits ⟨rt,l⟩ T) (hu:Up l) (hm:m≤l.length):shN (0-(m:Int)) ((ptM m l.length T l).drop m)=ptL l m l.length l.length:=by
 have hlen:(ptM m l.length T l).length=l.length:=(qa5 T l).len
 apply List.ext_getElem?
 intro j
 by_cases hj:m+j<l.length
 ·obtain⟨A,B,h1,h2,_,_,e⟩:=qnG (m:=m) h hu hj
  have e2:=qqv (l:=l) (n:=m) (j:=l.length) (k:=m+j) (by omega) hj
  rw[Nat.add_sub_cancel_left] at e2
  unfold shN
  rw[List.getElem?_map,List.getElem?_drop,e,e2,if_neg (by omega)]
  unfold ptN
  rw[qnb h1,qnb h2,← qiR,← qiR]
  rfl
 ·rw[List.getElem?_eq_none (by rw[qeO,List.length_drop];omega),List.getElem?_eq_none (by rw[qn4];omega)]
theorem qoQ {m:Nat} (hl:l.length≤999999) (h:Fits ⟨rt,l⟩ T) (hu:Up l):qtn (ptM m l.length T l):=by
 intro p hp
 obtain⟨j,hj⟩:=List.getElem?_of_mem hp
 have hjl:=qam hj
 rw[(qa5 T l).len] at hjl
 obtain⟨A,B,_,_,h3,h4,e⟩:=qnG (m:=m) h hu hjl
 rw[hj] at e
 have r1:=qdr (l:=l) (lo:=0) (hi:=m) h3 (by omega)
 have r2:=qdr (l:=l) (lo:=0) (hi:=m) h4 (by omega)
 have r3:=qdr (l:=l) (lo:=m) (hi:=l.length) h3 (by omega)
 have r4:=qdr (l:=l) (lo:=m) (hi:=l.length) h4 (by omega)
 cases e
 split
 ·exact⟨⟨by show -3000000≤rtI _;omega,by show rtI _≤3000000;omega⟩,by show -3000000≤rtI _;omega,by show rtI _≤3000000;omega⟩
 ·exact⟨⟨by show -3000000≤rtI _;omega,by show rtI _≤3000000;omega⟩,by show -3000000≤rtI _;omega,by show rtI _≤3000000;omega⟩
theorem qr6 {m:Nat} (hl:l.length≤999999) (h:Fits ⟨rt,l⟩ T) (hc:chE ⟨rt,l⟩=0) (hu:Up l) (hm:qo2 l z m) :
 Fn 13 1 [trS 0 rt l,.pv (iV z)] [(0,0,qab l)] (.tu [.ag [.pv (iV (shI 0 (rtI (res 0 m T)))),.lq 1 3 0 m],.ag [.pv (iV (shI m (rtI (res m l.length T)))),.ls 2 (ptL l m l.length l.length).length],.one (.pv (iV 0))]) 2 [(1,0,qab (ptM m l.length T l)),(2,0,qab (ptL l m l.length l.length))]:=by
 have on:=qa5 (m:=m) (N:=l.length) T l
 have hlen:(ptM m l.length T l).length=l.length:=on.len
 have hmo:=hm
 obtain⟨m1,m2⟩:=hm
 have hr:T.list=List.range l.length:=h.range hu
 have hw:T.list.Pairwise (· < ·):=by rw[hr];exact List.pairwise_lt_range
 have cP:=qsk (rt:=rt) hl
 rw[hc] at cP
 have cO:Fn 52 1 [.ls 0 l.length] [(0,0,qab l)] (.pv (iV (0))) 0 []:=by
  rcases PCo hl with ⟨_,h⟩ | ⟨h,_⟩
  ·exact h
  ·exact (h hu).elim
 have cL:=qtZ (n:=ptM m l.length T l) hl hmo hlen fun j _=>on.id j
 have cS:=qpq (l:=ptM m l.length T l) (m:=m) (v:=0-(m:Int)) (by omega) (by omega) (fun p hp=>qoQ hl h hu p (List.mem_of_mem_drop hp)) (by omega) (by omega)
 have hlt:∀ y∈T.list,y<l.length:=h.rep.lt
 have g1:=qdr (lo:=m) (hi:=l.length) hlt (by omega)
 have e1:(qab (ptM m l.length T l))=.row 26 3 l.length (qao (ptM m l.length T l)):=by rw[qab,hlen]
 rw[e1,hlen] at cL
 rw[hlen,qhr h hu m1] at cS
 rw[e1,quJ,← qiR]
 exact qqz (p1:=⟨0,0,0⟩) (p2:=⟨0,0,0⟩) (h1:=cP) (h2:=cO) (hcl:=qq9 (by omega)) (hp:=qos h.rep rfl hw m2) (hle:=cL) (t1:=tI) (p0:=by omega) (hn1:=by rw[qay (by omega) (by omega)]) (hfu:=PFu (by omega) (by omega) (by omega) (by omega)) (hn2:=by rw[qay (by omega) (by omega)]) (hsh:=cS) (Nat.zero_le _) m1
end
end Go.Proofs.Ytalnjplghagbpaa

namespace Go.Proofs.Ytalnjplghagbpaa
set_option maxRecDepth 100000
open Go.ChangeShapes Go.WideShapes Go.ChangeAt Go.RowKit Go.Joins Go.Deep
theorem qo6:Try.prog.cellsOf 26=3:=by kernel_rfl
theorem qpA:Try.prog.cellsOf 22=1:=by kernel_rfl
theorem qlh:Try.prog.cellsOf 24=2:=by kernel_rfl
theorem qpR:Try.prog.readableRec 24=true:=by kernel_rfl
theorem qqZ:24<Try.prog.types.size:=of_decide_eq_true (by kernel_rfl)
section
variable {H:Type} {enc:TypeId×Value→H} {W:World} {base:Nat} {spare:Nat→Bool} {held:Bool}
theorem qia {fuel:Nat} {cs:List Value} {x:DataW H×List MemPlace} (h:DataW.trod enc Try.prog W base spare held fuel 22 cs=some x) :
 ∃ (u:Value) (l:List Pt),cs=[u]∧Rd W 3 u l.length (qao l):=by
 rcases open_slice Try.underlying22 h with ⟨rfl,_⟩ | ⟨a,len,cap,m,n,D,Pl,rfl,_,hlc,_,hm,_,hi⟩
 ·exact⟨_,[],rfl,⟨rfl,none,0,rfl,Nat.le_refl _,fun j v hv=>by simp[qao] at hv⟩⟩
 have hlm:len≤m:=by rw[hm];split<;>omega
 have each:∀ i,i<len→∃ p:Pt,W.cell? (a.add (i*3))=some (iV p.id)∧W.cell? (a.add (i*3+1))=some (iV p.a)∧W.cell? (a.add (i*3+2))=some (iV p.b):=by
  intro i hil
  obtain⟨cs',hc,ht⟩:=hi i (by omega)
  rw[qo6] at hc
  obtain⟨y0,y1,y2,n',_,hlen,t0,s0,s1⟩:=trod_struct3 Try.underlying26 ht
  obtain⟨_,hcl,hat⟩:=World.cells?_some hc
  match cs',hcl with
  | [c0,c1,c2],_=>
   obtain⟨pi,e0,_,w0⟩:=DataW.trod_int Try.underlying3 t0
   obtain⟨pa,e1,_,w1⟩:=DataW.trod_int Try.underlying3 s0
   obtain⟨pb,e2,_,w2⟩:=DataW.trod_int Try.underlying3 s1
   simp[quC] at e0 e1 e2
   refine⟨⟨pi,pa,pb⟩,?_,?_,?_⟩
   ·have:=hat 0 (by omega);rw[add_add] at this;simpa [e0] using this
   ·have:=hat 1 (by omega);rw[add_add] at this;simpa [e1] using this
   ·have:=hat 2 (by omega);rw[add_add] at this;simpa [e2] using this
 haveI:Inhabited Pt:=⟨⟨0,0,0⟩⟩
 obtain⟨f,hf⟩:=choose_lt (α:=Pt) each
 refine⟨_,(List.range len).map f,rfl,⟨qaP _,some a,cap,by simp,by simpa using hlc,fun j v hv=>?_⟩⟩
 obtain⟨hk,he⟩:=qno f len j v hv
 obtain⟨c0,c1,c2⟩:=hf _ hk
 have hcell:W.cell? (a.add j)=some v:=by
  have h3:j%3=0∨j%3=1∨j%3=2:=by omega
  have e:j=j/3*3+j%3:=by omega
  rcases h3 with e3 | e3 | e3<;>rw[e3] at he e<;>rw[e]<;>simp at he<;>subst he
  ·exact c0
  ·exact c1
  ·exact c2
 obtain⟨b,off,spot⟩:=a
 have hs:spot=none:=by simpa [Addr.add] using World.cell?_spot (hf 0 (by omega)).1
 subst hs
 exact⟨b,off,rfl,by rw[← Go.WideShapes.add_plain];exact hcell⟩
theorem qkr {r:Reach} {b0:Nat} {v:Value} {d:DataW H} {p:List MemPlace} (hv:Value.okWide Try.prog W r b0 24 v) (h:DataW.Trod enc Try.prog W base spare held 24 v d p) :
 ∃ (x:Int) (u:Value) (l:List Pt),v=.agg #[iV x,u]∧Rd W 3 u l.length (qao l):=by
 obtain⟨cs,rfl,hsz⟩:=okWide_struct Try.underlying24 hv
 obtain⟨fuel,hf⟩:=h
 obtain⟨y0,y1,n,_,hlen,h0,h1⟩:=trod_struct2 Try.underlying24 hf
 obtain⟨x,e0,_,_⟩:=DataW.trod_int Try.underlying3 h0
 obtain⟨u,l,hc,hr⟩:=qia h1
 refine⟨x,u,l,?_,hr⟩
 rw[qpA] at hc
 rw[quC] at e0
 have hs:cs.size=2:=hsz.trans qlh
 obtain⟨L⟩:=cs
 match L,hs with
 | [c0,c1],_=>
  simp[Value.cells] at hc e0
  rw[hc,e0]
end
section
variable {W:World} {f:FuncId} {s l m:List Pt} {x y:Int} {u v w:Value} {vs:List Value} {t i:Value}
theorem qtr (h:Fn f 2 (qax 0 s::.pv t::trS 1 x l::vs.map .pv) [(0,0,qag s),(1,0,qab l)] (.pv (.bool true)) 0 [])
 (hs:Rd W 3 u s.length (qao s)) (hl:Rd W 3 v l.length (qao l)) :
 Calls Try.prog f (.agg #[u]::t::.agg #[iV x,v]::vs).toArray W fun e W'=>e=.returned (.bool true)∧Gr W W':=
 qmI (rs:=[(80,3,s.length,qao s),(26,3,l.length,qao l)]) (us:=[u,v]) h
  (.cons hs (qdH s) (.cons hl (qdH l) .nil)) ⟨⟨[u],⟨⟨rfl,hs.zsl⟩,tI⟩,rfl⟩,rfl,⟨[iV x,v],⟨rfl,⟨rfl,hl.zsl⟩,tI⟩,rfl⟩,SV.isl_v vs⟩
end
end Go.Proofs.Ytalnjplghagbpaa

namespace Go.Proofs.Ytalnjplghagbpaa
set_option maxRecDepth 100000
open Go.RowKit
theorem qla {β:Bl} {s:S0} {r:List S0} {us:List Value} (h:S0.isl β (s::r) us):∃ u t,us=u::t∧s.is β u∧S0.isl β r t:=by
 match us,h with
 | u::t,⟨h1,h2⟩=>exact⟨u,t,rfl,h1,h2⟩
theorem qq6 {β:Bl} {us:List Value} (h:S0.isl β [] us):us=[]:=by
 match us,h with
 | [],_=>rfl
theorem qpc {k:Nat} {β:Bl} {pre:List (Nat×Nat×SV)} {w:World} {b es n m:Nat} {e:TypeId} {xs:List Value} {v:Value} (H:HRel w k β pre w) (h:qad pre b 0=some (.row e es n xs)) (hi:(S0.ls b m).is β v):Rd w es v n xs:=by
 obtain⟨y,ey,R⟩:=H.rows b 0 e es n xs h
 rw[hi.1] at ey
 cases ey
 exact R.rd
theorem qgd {f:FuncId} {k:Nat} {pre:List (Nat×Nat×SV)} {w:World} {β:Bl} {us:List Value} {v:Value} (H:HRel w k β pre w) (hd:β.dom k) (h:Calls Try.prog f us.toArray w fun e w'=>e=.returned v∧Gr w w') :
 Calls Try.prog f us.toArray w fun e w'=>∃ (v':Value) (β':Bl),e=.returned v'∧β.le β'∧(SV.pv v).is β' v'∧HRel w (k+0) β' [] w'∧β'.dom (k+0):=
 h.mono fun _ _ ⟨he,hg⟩=>⟨_,β,he,Bl.le_refl _,rfl,(H.gr_mono hg).imp (fun _ _ _ h=>(by cases h)),hd⟩
theorem qgu {W:World} {f:FuncId} {us:List Value} {rs:List (TypeId×Nat×Nat×List Value)} {args:List SV} {vs:List Value} {v:Value} (h:Fn f rs.length args (qdZ 0 rs) (.pv v) 0 []) (hr:ZIns W us rs) (ha:SV.isl (qiv us) args vs) :
 Calls Try.prog f vs.toArray W fun e W'=>e=.returned v∧Gr W W':=by
 refine (h W (qiv us) vs (qg7 hr) (qgV hr) ha).mono fun e W' ⟨v,β',he,_,hx,hh,_⟩=>?_
 cases hx
 exact⟨he,hh.gr⟩
theorem qiL {w:World} {es n n' k nn c c':Nat} {a a':Option Addr} {xs:List Value} (R:Rd w es (.slice a nn c) n xs) (hk:k+n'≤nn) (hc:n'≤c') (hp:0<n'→∃ r o,a=some ⟨r,o,none⟩∧a'=some ⟨r,o+k*es,none⟩) :
 Rd w es (.slice a' n' c') n' ((xs.drop (k*es)).take (n'*es)):=by
 obtain⟨hl,a2,c2,he,hnc,hrd⟩:=R
 have e1:=he
 simp only[Value.slice.injEq] at e1
 obtain⟨rfl,rfl,rfl⟩:=e1
 have hm:(k+n')*es≤nn*es:=Nat.mul_le_mul_right es hk
 rw[Nat.add_mul] at hm
 have hlen:((xs.drop (k*es)).take (n'*es)).length=n'*es:=by rw[List.length_take,List.length_drop];omega
 rcases Nat.eq_zero_or_pos n' with h0 | h0
 ·subst h0
  refine⟨hlen,a',c',rfl,hc,fun j v hj=>?_⟩
  rw[Nat.zero_mul,List.take_zero] at hj
  simp at hj
 ·obtain⟨r,o,ea,ea'⟩:=hp h0
  subst ea ea'
  refine⟨hlen,_,_,rfl,hc,fun j v hj=>⟨r,o+k*es,rfl,?_⟩⟩
  have hj':xs[k*es+j]?=some v:=by
   rw[List.getElem?_take] at hj
   split at hj
   ·rw[List.getElem?_drop] at hj;exact hj
   ·cases hj
  obtain⟨r',o',er,hcell⟩:=hrd _ v hj'
  cases er
  rw[show o+k*es+j=o+(k*es+j) by omega]
  exact hcell
theorem qjL (l:List Pt) (n:Nat):(qao l).take (n*3)=qao (l.take n):=by
 rcases Nat.lt_or_ge n l.length with h | h
 ·have e:qao l=qao (l.take n)++qao (l.drop n):=by rw[← qcf,List.take_append_drop]
  rw[e,List.take_append_of_le_length (by rw[qaP,List.length_take];omega),List.take_of_length_le (by rw[qaP,List.length_take];omega)]
 ·rw[List.take_of_length_le (by rw[qaP];omega),List.take_of_length_le h]
theorem quQ {r:Int} {n:Nat} {l:List Pt} (hn:n≤l.length) (hl:l.length≤1000000):Fn 22 2 [.ag [.pv (iV r),.lq 0 3 0 n],trS 1 r (l.take n)] [(0,0,qab l),(1,0,qab (l.take n))] (.pv (.bool true)) 0 []:=by
 have h:=qk3 (rt:=r) (l:=l.take n) (by rw[List.length_take];omega)
 have hlen:(l.take n).length=n:=by rw[List.length_take];omega
 intro w β us H hd hi
 match us,hi with
 | [a,c],⟨⟨ws,hws,ha⟩,⟨wt,ht,hb⟩,_⟩=>
 obtain⟨u,r',ew,hu,k1⟩:=qla hws
 obtain⟨y,r3,ew3,⟨a',nn,cc,a'',c',hg,hle,hc',hy,hp⟩,k3⟩:=qla k1
 have er:=qq6 k3
 obtain⟨u2,r2,ew2,hu2,k2⟩:=qla ht
 obtain⟨y2,r4,ew4,hy2,k4⟩:=qla k2
 have er4:=qq6 k4
 have hu':u=iV r:=hu
 have hu2':u2=iV r:=hu2
 subst er ew3 er4 ew4 ew ew2 ha hb hy hu' hu2'
 obtain⟨y0,e0,R0⟩:=H.rows 0 0 _ _ _ _ rfl
 rw[hg] at e0
 cases e0
 have R1:=qiL R0.rd hle hc' hp
 rw[Nat.zero_mul,List.drop_zero,qjL] at R1
 have R2:=qpc H rfl hy2
 rw[hlen] at R2
 have h2:Fn 22 2 [.ag [.pv (iV r),.ls 0 n],.ag [.pv (iV r),.ls 1 n]] [(0,0,.row 26 3 n (qao (l.take n))),(1,0,.row 26 3 n (qao (l.take n)))] (.pv (.bool true)) 0 []:=by
  have e:∀ b,trS b r (l.take n)=.ag [.pv (iV r),.ls b n]:=fun b=>by rw[trS,hlen]
  have e2:qab (l.take n)=.row 26 3 n (qao (l.take n)):=by rw[qab,hlen]
  rw[e,e,e2] at h
  exact h
 exact qgd (us:=[_,_]) H hd (qgu (rs:=[(26,3,n,qao (l.take n)),(26,3,n,qao (l.take n))]) (us:=[_,y2]) h2 (.cons R1 (qdH _) (.cons R2 (qdH _) .nil))
  ⟨⟨[_,_],⟨rfl,⟨rfl,R1.zsl⟩,tI⟩,rfl⟩,⟨[_,_],⟨rfl,⟨rfl,R2.zsl⟩,tI⟩,rfl⟩,tI⟩)
section
variable {s l:List Pt} {tn td rt:Int}
theorem qqS (hs:Val s) {T:Sh Nat} (h:OfSh s tn td T):VT ⟨rtI T,ofN s T⟩:=by
 obtain⟨hf,_⟩:=qcz hs h
 have hl:=qcg (s:=s) T
 refine⟨by show (ofN s T).length≤64;rw[hl];exact hs.len,fun p hp=>?_,T,hf⟩
 obtain⟨k,hk⟩:=List.getElem?_of_mem hp
 have hkl:=qam hk
 rw[hl] at hkl
 have e:=qe2 T hkl
 rw[qav hk,qav (qal hkl)] at e
 have:=qbP.1 (hs.ok _ (List.mem_of_getElem? (qal hkl)))
 omega
theorem qkv {R:Int→Int→Prop} {Q:Nat→Nat→Prop} {f:Nat→Int}:∀ {T:Sh Nat},(∀ a∈T.list,∀ b∈T.list,Q a b→R (f a) (f b))→T.HO Q→(T.map f).HO R
 | .nil,_,_=>tI
 | .node a k b,h,⟨h1,h2,h3,h4⟩=>by
  have mk:k∈(Sh.node a k b).list:=List.mem_append_right _ List.mem_cons_self
  refine⟨fun y hy=>?_,fun y hy=>?_,qkv (fun x hx y hy=>h x (List.mem_append_left _ hx) y (List.mem_append_left _ hy)) h3,qkv (fun x hx y hy=>h x (List.mem_append_right _ (List.mem_cons_of_mem _ hx)) y (List.mem_append_right _ (List.mem_cons_of_mem _ hy))) h4⟩
  ·rw[Sh.map_list] at hy
   obtain⟨c,hc,rfl⟩:=List.mem_map.1 hy
   exact h k mk c (List.mem_append_left _ hc) (h1 c hc)
  ·rw[Sh.map_list] at hy
   obtain⟨c,hc,rfl⟩:=List.mem_map.1 hy
   exact h k mk c (List.mem_append_right _ (List.mem_cons_of_mem _ hc)) (h2 c hc)
theorem qkP:(List.range s.length).map (idN s)=s.map Pt.id:=by
 apply List.ext_getElem?
 intro j
 by_cases h:j<s.length
 ·rw[List.getElem?_map,List.getElem?_range h,List.getElem?_map,qal h]
  show some (idN s j)=some (ndT s j).id
  rw[qav (qal h)]
 ·rw[List.getElem?_eq_none (by simp;omega),List.getElem?_eq_none (by simp;omega)]
theorem qoZ (hs:Val s) {T:Sh Nat} (h:OfSh s tn td T):TreeOf s tn td (idT (ofN s T) T):=by
 have e:idT (ofN s T) T=T.map (idN s):=by
  unfold idT
  have:∀ S:Sh Nat,(∀ k∈S.list,k<s.length)→S.map (idN (ofN s T))=S.map (idN s):=by
   intro S
   induction S with
   | nil=>intro _;rfl
   | node a k b iha ihb=>
    intro hk
    show Sh.node _ _ _=Sh.node _ _ _
    rw[iha fun y hy=>hk y (List.mem_append_left _ hy),ihb fun y hy=>hk y (List.mem_append_right _ (List.mem_cons_of_mem _ hy)),qe2 T (hk k (List.mem_append_right _ List.mem_cons_self))]
  exact this T fun k hk=>by rw[h.list] at hk;exact List.mem_range.1 hk
 rw[e]
 refine⟨by rw[Sh.map_list,h.list];exact qkP,qkv (fun a ha b hb hab=>?_) h.ho⟩
 rw[h.list] at ha hb
 have ha:=List.mem_range.1 ha
 have hb:=List.mem_range.1 hb
 show ld tn td (ptI s (idN s a)) (ptI s (idN s b))=true
 rw[qav (qal ha),qav (qal hb),qcb hs (List.mem_of_getElem? (qal ha)),qcb hs (List.mem_of_getElem? (qal hb))]
 exact hab
end
end Go.Proofs.Ytalnjplghagbpaa

namespace Go.Proofs.Ytalnjplghagbpaa
set_option maxRecDepth 100000
open Go.RowKit
theorem qeE {f:FuncId} {v:Value} (h:Fn f 0 [] [] (.pv v) 0 []):Pure Try.prog f #[] v:=by
 intro w
 have H0:HRel w 0 Bl.no [] w:=⟨Gr.refl w,fun _ _ e=>(by cases e),fun _ _ _ e=>(by cases e),fun _ _ _ e=>(by cases e),fun _ _ e=>(by cases e),fun _ _ _ e=>(by cases e),fun _ _ _ _ _ _ e=>(by cases e),fun _ _ _ _ _ _ _ _ _ _ _ _ _ _ e=>(by cases e),fun _ _ _ e=>(by cases e)⟩
 refine (h w Bl.no [] H0 (fun _ _=>⟨rfl,rfl⟩) tI).mono fun e w' ⟨u,β',he,_,hx,hh,_⟩=>?_
 cases hx
 exact⟨he,hh.gr⟩
abbrev shA:Sh Nat:=.node (.node .nil 0 .nil) 1 (.node .nil 2 .nil)
abbrev shB:Sh Nat:=.node .nil 0 (.node .nil 1 (.node .nil 2 .nil))
theorem qgr:Val qbQ:=
 ⟨by decide,by decide,fun k p q hp hq=>by
  match k,hp,hq with
  | 0,hp,hq=>simp[qbQ] at hp hq;subst hp hq;decide
  | 1,hp,hq=>simp[qbQ] at hp hq;subst hp hq;decide
  | n+2,_,hq=>simp[qbQ] at hq⟩
theorem qtT:OfSh qbQ 0 1 shA:=
 ⟨⟨fun y hy=>by (simp[Sh.list] at hy;subst hy;rfl),fun y hy=>by (simp[Sh.list] at hy;subst hy;rfl),⟨fun y hy=>by (simp[Sh.list] at hy),fun y hy=>by (simp[Sh.list] at hy),tI,tI⟩,⟨fun y hy=>by (simp[Sh.list] at hy),fun y hy=>by (simp[Sh.list] at hy),tI,tI⟩⟩,rfl⟩
theorem qpb:OfSh qbQ 2 1 shB:=
 ⟨⟨fun y hy=>by (simp[Sh.list] at hy),fun y hy=>by (simp[Sh.list] at hy;rcases hy with rfl | rfl<;>rfl),tI,⟨fun y hy=>by (simp[Sh.list] at hy),fun y hy=>by (simp[Sh.list] at hy;subst hy;rfl),tI,⟨fun y hy=>by (simp[Sh.list] at hy),fun y hy=>by (simp[Sh.list] at hy),tI,tI⟩⟩⟩,rfl⟩
abbrev qsi:List Pt:=[Pt.mk (1) (-1) (1),Pt.mk (2) (-1) (2),Pt.mk (5) (-1) (-1)]
theorem qqK:Fits ⟨0,qsi⟩ shB∧Up qsi:=qcz qgr qpb
theorem qqX:chE ⟨0,qsi⟩=0:=qfF (qqS qgr qpb)
theorem qsr:qo2 qsi 2 1:=⟨by decide,fun j hj=>by
 match j,hj with
 | 0,_=>exact⟨fun _=>by decide,fun _=>by decide⟩
 | 1,_=>exact⟨fun h=>by omega,fun h=>absurd h (by decide)⟩
 | 2,_=>exact⟨fun h=>by omega,fun h=>absurd h (by decide)⟩
 | n+3,h=>exact absurd h (by simp)⟩
theorem qnE {tn:Int} {T:Sh Nat} (hn:I64 tn) (ht:okB tn 1=true) (h:OfSh qbQ tn 1 T) :
 Fn 18 1 [qax 0 qbQ,.pv (qaa tn 1)] [(0,0,qag qbQ)] (.tu [.ag [.pv (iV (rtI T)),.ls 1 (ofN qbQ T).length],.one (.pv (iV 0))]) 1 [(1,0,qab (ofN qbQ T))]:=by
 obtain⟨r,n,_,hs,p,_⟩:=qje hn (td:=1) ⟨by decide,by decide⟩ qbQ
 have e:=qik qgr ht
 obtain⟨rfl,rfl⟩:=hs e T h
 rw[e] at p
 exact p
theorem qdo:Pure Try.prog 24 #[] (.bool true):=by
 obtain⟨hf,hu⟩:=qqK
 obtain⟨v,e,hv,hd,_⟩:=qiw (rt:=0) (z:=5) (l:=qsi) (by decide)
 obtain⟨rfl,rfl⟩:=(hv qqX shB hf).1 (by decide)
 have sp:=qr6 (z:=2) (m:=1) (by decide) hf qqX hu qsr
 rw[← qhr hf hu (by decide)] at sp
 have h:=qt9 (hg:=qto) (hat0:=qr5) (h1:=qnE (tn:=0) ⟨by decide,by decide⟩ rfl qtT) (hat2:=qr5) (h2:=qnE (tn:=2) ⟨by decide,by decide⟩ rfl qpb) (hd:=hd) (hs:=sp) (hc:=qtw) (q1:=qk3 (by decide)) (q2:=qk3 (by decide)) (q3:=quQ (n:=1) (l:=[Pt.mk (1) (-1) (-1),Pt.mk (2) (-1) (2),Pt.mk (5) (-1) (-1)]) (by decide) (by decide)) (q4:=qk3 (by decide))
 exact qeE h
section
variable {s l:List Pt} {tn td rt:Int}
theorem quP (htn:I64 tn) (htd:I64 td) (s:List Pt):Fn 38 1 [qax 0 s,.pv (qaa tn td)] [(0,0,qag s)] (.pv (.bool false)) 0 []∨
 (Fn 38 1 [qax 0 s,.pv (qaa tn td)] [(0,0,qag s)] (.pv (.bool true)) 0 []∧Val s∧okB tn td=true):=by
 rcases qjY s with ⟨_,hg⟩ | ⟨_,hg⟩
 ·exact Or.inl (qkC (hgf:=hg))
 have hT:=qds htn htd s
 by_cases h0:qdT s=0
 ·by_cases ht:okB tn td=true
  ·have hs:=qeU.1 h0
   rw[qik hs ht] at hT
   exact Or.inr ⟨qp4 (hgf:=hg) (ht:=hT),hs,ht⟩
  ·have e:tE s tn td=8:=by unfold tE;rw[if_pos h0,if_neg ht]
   rw[e] at hT
   exact Or.inl (qgW (hgf:=hg) (ht:=hT) (he:=by decide))
 ·have e:tE s tn td=qdT s:=by unfold tE;rw[if_neg h0]
  rw[e] at hT
  exact Or.inl (qgW (hgf:=hg) (ht:=hT) (he:=beq_eq_false_iff_ne.2 h0))
theorem quH (hl:l.length≤999999) {T:Sh Nat} (h:Fits ⟨rt,l⟩ T):Fn 40 2 [trS 0 rt l,qax 1 s] [(0,0,qab l),(1,0,qag s)] (.pv (.bool (pT ((idT l T).list=s.map Pt.id)))) 0 []:=by
 have eL:(idT l T).list=lsI l T:=by unfold idT lsI;rw[Sh.map_list]
 have hTl:T.list.length=l.length:=h.all
 have hli:Fn 66 1 [trS 0 rt l] [(0,0,qab l)] (.ls 1 (lsI l T).length) 1 [(1,0,zrI (lsI l T))]:=qoP hl h.rep (Nat.le_of_eq hTl)
 rw[zrI] at hli
 have hgl:(lsI l T).length=l.length:=by rw[qgg,hTl]
 rw[eL]
 by_cases hn:(lsI l T).length=s.length
 ·have hne:(((lsI l T).length:Int) !=(s.length:Int))=false:=by simp;omega
  have step:∀ m,m≤s.length→(∀ k,k<m→∀ x p,(lsI l T)[k]?=some x→s[k]?=some p→x=p.id)→∀ {e:Exit} {tm2:TmL} {hp2:HpL},
   Rl 2 2 40 0 32 5 ([(3,.pp 3 0),(5,.ls 4 (lsI l T).length),(6,.pv (iV (m:Int)))]) ([(3,0,.ls 1 s.length),(4,0,.row 3 1 (lsI l T).length (ziV (lsI l T))),(1,0,qag s)]) e tm2 hp2→
   Rl 2 2 40 0 32 5 ([(3,.pp 3 0),(5,.ls 4 (lsI l T).length),(6,.pv (iV ((0:Nat):Int)))]) ([(3,0,.ls 1 s.length),(4,0,.row 3 1 (lsI l T).length (ziV (lsI l T))),(1,0,qag s)]) e tm2 hp2:=by
   intro m hm hs2 e tm2 hp2 r
   refine RunsL.roundsZ (fun j=>[(3,.pp 3 0),(5,.ls 4 (lsI l T).length),(6,.pv (iV (j:Int)))]) (fun _=>[(3,0,.ls 1 s.length),(4,0,.row 3 1 (lsI l T).length (ziV (lsI l T))),(1,0,qag s)]) (N:=m) m 0 (Nat.zero_add _) (fun j _ hj r=>?_) r
   obtain⟨x,hx⟩:=qaj (l:=lsI l T) (k:=j) (by omega)
   obtain⟨p,hp⟩:=qaj (l:=s) (k:=j) (by omega)
   exact qls (hlt:=dt (by omega)) (hin:=⟨by omega,by omega⟩) (hk:=hx) (hin2:=⟨by omega,by omega⟩) (hp:=hp) (hx:=by simp[hs2 j hj x p hx hp]) (hs:=qah (by omega)) r
  rcases qaL (fun k=>∀ x p,(lsI l T)[k]?=some x→s[k]?=some p→x=p.id) s.length with hy | ⟨k,hk,hb,hf⟩
  ·have e:lsI l T=s.map Pt.id:=by
    apply List.ext_getElem?
    intro j
    by_cases hj:j<s.length
    ·obtain⟨x,hx⟩:=qaj (l:=lsI l T) (k:=j) (by omega)
     obtain⟨p,hp⟩:=qaj (l:=s) (k:=j) hj
     rw[hx,List.getElem?_map,hp,hy j hj x p hx hp]
     rfl
    ·rw[List.getElem?_eq_none (by omega),List.getElem?_eq_none (by simp;omega)]
   rw[qcH e]
   exact qpX (hli:=hli) (hne:=hne) (r0:=step s.length (Nat.le_refl _) hy (qn1 (hlt:=df (by omega))))
  ·simp only[Classical.not_forall] at hb
   obtain⟨x,p,hx,hp,hb⟩:=hb
   rw[qco fun e=>hb (by rw[e,List.getElem?_map,hp] at hx;cases hx;rfl)]
   exact qsA (hli:=hli) (hne:=hne) (r0:=step k (Nat.le_of_lt hk) hf (qoK (hlt:=dt (by omega)) (hin:=⟨by omega,by omega⟩) (hk:=hx) (hin2:=⟨by omega,by omega⟩) (hp:=hp) (hx:=by simpa using hb)))
 ·rw[qco fun e=>hn (by rw[e,List.length_map])]
  exact qn0 (hli:=hli) (hne:=by simp;omega)
theorem qgM {T:Sh Nat} (h:Fits ⟨rt,l⟩ T) (e:(idT l T).list=s.map Pt.id):∀ p∈l,∃ q∈s,q.id=p.id:=by
 intro p hp
 obtain⟨k,hk⟩:=List.getElem?_of_mem hp
 have hm:p.id∈(idT l T).list:=(qf0 h).2 ⟨k,p,hk,rfl⟩
 rw[e] at hm
 obtain⟨q,hq,e⟩:=List.mem_map.1 hm
 exact⟨q,hq,e⟩
theorem qoo {x:Int} {m:List Pt} (htn:I64 tn) (htd:I64 td):Fn 6 2 [qax 0 s,.pv (qaa tn td),trS 1 x m] [(0,0,qag s),(1,0,qab m)] (.pv (.bool true)) 0 []:=by
 rcases quP htn htd s with hft | ⟨hft,hs,ht⟩
 ·exact qkj (hft:=hft) (hal:=qdo)
 rcases qrL (rt:=x) (l:=m) with ⟨_,hgy⟩ | ⟨hm,hgy⟩
 ·exact qpv (hft:=hft) (hgy:=hgy) (hal:=qdo)
 have hsl:=hs.len
 have hm:m.length≤999999:=by omega
 obtain⟨S,hS⟩:=qgb (tn:=tn) (td:=td) hs
 obtain⟨hf,hu⟩:=qcz hs hS
 have hT:=qoZ hs hS
 have hnl:=qcg (s:=s) S
 have h0:=qfF (qqS hs hS)
 have ho:Fn 18 1 [qax 0 s,.pv (qaa tn td)] [(0,0,qag s)] (.tu [.ag [.pv (iV (rtI S)),.ls 1 (ofN s S).length],.one (.pv (iV 0))]) 1 [(1,0,qab (ofN s S))]:=by
  obtain⟨r,n,_,hsp,p,_⟩:=qje htn htd s
  have e:=qik hs ht
  obtain⟨rfl,rfl⟩:=hsp e S hS
  rw[e] at p
  exact p
 have hc1:=qqi (rt:=rtI S) (l:=ofN s S) (by omega)
 rw[h0] at hc1
 have hod:=qlv (rt:=rtI S) (l:=ofN s S) (by omega)
 rw[qcH hu] at hod
 have hh1:=quH (s:=s) (by omega) hf
 rw[qcH hT.ids] at hh1
 have ha1:=qnQ htn htd ht hs hf (by omega) (qgM hf hT.ids)
 rw[qcH hT.ho.hk] at ha1
 have hc2:=qqi (rt:=x) hm
 by_cases h1:chE ⟨x,m⟩=0
 ·rw[h1] at hc2
  obtain⟨T',hT'⟩:=VT.of h1
  have hh2:=quH (s:=s) hm hT'
  by_cases hi:(idT m T').list=s.map Pt.id
  ·rw[qcH hi] at hh2
   obtain⟨w,e,hw,sa,_⟩:=qkL (rt:=rtI S) (x:=x) (l:=ofN s S) (m:=m) (by omega) hm
   obtain⟨rfl,hwa⟩:=hw h0 h1
   have hwb:=hwa S T' hf hT'
   obtain⟨w2,e2,hw2,ri,_⟩:=qir (rt:=x) (l:=m) (s:=s) htn htd hm
   obtain⟨rfl,hw3⟩:=hw2 h1 (qik hs ht)
   have hw4:=hw3 T' S hT' hS
   have ha2:=qnQ htn htd ht hs hT' (by omega) (qgM hT' hi)
   have key:(idT (ofN s S) S=idT m T')↔(idT m T').HK (RI s tn td):=⟨fun e=>by rw[← e];exact hT.ho.hk,fun h=>hT.uniq hs ((qh1 hi).2 h)⟩
   have e1:w2=w:=by rw[hwb,hw4];exact qdh ⟨fun e=>e.symm,fun e=>e.symm⟩
   have e2:pT ((idT m T').HK (RI s tn td))=w:=by rw[hwb];exact qdh key.symm
   rw[e1] at ri
   rw[e2] at ha2
   exact qlP (hft:=hft) (hgy:=hgy) (ho:=ho) (hc1:=hc1) (hod:=hod) (hh1:=hh1) (ha1:=ha1) (hc2:=hc2) (hh2:=hh2) (hs:=sa) (hr:=ri) (ha2:=ha2) (hal:=qdo)
  ·rw[qco hi] at hh2
   exact qnZ (hft:=hft) (hgy:=hgy) (ho:=ho) (hc1:=hc1) (hod:=hod) (hh1:=hh1) (ha1:=ha1) (hc2:=hc2) (hh2:=hh2) (hal:=qdo)
 ·exact qnV (hft:=hft) (hgy:=hgy) (ho:=ho) (hc1:=hc1) (hod:=hod) (hh1:=hh1) (ha1:=ha1) (hc2:=hc2) (he:=ne0 h1) (hal:=qdo)
theorem qmy (s:List Pt) (tn td:Int) (htn:I64 tn) (htd:I64 td) (x:Int) (m:List Pt) :
 Fn 6 2 [qax 0 s,.pv (qaa tn td),trS 1 x m] [(0,0,qag s),(1,0,qab m)] (.pv (.bool true)) 0 []:=qoo htn htd
end
end Go.Proofs.Ytalnjplghagbpaa
