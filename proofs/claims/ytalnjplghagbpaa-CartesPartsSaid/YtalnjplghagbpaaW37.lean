/-
  Joined: Ek, Er, El, Em. Conditions: none.
-/
import Derived.Test.YtalnjplghagbpaaEj
import Derived.Test.YtalnjplghagbpaaW30
import Derived.Test.YtalnjplghagbpaaW19
import Derived.Test.YtalnjplghagbpaaZj
import Derived.Test.YtalnjplghagbpaaW24
import Derived.Test.YtalnjplghagbpaaW28
import Derived.Deep.Strs
import Derived.Test.YtalnjplghagbpaaW34
import Derived.Test.YtalnjplghagbpaaW29
namespace Go.Proofs.Ytalnjplghagbpaa
set_option maxRecDepth 100000
open Go.RowKit
theorem qhI {P:Program} {f:FuncId} {k m:Nat} {args:List SV} {pre post post':List (Nat×Nat×SV)} {S S':SV} (h:FnL P f k args pre S m post) (hs:∀ β v,S.is β v→S'.is β v) (hp:∀ b o sv,qad post' b o=some sv→qad post b o=some sv):FnL P f k args pre S' m post':=by
 intro w β us H hd hi
 exact (h w β us H hd hi).mono fun e w' ⟨v,β',he,hle,hx,hh,hd'⟩=>⟨v,β',he,hle,hs _ _ hx,hh.imp hp,hd'⟩
theorem qwn {b o:Nat} {sv:SV} (h:qad [(1,0,qac []),(2,0,qac [])] b o=some sv):qad [qsD (1+1),qsD 1] b o=some sv:=by
 rw[qaf,qaf] at h ⊢
 split at h
 ·rename_i e
  cases h
  rw[if_neg (by omega),if_pos e]
  rfl
 ·split at h
  ·rename_i e
   cases h
   rw[if_pos e]
   rfl
  ·cases h
section
variable {P:Program} {f:FuncId} {args:List SV} {pre:List (Nat×Nat×SV)} {e:Int}
theorem qo2 (h:FnL P f 1 args pre (.pv (.tuple #[.agg #[iV 0,.slice none 0 0],.agg #[iV 0,.slice none 0 0],iV e])) 0 []) :
 FnL P f 1 args pre (.tu [.ag [.pv (iV 0),.ls 1 ([]:List Pt).length],.ag [.pv (iV 0),.ls 2 ([]:List Pt).length],.one (.pv (iV e))]) 2 [(1,0,qac []),(2,0,qac [])]:=
 qhI (qrX h) (fun _ _ h=>h) (fun _ _ _ h=>qwn h)
theorem qty (h:FnL P f 1 args pre (.pv (.tuple #[.agg #[iV 0,.slice none 0 0],.agg #[iV 0,.slice none 0 0],iV e])) 0 []) :
 FnL P f 1 args pre (.tu [.ag [.pv (iV 0),.lq 1 3 0 0],.ag [.pv (iV 0),.ls 2 ([]:List Pt).length],.one (.pv (iV e))]) 2 [(1,0,qac []),(2,0,qac [])]:=
 qhI (qo2 h) (fun β v h=>by
  obtain⟨vs,hvs,hv⟩:=h
  match vs,hvs with
  | [a,b,c],⟨⟨ws,hws,ha⟩,hb,hc,_⟩=>
   match ws,hws with
   | [p,q],⟨hp,⟨hg,a',c',hq⟩,_⟩=>
    refine⟨[a,b,c],⟨⟨[p,q],⟨hp,⟨a',0,c',a',c',?_,Nat.le_refl _,Nat.zero_le _,hq,fun h=>absurd h (Nat.lt_irrefl 0)⟩,tI⟩,ha⟩,hb,hc,tI⟩,hv⟩
    rw[hq] at hg
    exact hg) (fun _ _ _ h=>h)
end
section
variable {rt z:Int} {l:List Pt} {T:Sh Nat}
theorem qvT:∀ X:Sh Nat,shI 0 (rtI X)=rtI X
 | .nil=>rfl
 | .node a k b=>by
  show (if (k:Int)<0 then -1 else (k:Int)-((0:Nat):Int))=(k:Int)
  rw[if_neg (by omega)]
  omega
theorem qkk {m:Nat}:∀ X:Sh Nat,fuI (0-(m:Int)) (rtI X)=shI m (rtI X)
 | .nil=>rfl
 | .node a k b=>by
  show (if (k:Int) = -1 then -1 else (k:Int)+(0-(m:Int)))=(if (k:Int)<0 then -1 else (k:Int)-(m:Int))
  rw[if_neg (by omega),if_neg (by omega)]
  omega
theorem qk2 {m:Nat} (h:Fits ⟨rt,l⟩ T) (hu:Up l) {j:Nat} (hj:j<l.length):∃ A B,Rep l (ndT l j).a A∧Rep l (ndT l j).b B∧(∀ y∈A.list,y<l.length)∧(∀ y∈B.list,y<l.length)∧
 (ptM m l.length T l)[j]?=some (if j<m then ⟨(ndT l j).id,rtI (res 0 m A),rtI (res 0 m B)⟩ else ⟨(ndT l j).id,rtI (res m l.length A),rtI (res m l.length B)⟩):=by
 have hr:T.list=List.range l.length:=h.range hu
 have hm:j∈T.list:=by rw[hr];exact List.mem_range.2 hj
 obtain⟨A,B,h1,h2,_,_⟩:=h.rep.sub2 j hm
 have hw:T.list.Pairwise (· < ·):=by rw[hr];exact List.pairwise_lt_range
 have e:=qlw (N:=l.length) (m:=m) h.rep rfl hw j hm A B h1 h2
 exact⟨A,B,h1,h2,h1.lt,h2.lt,by rw[← e];exact qah (by rw[(qa2 T l).len];exact hj)⟩
theorem qqE {m:Nat} (h:Fits ⟨rt,l⟩ T) (hu:Up l) (hm:m≤l.length):(ptM m l.length T l).take m=ptL l 0 m m:=by
 have hlen:(ptM m l.length T l).length=l.length:=(qa2 T l).len
 apply List.ext_getElem?
 intro j
 by_cases hj:j<m
 ·obtain⟨A,B,h1,h2,_,_,e⟩:=qk2 (m:=m) h hu (show j<l.length by omega)
  have e2:=qhJ (l:=l) (n:=0) (j:=m) (k:=j) (Nat.zero_le _) hj
  rw[Nat.sub_zero] at e2
  rw[List.getElem?_take_of_lt hj,e,e2,if_pos hj]
  unfold ptN
  rw[qdk h1,qdk h2,qvT,qvT]
 ·rw[List.getElem?_eq_none (by rw[List.length_take];omega),List.getElem?_eq_none (by rw[qcz];omega)]
theorem qhE {m:Nat} (h:Fits ⟨rt,l⟩ T) (hu:Up l) (hm:m≤l.length):shN (0-(m:Int)) ((ptM m l.length T l).drop m)=ptL l m l.length l.length:=by
 have hlen:(ptM m l.length T l).length=l.length:=(qa2 T l).len
 apply List.ext_getElem?
 intro j
 by_cases hj:m+j<l.length
 ·obtain⟨A,B,h1,h2,_,_,e⟩:=qk2 (m:=m) h hu hj
  have e2:=qhJ (l:=l) (n:=m) (j:=l.length) (k:=m+j) (by omega) hj
  rw[Nat.add_sub_cancel_left] at e2
  unfold shN
  rw[List.getElem?_map,List.getElem?_drop,e,e2,if_neg (by omega)]
  unfold ptN
  rw[qdk h1,qdk h2,← qkk,← qkk]
  rfl
 ·rw[List.getElem?_eq_none (by rw[qcu,List.length_drop];omega),List.getElem?_eq_none (by rw[qcz];omega)]
theorem qpl {m:Nat} (hl:l.length≤999999) (h:Fits ⟨rt,l⟩ T) (hu:Up l):qt1 (ptM m l.length T l):=by
 intro p hp
 obtain⟨j,hj⟩:=List.getElem?_of_mem hp
 have hjl:=qai hj
 rw[(qa2 T l).len] at hjl
 obtain⟨A,B,_,_,h3,h4,e⟩:=qk2 (m:=m) h hu hjl
 rw[hj] at e
 have r1:=qb3 (l:=l) (lo:=0) (hi:=m) h3 (by omega)
 have r2:=qb3 (l:=l) (lo:=0) (hi:=m) h4 (by omega)
 have r3:=qb3 (l:=l) (lo:=m) (hi:=l.length) h3 (by omega)
 have r4:=qb3 (l:=l) (lo:=m) (hi:=l.length) h4 (by omega)
 cases e
 split
 ·exact⟨⟨by show -3000000≤rtI _;omega,by show rtI _≤3000000;omega⟩,by show -3000000≤rtI _;omega,by show rtI _≤3000000;omega⟩
 ·exact⟨⟨by show -3000000≤rtI _;omega,by show rtI _≤3000000;omega⟩,by show -3000000≤rtI _;omega,by show rtI _≤3000000;omega⟩
theorem qn1 {m:Nat} (hl:l.length≤999999) (h:Fits ⟨rt,l⟩ T) (hc:chE ⟨rt,l⟩=0) (hu:Up l) (hm:qfr l z m) :
 Fn 13 1 [trS 0 rt l,.pv (iV z)] [(0,0,qac l)] (.tu [.ag [.pv (iV (shI 0 (rtI (res 0 m T)))),.lq 1 3 0 m],.ag [.pv (iV (shI m (rtI (res m l.length T)))),.ls 2 (ptL l m l.length l.length).length],.one (.pv (iV 0))]) 2 [(1,0,qac (ptM m l.length T l)),(2,0,qac (ptL l m l.length l.length))]:=by
 have on:=qa2 (m:=m) (N:=l.length) T l
 have hlen:(ptM m l.length T l).length=l.length:=on.len
 have hmo:=hm
 obtain⟨m1,m2⟩:=hm
 have hr:T.list=List.range l.length:=h.range hu
 have hw:T.list.Pairwise (· < ·):=by rw[hr];exact List.pairwise_lt_range
 have cP:=qtS (rt:=rt) hl
 rw[hc] at cP
 have cO:Fn 52 1 [.ls 0 l.length] [(0,0,qac l)] (.pv (iV (0))) 0 []:=by
  rcases PCo hl with ⟨_,h⟩ | ⟨h,_⟩
  ·exact h
  ·exact (h hu).elim
 have cL:=qu7 (n:=ptM m l.length T l) hl hmo hlen fun j _=>on.id j
 have cS:=qpn (l:=ptM m l.length T l) (m:=m) (v:=0-(m:Int)) (by omega) (by omega) (fun p hp=>qpl hl h hu p (List.mem_of_mem_drop hp)) (by omega) (by omega)
 have hlt:∀ y∈T.list,y<l.length:=h.rep.lt
 have g1:=qb3 (lo:=m) (hi:=l.length) hlt (by omega)
 have e1:(qac (ptM m l.length T l))=.row 26 3 l.length (qam (ptM m l.length T l)):=by rw[qac,hlen]
 rw[e1,hlen] at cL
 rw[hlen,qhE h hu m1] at cS
 rw[e1,qvT,← qkk]
 exact qsP (p1:=⟨0,0,0⟩) (p2:=⟨0,0,0⟩) (h1:=cP) (h2:=cO) (hcl:=qsf (by omega)) (hp:=qoT h.rep rfl hw m2) (hle:=cL) (t1:=tI) (p0:=by omega) (hn1:=by rw[qaj (by omega) (by omega)]) (hfu:=PFu (by omega) (by omega) (by omega) (by omega)) (hn2:=by rw[qaj (by omega) (by omega)]) (hsh:=cS) (Nat.zero_le _) m1
abbrev rsT (z:Int) (k:Nat):List (Nat×SV):=[(1,.pv (iV z)),(2,.pp 1 0),(4,.pp 2 0),(5,.pp 3 0),(8,.pv (iV (k:Int)))]
abbrev rsH (rt:Int) (l:List Pt):List (Nat×Nat×SV):=[(1,0,.pv (iV rt)),(1,1,.ls 0 l.length),(2,0,.pv (iV 0)),(2,1,.pv (.slice none 0 0)),(3,0,.pv (iV 0)),(3,1,.pv (.slice none 0 0)),(0,0,qac l)]
theorem qtG {m:Nat} (hl:l.length≤999999) (h:Fits ⟨rt,l⟩ T) (hc:chE ⟨rt,l⟩=0) (hu:Up l) (hm:qfr l z m) :
 Fn 36 1 [trS 0 rt l,.pv (iV z)] [(0,0,qac l)] (.tu [.ag [.pv (iV (shI 0 (rtI (res 0 m T)))),.ls 1 (ptL l 0 m m).length],.ag [.pv (iV (shI m (rtI (res m l.length T)))),.ls 2 (ptL l m l.length l.length).length],.one (.pv (iV 0))]) 2 [(1,0,qac (ptL l 0 m m)),(2,0,qac (ptL l m l.length l.length))]:=by
 obtain⟨m1,m2⟩:=hm
 have cR:=qrH (rt:=rt) hl
 rw[hc] at cR
 have cO:=qdy (rt:=rt) (l:=l) (by omega)
 rw[qfi hu] at cO
 have loop:Rl 1 1 36 0 47 4 (rsT z 0) (rsH rt l) (.exit 0) (rsT z m) (rsH rt l):=by
  have last:Rl 1 1 36 0 47 4 (rsT z m) (rsH rt l) (.exit 0) (rsT z m) (rsH rt l):=by
   by_cases h:m<l.length
   ·exact qm3 (hlt:=dt (by omega)) (hk:=qah h) (hin:=⟨by omega,by omega⟩) (hc:=df fun c=>by
     have:=(m2 m h).2 (by rw[qao (qah h)];exact c)
     omega)
   ·exact qpY (hlt:=df (by omega))
  exact RunsL.roundsZ (rsT z) (fun _=>rsH rt l) (N:=m) m 0 (Nat.zero_add _) (fun j _ hj r=>qmf (k:=j) (hlt:=dt (by omega)) (hk:=qah (by omega)) (hin:=⟨by omega,by omega⟩) (hc:=dt (by rw[← qao (qah (show j<l.length by omega))];exact (m2 j (by omega)).1 hj)) (hs:=qan (by omega)) r) last
 exact qrA (hc:=cR) (hce:=eq0 rfl) (ho:=cO) (r0:=loop) (hp1:=qtW h (by omega) (Nat.zero_le _) m1) (hp2:=qtW h (by omega) m1 (Nat.le_refl _))
theorem qis (hl:l.length≤999999):∃ (r1 r2 e:Int) (n:Nat) (n0 n2:List Pt),n≤n0.length∧n0.length≤999999∧n2.length≤999999∧
 (chE ⟨rt,l⟩=0→Up l→e=0∧∀ T,Fits ⟨rt,l⟩ T→∃ m,qfr l z m∧r1=shI 0 (rtI (res 0 m T))∧n0.take n=ptL l 0 m m∧r2=shI m (rtI (res m l.length T))∧n2=ptL l m l.length l.length)∧
 Fn 13 1 [trS 0 rt l,.pv (iV z)] [(0,0,qac l)] (.tu [.ag [.pv (iV r1),.lq 1 3 0 n],.ag [.pv (iV r2),.ls 2 n2.length],.one (.pv (iV e))]) 2 [(1,0,qac n0),(2,0,qac n2)]∧
 Fn 36 1 [trS 0 rt l,.pv (iV z)] [(0,0,qac l)] (.tu [.ag [.pv (iV r1),.ls 1 (n0.take n).length],.ag [.pv (iV r2),.ls 2 n2.length],.one (.pv (iV e))]) 2 [(1,0,qac (n0.take n)),(2,0,qac n2)]:=by
 have cP:=qtS (rt:=rt) hl
 have cR:=qrH (rt:=rt) hl
 by_cases h0:chE ⟨rt,l⟩=0
 ·by_cases hu:Up l
  ·obtain⟨T,hT⟩:=VT.of h0
   obtain⟨m,hm⟩:=qsp (z:=z) hu
   have on:=qa2 (m:=m) (N:=l.length) T l
   have hlen:(ptM m l.length T l).length=l.length:=on.len
   have low:=qqE hT hu hm.1
   have r:=qtG hl hT h0 hu hm
   rw[← low] at r
   refine⟨shI 0 (rtI (res 0 m T)),shI m (rtI (res m l.length T)),0,m,ptM m l.length T l,ptL l m l.length l.length,by rw[hlen];exact hm.1,by omega,by rw[qcz];omega,fun _ _=>⟨rfl,fun T' hT'=>⟨m,hm,?_⟩⟩,qn1 hl hT h0 hu hm,r⟩
   rw[← hT.rep.uniq hT'.rep]
   exact⟨rfl,low,rfl,rfl⟩
  ·have cO:Fn 52 1 [.ls 0 l.length] [(0,0,qac l)] (.pv (iV (32))) 0 []:=by
    rcases PCo hl with ⟨h,_⟩ | ⟨_,h⟩
    ·exact (hu h).elim
    ·exact h
   have cU:=qdy (rt:=rt) (l:=l) (by omega)
   rw[qf9 hu] at cU
   rw[h0] at cP cR
   exact⟨0,0,32,0,[],[],Nat.zero_le _,Nat.zero_le _,Nat.zero_le _,fun _ h=>(hu h).elim,qty (quP (h1:=cP) (h2:=cO) (he:=by decide)),qo2 (qvA (hc:=cR) (hce:=eq0 rfl) (ho:=cU))⟩
 ·have cO:∃ e2,Fn 52 1 [.ls 0 l.length] [(0,0,qac l)] (.pv (iV (e2))) 0 []:=by
   rcases PCo hl with ⟨_,h⟩ | ⟨_,h⟩
   ·exact⟨_,h⟩
   ·exact⟨_,h⟩
  obtain⟨e2,cO⟩:=cO
  exact⟨0,0,chE ⟨rt,l⟩,0,[],[],Nat.zero_le _,Nat.zero_le _,Nat.zero_le _,fun h=>(h0 h).elim,qty (quW (h1:=cP) (h2:=cO) (he:=ne0 h0)),qo2 (quH (hc:=cR) (hce:=ne0 h0))⟩
end
end Go.Proofs.Ytalnjplghagbpaa

namespace Go.Proofs.Ytalnjplghagbpaa
set_option maxRecDepth 100000
open Go.ChangeShapes Go.WideShapes Go.ChangeAt Go.RowKit Go.Joins Go.Deep
section
variable {H:Type} {enc:TypeId×Value→H} {W:World} {base:Nat} {spare:Nat→Bool} {held:Bool}
end
section
variable {W:World} {f:FuncId} {s l m:List Pt} {x y:Int} {u v w:Value} {vs:List Value} {t i:Value}
theorem qwm (h:Fn f 1 (qaq 0 s::.pv t::vs.map .pv) [(0,0,qag s)] (.pv (.bool true)) 0 []) (hs:Rd W 3 u s.length (qam s)) :
 Calls Try.prog f (.agg #[u]::t::vs).toArray W fun e W'=>e=.returned (.bool true)∧Gr W W':=
 qmo (rs:=[(80,3,s.length,qam s)]) (us:=[u]) h (.cons hs (qd3 s) .nil) ⟨⟨[u],⟨⟨rfl,hs.zsl⟩,tI⟩,rfl⟩,rfl,SV.isl_v vs⟩
end
end Go.Proofs.Ytalnjplghagbpaa

namespace Go.Proofs.Ytalnjplghagbpaa
set_option maxRecDepth 100000
open Go.RowKit
theorem qnu {β:Bl} {s:S0} {r:List S0} {us:List Value} (h:S0.isl β (s::r) us):∃ u t,us=u::t∧s.is β u∧S0.isl β r t:=by
 match us,h with
 | u::t,⟨h1,h2⟩=>exact⟨u,t,rfl,h1,h2⟩
theorem qsz {β:Bl} {us:List Value} (h:S0.isl β [] us):us=[]:=by
 match us,h with
 | [],_=>rfl
theorem qqT {k:Nat} {β:Bl} {pre:List (Nat×Nat×SV)} {w:World} {b es n m:Nat} {e:TypeId} {xs:List Value} {v:Value} (H:HRel w k β pre w) (h:qad pre b 0=some (.row e es n xs)) (hi:(S0.ls b m).is β v):Rd w es v n xs:=by
 obtain⟨y,ey,R⟩:=H.rows b 0 e es n xs h
 rw[hi.1] at ey
 cases ey
 exact R.rd
theorem qgY {f:FuncId} {k:Nat} {pre:List (Nat×Nat×SV)} {w:World} {β:Bl} {us:List Value} {v:Value} (H:HRel w k β pre w) (hd:β.dom k) (h:Calls Try.prog f us.toArray w fun e w'=>e=.returned v∧Gr w w') :
 Calls Try.prog f us.toArray w fun e w'=>∃ (v':Value) (β':Bl),e=.returned v'∧β.le β'∧(SV.pv v).is β' v'∧HRel w (k+0) β' [] w'∧β'.dom (k+0):=
 h.mono fun _ _ ⟨he,hg⟩=>⟨_,β,he,Bl.le_refl _,rfl,(H.gr_mono hg).imp (fun _ _ _ h=>(by cases h)),hd⟩
theorem qgC {W:World} {f:FuncId} {us:List Value} {rs:List (TypeId×Nat×Nat×List Value)} {args:List SV} {vs:List Value} {v:Value} (h:Fn f rs.length args (qey 0 rs) (.pv v) 0 []) (hr:ZIns W us rs) (ha:SV.isl (qiL us) args vs) :
 Calls Try.prog f vs.toArray W fun e W'=>e=.returned v∧Gr W W':=by
 refine (h W (qiL us) vs (qhg hr) (qhD hr) ha).mono fun e W' ⟨v,β',he,_,hx,hh,_⟩=>?_
 cases hx
 exact⟨he,hh.gr⟩
theorem qj7 {w:World} {es n n' k nn c c':Nat} {a a':Option Addr} {xs:List Value} (R:Rd w es (.slice a nn c) n xs) (hk:k+n'≤nn) (hc:n'≤c') (hp:0<n'→∃ r o,a=some ⟨r,o,none⟩∧a'=some ⟨r,o+k*es,none⟩) :
 Rd w es (.slice a' n' c') n' ((xs.drop (k*es)).take (n'*es)):=by
 obtain⟨hl,a2,c2,he,hnc,hrd⟩:=R
 have e1:=he
 simp only[Value.slice.injEq] at e1
 obtain⟨rfl,rfl,rfl⟩:=e1
 have hm:(k+n')*es≤nn*es:=Nat.mul_le_mul_right es hk
 rw[Nat.add_mul] at hm
 have hlen:((xs.drop (k*es)).take (n'*es)).length=n'*es:=by rw[List.length_take,List.length_drop];omega
 rcases Nat.eq_zero_or_pos n' with h0 | h0
 ·subst h0
  refine⟨hlen,a',c',rfl,hc,fun j v hj=>?_⟩
  rw[Nat.zero_mul,List.take_zero] at hj
  simp at hj
 ·obtain⟨r,o,ea,ea'⟩:=hp h0
  subst ea ea'
  refine⟨hlen,_,_,rfl,hc,fun j v hj=>⟨r,o+k*es,rfl,?_⟩⟩
  have hj':xs[k*es+j]?=some v:=by
   rw[List.getElem?_take] at hj
   split at hj
   ·rw[List.getElem?_drop] at hj;exact hj
   ·cases hj
  obtain⟨r',o',er,hcell⟩:=hrd _ v hj'
  cases er
  rw[show o+k*es+j=o+(k*es+j) by omega]
  exact hcell
theorem qjj (l:List Pt) (n:Nat):(qam l).take (n*3)=qam (l.take n):=by
 rcases Nat.lt_or_ge n l.length with h | h
 ·have e:qam l=qam (l.take n)++qam (l.drop n):=by rw[← qbZ,List.take_append_drop]
  rw[e,List.take_append_of_le_length (by rw[qaV,List.length_take];omega),List.take_of_length_le (by rw[qaV,List.length_take];omega)]
 ·rw[List.take_of_length_le (by rw[qaV];omega),List.take_of_length_le h]
theorem qwe {r:Int} {n:Nat} {l:List Pt} (hn:n≤l.length) (hl:l.length≤1000000):Fn 22 2 [.ag [.pv (iV r),.lq 0 3 0 n],trS 1 r (l.take n)] [(0,0,qac l),(1,0,qac (l.take n))] (.pv (.bool true)) 0 []:=by
 have h:=qiO (rt:=r) (l:=l.take n) (by rw[List.length_take];omega)
 have hlen:(l.take n).length=n:=by rw[List.length_take];omega
 intro w β us H hd hi
 match us,hi with
 | [a,c],⟨⟨ws,hws,ha⟩,⟨wt,ht,hb⟩,_⟩=>
 obtain⟨u,r',ew,hu,k1⟩:=qnu hws
 obtain⟨y,r3,ew3,⟨a',nn,cc,a'',c',hg,hle,hc',hy,hp⟩,k3⟩:=qnu k1
 have er:=qsz k3
 obtain⟨u2,r2,ew2,hu2,k2⟩:=qnu ht
 obtain⟨y2,r4,ew4,hy2,k4⟩:=qnu k2
 have er4:=qsz k4
 have hu':u=iV r:=hu
 have hu2':u2=iV r:=hu2
 subst er ew3 er4 ew4 ew ew2 ha hb hy hu' hu2'
 obtain⟨y0,e0,R0⟩:=H.rows 0 0 _ _ _ _ rfl
 rw[hg] at e0
 cases e0
 have R1:=qj7 R0.rd hle hc' hp
 rw[Nat.zero_mul,List.drop_zero,qjj] at R1
 have R2:=qqT H rfl hy2
 rw[hlen] at R2
 have h2:Fn 22 2 [.ag [.pv (iV r),.ls 0 n],.ag [.pv (iV r),.ls 1 n]] [(0,0,.row 26 3 n (qam (l.take n))),(1,0,.row 26 3 n (qam (l.take n)))] (.pv (.bool true)) 0 []:=by
  have e:∀ b,trS b r (l.take n)=.ag [.pv (iV r),.ls b n]:=fun b=>by rw[trS,hlen]
  have e2:qac (l.take n)=.row 26 3 n (qam (l.take n)):=by rw[qac,hlen]
  rw[e,e,e2] at h
  exact h
 exact qgY (us:=[_,_]) H hd (qgC (rs:=[(26,3,n,qam (l.take n)),(26,3,n,qam (l.take n))]) (us:=[_,y2]) h2 (.cons R1 (qd3 _) (.cons R2 (qd3 _) .nil))
  ⟨⟨[_,_],⟨rfl,⟨rfl,R1.zsl⟩,tI⟩,rfl⟩,⟨[_,_],⟨rfl,⟨rfl,R2.zsl⟩,tI⟩,rfl⟩,tI⟩)
section
variable {s l:List Pt} {tn td rt:Int}
theorem qlK (hs:Val s) {T:Sh Nat} (h:OfSh s tn td T):VT ⟨rtI T,ofN s T⟩:=by
 obtain⟨hf,_⟩:=qa3 hs h
 have hl:=qaW (s:=s) T
 refine⟨by show (ofN s T).length≤64;rw[hl];exact hs.len,fun p hp=>?_,T,hf⟩
 obtain⟨k,hk⟩:=List.getElem?_of_mem hp
 have hkl:=qai hk
 rw[hl] at hkl
 have e:=qde T hkl
 rw[qao hk,qao (qah hkl)] at e
 have:=qbU.1 (hs.ok _ (List.mem_of_getElem? (qah hkl)))
 omega
theorem qj8 {R:Int→Int→Prop} {Q:Nat→Nat→Prop} {f:Nat→Int}:∀ {T:Sh Nat},(∀ a∈T.list,∀ b∈T.list,Q a b→R (f a) (f b))→T.HO Q→(T.map f).HO R
 | .nil,_,_=>tI
 | .node a k b,h,⟨h1,h2,h3,h4⟩=>by
  have mk:k∈(Sh.node a k b).list:=List.mem_append_right _ List.mem_cons_self
  refine⟨fun y hy=>?_,fun y hy=>?_,qj8 (fun x hx y hy=>h x (List.mem_append_left _ hx) y (List.mem_append_left _ hy)) h3,qj8 (fun x hx y hy=>h x (List.mem_append_right _ (List.mem_cons_of_mem _ hx)) y (List.mem_append_right _ (List.mem_cons_of_mem _ hy))) h4⟩
  ·rw[Sh.map_list] at hy
   obtain⟨c,hc,rfl⟩:=List.mem_map.1 hy
   exact h k mk c (List.mem_append_left _ hc) (h1 c hc)
  ·rw[Sh.map_list] at hy
   obtain⟨c,hc,rfl⟩:=List.mem_map.1 hy
   exact h k mk c (List.mem_append_right _ (List.mem_cons_of_mem _ hc)) (h2 c hc)
theorem qjo:(List.range s.length).map (idN s)=s.map Pt.id:=by
 apply List.ext_getElem?
 intro j
 by_cases h:j<s.length
 ·rw[List.getElem?_map,List.getElem?_range h,List.getElem?_map,qah h]
  show some (idN s j)=some (ndT s j).id
  rw[qao (qah h)]
 ·rw[List.getElem?_eq_none (by simp;omega),List.getElem?_eq_none (by simp;omega)]
theorem qe9 (hs:Val s) {T:Sh Nat} (h:OfSh s tn td T):TreeOf s tn td (idT (ofN s T) T):=by
 have e:idT (ofN s T) T=T.map (idN s):=by
  unfold idT
  have:∀ S:Sh Nat,(∀ k∈S.list,k<s.length)→S.map (idN (ofN s T))=S.map (idN s):=by
   intro S
   induction S with
   | nil=>intro _;rfl
   | node a k b iha ihb=>
    intro hk
    show Sh.node _ _ _=Sh.node _ _ _
    rw[iha fun y hy=>hk y (List.mem_append_left _ hy),ihb fun y hy=>hk y (List.mem_append_right _ (List.mem_cons_of_mem _ hy)),qde T (hk k (List.mem_append_right _ List.mem_cons_self))]
  exact this T fun k hk=>by rw[h.list] at hk;exact List.mem_range.1 hk
 rw[e]
 refine⟨by rw[Sh.map_list,h.list];exact qjo,qj8 (fun a ha b hb hab=>?_) h.ho⟩
 rw[h.list] at ha hb
 have ha:=List.mem_range.1 ha
 have hb:=List.mem_range.1 hb
 show ld tn td (ptI s (idN s a)) (ptI s (idN s b))=true
 rw[qao (qah ha),qao (qah hb),qb6 hs (List.mem_of_getElem? (qah ha)),qb6 hs (List.mem_of_getElem? (qah hb))]
 exact hab
end
end Go.Proofs.Ytalnjplghagbpaa

namespace Go.Proofs.Ytalnjplghagbpaa
set_option maxRecDepth 100000
open Go.RowKit
theorem qfe {f:FuncId} {v:Value} (h:Fn f 0 [] [] (.pv v) 0 []):Pure Try.prog f #[] v:=by
 intro w
 have H0:HRel w 0 Bl.no [] w:=⟨Gr.refl w,fun _ _ e=>(by cases e),fun _ _ _ e=>(by cases e),fun _ _ _ e=>(by cases e),fun _ _ e=>(by cases e),fun _ _ _ e=>(by cases e),fun _ _ _ _ _ _ e=>(by cases e),fun _ _ _ _ _ _ _ _ _ _ _ _ _ _ e=>(by cases e),fun _ _ _ e=>(by cases e)⟩
 refine (h w Bl.no [] H0 (fun _ _=>⟨rfl,rfl⟩) tI).mono fun e w' ⟨u,β',he,_,hx,hh,_⟩=>?_
 cases hx
 exact⟨he,hh.gr⟩
abbrev shA:Sh Nat:=.node (.node .nil 0 .nil) 1 (.node .nil 2 .nil)
abbrev shB:Sh Nat:=.node .nil 0 (.node .nil 1 (.node .nil 2 .nil))
theorem qgR:Val qbT:=
 ⟨by decide,by decide,fun k p q hp hq=>by
  match k,hp,hq with
  | 0,hp,hq=>simp[qbT] at hp hq;subst hp hq;decide
  | 1,hp,hq=>simp[qbT] at hp hq;subst hp hq;decide
  | n+2,_,hq=>simp[qbT] at hq⟩
theorem qvv:OfSh qbT 0 1 shA:=
 ⟨⟨fun y hy=>by (simp[Sh.list] at hy;subst hy;rfl),fun y hy=>by (simp[Sh.list] at hy;subst hy;rfl),⟨fun y hy=>by (simp[Sh.list] at hy),fun y hy=>by (simp[Sh.list] at hy),tI,tI⟩,⟨fun y hy=>by (simp[Sh.list] at hy),fun y hy=>by (simp[Sh.list] at hy),tI,tI⟩⟩,rfl⟩
theorem qoU:OfSh qbT 2 1 shB:=
 ⟨⟨fun y hy=>by (simp[Sh.list] at hy),fun y hy=>by (simp[Sh.list] at hy;rcases hy with rfl | rfl<;>rfl),tI,⟨fun y hy=>by (simp[Sh.list] at hy),fun y hy=>by (simp[Sh.list] at hy;subst hy;rfl),tI,⟨fun y hy=>by (simp[Sh.list] at hy),fun y hy=>by (simp[Sh.list] at hy),tI,tI⟩⟩⟩,rfl⟩
abbrev qr3:List Pt:=[Pt.mk (1) (-1) (1),Pt.mk (2) (-1) (2),Pt.mk (5) (-1) (-1)]
theorem qrK:Fits ⟨0,qr3⟩ shB∧Up qr3:=qa3 qgR qoU
theorem qrR:chE ⟨0,qr3⟩=0:=qdJ (qlK qgR qoU)
theorem qs3:qfr qr3 2 1:=⟨by decide,fun j hj=>by
 match j,hj with
 | 0,_=>exact⟨fun _=>by decide,fun _=>by decide⟩
 | 1,_=>exact⟨fun h=>by omega,fun h=>absurd h (by decide)⟩
 | 2,_=>exact⟨fun h=>by omega,fun h=>absurd h (by decide)⟩
 | n+3,h=>exact absurd h (by simp)⟩
theorem qoC {tn:Int} {T:Sh Nat} (hn:I64 tn) (ht:okB tn 1=true) (h:OfSh qbT tn 1 T) :
 Fn 18 1 [qaq 0 qbT,.pv (qaa tn 1)] [(0,0,qag qbT)] (.tu [.ag [.pv (iV (rtI T)),.ls 1 (ofN qbT T).length],.one (.pv (iV 0))]) 1 [(1,0,qac (ofN qbT T))]:=by
 obtain⟨r,n,_,hs,p,_⟩:=qjQ hn (td:=1) ⟨by decide,by decide⟩ qbT
 have e:=qmy qgR ht
 obtain⟨rfl,rfl⟩:=hs e T h
 rw[e] at p
 exact p
theorem qjw:Pure Try.prog 24 #[] (.bool true):=by
 obtain⟨hf,hu⟩:=qrK
 obtain⟨v,e,hv,hd,_⟩:=qip (rt:=0) (z:=5) (l:=qr3) (by decide)
 obtain⟨rfl,rfl⟩:=(hv qrR shB hf).1 (by decide)
 have sp:=qn1 (z:=2) (m:=1) (by decide) hf qrR hu qs3
 rw[← qhE hf hu (by decide)] at sp
 have h:=qvL (hg:=qvM) (hat0:=qtB) (h1:=qoC (tn:=0) ⟨by decide,by decide⟩ rfl qvv) (hat2:=qtB) (h2:=qoC (tn:=2) ⟨by decide,by decide⟩ rfl qoU) (hd:=hd) (hs:=sp) (hc:=qvl) (q1:=qiO (by decide)) (q2:=qiO (by decide)) (q3:=qwe (n:=1) (l:=[Pt.mk (1) (-1) (-1),Pt.mk (2) (-1) (2),Pt.mk (5) (-1) (-1)]) (by decide) (by decide)) (q4:=qiO (by decide))
 exact qfe h
section
variable {s l:List Pt} {tn td rt:Int}
theorem qwo (htn:I64 tn) (htd:I64 td) (s:List Pt):Fn 38 1 [qaq 0 s,.pv (qaa tn td)] [(0,0,qag s)] (.pv (.bool false)) 0 []∨
 (Fn 38 1 [qaq 0 s,.pv (qaa tn td)] [(0,0,qag s)] (.pv (.bool true)) 0 []∧Val s∧okB tn td=true):=by
 rcases qkC s with ⟨_,hg⟩ | ⟨_,hg⟩
 ·exact Or.inl (qlm (hgf:=hg))
 have hT:=qfE htn htd s
 by_cases h0:qd7 s=0
 ·by_cases ht:okB tn td=true
  ·have hs:=qcw.1 h0
   rw[qmy hs ht] at hT
   exact Or.inr ⟨qqC (hgf:=hg) (ht:=hT),hs,ht⟩
  ·have e:tE s tn td=8:=by unfold tE;rw[if_pos h0,if_neg ht]
   rw[e] at hT
   exact Or.inl (qhd (hgf:=hg) (ht:=hT) (he:=by decide))
 ·have e:tE s tn td=qd7 s:=by unfold tE;rw[if_neg h0]
  rw[e] at hT
  exact Or.inl (qhd (hgf:=hg) (ht:=hT) (he:=beq_eq_false_iff_ne.2 h0))
end
end Go.Proofs.Ytalnjplghagbpaa
