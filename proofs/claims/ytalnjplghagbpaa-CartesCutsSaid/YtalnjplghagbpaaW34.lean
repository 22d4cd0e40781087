/-
  Joined: Ek, Er, El. Conditions: none.
-/
import Derived.Test.YtalnjplghagbpaaEj
import Derived.Test.YtalnjplghagbpaaW28
import Derived.Test.YtalnjplghagbpaaW19
import Derived.Test.YtalnjplghagbpaaZj
import Derived.Test.YtalnjplghagbpaaW24
import Derived.Test.YtalnjplghagbpaaW27
import Derived.Deep.Strs
import Derived.Test.YtalnjplghagbpaaW31
import Derived.Test.YtalnjplghagbpaaW22
namespace Go.Proofs.Ytalnjplghagbpaa
set_option maxRecDepth 100000
open Go.RowKit
theorem qgC {P:Program} {f:FuncId} {k m:Nat} {args:List SV} {pre post post':List (Nat×Nat×SV)} {S S':SV} (h:FnL P f k args pre S m post) (hs:∀ β v,S.is β v→S'.is β v) (hp:∀ b o sv,qac post' b o=some sv→qac post b o=some sv):FnL P f k args pre S' m post':=by
 intro w β us H hd hi
 exact (h w β us H hd hi).mono fun e w' ⟨v,β',he,hle,hx,hh,hd'⟩=>⟨v,β',he,hle,hs _ _ hx,hh.imp hp,hd'⟩
theorem qt1 {b o:Nat} {sv:SV} (h:qac [(1,0,qaa []),(2,0,qaa [])] b o=some sv):qac [qre (1+1),qre 1] b o=some sv:=by
 rw[qaf,qaf] at h ⊢
 split at h
 ·rename_i e
  cases h
  rw[if_neg (by omega),if_pos e]
  rfl
 ·split at h
  ·rename_i e
   cases h
   rw[if_pos e]
   rfl
  ·cases h
section
variable {P:Program} {f:FuncId} {args:List SV} {pre:List (Nat×Nat×SV)} {e:Int}
theorem qnx (h:FnL P f 1 args pre (.pv (.tuple #[.agg #[iV 0,.slice none 0 0],.agg #[iV 0,.slice none 0 0],iV e])) 0 []) :
 FnL P f 1 args pre (.tu [.ag [.pv (iV 0),.ls 1 ([]:List Pt).length],.ag [.pv (iV 0),.ls 2 ([]:List Pt).length],.one (.pv (iV e))]) 2 [(1,0,qaa []),(2,0,qaa [])]:=
 qgC (qqT h) (fun _ _ h=>h) (fun _ _ _ h=>qt1 h)
theorem qrK (h:FnL P f 1 args pre (.pv (.tuple #[.agg #[iV 0,.slice none 0 0],.agg #[iV 0,.slice none 0 0],iV e])) 0 []) :
 FnL P f 1 args pre (.tu [.ag [.pv (iV 0),.lq 1 3 0 0],.ag [.pv (iV 0),.ls 2 ([]:List Pt).length],.one (.pv (iV e))]) 2 [(1,0,qaa []),(2,0,qaa [])]:=
 qgC (qnx h) (fun β v h=>by
  obtain⟨vs,hvs,hv⟩:=h
  match vs,hvs with
  | [a,b,c],⟨⟨ws,hws,ha⟩,hb,hc,_⟩=>
   match ws,hws with
   | [p,q],⟨hp,⟨hg,a',c',hq⟩,_⟩=>
    refine⟨[a,b,c],⟨⟨[p,q],⟨hp,⟨a',0,c',a',c',?_,Nat.le_refl _,Nat.zero_le _,hq,fun h=>absurd h (Nat.lt_irrefl 0)⟩,tI⟩,ha⟩,hb,hc,tI⟩,hv⟩
    rw[hq] at hg
    exact hg) (fun _ _ _ h=>h)
end
section
variable {rt z:Int} {l:List Pt} {T:Sh Nat}
theorem qsZ:∀ X:Sh Nat,shI 0 (rtI X)=rtI X
 | .nil=>rfl
 | .node a k b=>by
  show (if (k:Int)<0 then -1 else (k:Int)-((0:Nat):Int))=(k:Int)
  rw[if_neg (by omega)]
  omega
theorem qjY {m:Nat}:∀ X:Sh Nat,fuI (0-(m:Int)) (rtI X)=shI m (rtI X)
 | .nil=>rfl
 | .node a k b=>by
  show (if (k:Int) = -1 then -1 else (k:Int)+(0-(m:Int)))=(if (k:Int)<0 then -1 else (k:Int)-(m:Int))
  rw[if_neg (by omega),if_neg (by omega)]
  omega
theorem qkc {m:Nat} (h:Fits ⟨rt,l⟩ T) (hu:Up l) {j:Nat} (hj:j<l.length):∃ A B,Rep l (ndT l j).a A∧Rep l (ndT l j).b B∧(∀ y∈A.list,y<l.length)∧(∀ y∈B.list,y<l.length)∧
 (ptM m l.length T l)[j]?=some (if j<m then ⟨(ndT l j).id,rtI (res 0 m A),rtI (res 0 m B)⟩ else ⟨(ndT l j).id,rtI (res m l.length A),rtI (res m l.length B)⟩):=by
 have hr:T.list=List.range l.length:=h.range hu
 have hm:j∈T.list:=by rw[hr];exact List.mem_range.2 hj
 obtain⟨A,B,h1,h2,_,_⟩:=h.rep.sub2 j hm
 have hw:T.list.Pairwise (· < ·):=by rw[hr];exact List.pairwise_lt_range
 have e:=qj8 (N:=l.length) (m:=m) h.rep rfl hw j hm A B h1 h2
 exact⟨A,B,h1,h2,h1.lt,h2.lt,by rw[← e];exact qas (by rw[(qaY T l).len];exact hj)⟩
theorem qnR {m:Nat} (h:Fits ⟨rt,l⟩ T) (hu:Up l) (hm:m≤l.length):(ptM m l.length T l).take m=ptL l 0 m m:=by
 have hlen:(ptM m l.length T l).length=l.length:=(qaY T l).len
 apply List.ext_getElem?
 intro j
 by_cases hj:j<m
 ·obtain⟨A,B,h1,h2,_,_,e⟩:=qkc (m:=m) h hu (show j<l.length by omega)
  have e2:=qnk (l:=l) (n:=0) (j:=m) (k:=j) (Nat.zero_le _) hj
  rw[Nat.sub_zero] at e2
  rw[List.getElem?_take_of_lt hj,e,e2,if_pos hj]
  unfold ptN
  rw[qd9 h1,qd9 h2,qsZ,qsZ]
 ·rw[List.getElem?_eq_none (by rw[List.length_take];omega),List.getElem?_eq_none (by rw[qei];omega)]
theorem qmU {m:Nat} (h:Fits ⟨rt,l⟩ T) (hu:Up l) (hm:m≤l.length):shN (0-(m:Int)) ((ptM m l.length T l).drop m)=ptL l m l.length l.length:=by
 have hlen:(ptM m l.length T l).length=l.length:=(qaY T l).len
 apply List.ext_getElem?
 intro j
 by_cases hj:m+j<l.length
 ·obtain⟨A,B,h1,h2,_,_,e⟩:=qkc (m:=m) h hu hj
  have e2:=qnk (l:=l) (n:=m) (j:=l.length) (k:=m+j) (by omega) hj
  rw[Nat.add_sub_cancel_left] at e2
  unfold shN
  rw[List.getElem?_map,List.getElem?_drop,e,e2,if_neg (by omega)]
  unfold ptN
  rw[qd9 h1,qd9 h2,← qjY,← qjY]
  rfl
 ·rw[List.getElem?_eq_none (by rw[qcg,List.length_drop];omega),List.getElem?_eq_none (by rw[qei];omega)]
theorem qpp {m:Nat} (hl:l.length≤999999) (h:Fits ⟨rt,l⟩ T) (hu:Up l):qsa (ptM m l.length T l):=by
 intro p hp
 obtain⟨j,hj⟩:=List.getElem?_of_mem hp
 have hjl:=qai hj
 rw[(qaY T l).len] at hjl
 obtain⟨A,B,_,_,h3,h4,e⟩:=qkc (m:=m) h hu hjl
 rw[hj] at e
 have r1:=qbU (l:=l) (lo:=0) (hi:=m) h3 (by omega)
 have r2:=qbU (l:=l) (lo:=0) (hi:=m) h4 (by omega)
 have r3:=qbU (l:=l) (lo:=m) (hi:=l.length) h3 (by omega)
 have r4:=qbU (l:=l) (lo:=m) (hi:=l.length) h4 (by omega)
 cases e
 split
 ·exact⟨⟨by show -3000000≤rtI _;omega,by show rtI _≤3000000;omega⟩,by show -3000000≤rtI _;omega,by show rtI _≤3000000;omega⟩
 ·exact⟨⟨by show -3000000≤rtI _;omega,by show rtI _≤3000000;omega⟩,by show -3000000≤rtI _;omega,by show rtI _≤3000000;omega⟩
theorem qqb {m:Nat} (hl:l.length≤999999) (h:Fits ⟨rt,l⟩ T) (hc:chE ⟨rt,l⟩=0) (hu:Up l) (hm:qkh l z m) :
 Fn 13 1 [trS 0 rt l,.pv (iV z)] [(0,0,qaa l)] (.tu [.ag [.pv (iV (shI 0 (rtI (res 0 m T)))),.lq 1 3 0 m],.ag [.pv (iV (shI m (rtI (res m l.length T)))),.ls 2 (ptL l m l.length l.length).length],.one (.pv (iV 0))]) 2 [(1,0,qaa (ptM m l.length T l)),(2,0,qaa (ptL l m l.length l.length))]:=by
 have on:=qaY (m:=m) (N:=l.length) T l
 have hlen:(ptM m l.length T l).length=l.length:=on.len
 have hmo:=hm
 obtain⟨m1,m2⟩:=hm
 have hr:T.list=List.range l.length:=h.range hu
 have hw:T.list.Pairwise (· < ·):=by rw[hr];exact List.pairwise_lt_range
 have cP:=qsc (rt:=rt) hl
 rw[hc] at cP
 have cO:Fn 52 1 [.ls 0 l.length] [(0,0,qaa l)] (.pv (iV (0))) 0 []:=by
  rcases PCo hl with ⟨_,h⟩ | ⟨h,_⟩
  ·exact h
  ·exact (h hu).elim
 have cL:=qsF (n:=ptM m l.length T l) hl hmo hlen fun j _=>on.id j
 have cS:=qpw (l:=ptM m l.length T l) (m:=m) (v:=0-(m:Int)) (by omega) (by omega) (fun p hp=>qpp hl h hu p (List.mem_of_mem_drop hp)) (by omega) (by omega)
 have hlt:∀ y∈T.list,y<l.length:=h.rep.lt
 have g1:=qbU (lo:=m) (hi:=l.length) hlt (by omega)
 have e1:(qaa (ptM m l.length T l))=.row 26 3 l.length (qah (ptM m l.length T l)):=by rw[qaa,hlen]
 rw[e1,hlen] at cL
 rw[hlen,qmU h hu m1] at cS
 rw[e1,qsZ,← qjY]
 exact qq8 (p1:=⟨0,0,0⟩) (p2:=⟨0,0,0⟩) (h1:=cP) (h2:=cO) (hcl:=qqo (by omega)) (hp:=qnS h.rep rfl hw m2) (hle:=cL) (t1:=tI) (p0:=by omega) (hn1:=by rw[qag (by omega) (by omega)]) (hfu:=PFu (by omega) (by omega) (by omega) (by omega)) (hn2:=by rw[qag (by omega) (by omega)]) (hsh:=cS) (Nat.zero_le _) m1
abbrev rsT (z:Int) (k:Nat):List (Nat×SV):=[(1,.pv (iV z)),(2,.pp 1 0),(4,.pp 2 0),(5,.pp 3 0),(8,.pv (iV (k:Int)))]
abbrev rsH (rt:Int) (l:List Pt):List (Nat×Nat×SV):=[(1,0,.pv (iV rt)),(1,1,.ls 0 l.length),(2,0,.pv (iV 0)),(2,1,.pv (.slice none 0 0)),(3,0,.pv (iV 0)),(3,1,.pv (.slice none 0 0)),(0,0,qaa l)]
theorem qrI {m:Nat} (hl:l.length≤999999) (h:Fits ⟨rt,l⟩ T) (hc:chE ⟨rt,l⟩=0) (hu:Up l) (hm:qkh l z m) :
 Fn 36 1 [trS 0 rt l,.pv (iV z)] [(0,0,qaa l)] (.tu [.ag [.pv (iV (shI 0 (rtI (res 0 m T)))),.ls 1 (ptL l 0 m m).length],.ag [.pv (iV (shI m (rtI (res m l.length T)))),.ls 2 (ptL l m l.length l.length).length],.one (.pv (iV 0))]) 2 [(1,0,qaa (ptL l 0 m m)),(2,0,qaa (ptL l m l.length l.length))]:=by
 obtain⟨m1,m2⟩:=hm
 have cR:=qr6 (rt:=rt) hl
 rw[hc] at cR
 have cO:=qdg (rt:=rt) (l:=l) (by omega)
 rw[qeH hu] at cO
 have loop:Rl 1 1 36 0 47 4 (rsT z 0) (rsH rt l) (.exit 0) (rsT z m) (rsH rt l):=by
  have last:Rl 1 1 36 0 47 4 (rsT z m) (rsH rt l) (.exit 0) (rsT z m) (rsH rt l):=by
   by_cases h:m<l.length
   ·exact qkI (hlt:=dt (by omega)) (hk:=qas h) (hin:=⟨by omega,by omega⟩) (hc:=df fun c=>by
     have:=(m2 m h).2 (by rw[qaQ (qas h)];exact c)
     omega)
   ·exact qob (hlt:=df (by omega))
  exact RunsL.roundsZ (rsT z) (fun _=>rsH rt l) (N:=m) m 0 (Nat.zero_add _) (fun j _ hj r=>qmj (k:=j) (hlt:=dt (by omega)) (hk:=qas (by omega)) (hin:=⟨by omega,by omega⟩) (hc:=dt (by rw[← qaQ (qas (show j<l.length by omega))];exact (m2 j (by omega)).1 hj)) (hs:=qau (by omega)) r) last
 exact qq9 (hc:=cR) (hce:=eq0 rfl) (ho:=cO) (r0:=loop) (hp1:=qqD h (by omega) (Nat.zero_le _) m1) (hp2:=qqD h (by omega) m1 (Nat.le_refl _))
theorem qhf (hl:l.length≤999999):∃ (r1 r2 e:Int) (n:Nat) (n0 n2:List Pt),n≤n0.length∧n0.length≤999999∧n2.length≤999999∧
 (chE ⟨rt,l⟩=0→Up l→e=0∧∀ T,Fits ⟨rt,l⟩ T→∃ m,qkh l z m∧r1=shI 0 (rtI (res 0 m T))∧n0.take n=ptL l 0 m m∧r2=shI m (rtI (res m l.length T))∧n2=ptL l m l.length l.length)∧
 Fn 13 1 [trS 0 rt l,.pv (iV z)] [(0,0,qaa l)] (.tu [.ag [.pv (iV r1),.lq 1 3 0 n],.ag [.pv (iV r2),.ls 2 n2.length],.one (.pv (iV e))]) 2 [(1,0,qaa n0),(2,0,qaa n2)]∧
 Fn 36 1 [trS 0 rt l,.pv (iV z)] [(0,0,qaa l)] (.tu [.ag [.pv (iV r1),.ls 1 (n0.take n).length],.ag [.pv (iV r2),.ls 2 n2.length],.one (.pv (iV e))]) 2 [(1,0,qaa (n0.take n)),(2,0,qaa n2)]:=by
 have cP:=qsc (rt:=rt) hl
 have cR:=qr6 (rt:=rt) hl
 by_cases h0:chE ⟨rt,l⟩=0
 ·by_cases hu:Up l
  ·obtain⟨T,hT⟩:=VT.of h0
   obtain⟨m,hm⟩:=qqz (z:=z) hu
   have on:=qaY (m:=m) (N:=l.length) T l
   have hlen:(ptM m l.length T l).length=l.length:=on.len
   have low:=qnR hT hu hm.1
   have r:=qrI hl hT h0 hu hm
   rw[← low] at r
   refine⟨shI 0 (rtI (res 0 m T)),shI m (rtI (res m l.length T)),0,m,ptM m l.length T l,ptL l m l.length l.length,by rw[hlen];exact hm.1,by omega,by rw[qei];omega,fun _ _=>⟨rfl,fun T' hT'=>⟨m,hm,?_⟩⟩,qqb hl hT h0 hu hm,r⟩
   rw[← hT.rep.uniq hT'.rep]
   exact⟨rfl,low,rfl,rfl⟩
  ·have cO:Fn 52 1 [.ls 0 l.length] [(0,0,qaa l)] (.pv (iV (32))) 0 []:=by
    rcases PCo hl with ⟨h,_⟩ | ⟨_,h⟩
    ·exact (hu h).elim
    ·exact h
   have cU:=qdg (rt:=rt) (l:=l) (by omega)
   rw[qft hu] at cU
   rw[h0] at cP cR
   exact⟨0,0,32,0,[],[],Nat.zero_le _,Nat.zero_le _,Nat.zero_le _,fun _ h=>(hu h).elim,qrK (qsy (h1:=cP) (h2:=cO) (he:=by decide)),qnx (qty (hc:=cR) (hce:=eq0 rfl) (ho:=cU))⟩
 ·have cO:∃ e2,Fn 52 1 [.ls 0 l.length] [(0,0,qaa l)] (.pv (iV (e2))) 0 []:=by
   rcases PCo hl with ⟨_,h⟩ | ⟨_,h⟩
   ·exact⟨_,h⟩
   ·exact⟨_,h⟩
  obtain⟨e2,cO⟩:=cO
  exact⟨0,0,chE ⟨rt,l⟩,0,[],[],Nat.zero_le _,Nat.zero_le _,Nat.zero_le _,fun h=>(h0 h).elim,qrK (qsN (h1:=cP) (h2:=cO) (he:=ne0 h0)),qnx (qtf (hc:=cR) (hce:=ne0 h0))⟩
end
end Go.Proofs.Ytalnjplghagbpaa

namespace Go.Proofs.Ytalnjplghagbpaa
set_option maxRecDepth 100000
open Go.ChangeShapes Go.WideShapes Go.ChangeAt Go.RowKit Go.Joins Go.Deep
theorem qo5:Try.prog.cellsOf 26=3:=by kernel_rfl
theorem qn5:Try.prog.cellsOf 22=1:=by kernel_rfl
theorem qlM:Try.prog.cellsOf 24=2:=by kernel_rfl
theorem qiX:Try.prog.readableRec 24=true:=by kernel_rfl
theorem qnb:24<Try.prog.types.size:=of_decide_eq_true (by kernel_rfl)
section
variable {H:Type} {enc:TypeId×Value→H} {W:World} {base:Nat} {spare:Nat→Bool} {held:Bool}
theorem qhr {fuel:Nat} {cs:List Value} {x:DataW H×List MemPlace} (h:DataW.trod enc Try.prog W base spare held fuel 22 cs=some x) :
 ∃ (u:Value) (l:List Pt),cs=[u]∧Rd W 3 u l.length (qah l):=by
 rcases open_slice Try.underlying22 h with ⟨rfl,_⟩ | ⟨a,len,cap,m,n,D,Pl,rfl,_,hlc,_,hm,_,hi⟩
 ·exact⟨_,[],rfl,⟨rfl,none,0,rfl,Nat.le_refl _,fun j v hv=>by simp[qah] at hv⟩⟩
 have hlm:len≤m:=by rw[hm];split<;>omega
 have each:∀ i,i<len→∃ p:Pt,W.cell? (a.add (i*3))=some (iV p.id)∧W.cell? (a.add (i*3+1))=some (iV p.a)∧W.cell? (a.add (i*3+2))=some (iV p.b):=by
  intro i hil
  obtain⟨cs',hc,ht⟩:=hi i (by omega)
  rw[qo5] at hc
  obtain⟨y0,y1,y2,n',_,hlen,t0,s0,s1⟩:=trod_struct3 Try.underlying26 ht
  obtain⟨_,hcl,hat⟩:=World.cells?_some hc
  match cs',hcl with
  | [c0,c1,c2],_=>
   obtain⟨pi,e0,_,w0⟩:=DataW.trod_int Try.underlying3 t0
   obtain⟨pa,e1,_,w1⟩:=DataW.trod_int Try.underlying3 s0
   obtain⟨pb,e2,_,w2⟩:=DataW.trod_int Try.underlying3 s1
   simp[qtT] at e0 e1 e2
   refine⟨⟨pi,pa,pb⟩,?_,?_,?_⟩
   ·have:=hat 0 (by omega);rw[add_add] at this;simpa [e0] using this
   ·have:=hat 1 (by omega);rw[add_add] at this;simpa [e1] using this
   ·have:=hat 2 (by omega);rw[add_add] at this;simpa [e2] using this
 haveI:Inhabited Pt:=⟨⟨0,0,0⟩⟩
 obtain⟨f,hf⟩:=choose_lt (α:=Pt) each
 refine⟨_,(List.range len).map f,rfl,⟨qaG _,some a,cap,by simp,by simpa using hlc,fun j v hv=>?_⟩⟩
 obtain⟨hk,he⟩:=qm9 f len j v hv
 obtain⟨c0,c1,c2⟩:=hf _ hk
 have hcell:W.cell? (a.add j)=some v:=by
  have h3:j%3=0∨j%3=1∨j%3=2:=by omega
  have e:j=j/3*3+j%3:=by omega
  rcases h3 with e3 | e3 | e3<;>rw[e3] at he e<;>rw[e]<;>simp at he<;>subst he
  ·exact c0
  ·exact c1
  ·exact c2
 obtain⟨b,off,spot⟩:=a
 have hs:spot=none:=by simpa [Addr.add] using World.cell?_spot (hf 0 (by omega)).1
 subst hs
 exact⟨b,off,rfl,by rw[← Go.WideShapes.add_plain];exact hcell⟩
theorem qeK {r:Reach} {b0:Nat} {v:Value} {d:DataW H} {p:List MemPlace} (hv:Value.okWide Try.prog W r b0 24 v) (h:DataW.Trod enc Try.prog W base spare held 24 v d p) :
 ∃ (x:Int) (u:Value) (l:List Pt),v=.agg #[iV x,u]∧Rd W 3 u l.length (qah l):=by
 obtain⟨cs,rfl,hsz⟩:=okWide_struct Try.underlying24 hv
 obtain⟨fuel,hf⟩:=h
 obtain⟨y0,y1,n,_,hlen,h0,h1⟩:=trod_struct2 Try.underlying24 hf
 obtain⟨x,e0,_,_⟩:=DataW.trod_int Try.underlying3 h0
 obtain⟨u,l,hc,hr⟩:=qhr h1
 refine⟨x,u,l,?_,hr⟩
 rw[qn5] at hc
 rw[qtT] at e0
 have hs:cs.size=2:=hsz.trans qlM
 obtain⟨L⟩:=cs
 match L,hs with
 | [c0,c1],_=>
  simp[Value.cells] at hc e0
  rw[hc,e0]
end
section
variable {W:World} {f:FuncId} {s l m:List Pt} {x y:Int} {u v w:Value} {vs:List Value} {t i:Value}
theorem qrv (h:Fn f 3 (trS 0 x l::trS 1 y m::.pv i::qax 2 s::vs.map .pv) [(0,0,qaa l),(1,0,qaa m),(2,0,qan s)] (.pv (.bool true)) 0 [])
 (hl:Rd W 3 v l.length (qah l)) (hm:Rd W 3 w m.length (qah m)) (hs:Rd W 3 u s.length (qah s)) :
 Calls Try.prog f (.agg #[iV x,v]::.agg #[iV y,w]::i::.agg #[u]::vs).toArray W fun e W'=>e=.returned (.bool true)∧Gr W W':=
 qmq (rs:=[(26,3,l.length,qah l),(26,3,m.length,qah m),(80,3,s.length,qah s)]) (us:=[v,w,u]) h
  (.cons hl (qcJ l) (.cons hm (qcJ m) (.cons hs (qcJ s) .nil))) ⟨⟨[iV x,v],⟨rfl,⟨rfl,hl.zsl⟩,tI⟩,rfl⟩,⟨[iV y,w],⟨rfl,⟨rfl,hm.zsl⟩,tI⟩,rfl⟩,rfl,⟨[u],⟨⟨rfl,hs.zsl⟩,tI⟩,rfl⟩,SV.isl_v vs⟩
end
end Go.Proofs.Ytalnjplghagbpaa

namespace Go.Proofs.Ytalnjplghagbpaa
set_option maxRecDepth 100000
open Go.RowKit
theorem qmF {β:Bl} {s:S0} {r:List S0} {us:List Value} (h:S0.isl β (s::r) us):∃ u t,us=u::t∧s.is β u∧S0.isl β r t:=by
 match us,h with
 | u::t,⟨h1,h2⟩=>exact⟨u,t,rfl,h1,h2⟩
theorem qp1 {β:Bl} {us:List Value} (h:S0.isl β [] us):us=[]:=by
 match us,h with
 | [],_=>rfl
theorem qon {k:Nat} {β:Bl} {pre:List (Nat×Nat×SV)} {w:World} {b es n m:Nat} {e:TypeId} {xs:List Value} {v:Value} (H:HRel w k β pre w) (h:qac pre b 0=some (.row e es n xs)) (hi:(S0.ls b m).is β v):Rd w es v n xs:=by
 obtain⟨y,ey,R⟩:=H.rows b 0 e es n xs h
 rw[hi.1] at ey
 cases ey
 exact R.rd
theorem qf2 {f:FuncId} {k:Nat} {pre:List (Nat×Nat×SV)} {w:World} {β:Bl} {us:List Value} {v:Value} (H:HRel w k β pre w) (hd:β.dom k) (h:Calls Try.prog f us.toArray w fun e w'=>e=.returned v∧Gr w w') :
 Calls Try.prog f us.toArray w fun e w'=>∃ (v':Value) (β':Bl),e=.returned v'∧β.le β'∧(SV.pv v).is β' v'∧HRel w (k+0) β' [] w'∧β'.dom (k+0):=
 h.mono fun _ _ ⟨he,hg⟩=>⟨_,β,he,Bl.le_refl _,rfl,(H.gr_mono hg).imp (fun _ _ _ h=>(by cases h)),hd⟩
theorem qf9 {W:World} {f:FuncId} {us:List Value} {rs:List (TypeId×Nat×Nat×List Value)} {args:List SV} {vs:List Value} {v:Value} (h:Fn f rs.length args (qdU 0 rs) (.pv v) 0 []) (hr:ZIns W us rs) (ha:SV.isl (qhO us) args vs) :
 Calls Try.prog f vs.toArray W fun e W'=>e=.returned v∧Gr W W':=by
 refine (h W (qhO us) vs (qg9 hr) (qgI hr) ha).mono fun e W' ⟨v,β',he,_,hx,hh,_⟩=>?_
 cases hx
 exact⟨he,hh.gr⟩
theorem qkd {w:World} {es n n' k nn c c':Nat} {a a':Option Addr} {xs:List Value} (R:Rd w es (.slice a nn c) n xs) (hk:k+n'≤nn) (hc:n'≤c') (hp:0<n'→∃ r o,a=some ⟨r,o,none⟩∧a'=some ⟨r,o+k*es,none⟩) :
 Rd w es (.slice a' n' c') n' ((xs.drop (k*es)).take (n'*es)):=by
 obtain⟨hl,a2,c2,he,hnc,hrd⟩:=R
 have e1:=he
 simp only[Value.slice.injEq] at e1
 obtain⟨rfl,rfl,rfl⟩:=e1
 have hm:(k+n')*es≤nn*es:=Nat.mul_le_mul_right es hk
 rw[Nat.add_mul] at hm
 have hlen:((xs.drop (k*es)).take (n'*es)).length=n'*es:=by rw[List.length_take,List.length_drop];omega
 rcases Nat.eq_zero_or_pos n' with h0 | h0
 ·subst h0
  refine⟨hlen,a',c',rfl,hc,fun j v hj=>?_⟩
  rw[Nat.zero_mul,List.take_zero] at hj
  simp at hj
 ·obtain⟨r,o,ea,ea'⟩:=hp h0
  subst ea ea'
  refine⟨hlen,_,_,rfl,hc,fun j v hj=>⟨r,o+k*es,rfl,?_⟩⟩
  have hj':xs[k*es+j]?=some v:=by
   rw[List.getElem?_take] at hj
   split at hj
   ·rw[List.getElem?_drop] at hj;exact hj
   ·cases hj
  obtain⟨r',o',er,hcell⟩:=hrd _ v hj'
  cases er
  rw[show o+k*es+j=o+(k*es+j) by omega]
  exact hcell
theorem qis (l:List Pt) (n:Nat):(qah l).take (n*3)=qah (l.take n):=by
 rcases Nat.lt_or_ge n l.length with h | h
 ·have e:qah l=qah (l.take n)++qah (l.drop n):=by rw[← qbL,List.take_append_drop]
  rw[e,List.take_append_of_le_length (by rw[qaG,List.length_take];omega),List.take_of_length_le (by rw[qaG,List.length_take];omega)]
 ·rw[List.take_of_length_le (by rw[qaG];omega),List.take_of_length_le h]
theorem qt0 {r:Int} {n:Nat} {l:List Pt} (hn:n≤l.length) (hl:l.length≤1000000):Fn 22 2 [.ag [.pv (iV r),.lq 0 3 0 n],trS 1 r (l.take n)] [(0,0,qaa l),(1,0,qaa (l.take n))] (.pv (.bool true)) 0 []:=by
 have h:=qjh (rt:=r) (l:=l.take n) (by rw[List.length_take];omega)
 have hlen:(l.take n).length=n:=by rw[List.length_take];omega
 intro w β us H hd hi
 match us,hi with
 | [a,c],⟨⟨ws,hws,ha⟩,⟨wt,ht,hb⟩,_⟩=>
 obtain⟨u,r',ew,hu,k1⟩:=qmF hws
 obtain⟨y,r3,ew3,⟨a',nn,cc,a'',c',hg,hle,hc',hy,hp⟩,k3⟩:=qmF k1
 have er:=qp1 k3
 obtain⟨u2,r2,ew2,hu2,k2⟩:=qmF ht
 obtain⟨y2,r4,ew4,hy2,k4⟩:=qmF k2
 have er4:=qp1 k4
 have hu':u=iV r:=hu
 have hu2':u2=iV r:=hu2
 subst er ew3 er4 ew4 ew ew2 ha hb hy hu' hu2'
 obtain⟨y0,e0,R0⟩:=H.rows 0 0 _ _ _ _ rfl
 rw[hg] at e0
 cases e0
 have R1:=qkd R0.rd hle hc' hp
 rw[Nat.zero_mul,List.drop_zero,qis] at R1
 have R2:=qon H rfl hy2
 rw[hlen] at R2
 have h2:Fn 22 2 [.ag [.pv (iV r),.ls 0 n],.ag [.pv (iV r),.ls 1 n]] [(0,0,.row 26 3 n (qah (l.take n))),(1,0,.row 26 3 n (qah (l.take n)))] (.pv (.bool true)) 0 []:=by
  have e:∀ b,trS b r (l.take n)=.ag [.pv (iV r),.ls b n]:=fun b=>by rw[trS,hlen]
  have e2:qaa (l.take n)=.row 26 3 n (qah (l.take n)):=by rw[qaa,hlen]
  rw[e,e,e2] at h
  exact h
 exact qf2 (us:=[_,_]) H hd (qf9 (rs:=[(26,3,n,qah (l.take n)),(26,3,n,qah (l.take n))]) (us:=[_,y2]) h2 (.cons R1 (qcJ _) (.cons R2 (qcJ _) .nil))
  ⟨⟨[_,_],⟨rfl,⟨rfl,R1.zsl⟩,tI⟩,rfl⟩,⟨[_,_],⟨rfl,⟨rfl,R2.zsl⟩,tI⟩,rfl⟩,tI⟩)
section
variable {s l:List Pt} {tn td rt:Int}
end
end Go.Proofs.Ytalnjplghagbpaa
