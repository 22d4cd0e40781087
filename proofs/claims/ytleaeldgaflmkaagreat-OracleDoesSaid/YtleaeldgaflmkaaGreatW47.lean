/-
  Joined: Vv, Vw, Vx. Conditions: none.
-/
import Derived.Test.YtleaeldgaflmkaaGreatW46
import Derived.Test.YtleaeldgaflmkaaGreatW37
import Derived.Test.YtleaeldgaflmkaaGreatW44
import Derived.Test.YtleaeldgaflmkaaGreatW25
import Derived.Test.YtleaeldgaflmkaaGreatW36
import Derived.Test.YtleaeldgaflmkaaGreatZj
import Derived.Test.YtleaeldgaflmkaaGreatW34
import Derived.Deep.Strs
import Derived.Lib.SmallJoins
namespace Go.Proofs.YtleaeldgaflmkaaGreat
set_option maxRecDepth 100000
open Go.RowKit
def qxn (s:List Pt) (n d:Int):List AskQ→List Rep→Int→Int→List Pt→Prop
 | [],[],n',d',s'=>n'=n∧d'=d∧s'=s
 | a::qs,r::rs,n',d',s'=>∃ n1 d1 s1,Outc s n d a r n1 d1 s1∧qxn s1 n1 d1 qs rs n' d' s'
 | _,_,_,_,_=>False
def qtr (a:AskQ):Prop:=I64 a.qn∧I64 a.qd
abbrev qmi (rs:List Rep):List Dn:=rs.flatMap qhv
abbrev orT (qs:List AskQ) (k:Nat):List (Nat×SV):=[(2,.pp 2 0),(4,.pp 3 0),(6,.ls 5 k),(17,.ls 1 qs.length),(18,.pv (iV (qs.length:Int))),(19,.pv (iV (k:Int)))]
abbrev orH (s0:List Pt) (qs:List AskQ) (s:List Pt) (n d:Int) (row:SV):List (Nat×Nat×SV):=[(2,0,.pv (iV n)),(2,1,.pv (iV d)),(2,2,.ls 4 s.length),(3,0,.pv (iV 0)),(3,1,.pv (iV 0)),(3,2,.pv (.slice none 0 0)),(0,0,qad s0),(1,0,qhG qs),(4,0,qad s),(5,0,row)]
abbrev orE (k:Nat):List (Nat×SV):=[(2,.pp 2 0),(4,.pp 3 0),(6,.ls 5 k)]
abbrev qt7 (k:Nat) (ds:List Dn):SV:=.drow 38 6 k ds
section
variable {s s' s0:List Pt} {n d n' d':Int} {qs:List AskQ} {a:AskQ} {r:Rep} {k:Nat} {ds:List Dn}
theorem qqb (o:Outc s n d a r n' d' s') (hk:qs[k]?=some a) (hl:qs.length≤999999) {e:Exit} {tm2:TmL} {hp2:HpL}
 (rr:Rl 2 2 42 0 40 6 (orT qs (k+1)) (orH s0 qs s' n' d' (qt7 (k+1) (ds++qhv r))) e tm2 hp2) :
 Rl 2 2 42 0 40 6 (orT qs k) (orH s0 qs s n d (qt7 k ds)) e tm2 hp2:=by
 have hkl:=qav hk
 rcases o.prg with ⟨he,h⟩ | ⟨he,hs,h⟩ | ⟨he,x,y,h⟩ | ⟨he,x,y,h⟩
 ·exact qxu (hlt:=dt (by omega)) (hin:=⟨by omega,by omega⟩) (hk:=hk) (hd:=h) (he:=by simp[he]) (hm:=by omega) (hs:=qaw (by omega)) rr
 ·subst hs
  exact qy9 (hlt:=dt (by omega)) (hin:=⟨by omega,by omega⟩) (hk:=hk) (hd:=h) (he:=by simp[he]) (hm:=by omega) (hs:=qaw (by omega)) rr
 ·obtain⟨_,rfl,rfl,rfl⟩:=o.err he
  exact qyO (hlt:=dt (by omega)) (hin:=⟨by omega,by omega⟩) (hk:=hk) (hd:=h) (he:=by simp[he]) (hm:=by omega) (hs:=qaw (by omega)) rr
 ·obtain⟨_,rfl,rfl,rfl⟩:=o.err he
  exact qx7 (hlt:=dt (by omega)) (hin:=⟨by omega,by omega⟩) (hk:=hk) (hd:=h) (he:=by simp[he]) (hm:=by omega) (hs:=qaw (by omega)) rr
theorem qls (o:Outc s n d a r n' d' s') (hk:qs[0]?=some a) (hl:qs.length≤999999) {e:Exit} {tm2:TmL} {hp2:HpL}
 (rr:Rl 2 2 42 0 40 6 (orT qs 1) (orH s0 qs s' n' d' (qt7 1 (qhv r))) e tm2 hp2) :
 Rl 2 2 42 0 40 6 (orT qs 0) (orH s0 qs s n d (.row 38 6 0 [])) e tm2 hp2:=by
 have hkl:=qav hk
 rcases o.prg with ⟨he,h⟩ | ⟨he,hs,h⟩ | ⟨he,x,y,h⟩ | ⟨he,x,y,h⟩
 ·exact quj (hlt:=dt (by omega)) (hin:=⟨by omega,by omega⟩) (hk:=hk) (hd:=h) (he:=by simp[he]) (hm:=by omega) (hs:=qaw (by omega)) rr
 ·subst hs
  exact qwf (hlt:=dt (by omega)) (hin:=⟨by omega,by omega⟩) (hk:=hk) (hd:=h) (he:=by simp[he]) (hm:=by omega) (hs:=qaw (by omega)) rr
 ·obtain⟨_,rfl,rfl,rfl⟩:=o.err he
  exact qu6 (hlt:=dt (by omega)) (hin:=⟨by omega,by omega⟩) (hk:=hk) (hd:=h) (he:=by simp[he]) (hm:=by omega) (hs:=qaw (by omega)) rr
 ·obtain⟨_,rfl,rfl,rfl⟩:=o.err he
  exact qvJ (hlt:=dt (by omega)) (hin:=⟨by omega,by omega⟩) (hk:=hk) (hd:=h) (he:=by simp[he]) (hm:=by omega) (hs:=qaw (by omega)) rr
theorem qjp (hl:qs.length≤999999):∀ (rest:List AskQ) (k:Nat) (s:List Pt) (n d:Int) (ds:List Dn),qs=qs.take k++rest→k+rest.length=qs.length→Val s→AskT n d→(∀ a∈rest,qtr a)→
 ∃ rs n' d' s',qxn s n d rest rs n' d' s'∧Val s'∧AskT n' d'∧rs.length=rest.length∧
  Rl 2 2 42 0 40 6 (orT qs k) (orH s0 qs s n d (qt7 k ds)) (.exit 0) (orE qs.length) (orH s0 qs s' n' d' (qt7 qs.length (ds++qmi rs)))
 | [],k,s,n,d,ds,_,hk,hv,ht,_=>by
  have e:k=qs.length:=by simpa using hk
  refine⟨[],n,d,s,⟨rfl,rfl,rfl⟩,hv,ht,rfl,?_⟩
  rw[show ds++qmi []=ds from List.append_nil _]
  subst e
  exact qrp (hlt:=df (by omega))
 | a::rest,k,s,n,d,ds,hq,hk,hv,ht,hn=>by
  have hkl:k<qs.length:=by rw[← hk,List.length_cons];omega
  have hka:qs[k]?=some a:=by
   rw[hq,List.getElem?_append_right (by rw[List.length_take];omega),List.length_take,Nat.min_eq_left (by omega),Nat.sub_self]
   rfl
  obtain⟨r,n1,d1,s1,o⟩:=qnM a hv ht (hn a List.mem_cons_self)
  obtain⟨rs,n',d',s',h1,h2,h3,h4,h5⟩:=qjp hl rest (k+1) s1 n1 d1 (ds++qhv r) (by
   rw[List.take_add_one,hka,List.append_assoc];exact hq) (by rw[← hk,List.length_cons];omega) o.val o.ask fun b hb=>hn b (List.mem_cons_of_mem _ hb)
  refine⟨r::rs,n',d',s',⟨n1,d1,s1,o,h1⟩,h2,h3,by rw[List.length_cons,h4];rfl,qqb o hka hl ?_⟩
  rw[show ds++qmi (r::rs)=ds++qhv r++qmi rs by rw[List.append_assoc];rfl]
  exact h5
theorem qsP (hl:qs.length≤999999) (hv:Val s) (ht:AskT n d) (hn:∀ a∈qs,qtr a):∃ rs n' d' s',qxn s n d qs rs n' d' s'∧Val s'∧AskT n' d'∧rs.length=qs.length∧
 Fn 42 2 [moS 0 s n d,.ls 1 qs.length] [(0,0,qad s),(1,0,qhG qs)] (.tu [mo1 2 s' n' d',.one (.dv 6 qs.length (qmi rs))]) 1 [(2,0,qad s')]:=by
 have hc:=qk9 (l:=s) (by have:=hv.len;omega)
 cases qs with
 | nil=>
  exact⟨[],n,d,s,⟨rfl,rfl,rfl⟩,hv,ht,rfl,qrC (hc:=hc) (r0:=qpI (hlt:=by decide))⟩
 | cons a rest=>
  obtain⟨r,n1,d1,s1,o⟩:=qnM a hv ht (hn a List.mem_cons_self)
  obtain⟨rs,n',d',s',h1,h2,h3,h4,h5⟩:=qjp (s0:=s) hl rest 1 s1 n1 d1 (qhv r) rfl (by rw[List.length_cons];omega) o.val o.ask fun b hb=>hn b (List.mem_cons_of_mem _ hb)
  exact⟨r::rs,n',d',s',⟨n1,d1,s1,o,h1⟩,h2,h3,by rw[List.length_cons,h4];rfl,qvB (hc:=hc) (r0:=qls o rfl hl h5)⟩
noncomputable def qlX (s:List Pt) (n d:Int):Int:=open Classical in if qeg n d=0∧qcd s=0 then 0 else 8
theorem qiP (hn:I64 n) (hd:I64 d):Fn 14 1 [moS 0 s n d] [(0,0,qad s)] (.pv (iV (qlX s n d))) 0 []∧Fn 25 1 [moS 0 s n d] [(0,0,qad s)] (.pv (iV (qlX s n d))) 0 []:=by
 have c1:Pure Tryz.prog 40 #[qaa n d] (iV (qeg n d)):=fun w=>qcq n d w hn hd
 have c2:Pure Tryz.prog 31 #[qaa n d] (iV (qeg n d)):=fun w=>qc9 n d w hn hd
 have c3:=qaQ s
 have c4:=qbb s
 unfold qlX
 by_cases h1:qeg n d=0
 ·rw[h1] at c1 c2
  by_cases h2:qcd s=0
  ·rw[h2] at c3 c4
   rw[if_pos ⟨h1,h2⟩]
   exact⟨qyv (ha:=c1) (hc:=c3),qxO (ha:=c2) (hc:=c4)⟩
  ·rw[if_neg fun h=>h2 h.2]
   exact⟨qxA (ha:=c1) (hc:=c3) (he:=by simpa using h2),qze (ha:=c2) (hc:=c4) (he:=by simpa using h2)⟩
 ·rw[if_neg fun h=>h1 h.1]
  exact⟨qzm (ha:=c1) (hc:=c3) (he:=by simpa using h1),qyj (ha:=c2) (he:=by simpa using h1)⟩
theorem qvf (hn:I64 n) (hd:I64 d):qlX s n d=0↔Val s∧AskT n d:=by
 unfold qlX
 split
 ·rename_i h
  exact⟨fun _=>⟨qb8.1 h.2,qct.1 h.1⟩,fun _=>rfl⟩
 ·rename_i h
  exact⟨fun e=>(by cases e),fun k=>(h ⟨qct.2 k.2,qb8.2 k.1⟩).elim⟩
theorem qrf (h:qlX s n d≠0):qlX s n d=8:=by
 unfold qlX at h ⊢
 split
 ·rename_i g;rw[if_pos g] at h;exact (h rfl).elim
 ·rfl
end
end Go.Proofs.YtleaeldgaflmkaaGreat

namespace Go.Proofs.YtleaeldgaflmkaaGreat
set_option maxRecDepth 100000
open Go.RowKit
section
variable {s s':List Pt} {n d n' d':Int} {a:AskQ}
theorem qoN (r:Rep) (h:r.ms.length≤100000):Fn 26 0 [.ag (qdP r),.ag (qdP r)] [] (.pv (.bool true)) 0 []:=qxI (hs:=qtk rfl h)
theorem qgB (h:s.length≤1000000):Fn 24 2 [moS 0 s n d,moS 1 s n d] [(0,0,qad s),(1,0,qad s)] (.pv (.bool true)) 0 []:=qyn (hs:=qr1 h)
theorem qsE:Pure Tryz.prog 41 #[] (.agg #[.slice none 0 0]):=qac (args:=[]) 200 [] (Ai rfl tI) (by kernel_rfl)
theorem qm1 {f:FuncId} {x v:Value} (h:Pure Tryz.prog f #[x] v):Fn f 0 [.pv x] [] (.pv v) 0 []:=by
 intro w β us hH hd hi
 match us,hi with
 | [y],⟨e,_⟩=>
  have e':y=x:=e
  subst e'
  exact (h w).mono fun e w' ⟨he,hg⟩=>⟨v,β,he,Bl.le_refl β,rfl,hH.gr_mono hg,hd⟩
theorem qeA {f:FuncId} {e:Int} (h:Pure Tryz.prog f #[qaa n d] (.tuple #[.agg #[iV n',iV d',.slice none 0 0],iV e])):Fn f 0 [.pv (qaa n d)] [] (.tu [mo1 0 [] n' d',.one (.pv (iV e))]) 1 [(0,0,qad [])]:=
 qn1 (x:=.tu [.one (.pv (.agg #[iV n',iV d',.slice none 0 0])),.one (.pv (iV e))]) 34 3 (qeB (qm1 h) fun β v hv=>⟨[_,_],⟨rfl,rfl,tI⟩,hv⟩)
  (.tu (.cons (.un (vs:=[iV n',iV d',.slice none 0 0]) (.cons (.same _) (.cons (.same _) (.cons .nil .nil)))) (.cons (.one (.same _)) .nil)))
theorem qoh (hn:I64 n) (hd:I64 d):∃ n' d' e,Fn 10 0 [.pv (qaa n d)] [] (.tu [mo1 0 [] n' d',.one (.pv (iV e))]) 1 [(0,0,qad [])]∧Fn 22 0 [.pv (qaa n d)] [] (.tu [mo1 0 [] n' d',.one (.pv (iV e))]) 1 [(0,0,qad [])]:=by
 have c1:Pure Tryz.prog 40 #[qaa n d] (iV (qeg n d)):=fun w=>qcq n d w hn hd
 have c2:Pure Tryz.prog 31 #[qaa n d] (iV (qeg n d)):=fun w=>qc9 n d w hn hd
 by_cases h:qeg n d=0
 ·rw[h] at c1 c2
  exact⟨n,d,0,qeA (qye (ha:=c1) (hn:=qsE)),qeA (qy5 (ha:=c2))⟩
 ·exact⟨0,0,qeg n d,qeA (qyJ (ha:=c1) (he:=by simpa using h)),qeA (qxz (ha:=c2) (he:=by simpa using h))⟩
theorem qnc {f:FuncId} {e:Int} (h:Fn f 1 [moS 0 s n d,.pv (qch a)] [(0,0,qad s)] (.pv (.tuple #[.agg #[iV 0,iV 0,.slice none 0 0],.agg #[iV 0,iV 0,iV 0,iV 0,iV 0,.slice none 0 0],iV e])) 0 []) :
 Fn f 1 [moS 0 s n d,.pv (qch a)] [(0,0,qad s)] (.tu [mo1 1 [] 0 0,.ag (qdP (qkR 0)),.one (.pv (iV e))]) 1 [(1,0,qad [])]:=
 qn1 (x:=.tu [.one (.pv (.agg #[iV 0,iV 0,.slice none 0 0])),.ag (qdP (qkR 0)),.one (.pv (iV e))]) 34 3
  (qeB h fun β v hv=>⟨[_,_,_],⟨rfl,⟨[iV 0,iV 0,iV 0,iV 0,iV 0,.slice none 0 0],⟨rfl,rfl,rfl,rfl,rfl,qis,tI⟩,rfl⟩,rfl,tI⟩,hv⟩)
  (.tu (.cons (.un (vs:=[iV 0,iV 0,.slice none 0 0]) (.cons (.same _) (.cons (.same _) (.cons .nil .nil)))) (.cons (.ag (.cons (.same _) (.cons (.same _) (.cons (.same _) (.cons (.same _) (.cons (.same _) (.cons (.same _) .nil))))))) (.cons (.one (.same _)) .nil))))
abbrev qzy (f:FuncId) (s:List Pt) (n d:Int) (a:AskQ) (r:Rep) (n' d':Int) (s':List Pt) (e:Int):Prop:=Fn f 1 [moS 0 s n d,.pv (qch a)] [(0,0,qad s)] (.tu [mo1 1 s' n' d',.ag (qdP r),.one (.pv (iV e))]) 1 [(1,0,qad s')]
theorem qr8 (hn:I64 n) (hd:I64 d) (ha:qtr a):∃ r n' d' s' e,((qlX s n d=0∧Outc s n d a r n' d' s'∧e=0)∨(qlX s n d≠0∧r=qkR 0∧n'=0∧d'=0∧s'=[]∧e=8))∧qzy 12 s n d a r n' d' s' e∧qzy 23 s n d a r n' d' s' e:=by
 obtain⟨c1,c2⟩:=qiP (s:=s) hn hd
 by_cases h:qlX s n d=0
 ·obtain⟨hv,ht⟩:=(qvf hn hd).1 h
  rw[h] at c1 c2
  obtain⟨rs,n',d',s',h1,_,_,h4,h5⟩:=qsP (qs:=[a]) (by show 1≤999999;decide) hv ht fun b hb=>(by rw[List.mem_singleton.1 hb];exact ha)
  match rs,h4,h1 with
  | [r],_,⟨n1,d1,s1,o,e1,e2,e3⟩=>
   subst e1 e2 e3
   exact⟨r,_,_,_,0,Or.inl ⟨h,o,rfl⟩,qxx (hc:=c1) (hr:=h5) (h0:=by decide),qyC (hc:=c2) (hd:=o.ref)⟩
 ·rw[qrf h] at c1 c2
  exact⟨qkR 0,0,0,[],8,Or.inr ⟨h,rfl,rfl,rfl,rfl,rfl⟩,qnc (qxr (hc:=c1) (he:=by decide)),qnc (qyh (hc:=c2) (he:=by decide))⟩
theorem qsm (s:List Pt):Fn 20 1 [qaq 0 s] [(0,0,qad s)] (.pv (.bool true)) 0 []∨(s.length≤70∧Fn 20 1 [qaq 0 s] [(0,0,qad s)] (.pv (.bool false)) 0 []):=by
 rcases qlt s with ⟨_,h⟩ | ⟨h0,h⟩
 ·exact Or.inl h
 ·exact Or.inr ⟨by omega,h⟩
theorem qoR {n0 d0:Int} (h0:I64 n0) (h1:I64 d0) (hn:I64 n) (hd:I64 d) (ha:qtr a) :
 Fn 4 1 [.pv (qaa n0 d0),moS 0 s n d,.pv (qch a)] [(0,0,qad s)] (.pv (.bool true)) 0 []:=by
 rcases qsm s with hg | ⟨hl,hg⟩
 ·exact qxm (hg:=hg)
 ·obtain⟨na,da,e1,p1,p2⟩:=qoh h0 h1
  obtain⟨r,n',d',s',e,hr,q1,q2⟩:=qr8 (s:=s) hn hd ha
  obtain⟨c1,c2⟩:=qiP (s:=s) hn hd
  have hs':s'.length≤1000000:=by
   rcases hr with ⟨_,o,_⟩ | ⟨_,_,_,_,h,_⟩
   ·have:=o.val.len;omega
   ·subst h;decide
  have hms:r.ms.length≤100000:=by
   rcases hr with ⟨_,o,_⟩ | ⟨_,h,_⟩
   ·exact o.few
   ·subst h;decide
  exact qvC (hg:=hg) (ht:=vtw (ht:=qgq (by omega))) (hn1:=p1) (hn2:=p2) (hd1:=q1) (hd2:=q2) (hs0:=qgB (by decide)) (hc1:=c1) (hc2:=c2) (hs1:=qgB hs') (hs2:=qoN r hms) (hs3:=qgB (by omega))
end
end Go.Proofs.YtleaeldgaflmkaaGreat

namespace Go.Proofs.YtleaeldgaflmkaaGreat
set_option maxRecDepth 100000
open Go.ChangeShapes Go.WideShapes Go.ChangeAt Go.RowKit Go.Joins Go.Deep
theorem que:Tryz.prog.cellsOf 23=2:=by kernel_rfl
theorem qxD:Tryz.prog.cellsOf 26=1:=by kernel_rfl
theorem qxp:Tryz.prog.cellsOf 24=1:=by kernel_rfl
theorem quf:Tryz.prog.cellsOf 34=3:=by kernel_rfl
theorem qmf:Tryz.prog.cellsOf 2=1:=by kernel_rfl
theorem qqT:Tryz.prog.cellsOf 3=1:=by kernel_rfl
theorem qyU:Tryz.prog.cellsOf 5=1:=by kernel_rfl
theorem qpi:Tryz.prog.cellsOf 28=3:=by kernel_rfl
theorem qru:Tryz.prog.readableRec 28=true:=by kernel_rfl
theorem qvz:28<Tryz.prog.types.size:=of_decide_eq_true (by kernel_rfl)
theorem qo6:Tryz.prog.cellsOf 42=7:=by kernel_rfl
theorem qs3:Tryz.prog.readableRec 42=true:=by kernel_rfl
theorem quk:42<Tryz.prog.types.size:=of_decide_eq_true (by kernel_rfl)
section
variable {H:Type} {enc:TypeId×Value→H} {W:World} {base:Nat} {spare:Nat→Bool} {held:Bool}
theorem qkx {r:Reach} {b0:Nat} {v:Value} {d:DataW H} {p:List MemPlace} (hv:Value.okWide Tryz.prog W r b0 28 v) (h:DataW.Trod enc Tryz.prog W base spare held 28 v d p) :
 ∃ (tn td:Int) (u:Value) (l:List Pt),v=.agg #[iV tn,iV td,u]∧Rd W 3 u l.length (qaX l)∧I64 tn∧I64 td:=by
 obtain⟨cs,rfl,hsz⟩:=okWide_struct Tryz.underlying28 hv
 obtain⟨fuel,hf⟩:=h
 obtain⟨y0,y1,n,_,hlen,h0,h1⟩:=trod_struct2 Tryz.underlying28 hf
 obtain⟨z0,z1,n1,_,_,a0,a1⟩:=trod_struct2 Tryz.underlying23 h0
 obtain⟨tn,e0,_,w0⟩:=DataW.trod_int Tryz.underlying2 a0
 obtain⟨td,e1,_,w1⟩:=DataW.trod_int Tryz.underlying2 a1
 obtain⟨z2,n2,_,_,b0⟩:=trod_struct1 Tryz.underlying26 h1
 obtain⟨u0,s,c0,r0,_⟩:=qqo b0
 refine⟨tn,td,u0,s,?_,r0,bounds_i64 w0,bounds_i64 w1⟩
 rw[qxD,qxp] at c0
 rw[qmf,que] at e0 e1
 have hs:cs.size=3:=hsz.trans qpi
 obtain⟨L⟩:=cs
 match L,hs with
 | [v0,v1,v2],_=>
  simp[Value.cells] at c0 e0 e1
  rw[c0,e0,e1]
theorem qk3 {fuel:Nat} {cs:List Value} {x:DataW H×List MemPlace} (hs:cs.length=7) (hf:DataW.trod enc Tryz.prog W base spare held fuel 42 cs=some x) :
 ∃ a:AskQ,cs=[.int .u8 a.kd,iV a.pi,iV a.pa,iV a.pb,iV a.z,iV a.qn,iV a.qd]∧qtr a:=by
 obtain⟨y0,y1,y2,y3,n,_,hlen,h0,h1,h2,h3⟩:=trod_struct4 Tryz.underlying42 hf
 obtain⟨kd,e0,_,_⟩:=DataW.trod_int Tryz.underlying5 h0
 obtain⟨z0,z1,z2,n1,_,_,a0,a1,a2⟩:=trod_struct3 Tryz.underlying34 h1
 obtain⟨pi,e1,_,_⟩:=DataW.trod_int Tryz.underlying3 a0
 obtain⟨pa,e2,_,_⟩:=DataW.trod_int Tryz.underlying2 a1
 obtain⟨pb,e3,_,_⟩:=DataW.trod_int Tryz.underlying2 a2
 obtain⟨z,e4,_,_⟩:=DataW.trod_int Tryz.underlying3 h2
 obtain⟨x0,x1,n2,_,_,b0,b1⟩:=trod_struct2 Tryz.underlying23 h3
 obtain⟨qn,e5,_,w5⟩:=DataW.trod_int Tryz.underlying2 b0
 obtain⟨qd,e6,_,w6⟩:=DataW.trod_int Tryz.underlying2 b1
 refine⟨⟨kd,pi,pa,pb,z,qn,qd⟩,?_,bounds_i64 w5,bounds_i64 w6⟩
 rw[qyU] at e0
 rw[qqT,quf] at e1
 rw[qmf,quf] at e2 e3
 rw[qqT] at e4
 rw[qmf,que] at e5 e6
 match cs,hs with
 | [v0,v1,v2,v3,v4,v5,v6],_=>
  simp at e0 e1 e2 e3 e4 e5 e6
  rw[e0,e1,e2,e3,e4,e5,e6]
theorem qoC {r:Reach} {b0:Nat} {v:Value} {d:DataW H} {p:List MemPlace} (hv:Value.okWide Tryz.prog W r b0 42 v) (h:DataW.Trod enc Tryz.prog W base spare held 42 v d p) :
 ∃ a:AskQ,v=qch a∧qtr a:=by
 obtain⟨cs,rfl,hsz⟩:=okWide_struct Tryz.underlying42 hv
 obtain⟨fuel,hf⟩:=h
 have hs:cs.size=7:=hsz.trans qo6
 obtain⟨L⟩:=cs
 obtain⟨a,ha,hn⟩:=qk3 (cs:=L) hs hf
 subst ha
 exact⟨a,rfl,hn⟩
end
section
variable {W:World} {s:List Pt} {n0 d0 n d:Int} {a:AskQ} {u:Value}
theorem qnW (n0 d0:Int) (h0:I64 n0) (h1:I64 d0) (n d:Int) (s:List Pt) (hn:I64 n) (hd:I64 d) (a:AskQ) (ha:qtr a) :
 Fn 4 1 [.pv (qaa n0 d0),moS 0 s n d,.pv (qch a)] [(0,0,qad s)] (.pv (.bool true)) 0 []:=qoR h0 h1 hn hd ha
theorem qwB {f:FuncId} {t w:Value} (h:Fn f 1 [.pv t,moS 0 s n d,.pv w] [(0,0,qad s)] (.pv (.bool true)) 0 []) (hs:Rd W 3 u s.length (qaX s)) :
 Calls Tryz.prog f #[t,.agg #[iV n,iV d,u],w] W fun e W'=>e=.returned (.bool true)∧Gr W W':=
 qpr (rs:=[(34,3,s.length,qaX s)]) (us:=[u]) h (.cons hs (qgH s) .nil) ⟨rfl,⟨[iV n,iV d,u],⟨rfl,rfl,⟨rfl,hs.zsl⟩,tI⟩,rfl⟩,rfl,tI⟩
end
end Go.Proofs.YtleaeldgaflmkaaGreat
