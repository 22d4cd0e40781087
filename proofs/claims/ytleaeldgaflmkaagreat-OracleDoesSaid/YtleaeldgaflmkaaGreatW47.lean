/-
  Joined: Vv, Vw, Vx. Conditions: none.
-/
import Derived.Test.YtleaeldgaflmkaaGreatW46
import Derived.Test.YtleaeldgaflmkaaGreatW37
import Derived.Test.YtleaeldgaflmkaaGreatW44
import Derived.Test.YtleaeldgaflmkaaGreatW25
import Derived.Test.YtleaeldgaflmkaaGreatW36
import Derived.Test.YtleaeldgaflmkaaGreatZj
import Derived.Test.YtleaeldgaflmkaaGreatW34
import Derived.Deep.Strs
import Derived.Lib.SmallJoins
namespace Go.Proofs.YtleaeldgaflmkaaGreat
set_option maxRecDepth 100000
open Go.RowKit
def qyh (s:List Pt) (n d:Int):List AskQ→List Rep→Int→Int→List Pt→Prop
 | [],[],n',d',s'=>n'=n∧d'=d∧s'=s
 | a::qs,r::rs,n',d',s'=>∃ n1 d1 s1,Outc s n d a r n1 d1 s1∧qyh s1 n1 d1 qs rs n' d' s'
 | _,_,_,_,_=>False
def qr7 (a:AskQ):Prop:=I64 a.qn∧I64 a.qd
abbrev ql0 (rs:List Rep):List Dn:=rs.flatMap qhi
abbrev orT (qs:List AskQ) (k:Nat):List (Nat×SV):=[(2,.pp 2 0),(4,.pp 3 0),(6,.ls 5 k),(17,.ls 1 qs.length),(18,.pv (iV (qs.length:Int))),(19,.pv (iV (k:Int)))]
abbrev orH (s0:List Pt) (qs:List AskQ) (s:List Pt) (n d:Int) (row:SV):List (Nat×Nat×SV):=[(2,0,.pv (iV n)),(2,1,.pv (iV d)),(2,2,.ls 4 s.length),(3,0,.pv (iV 0)),(3,1,.pv (iV 0)),(3,2,.pv (.slice none 0 0)),(0,0,qad s0),(1,0,qhG qs),(4,0,qad s),(5,0,row)]
abbrev orE (k:Nat):List (Nat×SV):=[(2,.pp 2 0),(4,.pp 3 0),(6,.ls 5 k)]
abbrev qu9 (k:Nat) (ds:List Dn):SV:=.drow 38 6 k ds
section
variable {s s' s0:List Pt} {n d n' d':Int} {qs:List AskQ} {a:AskQ} {r:Rep} {k:Nat} {ds:List Dn}
theorem qoX (o:Outc s n d a r n' d' s') (hk:qs[k]?=some a) (hl:qs.length≤999999) {e:Exit} {tm2:TmL} {hp2:HpL}
 (rr:Rl 2 2 42 0 40 6 (orT qs (k+1)) (orH s0 qs s' n' d' (qu9 (k+1) (ds++qhi r))) e tm2 hp2) :
 Rl 2 2 42 0 40 6 (orT qs k) (orH s0 qs s n d (qu9 k ds)) e tm2 hp2:=by
 have hkl:=qav hk
 rcases o.prg with ⟨he,h⟩ | ⟨he,hs,h⟩ | ⟨he,x,y,h⟩ | ⟨he,x,y,h⟩
 ·exact qyn (hlt:=dt (by omega)) (hin:=⟨by omega,by omega⟩) (hk:=hk) (hd:=h) (he:=by simp[he]) (hm:=by omega) (hs:=qaw (by omega)) rr
 ·subst hs
  exact qyq (hlt:=dt (by omega)) (hin:=⟨by omega,by omega⟩) (hk:=hk) (hd:=h) (he:=by simp[he]) (hm:=by omega) (hs:=qaw (by omega)) rr
 ·obtain⟨_,rfl,rfl,rfl⟩:=o.err he
  exact qxV (hlt:=dt (by omega)) (hin:=⟨by omega,by omega⟩) (hk:=hk) (hd:=h) (he:=by simp[he]) (hm:=by omega) (hs:=qaw (by omega)) rr
 ·obtain⟨_,rfl,rfl,rfl⟩:=o.err he
  exact qy7 (hlt:=dt (by omega)) (hin:=⟨by omega,by omega⟩) (hk:=hk) (hd:=h) (he:=by simp[he]) (hm:=by omega) (hs:=qaw (by omega)) rr
theorem qmd (o:Outc s n d a r n' d' s') (hk:qs[0]?=some a) (hl:qs.length≤999999) {e:Exit} {tm2:TmL} {hp2:HpL}
 (rr:Rl 2 2 42 0 40 6 (orT qs 1) (orH s0 qs s' n' d' (qu9 1 (qhi r))) e tm2 hp2) :
 Rl 2 2 42 0 40 6 (orT qs 0) (orH s0 qs s n d (.row 38 6 0 [])) e tm2 hp2:=by
 have hkl:=qav hk
 rcases o.prg with ⟨he,h⟩ | ⟨he,hs,h⟩ | ⟨he,x,y,h⟩ | ⟨he,x,y,h⟩
 ·exact quP (hlt:=dt (by omega)) (hin:=⟨by omega,by omega⟩) (hk:=hk) (hd:=h) (he:=by simp[he]) (hm:=by omega) (hs:=qaw (by omega)) rr
 ·subst hs
  exact qwi (hlt:=dt (by omega)) (hin:=⟨by omega,by omega⟩) (hk:=hk) (hd:=h) (he:=by simp[he]) (hm:=by omega) (hs:=qaw (by omega)) rr
 ·obtain⟨_,rfl,rfl,rfl⟩:=o.err he
  exact qu7 (hlt:=dt (by omega)) (hin:=⟨by omega,by omega⟩) (hk:=hk) (hd:=h) (he:=by simp[he]) (hm:=by omega) (hs:=qaw (by omega)) rr
 ·obtain⟨_,rfl,rfl,rfl⟩:=o.err he
  exact qu8 (hlt:=dt (by omega)) (hin:=⟨by omega,by omega⟩) (hk:=hk) (hd:=h) (he:=by simp[he]) (hm:=by omega) (hs:=qaw (by omega)) rr
theorem qi8 (hl:qs.length≤999999):∀ (rest:List AskQ) (k:Nat) (s:List Pt) (n d:Int) (ds:List Dn),qs=qs.take k++rest→k+rest.length=qs.length→Val s→AskT n d→(∀ a∈rest,qr7 a)→
 ∃ rs n' d' s',qyh s n d rest rs n' d' s'∧Val s'∧AskT n' d'∧rs.length=rest.length∧
  Rl 2 2 42 0 40 6 (orT qs k) (orH s0 qs s n d (qu9 k ds)) (.exit 0) (orE qs.length) (orH s0 qs s' n' d' (qu9 qs.length (ds++ql0 rs)))
 | [],k,s,n,d,ds,_,hk,hv,ht,_=>by
  have e:k=qs.length:=by simpa using hk
  refine⟨[],n,d,s,⟨rfl,rfl,rfl⟩,hv,ht,rfl,?_⟩
  rw[show ds++ql0 []=ds from List.append_nil _]
  subst e
  exact qsc (hlt:=df (by omega))
 | a::rest,k,s,n,d,ds,hq,hk,hv,ht,hn=>by
  have hkl:k<qs.length:=by rw[← hk,List.length_cons];omega
  have hka:qs[k]?=some a:=by
   rw[hq,List.getElem?_append_right (by rw[List.length_take];omega),List.length_take,Nat.min_eq_left (by omega),Nat.sub_self]
   rfl
  obtain⟨r,n1,d1,s1,o⟩:=qmA a hv ht (hn a List.mem_cons_self)
  obtain⟨rs,n',d',s',h1,h2,h3,h4,h5⟩:=qi8 hl rest (k+1) s1 n1 d1 (ds++qhi r) (by
   rw[List.take_add_one,hka,List.append_assoc];exact hq) (by rw[← hk,List.length_cons];omega) o.val o.ask fun b hb=>hn b (List.mem_cons_of_mem _ hb)
  refine⟨r::rs,n',d',s',⟨n1,d1,s1,o,h1⟩,h2,h3,by rw[List.length_cons,h4];rfl,qoX o hka hl ?_⟩
  rw[show ds++ql0 (r::rs)=ds++qhi r++ql0 rs by rw[List.append_assoc];rfl]
  exact h5
theorem qtq (hl:qs.length≤999999) (hv:Val s) (ht:AskT n d) (hn:∀ a∈qs,qr7 a):∃ rs n' d' s',qyh s n d qs rs n' d' s'∧Val s'∧AskT n' d'∧rs.length=qs.length∧
 Fn 42 2 [moS 0 s n d,.ls 1 qs.length] [(0,0,qad s),(1,0,qhG qs)] (.tu [mo1 2 s' n' d',.one (.dv 6 qs.length (ql0 rs))]) 1 [(2,0,qad s')]:=by
 have hc:=qnM (l:=s) (by have:=hv.len;omega)
 cases qs with
 | nil=>
  exact⟨[],n,d,s,⟨rfl,rfl,rfl⟩,hv,ht,rfl,qrJ (hc:=hc) (r0:=qpH (hlt:=by decide))⟩
 | cons a rest=>
  obtain⟨r,n1,d1,s1,o⟩:=qmA a hv ht (hn a List.mem_cons_self)
  obtain⟨rs,n',d',s',h1,h2,h3,h4,h5⟩:=qi8 (s0:=s) hl rest 1 s1 n1 d1 (qhi r) rfl (by rw[List.length_cons];omega) o.val o.ask fun b hb=>hn b (List.mem_cons_of_mem _ hb)
  exact⟨r::rs,n',d',s',⟨n1,d1,s1,o,h1⟩,h2,h3,by rw[List.length_cons,h4];rfl,qt4 (hc:=hc) (r0:=qmd o rfl hl h5)⟩
noncomputable def qnV (s:List Pt) (n d:Int):Int:=open Classical in if qee n d=0∧qch s=0 then 0 else 8
theorem qiI (hn:I64 n) (hd:I64 d):Fn 14 1 [moS 0 s n d] [(0,0,qad s)] (.pv (iV (qnV s n d))) 0 []∧Fn 25 1 [moS 0 s n d] [(0,0,qad s)] (.pv (iV (qnV s n d))) 0 []:=by
 have c1:Pure Tryz.prog 40 #[qaa n d] (iV (qee n d)):=fun w=>qcs n d w hn hd
 have c2:Pure Tryz.prog 31 #[qaa n d] (iV (qee n d)):=fun w=>qda n d w hn hd
 have c3:=qaR s
 have c4:=qbc s
 unfold qnV
 by_cases h1:qee n d=0
 ·rw[h1] at c1 c2
  by_cases h2:qch s=0
  ·rw[h2] at c3 c4
   rw[if_pos ⟨h1,h2⟩]
   exact⟨qx1 (ha:=c1) (hc:=c3),qxY (ha:=c2) (hc:=c4)⟩
  ·rw[if_neg fun h=>h2 h.2]
   exact⟨qxU (ha:=c1) (hc:=c3) (he:=by simpa using h2),qxk (ha:=c2) (hc:=c4) (he:=by simpa using h2)⟩
 ·rw[if_neg fun h=>h1 h.1]
  exact⟨qy9 (ha:=c1) (hc:=c3) (he:=by simpa using h1),qy3 (ha:=c2) (he:=by simpa using h1)⟩
theorem qu0 (hn:I64 n) (hd:I64 d):qnV s n d=0↔Val s∧AskT n d:=by
 unfold qnV
 split
 ·rename_i h
  exact⟨fun _=>⟨qb9.1 h.2,qco.1 h.1⟩,fun _=>rfl⟩
 ·rename_i h
  exact⟨fun e=>(by cases e),fun k=>(h ⟨qco.2 k.2,qb9.2 k.1⟩).elim⟩
theorem qr4 (h:qnV s n d≠0):qnV s n d=8:=by
 unfold qnV at h ⊢
 split
 ·rename_i g;rw[if_pos g] at h;exact (h rfl).elim
 ·rfl
end
end Go.Proofs.YtleaeldgaflmkaaGreat

namespace Go.Proofs.YtleaeldgaflmkaaGreat
set_option maxRecDepth 100000
open Go.RowKit
section
variable {s s':List Pt} {n d n' d':Int} {a:AskQ}
theorem qoF (r:Rep) (h:r.ms.length≤100000):Fn 26 0 [.ag (qdP r),.ag (qdP r)] [] (.pv (.bool true)) 0 []:=qxC (hs:=qsT rfl h)
theorem qgM (h:s.length≤1000000):Fn 24 2 [moS 0 s n d,moS 1 s n d] [(0,0,qad s),(1,0,qad s)] (.pv (.bool true)) 0 []:=qy0 (hs:=qr3 h)
theorem qsw:Pure Tryz.prog 41 #[] (.agg #[.slice none 0 0]):=qac (args:=[]) 200 [] (Ai rfl tI) (by kernel_rfl)
theorem qnO {f:FuncId} {x v:Value} (h:Pure Tryz.prog f #[x] v):Fn f 0 [.pv x] [] (.pv v) 0 []:=by
 intro w β us hH hd hi
 match us,hi with
 | [y],⟨e,_⟩=>
  have e':y=x:=e
  subst e'
  exact (h w).mono fun e w' ⟨he,hg⟩=>⟨v,β,he,Bl.le_refl β,rfl,hH.gr_mono hg,hd⟩
theorem qey {f:FuncId} {e:Int} (h:Pure Tryz.prog f #[qaa n d] (.tuple #[.agg #[iV n',iV d',.slice none 0 0],iV e])):Fn f 0 [.pv (qaa n d)] [] (.tu [mo1 0 [] n' d',.one (.pv (iV e))]) 1 [(0,0,qad [])]:=
 qnZ (x:=.tu [.one (.pv (.agg #[iV n',iV d',.slice none 0 0])),.one (.pv (iV e))]) 34 3 (qeI (qnO h) fun β v hv=>⟨[_,_],⟨rfl,rfl,tI⟩,hv⟩)
  (.tu (.cons (.un (vs:=[iV n',iV d',.slice none 0 0]) (.cons (.same _) (.cons (.same _) (.cons .nil .nil)))) (.cons (.one (.same _)) .nil)))
theorem qog (hn:I64 n) (hd:I64 d):∃ n' d' e,Fn 10 0 [.pv (qaa n d)] [] (.tu [mo1 0 [] n' d',.one (.pv (iV e))]) 1 [(0,0,qad [])]∧Fn 22 0 [.pv (qaa n d)] [] (.tu [mo1 0 [] n' d',.one (.pv (iV e))]) 1 [(0,0,qad [])]:=by
 have c1:Pure Tryz.prog 40 #[qaa n d] (iV (qee n d)):=fun w=>qcs n d w hn hd
 have c2:Pure Tryz.prog 31 #[qaa n d] (iV (qee n d)):=fun w=>qda n d w hn hd
 by_cases h:qee n d=0
 ·rw[h] at c1 c2
  exact⟨n,d,0,qey (qxr (ha:=c1) (hn:=qsw)),qey (qx5 (ha:=c2))⟩
 ·exact⟨0,0,qee n d,qey (qy2 (ha:=c1) (he:=by simpa using h)),qey (qx2 (ha:=c2) (he:=by simpa using h))⟩
theorem qnX {f:FuncId} {e:Int} (h:Fn f 1 [moS 0 s n d,.pv (qcd a)] [(0,0,qad s)] (.pv (.tuple #[.agg #[iV 0,iV 0,.slice none 0 0],.agg #[iV 0,iV 0,iV 0,iV 0,iV 0,.slice none 0 0],iV e])) 0 []) :
 Fn f 1 [moS 0 s n d,.pv (qcd a)] [(0,0,qad s)] (.tu [mo1 1 [] 0 0,.ag (qdP (qkw 0)),.one (.pv (iV e))]) 1 [(1,0,qad [])]:=
 qnZ (x:=.tu [.one (.pv (.agg #[iV 0,iV 0,.slice none 0 0])),.ag (qdP (qkw 0)),.one (.pv (iV e))]) 34 3
  (qeI h fun β v hv=>⟨[_,_,_],⟨rfl,⟨[iV 0,iV 0,iV 0,iV 0,iV 0,.slice none 0 0],⟨rfl,rfl,rfl,rfl,rfl,qiu,tI⟩,rfl⟩,rfl,tI⟩,hv⟩)
  (.tu (.cons (.un (vs:=[iV 0,iV 0,.slice none 0 0]) (.cons (.same _) (.cons (.same _) (.cons .nil .nil)))) (.cons (.ag (.cons (.same _) (.cons (.same _) (.cons (.same _) (.cons (.same _) (.cons (.same _) (.cons (.same _) .nil))))))) (.cons (.one (.same _)) .nil))))
abbrev qzs (f:FuncId) (s:List Pt) (n d:Int) (a:AskQ) (r:Rep) (n' d':Int) (s':List Pt) (e:Int):Prop:=Fn f 1 [moS 0 s n d,.pv (qcd a)] [(0,0,qad s)] (.tu [mo1 1 s' n' d',.ag (qdP r),.one (.pv (iV e))]) 1 [(1,0,qad s')]
theorem qs2 (hn:I64 n) (hd:I64 d) (ha:qr7 a):∃ r n' d' s' e,((qnV s n d=0∧Outc s n d a r n' d' s'∧e=0)∨(qnV s n d≠0∧r=qkw 0∧n'=0∧d'=0∧s'=[]∧e=8))∧qzs 12 s n d a r n' d' s' e∧qzs 23 s n d a r n' d' s' e:=by
 obtain⟨c1,c2⟩:=qiI (s:=s) hn hd
 by_cases h:qnV s n d=0
 ·obtain⟨hv,ht⟩:=(qu0 hn hd).1 h
  rw[h] at c1 c2
  obtain⟨rs,n',d',s',h1,_,_,h4,h5⟩:=qtq (qs:=[a]) (by show 1≤999999;decide) hv ht fun b hb=>(by rw[List.mem_singleton.1 hb];exact ha)
  match rs,h4,h1 with
  | [r],_,⟨n1,d1,s1,o,e1,e2,e3⟩=>
   subst e1 e2 e3
   exact⟨r,_,_,_,0,Or.inl ⟨h,o,rfl⟩,qxj (hc:=c1) (hr:=h5) (h0:=by decide),qxl (hc:=c2) (hd:=o.ref)⟩
 ·rw[qr4 h] at c1 c2
  exact⟨qkw 0,0,0,[],8,Or.inr ⟨h,rfl,rfl,rfl,rfl,rfl⟩,qnX (qyB (hc:=c1) (he:=by decide)),qnX (qyt (hc:=c2) (he:=by decide))⟩
theorem qtu (s:List Pt):Fn 20 1 [qaq 0 s] [(0,0,qad s)] (.pv (.bool true)) 0 []∨(s.length≤70∧Fn 20 1 [qaq 0 s] [(0,0,qad s)] (.pv (.bool false)) 0 []):=by
 rcases qnP s with ⟨_,h⟩ | ⟨h0,h⟩
 ·exact Or.inl h
 ·exact Or.inr ⟨by omega,h⟩
theorem qqb {n0 d0:Int} (h0:I64 n0) (h1:I64 d0) (hn:I64 n) (hd:I64 d) (ha:qr7 a) :
 Fn 4 1 [.pv (qaa n0 d0),moS 0 s n d,.pv (qcd a)] [(0,0,qad s)] (.pv (.bool true)) 0 []:=by
 rcases qtu s with hg | ⟨hl,hg⟩
 ·exact qzg (hg:=hg)
 ·obtain⟨na,da,e1,p1,p2⟩:=qog h0 h1
  obtain⟨r,n',d',s',e,hr,q1,q2⟩:=qs2 (s:=s) hn hd ha
  obtain⟨c1,c2⟩:=qiI (s:=s) hn hd
  have hs':s'.length≤1000000:=by
   rcases hr with ⟨_,o,_⟩ | ⟨_,_,_,_,h,_⟩
   ·have:=o.val.len;omega
   ·subst h;decide
  have hms:r.ms.length≤100000:=by
   rcases hr with ⟨_,o,_⟩ | ⟨_,h,_⟩
   ·exact o.few
   ·subst h;decide
  exact quF (hg:=hg) (ht:=vtw (ht:=qgO (by omega))) (hn1:=p1) (hn2:=p2) (hd1:=q1) (hd2:=q2) (hs0:=qgM (by decide)) (hc1:=c1) (hc2:=c2) (hs1:=qgM hs') (hs2:=qoF r hms) (hs3:=qgM (by omega))
end
end Go.Proofs.YtleaeldgaflmkaaGreat

namespace Go.Proofs.YtleaeldgaflmkaaGreat
set_option maxRecDepth 100000
open Go.ChangeShapes Go.WideShapes Go.ChangeAt Go.RowKit Go.Joins Go.Deep
theorem quB:Tryz.prog.cellsOf 23=2:=by kernel_rfl
theorem qxN:Tryz.prog.cellsOf 26=1:=by kernel_rfl
theorem qxy:Tryz.prog.cellsOf 24=1:=by kernel_rfl
theorem qvG:Tryz.prog.cellsOf 34=3:=by kernel_rfl
theorem qm0:Tryz.prog.cellsOf 2=1:=by kernel_rfl
theorem qqw:Tryz.prog.cellsOf 3=1:=by kernel_rfl
theorem qxi:Tryz.prog.cellsOf 5=1:=by kernel_rfl
theorem qou:Tryz.prog.cellsOf 28=3:=by kernel_rfl
theorem qsq:Tryz.prog.readableRec 28=true:=by kernel_rfl
theorem quV:28<Tryz.prog.types.size:=of_decide_eq_true (by kernel_rfl)
theorem qoY:Tryz.prog.cellsOf 42=7:=by kernel_rfl
theorem qsu:Tryz.prog.readableRec 42=true:=by kernel_rfl
theorem quU:42<Tryz.prog.types.size:=of_decide_eq_true (by kernel_rfl)
section
variable {H:Type} {enc:TypeId×Value→H} {W:World} {base:Nat} {spare:Nat→Bool} {held:Bool}
theorem qjO {r:Reach} {b0:Nat} {v:Value} {d:DataW H} {p:List MemPlace} (hv:Value.okWide Tryz.prog W r b0 28 v) (h:DataW.Trod enc Tryz.prog W base spare held 28 v d p) :
 ∃ (tn td:Int) (u:Value) (l:List Pt),v=.agg #[iV tn,iV td,u]∧Rd W 3 u l.length (qaX l)∧I64 tn∧I64 td:=by
 obtain⟨cs,rfl,hsz⟩:=okWide_struct Tryz.underlying28 hv
 obtain⟨fuel,hf⟩:=h
 obtain⟨y0,y1,n,_,hlen,h0,h1⟩:=trod_struct2 Tryz.underlying28 hf
 obtain⟨z0,z1,n1,_,_,a0,a1⟩:=trod_struct2 Tryz.underlying23 h0
 obtain⟨tn,e0,_,w0⟩:=DataW.trod_int Tryz.underlying2 a0
 obtain⟨td,e1,_,w1⟩:=DataW.trod_int Tryz.underlying2 a1
 obtain⟨z2,n2,_,_,b0⟩:=trod_struct1 Tryz.underlying26 h1
 obtain⟨u0,s,c0,r0,_⟩:=qow b0
 refine⟨tn,td,u0,s,?_,r0,bounds_i64 w0,bounds_i64 w1⟩
 rw[qxN,qxy] at c0
 rw[qm0,quB] at e0 e1
 have hs:cs.size=3:=hsz.trans qou
 obtain⟨L⟩:=cs
 match L,hs with
 | [v0,v1,v2],_=>
  simp[Value.cells] at c0 e0 e1
  rw[c0,e0,e1]
theorem qml {fuel:Nat} {cs:List Value} {x:DataW H×List MemPlace} (hs:cs.length=7) (hf:DataW.trod enc Tryz.prog W base spare held fuel 42 cs=some x) :
 ∃ a:AskQ,cs=[.int .u8 a.kd,iV a.pi,iV a.pa,iV a.pb,iV a.z,iV a.qn,iV a.qd]∧qr7 a:=by
 obtain⟨y0,y1,y2,y3,n,_,hlen,h0,h1,h2,h3⟩:=trod_struct4 Tryz.underlying42 hf
 obtain⟨kd,e0,_,_⟩:=DataW.trod_int Tryz.underlying5 h0
 obtain⟨z0,z1,z2,n1,_,_,a0,a1,a2⟩:=trod_struct3 Tryz.underlying34 h1
 obtain⟨pi,e1,_,_⟩:=DataW.trod_int Tryz.underlying3 a0
 obtain⟨pa,e2,_,_⟩:=DataW.trod_int Tryz.underlying2 a1
 obtain⟨pb,e3,_,_⟩:=DataW.trod_int Tryz.underlying2 a2
 obtain⟨z,e4,_,_⟩:=DataW.trod_int Tryz.underlying3 h2
 obtain⟨x0,x1,n2,_,_,b0,b1⟩:=trod_struct2 Tryz.underlying23 h3
 obtain⟨qn,e5,_,w5⟩:=DataW.trod_int Tryz.underlying2 b0
 obtain⟨qd,e6,_,w6⟩:=DataW.trod_int Tryz.underlying2 b1
 refine⟨⟨kd,pi,pa,pb,z,qn,qd⟩,?_,bounds_i64 w5,bounds_i64 w6⟩
 rw[qxi] at e0
 rw[qqw,qvG] at e1
 rw[qm0,qvG] at e2 e3
 rw[qqw] at e4
 rw[qm0,quB] at e5 e6
 match cs,hs with
 | [v0,v1,v2,v3,v4,v5,v6],_=>
  simp at e0 e1 e2 e3 e4 e5 e6
  rw[e0,e1,e2,e3,e4,e5,e6]
theorem qpS {r:Reach} {b0:Nat} {v:Value} {d:DataW H} {p:List MemPlace} (hv:Value.okWide Tryz.prog W r b0 42 v) (h:DataW.Trod enc Tryz.prog W base spare held 42 v d p) :
 ∃ a:AskQ,v=qcd a∧qr7 a:=by
 obtain⟨cs,rfl,hsz⟩:=okWide_struct Tryz.underlying42 hv
 obtain⟨fuel,hf⟩:=h
 have hs:cs.size=7:=hsz.trans qoY
 obtain⟨L⟩:=cs
 obtain⟨a,ha,hn⟩:=qml (cs:=L) hs hf
 subst ha
 exact⟨a,rfl,hn⟩
end
section
variable {W:World} {s:List Pt} {n0 d0 n d:Int} {a:AskQ} {u:Value}
theorem qlU (n0 d0:Int) (h0:I64 n0) (h1:I64 d0) (n d:Int) (s:List Pt) (hn:I64 n) (hd:I64 d) (a:AskQ) (ha:qr7 a) :
 Fn 4 1 [.pv (qaa n0 d0),moS 0 s n d,.pv (qcd a)] [(0,0,qad s)] (.pv (.bool true)) 0 []:=qqb h0 h1 hn hd ha
theorem qvi {f:FuncId} {t w:Value} (h:Fn f 1 [.pv t,moS 0 s n d,.pv w] [(0,0,qad s)] (.pv (.bool true)) 0 []) (hs:Rd W 3 u s.length (qaX s)) :
 Calls Tryz.prog f #[t,.agg #[iV n,iV d,u],w] W fun e W'=>e=.returned (.bool true)∧Gr W W':=
 qqo (rs:=[(34,3,s.length,qaX s)]) (us:=[u]) h (.cons hs (qf4 s) .nil) ⟨rfl,⟨[iV n,iV d,u],⟨rfl,rfl,⟨rfl,hs.zsl⟩,tI⟩,rfl⟩,rfl,tI⟩
end
end Go.Proofs.YtleaeldgaflmkaaGreat
