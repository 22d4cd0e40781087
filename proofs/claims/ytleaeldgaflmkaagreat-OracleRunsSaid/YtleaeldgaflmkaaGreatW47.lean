/-
  Joined: Vv, Vw, Vx, Vz, VA, VB. Conditions: none.
-/
import Derived.Test.YtleaeldgaflmkaaGreatW46
import Derived.Test.YtleaeldgaflmkaaGreatW37
import Derived.Test.YtleaeldgaflmkaaGreatW44
import Derived.Test.YtleaeldgaflmkaaGreatW25
import Derived.Test.YtleaeldgaflmkaaGreatW36
import Derived.Test.YtleaeldgaflmkaaGreatZj
import Derived.Test.YtleaeldgaflmkaaGreatW34
import Derived.Deep.Strs
import Derived.Lib.SmallJoins
namespace Go.Proofs.YtleaeldgaflmkaaGreat
set_option maxRecDepth 100000
open Go.RowKit
def quF (s:List Pt) (n d:Int):List AskQ→List Rep→Int→Int→List Pt→Prop
 | [],[],n',d',s'=>n'=n∧d'=d∧s'=s
 | a::qs,r::rs,n',d',s'=>∃ n1 d1 s1,Outc s n d a r n1 d1 s1∧quF s1 n1 d1 qs rs n' d' s'
 | _,_,_,_,_=>False
def qrc (a:AskQ):Prop:=I64 a.qn∧I64 a.qd
abbrev qbW (rs:List Rep):List Dn:=rs.flatMap qfd
abbrev orT (qs:List AskQ) (k:Nat):List (Nat×SV):=[(2,.pp 2 0),(4,.pp 3 0),(6,.ls 5 k),(17,.ls 1 qs.length),(18,.pv (iV (qs.length:Int))),(19,.pv (iV (k:Int)))]
abbrev orH (s0:List Pt) (qs:List AskQ) (s:List Pt) (n d:Int) (row:SV):List (Nat×Nat×SV):=[(2,0,.pv (iV n)),(2,1,.pv (iV d)),(2,2,.ls 4 s.length),(3,0,.pv (iV 0)),(3,1,.pv (iV 0)),(3,2,.pv (.slice none 0 0)),(0,0,qad s0),(1,0,qbu qs),(4,0,qad s),(5,0,row)]
abbrev orE (k:Nat):List (Nat×SV):=[(2,.pp 2 0),(4,.pp 3 0),(6,.ls 5 k)]
abbrev qsU (k:Nat) (ds:List Dn):SV:=.drow 38 6 k ds
section
variable {s s' s0:List Pt} {n d n' d':Int} {qs:List AskQ} {a:AskQ} {r:Rep} {k:Nat} {ds:List Dn}
theorem qo9 (o:Outc s n d a r n' d' s') (hk:qs[k]?=some a) (hl:qs.length≤999999) {e:Exit} {tm2:TmL} {hp2:HpL}
 (rr:Rl 2 2 42 0 40 6 (orT qs (k+1)) (orH s0 qs s' n' d' (qsU (k+1) (ds++qfd r))) e tm2 hp2) :
 Rl 2 2 42 0 40 6 (orT qs k) (orH s0 qs s n d (qsU k ds)) e tm2 hp2:=by
 have hkl:=qaw hk
 rcases o.prg with ⟨he,h⟩ | ⟨he,hs,h⟩ | ⟨he,x,y,h⟩ | ⟨he,x,y,h⟩
 ·exact qyj (hlt:=dt (by omega)) (hin:=⟨by omega,by omega⟩) (hk:=hk) (hd:=h) (he:=by simp[he]) (hm:=by omega) (hs:=qao (by omega)) rr
 ·subst hs
  exact qAA (hlt:=dt (by omega)) (hin:=⟨by omega,by omega⟩) (hk:=hk) (hd:=h) (he:=by simp[he]) (hm:=by omega) (hs:=qao (by omega)) rr
 ·obtain⟨_,rfl,rfl,rfl⟩:=o.err he
  exact qzS (hlt:=dt (by omega)) (hin:=⟨by omega,by omega⟩) (hk:=hk) (hd:=h) (he:=by simp[he]) (hm:=by omega) (hs:=qao (by omega)) rr
 ·obtain⟨_,rfl,rfl,rfl⟩:=o.err he
  exact qAC (hlt:=dt (by omega)) (hin:=⟨by omega,by omega⟩) (hk:=hk) (hd:=h) (he:=by simp[he]) (hm:=by omega) (hs:=qao (by omega)) rr
theorem qmC (o:Outc s n d a r n' d' s') (hk:qs[0]?=some a) (hl:qs.length≤999999) {e:Exit} {tm2:TmL} {hp2:HpL}
 (rr:Rl 2 2 42 0 40 6 (orT qs 1) (orH s0 qs s' n' d' (qsU 1 (qfd r))) e tm2 hp2) :
 Rl 2 2 42 0 40 6 (orT qs 0) (orH s0 qs s n d (.row 38 6 0 [])) e tm2 hp2:=by
 have hkl:=qaw hk
 rcases o.prg with ⟨he,h⟩ | ⟨he,hs,h⟩ | ⟨he,x,y,h⟩ | ⟨he,x,y,h⟩
 ·exact qvU (hlt:=dt (by omega)) (hin:=⟨by omega,by omega⟩) (hk:=hk) (hd:=h) (he:=by simp[he]) (hm:=by omega) (hs:=qao (by omega)) rr
 ·subst hs
  exact qvz (hlt:=dt (by omega)) (hin:=⟨by omega,by omega⟩) (hk:=hk) (hd:=h) (he:=by simp[he]) (hm:=by omega) (hs:=qao (by omega)) rr
 ·obtain⟨_,rfl,rfl,rfl⟩:=o.err he
  exact qvy (hlt:=dt (by omega)) (hin:=⟨by omega,by omega⟩) (hk:=hk) (hd:=h) (he:=by simp[he]) (hm:=by omega) (hs:=qao (by omega)) rr
 ·obtain⟨_,rfl,rfl,rfl⟩:=o.err he
  exact qxc (hlt:=dt (by omega)) (hin:=⟨by omega,by omega⟩) (hk:=hk) (hd:=h) (he:=by simp[he]) (hm:=by omega) (hs:=qao (by omega)) rr
theorem qiR (hl:qs.length≤999999):∀ (rest:List AskQ) (k:Nat) (s:List Pt) (n d:Int) (ds:List Dn),qs=qs.take k++rest→k+rest.length=qs.length→Val s→AskT n d→(∀ a∈rest,qrc a)→
 ∃ rs n' d' s',quF s n d rest rs n' d' s'∧Val s'∧AskT n' d'∧rs.length=rest.length∧
  Rl 2 2 42 0 40 6 (orT qs k) (orH s0 qs s n d (qsU k ds)) (.exit 0) (orE qs.length) (orH s0 qs s' n' d' (qsU qs.length (ds++qbW rs)))
 | [],k,s,n,d,ds,_,hk,hv,ht,_=>by
  have e:k=qs.length:=by simpa using hk
  refine⟨[],n,d,s,⟨rfl,rfl,rfl⟩,hv,ht,rfl,?_⟩
  rw[show ds++qbW []=ds from List.append_nil _]
  subst e
  exact qtQ (hlt:=df (by omega))
 | a::rest,k,s,n,d,ds,hq,hk,hv,ht,hn=>by
  have hkl:k<qs.length:=by rw[← hk,List.length_cons];omega
  have hka:qs[k]?=some a:=by
   rw[hq,List.getElem?_append_right (by rw[List.length_take];omega),List.length_take,Nat.min_eq_left (by omega),Nat.sub_self]
   rfl
  obtain⟨r,n1,d1,s1,o⟩:=qn8 a hv ht (hn a List.mem_cons_self)
  obtain⟨rs,n',d',s',h1,h2,h3,h4,h5⟩:=qiR hl rest (k+1) s1 n1 d1 (ds++qfd r) (by
   rw[List.take_add_one,hka,List.append_assoc];exact hq) (by rw[← hk,List.length_cons];omega) o.val o.ask fun b hb=>hn b (List.mem_cons_of_mem _ hb)
  refine⟨r::rs,n',d',s',⟨n1,d1,s1,o,h1⟩,h2,h3,by rw[List.length_cons,h4];rfl,qo9 o hka hl ?_⟩
  rw[show ds++qbW (r::rs)=ds++qfd r++qbW rs by rw[List.append_assoc];rfl]
  exact h5
theorem qsa (hl:qs.length≤999999) (hv:Val s) (ht:AskT n d) (hn:∀ a∈qs,qrc a):∃ rs n' d' s',quF s n d qs rs n' d' s'∧Val s'∧AskT n' d'∧rs.length=qs.length∧
 Fn 42 2 [moS 0 s n d,.ls 1 qs.length] [(0,0,qad s),(1,0,qbu qs)] (.tu [mo1 2 s' n' d',.one (.dv 6 qs.length (qbW rs))]) 1 [(2,0,qad s')]:=by
 have hc:=qnL (l:=s) (by have:=hv.len;omega)
 cases qs with
 | nil=>
  exact⟨[],n,d,s,⟨rfl,rfl,rfl⟩,hv,ht,rfl,qsV (hc:=hc) (r0:=qpR (hlt:=by decide))⟩
 | cons a rest=>
  obtain⟨r,n1,d1,s1,o⟩:=qn8 a hv ht (hn a List.mem_cons_self)
  obtain⟨rs,n',d',s',h1,h2,h3,h4,h5⟩:=qiR (s0:=s) hl rest 1 s1 n1 d1 (qfd r) rfl (by rw[List.length_cons];omega) o.val o.ask fun b hb=>hn b (List.mem_cons_of_mem _ hb)
  exact⟨r::rs,n',d',s',⟨n1,d1,s1,o,h1⟩,h2,h3,by rw[List.length_cons,h4];rfl,qxa (hc:=hc) (r0:=qmC o rfl hl h5)⟩
noncomputable def qpj (s:List Pt) (n d:Int):Int:=open Classical in if qei n d=0∧qcg s=0 then 0 else 8
theorem qql (hn:I64 n) (hd:I64 d):Fn 14 1 [moS 0 s n d] [(0,0,qad s)] (.pv (iV (qpj s n d))) 0 []∧Fn 25 1 [moS 0 s n d] [(0,0,qad s)] (.pv (iV (qpj s n d))) 0 []:=by
 have c1:Pure Tryz.prog 40 #[qaa n d] (iV (qei n d)):=fun w=>qdk n d w hn hd
 have c2:Pure Tryz.prog 31 #[qaa n d] (iV (qei n d)):=fun w=>qfj n d w hn hd
 have c3:=qaQ s
 have c4:=qbc s
 unfold qpj
 by_cases h1:qei n d=0
 ·rw[h1] at c1 c2
  by_cases h2:qcg s=0
  ·rw[h2] at c3 c4
   rw[if_pos ⟨h1,h2⟩]
   exact⟨qzN (ha:=c1) (hc:=c3),qyG (ha:=c2) (hc:=c4)⟩
  ·rw[if_neg fun h=>h2 h.2]
   exact⟨qzM (ha:=c1) (hc:=c3) (he:=by simpa using h2),qyO (ha:=c2) (hc:=c4) (he:=by simpa using h2)⟩
 ·rw[if_neg fun h=>h1 h.1]
  exact⟨qAw (ha:=c1) (hc:=c3) (he:=by simpa using h1),qzF (ha:=c2) (he:=by simpa using h1)⟩
theorem qvj (hn:I64 n) (hd:I64 d):qpj s n d=0↔Val s∧AskT n d:=by
 unfold qpj
 split
 ·rename_i h
  exact⟨fun _=>⟨qca.1 h.2,qcs.1 h.1⟩,fun _=>rfl⟩
 ·rename_i h
  exact⟨fun e=>(by cases e),fun k=>(h ⟨qcs.2 k.2,qca.2 k.1⟩).elim⟩
theorem qtA (h:qpj s n d≠0):qpj s n d=8:=by
 unfold qpj at h ⊢
 split
 ·rename_i g;rw[if_pos g] at h;exact (h rfl).elim
 ·rfl
end
end Go.Proofs.YtleaeldgaflmkaaGreat

namespace Go.Proofs.YtleaeldgaflmkaaGreat
set_option maxRecDepth 100000
open Go.RowKit
section
variable {s s':List Pt} {n d n' d':Int} {a:AskQ}
theorem qpV (r:Rep) (h:r.ms.length≤100000):Fn 26 0 [.ag (qeY r),.ag (qeY r)] [] (.pv (.bool true)) 0 []:=qzC (hs:=qsz rfl h)
theorem qez (h:s.length≤1000000):Fn 24 2 [moS 0 s n d,moS 1 s n d] [(0,0,qad s),(1,0,qad s)] (.pv (.bool true)) 0 []:=qyQ (hs:=qtY h)
theorem qs5 (s:List Pt):Fn 20 1 [qas 0 s] [(0,0,qad s)] (.pv (.bool true)) 0 []∨(s.length≤70∧Fn 20 1 [qas 0 s] [(0,0,qad s)] (.pv (.bool false)) 0 []):=by
 rcases qlP s with ⟨_,h⟩ | ⟨h0,h⟩
 ·exact Or.inl h
 ·exact Or.inr ⟨by omega,h⟩
end
end Go.Proofs.YtleaeldgaflmkaaGreat

namespace Go.Proofs.YtleaeldgaflmkaaGreat
set_option maxRecDepth 100000
open Go.ChangeShapes Go.WideShapes Go.ChangeAt Go.RowKit Go.Joins Go.Deep
theorem qqL:Tryz.prog.cellsOf 23=2:=by kernel_rfl
theorem qy8:Tryz.prog.cellsOf 26=1:=by kernel_rfl
theorem qAb:Tryz.prog.cellsOf 24=1:=by kernel_rfl
theorem qvo:Tryz.prog.cellsOf 34=3:=by kernel_rfl
theorem qhH:Tryz.prog.cellsOf 2=1:=by kernel_rfl
theorem qjl:Tryz.prog.cellsOf 3=1:=by kernel_rfl
theorem qyT:Tryz.prog.cellsOf 5=1:=by kernel_rfl
theorem qqh:Tryz.prog.cellsOf 28=3:=by kernel_rfl
theorem qt7:Tryz.prog.readableRec 28=true:=by kernel_rfl
theorem qvg:28<Tryz.prog.types.size:=of_decide_eq_true (by kernel_rfl)
theorem qpW:Tryz.prog.cellsOf 42=7:=by kernel_rfl
section
variable {H:Type} {enc:TypeId×Value→H} {W:World} {base:Nat} {spare:Nat→Bool} {held:Bool}
theorem qkC {r:Reach} {b0:Nat} {v:Value} {d:DataW H} {p:List MemPlace} (hv:Value.okWide Tryz.prog W r b0 28 v) (h:DataW.Trod enc Tryz.prog W base spare held 28 v d p) :
 ∃ (tn td:Int) (u:Value) (l:List Pt),v=.agg #[iV tn,iV td,u]∧Rd W 3 u l.length (qaY l)∧I64 tn∧I64 td:=by
 obtain⟨cs,rfl,hsz⟩:=okWide_struct Tryz.underlying28 hv
 obtain⟨fuel,hf⟩:=h
 obtain⟨y0,y1,n,_,hlen,h0,h1⟩:=trod_struct2 Tryz.underlying28 hf
 obtain⟨z0,z1,n1,_,_,a0,a1⟩:=trod_struct2 Tryz.underlying23 h0
 obtain⟨tn,e0,_,w0⟩:=DataW.trod_int Tryz.underlying2 a0
 obtain⟨td,e1,_,w1⟩:=DataW.trod_int Tryz.underlying2 a1
 obtain⟨z2,n2,_,_,b0⟩:=trod_struct1 Tryz.underlying26 h1
 obtain⟨u0,s,c0,r0,_⟩:=qpT b0
 refine⟨tn,td,u0,s,?_,r0,bounds_i64 w0,bounds_i64 w1⟩
 rw[qy8,qAb] at c0
 rw[qhH,qqL] at e0 e1
 have hs:cs.size=3:=hsz.trans qqh
 obtain⟨L⟩:=cs
 match L,hs with
 | [v0,v1,v2],_=>
  simp[Value.cells] at c0 e0 e1
  rw[c0,e0,e1]
theorem qlU {fuel:Nat} {cs:List Value} {x:DataW H×List MemPlace} (hs:cs.length=7) (hf:DataW.trod enc Tryz.prog W base spare held fuel 42 cs=some x) :
 ∃ a:AskQ,cs=[.int .u8 a.kd,iV a.pi,iV a.pa,iV a.pb,iV a.z,iV a.qn,iV a.qd]∧qrc a:=by
 obtain⟨y0,y1,y2,y3,n,_,hlen,h0,h1,h2,h3⟩:=trod_struct4 Tryz.underlying42 hf
 obtain⟨kd,e0,_,_⟩:=DataW.trod_int Tryz.underlying5 h0
 obtain⟨z0,z1,z2,n1,_,_,a0,a1,a2⟩:=trod_struct3 Tryz.underlying34 h1
 obtain⟨pi,e1,_,_⟩:=DataW.trod_int Tryz.underlying3 a0
 obtain⟨pa,e2,_,_⟩:=DataW.trod_int Tryz.underlying2 a1
 obtain⟨pb,e3,_,_⟩:=DataW.trod_int Tryz.underlying2 a2
 obtain⟨z,e4,_,_⟩:=DataW.trod_int Tryz.underlying3 h2
 obtain⟨x0,x1,n2,_,_,b0,b1⟩:=trod_struct2 Tryz.underlying23 h3
 obtain⟨qn,e5,_,w5⟩:=DataW.trod_int Tryz.underlying2 b0
 obtain⟨qd,e6,_,w6⟩:=DataW.trod_int Tryz.underlying2 b1
 refine⟨⟨kd,pi,pa,pb,z,qn,qd⟩,?_,bounds_i64 w5,bounds_i64 w6⟩
 rw[qyT] at e0
 rw[qjl,qvo] at e1
 rw[qhH,qvo] at e2 e3
 rw[qjl] at e4
 rw[qhH,qqL] at e5 e6
 match cs,hs with
 | [v0,v1,v2,v3,v4,v5,v6],_=>
  simp at e0 e1 e2 e3 e4 e5 e6
  rw[e0,e1,e2,e3,e4,e5,e6]
end
section
variable {W:World} {s:List Pt} {n0 d0 n d:Int} {a:AskQ} {u:Value}
end
end Go.Proofs.YtleaeldgaflmkaaGreat

namespace Go.Proofs.YtleaeldgaflmkaaGreat
set_option maxRecDepth 100000
open Go.RowKit
theorem qcU (x:Int):(x !=x)=false:=by simp
theorem qdN (m:Mt):(!((m.n==m.n&&(m.d==m.d&&true))&&(m.i==m.i&&(m.j==m.j&&true))))=false:=by simp
theorem qsB {ls bs:List Mt} (hn:((ls.length:Int) !=(bs.length:Int))=true) :
 Fn 34 2 [.ls 0 ls.length,.ls 1 bs.length] [(0,0,.row 95 4 ls.length (msV ls)),(1,0,.row 95 4 bs.length (msV bs))] (.pv (.bool false)) 0 []:=
 Fz [] [.t true]
  tI (Ai hn tI)
abbrev qhS (bs:List Mt) (c:Nat) (ls:List Mt):HpL:=[(0,0,.row 95 4 c (msV ls)),(1,0,.row 95 4 c (msV bs))]
theorem qjq {k:Nat} {ma mb:Mt} {ls bs:List Mt} {c:Nat} (hlt:decide ((k:Int)<(c:Int))=true) (hin:0≤(k:Int)∧(k:Int)<(c:Int)) (ha:ls[k]?=some ma) (hb:bs[k]?=some mb) (he:(!((ma.n==mb.n&&(ma.d==mb.d&&true))&&(ma.i==mb.i&&(ma.j==mb.j&&true))))=false) (hs:iV (IntKind.i64.wrap ((k:Int)+1))=iV (((k+1:Nat):Int))) {e:Exit} {tm2:TmL} {hp2:HpL}
 (r:Rl 2 2 34 0 26 2 ([(0,.ls 0 c),(1,.ls 1 c),(5,.pv (iV ((k+1:Nat):Int)))]) (qhS bs c ls) e tm2 hp2):Rl 2 2 34 0 26 2 ([(0,.ls 0 c),(1,.ls 1 c),(5,.pv (iV (k:Int)))]) (qhS bs c ls) e tm2 hp2:=
 RunsL.next [] 300 [.t true,.r (qap ma),.r (qap mb),.t false,Re hs]
  (Ro (Ai hlt (Ai hin (Ai (qcx ha) (Ai hin (Ai (qcx hb) (Ai he (Ai hs tI)))))))) r
theorem qoM {k:Nat} {ma mb:Mt} {ls bs:List Mt} {c:Nat} (hlt:decide ((k:Int)<(c:Int))=true) (hin:0≤(k:Int)∧(k:Int)<(c:Int)) (ha:ls[k]?=some ma) (hb:bs[k]?=some mb) (he:(!((ma.n==mb.n&&(ma.d==mb.d&&true))&&(ma.i==mb.i&&(ma.j==mb.j&&true))))=true):Rl 2 2 34 0 26 2 ([(0,.ls 0 c),(1,.ls 1 c),(5,.pv (iV (k:Int)))]) (qhS bs c ls) (.ret) ([(4,.pv (.bool false))]) ([]):=
 RunsL.stop [] 300 [.t true,.r (qap ma),.r (qap mb),.t true] (fun h=>by cases h)
  (Ro (Ai hlt (Ai hin (Ai (qcx ha) (Ai hin (Ai (qcx hb) (Ai he tI)))))))
theorem qs2 {k:Nat} {ls bs:List Mt} {c:Nat} (hlt:decide ((k:Int)<(c:Int))=false):Rl 2 2 34 0 26 2 ([(0,.ls 0 c),(1,.ls 1 c),(5,.pv (iV (k:Int)))]) (qhS bs c ls) (.exit 0) ([]) ([]):=
 RunsL.stop [] 300 [.t false] (fun h=>by cases h)
  (Ro (Ai hlt tI))
theorem qvI {ls bs:List Mt} {c:Nat} (r0:Rl 2 2 34 0 26 2 ([(0,.ls 0 c),(1,.ls 1 c),(5,.pv (iV ((0:Nat):Int)))]) (qhS bs c ls) (.ret) ([(4,.pv (.bool false))]) ([])) :
 Fn 34 2 [.ls 0 c,.ls 1 c] (qhS bs c ls) (.pv (.bool false)) 0 []:=
 Fz [] [.t false,Lf r0]
  tI (Ai (qcU (c:Int)) (Lo r0 [] tI))
theorem qtc {ls bs:List Mt} {c:Nat} (r0:Rl 2 2 34 0 26 2 ([(0,.ls 0 c),(1,.ls 1 c),(5,.pv (iV ((0:Nat):Int)))]) (qhS bs c ls) (.exit 0) ([]) ([])) :
 Fn 34 2 [.ls 0 c,.ls 1 c] (qhS bs c ls) (.pv (.bool true)) 0 []:=
 Fz [] [.t false,Lf r0]
  tI (Ai (qcU (c:Int)) (Lo r0 [] tI))
theorem qtu {ls bs:List Mt} (hn:((ls.length:Int) !=(bs.length:Int))=true) :
 Fn 51 2 [.ls 0 ls.length,.ls 1 bs.length] [(0,0,.row 95 4 ls.length (msV ls)),(1,0,.row 95 4 bs.length (msV bs))] (.pv (.bool false)) 0 []:=
 Fz [] [.t true]
  tI (Ai hn tI)
abbrev qyl (c:Nat) (k:Nat):TmL:=[(0,.ls 0 c),(1,.ls 1 c),(12,.pv (iV (c:Int))),(13,.pv (iV (k:Int)))]
theorem qjP {k:Nat} {ma mb:Mt} {ls bs:List Mt} {c:Nat} (hlt:decide ((k:Int)<(c:Int))=true) (hin:0≤(k:Int)∧(k:Int)<(c:Int)) (ha:ls[k]?=some ma) (hb:bs[k]?=some mb) (he:(!((ma.n==mb.n&&(ma.d==mb.d&&true))&&(ma.i==mb.i&&(ma.j==mb.j&&true))))=false) (hs:iV (IntKind.i64.wrap ((k:Int)+1))=iV (((k+1:Nat):Int))) {e:Exit} {tm2:TmL} {hp2:HpL}
 (r:Rl 2 2 51 0 26 2 ([(0,.ls 0 c),(1,.ls 1 c),(12,.pv (iV (c:Int))),(13,.pv (iV ((k+1:Nat):Int)))]) (qhS bs c ls) e tm2 hp2):Rl 2 2 51 0 26 2 (qyl c k) (qhS bs c ls) e tm2 hp2:=
 RunsL.next [] 300 [.t true,.r (qap ma),.r (qap mb),.t false,Re hs]
  (Ro (Ai hlt (Ai hin (Ai (qcx ha) (Ai hin (Ai (qcx hb) (Ai he (Ai hs tI)))))))) r
theorem qqH {k:Nat} {ma mb:Mt} {ls bs:List Mt} {c:Nat} (hlt:decide ((k:Int)<(c:Int))=true) (hin:0≤(k:Int)∧(k:Int)<(c:Int)) (ha:ls[k]?=some ma) (hb:bs[k]?=some mb) (he:(!((ma.n==mb.n&&(ma.d==mb.d&&true))&&(ma.i==mb.i&&(ma.j==mb.j&&true))))=true):Rl 2 2 51 0 26 2 (qyl c k) (qhS bs c ls) (.ret) ([(4,.pv (.bool false))]) ([]):=
 RunsL.stop [] 300 [.t true,.r (qap ma),.r (qap mb),.t true] (fun h=>by cases h)
  (Ro (Ai hlt (Ai hin (Ai (qcx ha) (Ai hin (Ai (qcx hb) (Ai he tI)))))))
theorem quo {k:Nat} {ls bs:List Mt} {c:Nat} (hlt:decide ((k:Int)<(c:Int))=false):Rl 2 2 51 0 26 2 (qyl c k) (qhS bs c ls) (.exit 0) ([]) ([]):=
 RunsL.stop [] 300 [.t false] (fun h=>by cases h)
  (Ro (Ai hlt tI))
theorem qu0 {ls bs:List Mt} {c:Nat} (r0:Rl 2 2 51 0 26 2 ([(0,.ls 0 c),(1,.ls 1 c),(12,.pv (iV (c:Int))),(13,.pv (iV ((0:Nat):Int)))]) (qhS bs c ls) (.ret) ([(4,.pv (.bool false))]) ([])) :
 Fn 51 2 [.ls 0 c,.ls 1 c] (qhS bs c ls) (.pv (.bool false)) 0 []:=
 Fz [] [.t false,Lf r0]
  tI (Ai (qcU (c:Int)) (Lo r0 [] tI))
theorem qtC {ls bs:List Mt} {c:Nat} (r0:Rl 2 2 51 0 26 2 ([(0,.ls 0 c),(1,.ls 1 c),(12,.pv (iV (c:Int))),(13,.pv (iV ((0:Nat):Int)))]) (qhS bs c ls) (.exit 0) ([]) ([])) :
 Fn 51 2 [.ls 0 c,.ls 1 c] (qhS bs c ls) (.pv (.bool true)) 0 []:=
 Fz [] [.t false,Lf r0]
  tI (Ai (qcU (c:Int)) (Lo r0 [] tI))
theorem qpM {k:Nat} {ma:Mt} {ls:List Mt} {c:Nat} (hlt:decide ((k:Int)<(c:Int))=true) (hin:0≤(k:Int)∧(k:Int)<(c:Int)) (ha:ls[k]?=some ma) (hs:iV (IntKind.i64.wrap ((k:Int)+1))=iV (((k+1:Nat):Int))) {e:Exit} {tm2:TmL} {hp2:HpL}
 (r:Rl 1 1 51 0 26 1 ([(0,.ls 0 c),(1,.ls 0 c),(12,.pv (iV (c:Int))),(13,.pv (iV ((k+1:Nat):Int)))]) ([(0,0,.row 95 4 c (msV ls))]) e tm2 hp2):Rl 1 1 51 0 26 1 ([(0,.ls 0 c),(1,.ls 0 c),(12,.pv (iV (c:Int))),(13,.pv (iV (k:Int)))]) ([(0,0,.row 95 4 c (msV ls))]) e tm2 hp2:=
 RunsL.next [] 300 [.t true,.r (qap ma),.r (qap ma),.t false,Re hs]
  (Ro (Ai hlt (Ai hin (Ai (qcx ha) (Ai hin (Ai (qcx ha) (Ai (qdN ma) (Ai hs tI)))))))) r
theorem qua {k:Nat} {ls:List Mt} {c:Nat} (hlt:decide ((k:Int)<(c:Int))=false):Rl 1 1 51 0 26 1 ([(0,.ls 0 c),(1,.ls 0 c),(12,.pv (iV (c:Int))),(13,.pv (iV (k:Int)))]) ([(0,0,.row 95 4 c (msV ls))]) (.exit 0) ([]) ([]):=
 RunsL.stop [] 300 [.t false] (fun h=>by cases h)
  (Ro (Ai hlt tI))
theorem quk {ls:List Mt} {c:Nat} (r0:Rl 1 1 51 0 26 1 ([(0,.ls 0 c),(1,.ls 0 c),(12,.pv (iV (c:Int))),(13,.pv (iV ((0:Nat):Int)))]) ([(0,0,.row 95 4 c (msV ls))]) (.exit 0) ([]) ([])) :
 Fn 51 1 [.ls 0 c,.ls 0 c] [(0,0,.row 95 4 c (msV ls))] (.pv (.bool true)) 0 []:=
 Fz [] [.t false,Lf r0]
  tI (Ai (qcU (c:Int)) (Lo r0 [] tI))
theorem qzZ {ra rb:Rep} (h0:(ra.e==rb.e)=false) :
 Fn 26 2 [.ag [.pv (iV ra.e),.pv (iV ra.id),.pv (iV ra.ot),.pv (iV ra.n),.pv (iV ra.d),.ls 0 ra.ms.length],.ag [.pv (iV rb.e),.pv (iV rb.id),.pv (iV rb.ot),.pv (iV rb.n),.pv (iV rb.d),.ls 1 rb.ms.length]] [(0,0,.row 95 4 ra.ms.length (msV ra.ms)),(1,0,.row 95 4 rb.ms.length (msV rb.ms))] (.pv (.bool false)) 0 []:=
 Fz [] [.t false]
  tI (Ai h0 tI)
theorem qyh {ra rb:Rep} (h0:(ra.e==rb.e)=true) (h1:(ra.id==rb.id)=false) :
 Fn 26 2 [.ag [.pv (iV ra.e),.pv (iV ra.id),.pv (iV ra.ot),.pv (iV ra.n),.pv (iV ra.d),.ls 0 ra.ms.length],.ag [.pv (iV rb.e),.pv (iV rb.id),.pv (iV rb.ot),.pv (iV rb.n),.pv (iV rb.d),.ls 1 rb.ms.length]] [(0,0,.row 95 4 ra.ms.length (msV ra.ms)),(1,0,.row 95 4 rb.ms.length (msV rb.ms))] (.pv (.bool false)) 0 []:=
 Fz [] [.t true,.t false]
  tI (Ai h0 (Ai h1 tI))
theorem qAq {ra rb:Rep} (h0:(ra.e==rb.e)=true) (h1:(ra.id==rb.id)=true) (h2:(ra.ot==rb.ot)=false) :
 Fn 26 2 [.ag [.pv (iV ra.e),.pv (iV ra.id),.pv (iV ra.ot),.pv (iV ra.n),.pv (iV ra.d),.ls 0 ra.ms.length],.ag [.pv (iV rb.e),.pv (iV rb.id),.pv (iV rb.ot),.pv (iV rb.n),.pv (iV rb.d),.ls 1 rb.ms.length]] [(0,0,.row 95 4 ra.ms.length (msV ra.ms)),(1,0,.row 95 4 rb.ms.length (msV rb.ms))] (.pv (.bool false)) 0 []:=
 Fz [] [.t true,.t true,.t false]
  tI (Ai h0 (Ai h1 (Ai h2 tI)))
theorem qAv {ra rb:Rep} (h0:(ra.e==rb.e)=true) (h1:(ra.id==rb.id)=true) (h2:(ra.ot==rb.ot)=true) (h3:(ra.n==rb.n&&(ra.d==rb.d&&true))=false) :
 Fn 26 2 [.ag [.pv (iV ra.e),.pv (iV ra.id),.pv (iV ra.ot),.pv (iV ra.n),.pv (iV ra.d),.ls 0 ra.ms.length],.ag [.pv (iV rb.e),.pv (iV rb.id),.pv (iV rb.ot),.pv (iV rb.n),.pv (iV rb.d),.ls 1 rb.ms.length]] [(0,0,.row 95 4 ra.ms.length (msV ra.ms)),(1,0,.row 95 4 rb.ms.length (msV rb.ms))] (.pv (.bool false)) 0 []:=
 Fz [] [.t true,.t true,.t true,.t false]
  tI (Ai h0 (Ai h1 (Ai h2 (Ai h3 tI))))
theorem qyZ {ra rb:Rep} {w:Bool} (h0:(ra.e==rb.e)=true) (h1:(ra.id==rb.id)=true) (h2:(ra.ot==rb.ot)=true) (h3:(ra.n==rb.n&&(ra.d==rb.d&&true))=true) (hs:Fn 34 2 [.ls 0 ra.ms.length,.ls 1 rb.ms.length] [(0,0,.row 95 4 ra.ms.length (msV ra.ms)),(1,0,.row 95 4 rb.ms.length (msV rb.ms))] (.pv (.bool w)) 0 []) :
 Fn 26 2 [.ag [.pv (iV ra.e),.pv (iV ra.id),.pv (iV ra.ot),.pv (iV ra.n),.pv (iV ra.d),.ls 0 ra.ms.length],.ag [.pv (iV rb.e),.pv (iV rb.id),.pv (iV rb.ot),.pv (iV rb.n),.pv (iV rb.d),.ls 1 rb.ms.length]] [(0,0,.row 95 4 ra.ms.length (msV ra.ms)),(1,0,.row 95 4 rb.ms.length (msV rb.ms))] (.pv (.bool w)) 0 []:=
 Fz [] [.t true,.t true,.t true,.t true,Cf hs [0,1]]
  tI (Ai h0 (Ai h1 (Ai h2 (Ai h3 (Co hs [0,1] 4 tI)))))
theorem qza {ra rb:Rep} (h0:(ra.e==rb.e)=false) :
 Fn 29 2 [.ag [.pv (iV ra.e),.pv (iV ra.id),.pv (iV ra.ot),.pv (iV ra.n),.pv (iV ra.d),.ls 0 ra.ms.length],.ag [.pv (iV rb.e),.pv (iV rb.id),.pv (iV rb.ot),.pv (iV rb.n),.pv (iV rb.d),.ls 1 rb.ms.length]] [(0,0,.row 95 4 ra.ms.length (msV ra.ms)),(1,0,.row 95 4 rb.ms.length (msV rb.ms))] (.pv (.bool false)) 0 []:=
 Fz [] [.t false]
  tI (Ai h0 tI)
theorem qzu {ra rb:Rep} (h0:(ra.e==rb.e)=true) (h1:(ra.id==rb.id)=false) :
 Fn 29 2 [.ag [.pv (iV ra.e),.pv (iV ra.id),.pv (iV ra.ot),.pv (iV ra.n),.pv (iV ra.d),.ls 0 ra.ms.length],.ag [.pv (iV rb.e),.pv (iV rb.id),.pv (iV rb.ot),.pv (iV rb.n),.pv (iV rb.d),.ls 1 rb.ms.length]] [(0,0,.row 95 4 ra.ms.length (msV ra.ms)),(1,0,.row 95 4 rb.ms.length (msV rb.ms))] (.pv (.bool false)) 0 []:=
 Fz [] [.t true,.t false]
  tI (Ai h0 (Ai h1 tI))
theorem qAE {ra rb:Rep} (h0:(ra.e==rb.e)=true) (h1:(ra.id==rb.id)=true) (h2:(ra.ot==rb.ot)=false) :
 Fn 29 2 [.ag [.pv (iV ra.e),.pv (iV ra.id),.pv (iV ra.ot),.pv (iV ra.n),.pv (iV ra.d),.ls 0 ra.ms.length],.ag [.pv (iV rb.e),.pv (iV rb.id),.pv (iV rb.ot),.pv (iV rb.n),.pv (iV rb.d),.ls 1 rb.ms.length]] [(0,0,.row 95 4 ra.ms.length (msV ra.ms)),(1,0,.row 95 4 rb.ms.length (msV rb.ms))] (.pv (.bool false)) 0 []:=
 Fz [] [.t true,.t true,.t false]
  tI (Ai h0 (Ai h1 (Ai h2 tI)))
theorem qAo {ra rb:Rep} (h0:(ra.e==rb.e)=true) (h1:(ra.id==rb.id)=true) (h2:(ra.ot==rb.ot)=true) (h3:(ra.n==rb.n&&(ra.d==rb.d&&true))=false) :
 Fn 29 2 [.ag [.pv (iV ra.e),.pv (iV ra.id),.pv (iV ra.ot),.pv (iV ra.n),.pv (iV ra.d),.ls 0 ra.ms.length],.ag [.pv (iV rb.e),.pv (iV rb.id),.pv (iV rb.ot),.pv (iV rb.n),.pv (iV rb.d),.ls 1 rb.ms.length]] [(0,0,.row 95 4 ra.ms.length (msV ra.ms)),(1,0,.row 95 4 rb.ms.length (msV rb.ms))] (.pv (.bool false)) 0 []:=
 Fz [] [.t true,.t true,.t true,.t false]
  tI (Ai h0 (Ai h1 (Ai h2 (Ai h3 tI))))
theorem qzy {ra rb:Rep} {w:Bool} (h0:(ra.e==rb.e)=true) (h1:(ra.id==rb.id)=true) (h2:(ra.ot==rb.ot)=true) (h3:(ra.n==rb.n&&(ra.d==rb.d&&true))=true) (hs:Fn 51 2 [.ls 0 ra.ms.length,.ls 1 rb.ms.length] [(0,0,.row 95 4 ra.ms.length (msV ra.ms)),(1,0,.row 95 4 rb.ms.length (msV rb.ms))] (.pv (.bool w)) 0 []) :
 Fn 29 2 [.ag [.pv (iV ra.e),.pv (iV ra.id),.pv (iV ra.ot),.pv (iV ra.n),.pv (iV ra.d),.ls 0 ra.ms.length],.ag [.pv (iV rb.e),.pv (iV rb.id),.pv (iV rb.ot),.pv (iV rb.n),.pv (iV rb.d),.ls 1 rb.ms.length]] [(0,0,.row 95 4 ra.ms.length (msV ra.ms)),(1,0,.row 95 4 rb.ms.length (msV rb.ms))] (.pv (.bool w)) 0 []:=
 Fz [] [.t true,.t true,.t true,.t true,Cf hs [0,1]]
  tI (Ai h0 (Ai h1 (Ai h2 (Ai h3 (Co hs [0,1] 4 tI)))))
theorem qx6 {ra:Rep} (hs:Fn 51 1 [.ls 0 ra.ms.length,.ls 0 ra.ms.length] [(0,0,.row 95 4 ra.ms.length (msV ra.ms))] (.pv (.bool true)) 0 []) :
 Fn 29 1 [.ag [.pv (iV ra.e),.pv (iV ra.id),.pv (iV ra.ot),.pv (iV ra.n),.pv (iV ra.d),.ls 0 ra.ms.length],.ag [.pv (iV ra.e),.pv (iV ra.id),.pv (iV ra.ot),.pv (iV ra.n),.pv (iV ra.d),.ls 0 ra.ms.length]] [(0,0,.row 95 4 ra.ms.length (msV ra.ms))] (.pv (.bool true)) 0 []:=
 Fz [] [.t true,.t true,.t true,.t true,Cf hs [0]]
  tI (Ai (qcG ra.e) (Ai (qcG ra.id) (Ai (qcG ra.ot) (Ai (qgg ra.n ra.d) (Co hs [0] 3 tI)))))
end Go.Proofs.YtleaeldgaflmkaaGreat

namespace Go.Proofs.YtleaeldgaflmkaaGreat
set_option maxRecDepth 100000
open Go.RowKit
theorem qnf:∀ {rs:List Rep} {k:Nat} {r:Rep},rs[k]?=some r→qxH (rs.flatMap qfd) (0*6+k*6) (qfd r)
 | [],k,r,h=>by simp at h
 | q::rs,0,r,h=>by
  simp at h;subst h
  intro j d hj
  show (qfd q++rs.flatMap qfd)[0*6+0*6+j]?=some d
  rw[show 0*6+0*6+j=j by omega,List.getElem?_append_left (List.getElem?_eq_some_iff.1 hj).1]
  exact hj
 | q::rs,k+1,r,h=>by
  have ih:=qnf (rs:=rs) (k:=k) (r:=r) (by simpa using h)
  intro j d hj
  have:=ih j d hj
  rw[show 0*6+(k+1)*6+j=(0*6+k*6+j)+1+1+1+1+1+1 by omega]
  exact this
abbrev qxQ (rs:List Rep):HpL:=[(0,0,.rrow 38 6 rs.length (qbW rs)),(1,0,.rrow 38 6 rs.length (qbW rs))]
theorem qoZ {rp:Rep} {rs:List Rep} {k:Nat} (hlt:decide ((k:Int)<(rs.length:Int))=true) (hin:0≤(k:Int)∧(k:Int)<(rs.length:Int)) (hk:rs[k]?=some rp) (hsm:Fn 26 0 [.ag (qeY rp),.ag (qeY rp)] [] (.pv (.bool true)) 0 []) (hs:iV (IntKind.i64.wrap ((k:Int)+1))=iV (((k+1:Nat):Int))) {e:Exit} {tm2:TmL} {hp2:HpL}
 (r:Rl 0 0 28 0 27 2 ([(0,.ls 0 rs.length),(1,.ls 1 rs.length),(5,.pv (iV ((k+1:Nat):Int)))]) (qxQ rs) e tm2 hp2):Rl 0 0 28 0 27 2 ([(0,.ls 0 rs.length),(1,.ls 1 rs.length),(5,.pv (iV (k:Int)))]) (qxQ rs) e tm2 hp2:=
 RunsL.next [] 300 [.t true,.md,.dr (qeY rp),.dr (qeY rp),Cf hsm [],.k,Re hs]
  (Ro (Ai hlt (Ai hin (Ai (qnf hk) (Ai hin (Ai (qnf hk) (Co hsm [] 2 (Ai hs tI)))))))) r
theorem qth {rs:List Rep} {k:Nat} (hlt:decide ((k:Int)<(rs.length:Int))=false):Rl 0 0 28 0 27 2 ([(0,.ls 0 rs.length),(1,.ls 1 rs.length),(5,.pv (iV (k:Int)))]) (qxQ rs) (.exit 0) ([]) ([]):=
 RunsL.stop [] 300 [.t false] (fun h=>by cases h)
  (Ro (Ai hlt tI))
theorem qt8 {rs:List Rep} (r0:Rl 0 0 28 0 27 2 ([(0,.ls 0 rs.length),(1,.ls 1 rs.length),(5,.pv (iV ((0:Nat):Int)))]) (qxQ rs) (.exit 0) ([]) ([])) :
 Fn 28 0 [.dv 6 rs.length (qbW rs),.dv 6 rs.length (qbW rs)] [] (.pv (.bool true)) 0 []:=
 Fz [] [.od true 0 0 0 38 none,.od true 1 0 0 38 none,.t false,Lf r0]
  tI (Ai (qcU (rs.length:Int)) (Lo r0 [] tI))
end Go.Proofs.YtleaeldgaflmkaaGreat

namespace Go.Proofs.YtleaeldgaflmkaaGreat
set_option maxRecDepth 100000
open Go.RowKit
theorem qow (a:AskQ):(!(a.kd==a.kd&&((a.pi==a.pi&&(a.pa==a.pa&&(a.pb==a.pb&&true)))&&((a.z==a.z)&&((a.qn==a.qn&&(a.qd==a.qd&&true))&&true)))))=false:=by simp
theorem qmy (w:Bool):(w==w)=true:=by simp
theorem qyX {tn td:Int} {s:List Pt} {ra rb:Rep} {qs:List AskQ} (hg:Fn 20 1 [qas 0 s] [(0,0,qad s)] (.pv (.bool true)) 0 []) :
 Fn 5 4 [moS 0 s tn td,.ls 1 qs.length,.ag [.pv (iV ra.e),.pv (iV ra.id),.pv (iV ra.ot),.pv (iV ra.n),.pv (iV ra.d),.ls 2 ra.ms.length],.ag [.pv (iV rb.e),.pv (iV rb.id),.pv (iV rb.ot),.pv (iV rb.n),.pv (iV rb.d),.ls 3 rb.ms.length]] [(0,0,qad s),(1,0,qbu qs),(2,0,.row 95 4 ra.ms.length (msV ra.ms)),(3,0,.row 95 4 rb.ms.length (msV rb.ms))] (.pv (.bool true)) 0 []:=
 Fz [] [Cf hg [0]]
  tI (Co hg [0] 7 tI)
abbrev qrz (s:List Pt):Prop:=Fn 20 1 [qas 0 s] [(0,0,qad s)] (.pv (.bool false)) 0 []
theorem qte {tn td:Int} {s:List Pt} {ra rb:Rep} {qs:List AskQ} (hg:qrz s) (h20:decide ((qs.length:Int)>20)=true) (h120:decide ((qs.length:Int)≤120)=true) :
 Fn 5 4 [moS 0 s tn td,.ls 1 qs.length,.ag [.pv (iV ra.e),.pv (iV ra.id),.pv (iV ra.ot),.pv (iV ra.n),.pv (iV ra.d),.ls 2 ra.ms.length],.ag [.pv (iV rb.e),.pv (iV rb.id),.pv (iV rb.ot),.pv (iV rb.n),.pv (iV rb.d),.ls 3 rb.ms.length]] [(0,0,qad s),(1,0,qbu qs),(2,0,.row 95 4 ra.ms.length (msV ra.ms)),(3,0,.row 95 4 rb.ms.length (msV rb.ms))] (.pv (.bool true)) 0 []:=
 Fz [] [Cf hg [0],.t true,.t true]
  tI (Co hg [0] 7 (Ai h20 (Ai h120 tI)))
theorem qtm {tn td:Int} {s:List Pt} {ra rb:Rep} {qs:List AskQ} (hg:qrz s) (h20:decide ((qs.length:Int)>20)=true) (h120:decide ((qs.length:Int)≤120)=false) (h130:decide ((qs.length:Int)>130)=true) :
 Fn 5 4 [moS 0 s tn td,.ls 1 qs.length,.ag [.pv (iV ra.e),.pv (iV ra.id),.pv (iV ra.ot),.pv (iV ra.n),.pv (iV ra.d),.ls 2 ra.ms.length],.ag [.pv (iV rb.e),.pv (iV rb.id),.pv (iV rb.ot),.pv (iV rb.n),.pv (iV rb.d),.ls 3 rb.ms.length]] [(0,0,qad s),(1,0,qbu qs),(2,0,.row 95 4 ra.ms.length (msV ra.ms)),(3,0,.row 95 4 rb.ms.length (msV rb.ms))] (.pv (.bool true)) 0 []:=
 Fz [] [Cf hg [0],.t true,.t false,.t true]
  tI (Co hg [0] 7 (Ai h20 (Ai h120 (Ai h130 tI))))
theorem qu6 {tn td:Int} {s:List Pt} {ra rb:Rep} {qs:List AskQ} (hg:qrz s) (h20:decide ((qs.length:Int)>20)=false) (h130:decide ((qs.length:Int)>130)=false) (ha:decide ((ra.ms.length:Int)>100)=true) :
 Fn 5 4 [moS 0 s tn td,.ls 1 qs.length,.ag [.pv (iV ra.e),.pv (iV ra.id),.pv (iV ra.ot),.pv (iV ra.n),.pv (iV ra.d),.ls 2 ra.ms.length],.ag [.pv (iV rb.e),.pv (iV rb.id),.pv (iV rb.ot),.pv (iV rb.n),.pv (iV rb.d),.ls 3 rb.ms.length]] [(0,0,qad s),(1,0,qbu qs),(2,0,.row 95 4 ra.ms.length (msV ra.ms)),(3,0,.row 95 4 rb.ms.length (msV rb.ms))] (.pv (.bool true)) 0 []:=
 Fz [] [Cf hg [0],.t false,.t false,.t true]
  tI (Co hg [0] 7 (Ai h20 (Ai h130 (Ai ha tI))))
theorem qwh {tn td:Int} {s:List Pt} {ra rb:Rep} {qs:List AskQ} (hg:qrz s) (h20:decide ((qs.length:Int)>20)=false) (h130:decide ((qs.length:Int)>130)=false) (ha:decide ((ra.ms.length:Int)>100)=false) (hb:decide ((rb.ms.length:Int)>100)=true) :
 Fn 5 4 [moS 0 s tn td,.ls 1 qs.length,.ag [.pv (iV ra.e),.pv (iV ra.id),.pv (iV ra.ot),.pv (iV ra.n),.pv (iV ra.d),.ls 2 ra.ms.length],.ag [.pv (iV rb.e),.pv (iV rb.id),.pv (iV rb.ot),.pv (iV rb.n),.pv (iV rb.d),.ls 3 rb.ms.length]] [(0,0,qad s),(1,0,qbu qs),(2,0,.row 95 4 ra.ms.length (msV ra.ms)),(3,0,.row 95 4 rb.ms.length (msV rb.ms))] (.pv (.bool true)) 0 []:=
 Fz [] [Cf hg [0],.t false,.t false,.t false,.t true]
  tI (Co hg [0] 7 (Ai h20 (Ai h130 (Ai ha (Ai hb tI)))))
theorem qw9 {tn td:Int} {s:List Pt} {ra rb:Rep} {qs:List AskQ} (hg:qrz s) (h20:decide ((qs.length:Int)>20)=true) (h120:decide ((qs.length:Int)≤120)=false) (h130:decide ((qs.length:Int)>130)=false) (ha:decide ((ra.ms.length:Int)>100)=true) :
 Fn 5 4 [moS 0 s tn td,.ls 1 qs.length,.ag [.pv (iV ra.e),.pv (iV ra.id),.pv (iV ra.ot),.pv (iV ra.n),.pv (iV ra.d),.ls 2 ra.ms.length],.ag [.pv (iV rb.e),.pv (iV rb.id),.pv (iV rb.ot),.pv (iV rb.n),.pv (iV rb.d),.ls 3 rb.ms.length]] [(0,0,qad s),(1,0,qbu qs),(2,0,.row 95 4 ra.ms.length (msV ra.ms)),(3,0,.row 95 4 rb.ms.length (msV rb.ms))] (.pv (.bool true)) 0 []:=
 Fz [] [Cf hg [0],.t true,.t false,.t false,.t true]
  tI (Co hg [0] 7 (Ai h20 (Ai h120 (Ai h130 (Ai ha tI)))))
theorem qxs {tn td:Int} {s:List Pt} {ra rb:Rep} {qs:List AskQ} (hg:qrz s) (h20:decide ((qs.length:Int)>20)=true) (h120:decide ((qs.length:Int)≤120)=false) (h130:decide ((qs.length:Int)>130)=false) (ha:decide ((ra.ms.length:Int)>100)=false) (hb:decide ((rb.ms.length:Int)>100)=true) :
 Fn 5 4 [moS 0 s tn td,.ls 1 qs.length,.ag [.pv (iV ra.e),.pv (iV ra.id),.pv (iV ra.ot),.pv (iV ra.n),.pv (iV ra.d),.ls 2 ra.ms.length],.ag [.pv (iV rb.e),.pv (iV rb.id),.pv (iV rb.ot),.pv (iV rb.n),.pv (iV rb.d),.ls 3 rb.ms.length]] [(0,0,qad s),(1,0,qbu qs),(2,0,.row 95 4 ra.ms.length (msV ra.ms)),(3,0,.row 95 4 rb.ms.length (msV rb.ms))] (.pv (.bool true)) 0 []:=
 Fz [] [Cf hg [0],.t true,.t false,.t false,.t false,.t true]
  tI (Co hg [0] 7 (Ai h20 (Ai h120 (Ai h130 (Ai ha (Ai hb tI))))))
abbrev qAT (ds:List Dn) (e1:Int) (k:Nat) (k2:Nat) (qs:List AskQ):TmL:=[(1,.ls 1 qs.length),(4,.pp 4 0),(6,.pp 5 0),(7,.pp 6 0),(9,.pp 10 0),(10,.ls 9 (0+qs.length)),(11,.pp 12 0),(12,.dv 6 k ds),(13,.pv (iV e1)),(14,.pp 14 0),(15,.dv 6 k ds),(16,.pv (iV e1)),(17,.pv (iV (k2:Int)))]
theorem qo4 {tn td n' d' e1:Int} {s s':List Pt} {ra rb:Rep} {qs:List AskQ} {aq:AskQ} {k:Nat} {ds:List Dn} {k2:Nat} (hlt:decide ((k2:Int)<(qs.length:Int))=true) (hin:0≤(k2:Int)∧(k2:Int)<(qs.length:Int)) (hin2:0≤(k2:Int)∧(k2:Int)<((0+qs.length:Nat):Int)) (hk:qs[k2]?=some aq) (hs:iV (IntKind.i64.wrap ((k2:Int)+1))=iV (((k2+1:Nat):Int))) {e:Exit} {tm2:TmL} {hp2:HpL}
 (r:Rl 4 4 5 0 114 15 ([(1,.ls 1 qs.length),(4,.pp 4 0),(6,.pp 5 0),(7,.pp 6 0),(9,.pp 10 0),(10,.ls 9 (0+qs.length)),(11,.pp 12 0),(12,.dv 6 k ds),(13,.pv (iV e1)),(14,.pp 14 0),(15,.dv 6 k ds),(16,.pv (iV e1)),(17,.pv (iV ((k2+1:Nat):Int)))]) ([(4,0,.pv (iV tn)),(4,1,.pv (iV td)),(4,2,.ls 0 s.length),(5,0,.pv (iV ra.e)),(5,1,.pv (iV ra.id)),(5,2,.pv (iV ra.ot)),(5,3,.pv (iV ra.n)),(5,4,.pv (iV ra.d)),(5,5,.ls 2 ra.ms.length),(6,0,.pv (iV rb.e)),(6,1,.pv (iV rb.id)),(6,2,.pv (iV rb.ot)),(6,3,.pv (iV rb.n)),(6,4,.pv (iV rb.d)),(6,5,.ls 3 rb.ms.length),(10,0,.pv (iV tn)),(10,1,.pv (iV td)),(10,2,.ls 7 s.length),(12,0,.pv (iV n')),(12,1,.pv (iV d')),(12,2,.ls 11 s'.length),(14,0,.pv (iV n')),(14,1,.pv (iV d')),(14,2,.ls 13 s'.length),(0,0,qad s),(1,0,qbu qs),(2,0,.row 95 4 ra.ms.length (msV ra.ms)),(3,0,.row 95 4 rb.ms.length (msV rb.ms)),(7,0,qad s),(9,0,.row 42 7 (0+qs.length) (qbl qs)),(11,0,qad s'),(13,0,qad s')]) e tm2 hp2):Rl 4 4 5 0 114 15 (qAT ds e1 k k2 qs) ([(4,0,.pv (iV tn)),(4,1,.pv (iV td)),(4,2,.ls 0 s.length),(5,0,.pv (iV ra.e)),(5,1,.pv (iV ra.id)),(5,2,.pv (iV ra.ot)),(5,3,.pv (iV ra.n)),(5,4,.pv (iV ra.d)),(5,5,.ls 2 ra.ms.length),(6,0,.pv (iV rb.e)),(6,1,.pv (iV rb.id)),(6,2,.pv (iV rb.ot)),(6,3,.pv (iV rb.n)),(6,4,.pv (iV rb.d)),(6,5,.ls 3 rb.ms.length),(10,0,.pv (iV tn)),(10,1,.pv (iV td)),(10,2,.ls 7 s.length),(12,0,.pv (iV n')),(12,1,.pv (iV d')),(12,2,.ls 11 s'.length),(14,0,.pv (iV n')),(14,1,.pv (iV d')),(14,2,.ls 13 s'.length),(0,0,qad s),(1,0,qbu qs),(2,0,.row 95 4 ra.ms.length (msV ra.ms)),(3,0,.row 95 4 rb.ms.length (msV rb.ms)),(7,0,qad s),(9,0,.row 42 7 (0+qs.length) (qbl qs)),(11,0,qad s'),(13,0,qad s')]) e tm2 hp2:=
 RunsL.next [] 300 [.t true,.md,.r (qc7 aq),.r (qc7 aq),.t false,Re hs]
  (Ro (Ai hlt (Ai hin2 (Ai (qcz hk) (Ai hin (Ai (qcz hk) (Ai (qow aq) (Ai hs tI)))))))) r
abbrev qAg (ds:List Dn) (e1:Int) (k:Nat) (qs:List AskQ):TmL:=[(1,.ls 1 qs.length),(4,.pp 4 0),(6,.pp 5 0),(7,.pp 6 0),(9,.pp 10 0),(10,.ls 9 (0+qs.length)),(11,.pp 12 0),(12,.dv 6 k ds),(13,.pv (iV e1)),(14,.pp 14 0),(15,.dv 6 k ds),(16,.pv (iV e1))]
theorem qs0 {tn td n' d' e1:Int} {s s':List Pt} {ra rb:Rep} {qs:List AskQ} {k:Nat} {ds:List Dn} {k2:Nat} (hlt:decide ((k2:Int)<(qs.length:Int))=false):Rl 4 4 5 0 114 15 (qAT ds e1 k k2 qs) ([(4,0,.pv (iV tn)),(4,1,.pv (iV td)),(4,2,.ls 0 s.length),(5,0,.pv (iV ra.e)),(5,1,.pv (iV ra.id)),(5,2,.pv (iV ra.ot)),(5,3,.pv (iV ra.n)),(5,4,.pv (iV ra.d)),(5,5,.ls 2 ra.ms.length),(6,0,.pv (iV rb.e)),(6,1,.pv (iV rb.id)),(6,2,.pv (iV rb.ot)),(6,3,.pv (iV rb.n)),(6,4,.pv (iV rb.d)),(6,5,.ls 3 rb.ms.length),(10,0,.pv (iV tn)),(10,1,.pv (iV td)),(10,2,.ls 7 s.length),(12,0,.pv (iV n')),(12,1,.pv (iV d')),(12,2,.ls 11 s'.length),(14,0,.pv (iV n')),(14,1,.pv (iV d')),(14,2,.ls 13 s'.length),(0,0,qad s),(1,0,qbu qs),(2,0,.row 95 4 ra.ms.length (msV ra.ms)),(3,0,.row 95 4 rb.ms.length (msV rb.ms)),(7,0,qad s),(9,0,.row 42 7 (0+qs.length) (qbl qs)),(11,0,qad s'),(13,0,qad s')]) (.exit 0) (qAg ds e1 k qs) ([(4,0,.pv (iV tn)),(4,1,.pv (iV td)),(4,2,.ls 0 s.length),(5,0,.pv (iV ra.e)),(5,1,.pv (iV ra.id)),(5,2,.pv (iV ra.ot)),(5,3,.pv (iV ra.n)),(5,4,.pv (iV ra.d)),(5,5,.ls 2 ra.ms.length),(6,0,.pv (iV rb.e)),(6,1,.pv (iV rb.id)),(6,2,.pv (iV rb.ot)),(6,3,.pv (iV rb.n)),(6,4,.pv (iV rb.d)),(6,5,.ls 3 rb.ms.length),(10,0,.pv (iV tn)),(10,1,.pv (iV td)),(10,2,.ls 7 s.length),(12,0,.pv (iV n')),(12,1,.pv (iV d')),(12,2,.ls 11 s'.length),(14,0,.pv (iV n')),(14,1,.pv (iV d')),(14,2,.ls 13 s'.length),(0,0,qad s),(1,0,qbu qs),(2,0,.row 95 4 ra.ms.length (msV ra.ms)),(3,0,.row 95 4 rb.ms.length (msV rb.ms)),(7,0,qad s),(9,0,.row 42 7 (0+qs.length) (qbl qs)),(11,0,qad s'),(13,0,qad s')]):=
 RunsL.stop [] 300 [.t false] (fun h=>by cases h)
  (Ro (Ai hlt tI))
abbrev qAW (ds:List Dn) (e1:Int) (k:Nat) (qs:List AskQ):TmL:=[(1,.ls 1 qs.length),(4,.pp 4 0),(6,.pp 5 0),(7,.pp 6 0),(9,.pp 10 0),(10,.ls 9 (0+qs.length)),(11,.pp 12 0),(12,.dv 6 k ds),(13,.pv (iV e1)),(14,.pp 14 0),(15,.dv 6 k ds),(16,.pv (iV e1)),(17,.pv (iV ((0:Nat):Int)))]
theorem qsj {tn td n' d' e1:Int} {s s':List Pt} {ra rb:Rep} {qs:List AskQ} {k:Nat} {ds:List Dn} {w:Bool} (hg:qrz s) (h20:decide ((qs.length:Int)>20)=false) (h130:decide ((qs.length:Int)>130)=false) (ha:decide ((ra.ms.length:Int)>100)=false) (hb:decide ((rb.ms.length:Int)>100)=false) (ht:Fn 21 1 [moS 0 s tn td] [(0,0,qad s)] (moS 1 s tn td) 1 [(1,0,qad s)]) (hm:0+qs.length≤1000000) (hr1:Fn 13 2 [moS 0 s tn td,.ls 1 (0+qs.length)] [(0,0,qad s),(1,0,.row 42 7 (0+qs.length) (qbl qs))] (.tu [mo1 2 s' n' d',.one (.dv 6 k ds),.one (.pv (iV e1))]) 1 [(2,0,qad s')]) (hr2:Fn 27 2 [moS 0 s tn td,.ls 1 qs.length] [(0,0,qad s),(1,0,qbu qs)] (.tu [mo1 2 s' n' d',.one (.dv 6 k ds),.one (.pv (iV e1))]) 1 [(2,0,qad s')]) (r0:Rl 4 4 5 0 114 15 (qAW ds e1 k qs) ([(4,0,.pv (iV tn)),(4,1,.pv (iV td)),(4,2,.ls 0 s.length),(5,0,.pv (iV ra.e)),(5,1,.pv (iV ra.id)),(5,2,.pv (iV ra.ot)),(5,3,.pv (iV ra.n)),(5,4,.pv (iV ra.d)),(5,5,.ls 2 ra.ms.length),(6,0,.pv (iV rb.e)),(6,1,.pv (iV rb.id)),(6,2,.pv (iV rb.ot)),(6,3,.pv (iV rb.n)),(6,4,.pv (iV rb.d)),(6,5,.ls 3 rb.ms.length),(10,0,.pv (iV tn)),(10,1,.pv (iV td)),(10,2,.ls 7 s.length),(12,0,.pv (iV n')),(12,1,.pv (iV d')),(12,2,.ls 11 s'.length),(14,0,.pv (iV n')),(14,1,.pv (iV d')),(14,2,.ls 13 s'.length),(0,0,qad s),(1,0,qbu qs),(2,0,.row 95 4 ra.ms.length (msV ra.ms)),(3,0,.row 95 4 rb.ms.length (msV rb.ms)),(7,0,qad s),(9,0,.row 42 7 (0+qs.length) (qbl qs)),(11,0,qad s'),(13,0,qad s')]) (.exit 0) (qAg ds e1 k qs) ([(4,0,.pv (iV tn)),(4,1,.pv (iV td)),(4,2,.ls 0 s.length),(5,0,.pv (iV ra.e)),(5,1,.pv (iV ra.id)),(5,2,.pv (iV ra.ot)),(5,3,.pv (iV ra.n)),(5,4,.pv (iV ra.d)),(5,5,.ls 2 ra.ms.length),(6,0,.pv (iV rb.e)),(6,1,.pv (iV rb.id)),(6,2,.pv (iV rb.ot)),(6,3,.pv (iV rb.n)),(6,4,.pv (iV rb.d)),(6,5,.ls 3 rb.ms.length),(10,0,.pv (iV tn)),(10,1,.pv (iV td)),(10,2,.ls 7 s.length),(12,0,.pv (iV n')),(12,1,.pv (iV d')),(12,2,.ls 11 s'.length),(14,0,.pv (iV n')),(14,1,.pv (iV d')),(14,2,.ls 13 s'.length),(0,0,qad s),(1,0,qbu qs),(2,0,.row 95 4 ra.ms.length (msV ra.ms)),(3,0,.row 95 4 rb.ms.length (msV rb.ms)),(7,0,qad s),(9,0,.row 42 7 (0+qs.length) (qbl qs)),(11,0,qad s'),(13,0,qad s')])) (hs1:Fn 24 2 [moS 0 s' n' d',moS 1 s' n' d'] [(0,0,qad s'),(1,0,qad s')] (.pv (.bool true)) 0 []) (hs2:Fn 28 0 [.dv 6 k ds,.dv 6 k ds] [] (.pv (.bool true)) 0 []) (hp:Fn 29 2 [.ag [.pv (iV ra.e),.pv (iV ra.id),.pv (iV ra.ot),.pv (iV ra.n),.pv (iV ra.d),.ls 0 ra.ms.length],.ag [.pv (iV rb.e),.pv (iV rb.id),.pv (iV rb.ot),.pv (iV rb.n),.pv (iV rb.d),.ls 1 rb.ms.length]] [(0,0,.row 95 4 ra.ms.length (msV ra.ms)),(1,0,.row 95 4 rb.ms.length (msV rb.ms))] (.pv (.bool w)) 0 []) (hq:Fn 26 2 [.ag [.pv (iV ra.e),.pv (iV ra.id),.pv (iV ra.ot),.pv (iV ra.n),.pv (iV ra.d),.ls 0 ra.ms.length],.ag [.pv (iV rb.e),.pv (iV rb.id),.pv (iV rb.ot),.pv (iV rb.n),.pv (iV rb.d),.ls 1 rb.ms.length]] [(0,0,.row 95 4 ra.ms.length (msV ra.ms)),(1,0,.row 95 4 rb.ms.length (msV rb.ms))] (.pv (.bool w)) 0 []) (hi:Fn 29 1 [.ag [.pv (iV ra.e),.pv (iV ra.id),.pv (iV ra.ot),.pv (iV ra.n),.pv (iV ra.d),.ls 0 ra.ms.length],.ag [.pv (iV ra.e),.pv (iV ra.id),.pv (iV ra.ot),.pv (iV ra.n),.pv (iV ra.d),.ls 0 ra.ms.length]] [(0,0,.row 95 4 ra.ms.length (msV ra.ms))] (.pv (.bool true)) 0 []) (hs3:Fn 24 2 [moS 0 s tn td,moS 1 s tn td] [(0,0,qad s),(1,0,qad s)] (.pv (.bool true)) 0 []) :
 Fn 5 4 [moS 0 s tn td,.ls 1 qs.length,.ag [.pv (iV ra.e),.pv (iV ra.id),.pv (iV ra.ot),.pv (iV ra.n),.pv (iV ra.d),.ls 2 ra.ms.length],.ag [.pv (iV rb.e),.pv (iV rb.id),.pv (iV rb.ot),.pv (iV rb.n),.pv (iV rb.d),.ls 3 rb.ms.length]] [(0,0,qad s),(1,0,qbu qs),(2,0,.row 95 4 ra.ms.length (msV ra.ms)),(3,0,.row 95 4 rb.ms.length (msV rb.ms))] (.pv (.bool true)) 0 []:=
 Fz [] [Cf hg [0],.t false,.t false,.t false,.t false,Cf ht [0],Cf hr1 [7,9],Cf hr2 [0,1],Lf r0,.md,Cf hs1 [11,13],Cf hs2 [],.t true,Cf hp [2,3],Cf hp [2,3],.t true,Cf hi [2],Cf hs3 [7,0]]
  tI (Co hg [0] 7 (Ai h20 (Ai h130 (Ai ha (Ai hb (Co ht [0] 7 (Ai hm (Co hr1 [7,9] 11 (Co hr2 [0,1] 13 (Lo r0 [] (Co hs1 [11,13] 15 (Co hs2 [] 15 (Ai (qcG e1) (Co hp [2,3] 15 (Co hq [2,3] 15 (Ai (qmy w) (Co hi [2] 15 (Co hs3 [7,0] 15 tI))))))))))))))))))
theorem qto {tn td n' d' e1:Int} {s s':List Pt} {ra rb:Rep} {qs:List AskQ} {k:Nat} {ds:List Dn} {w:Bool} (hg:qrz s) (h20:decide ((qs.length:Int)>20)=true) (h120:decide ((qs.length:Int)≤120)=false) (h130:decide ((qs.length:Int)>130)=false) (ha:decide ((ra.ms.length:Int)>100)=false) (hb:decide ((rb.ms.length:Int)>100)=false) (ht:Fn 21 1 [moS 0 s tn td] [(0,0,qad s)] (moS 1 s tn td) 1 [(1,0,qad s)]) (hm:0+qs.length≤1000000) (hr1:Fn 13 2 [moS 0 s tn td,.ls 1 (0+qs.length)] [(0,0,qad s),(1,0,.row 42 7 (0+qs.length) (qbl qs))] (.tu [mo1 2 s' n' d',.one (.dv 6 k ds),.one (.pv (iV e1))]) 1 [(2,0,qad s')]) (hr2:Fn 27 2 [moS 0 s tn td,.ls 1 qs.length] [(0,0,qad s),(1,0,qbu qs)] (.tu [mo1 2 s' n' d',.one (.dv 6 k ds),.one (.pv (iV e1))]) 1 [(2,0,qad s')]) (r0:Rl 4 4 5 0 114 15 (qAW ds e1 k qs) ([(4,0,.pv (iV tn)),(4,1,.pv (iV td)),(4,2,.ls 0 s.length),(5,0,.pv (iV ra.e)),(5,1,.pv (iV ra.id)),(5,2,.pv (iV ra.ot)),(5,3,.pv (iV ra.n)),(5,4,.pv (iV ra.d)),(5,5,.ls 2 ra.ms.length),(6,0,.pv (iV rb.e)),(6,1,.pv (iV rb.id)),(6,2,.pv (iV rb.ot)),(6,3,.pv (iV rb.n)),(6,4,.pv (iV rb.d)),(6,5,.ls 3 rb.ms.length),(10,0,.pv (iV tn)),(10,1,.pv (iV td)),(10,2,.ls 7 s.length),(12,0,.pv (iV n')),(12,1,.pv (iV d')),(12,2,.ls 11 s'.length),(14,0,.pv (iV n')),(14,1,.pv (iV d')),(14,2,.ls 13 s'.length),(0,0,qad s),(1,0,qbu qs),(2,0,.row 95 4 ra.ms.length (msV ra.ms)),(3,0,.row 95 4 rb.ms.length (msV rb.ms)),(7,0,qad s),(9,0,.row 42 7 (0+qs.length) (qbl qs)),(11,0,qad s'),(13,0,qad s')]) (.exit 0) (qAg ds e1 k qs) ([(4,0,.pv (iV tn)),(4,1,.pv (iV td)),(4,2,.ls 0 s.length),(5,0,.pv (iV ra.e)),(5,1,.pv (iV ra.id)),(5,2,.pv (iV ra.ot)),(5,3,.pv (iV ra.n)),(5,4,.pv (iV ra.d)),(5,5,.ls 2 ra.ms.length),(6,0,.pv (iV rb.e)),(6,1,.pv (iV rb.id)),(6,2,.pv (iV rb.ot)),(6,3,.pv (iV rb.n)),(6,4,.pv (iV rb.d)),(6,5,.ls 3 rb.ms.length),(10,0,.pv (iV tn)),(10,1,.pv (iV td)),(10,2,.ls 7 s.length),(12,0,.pv (iV n')),(12,1,.pv (iV d')),(12,2,.ls 11 s'.length),(14,0,.pv (iV n')),(14,1,.pv (iV d')),(14,2,.ls 13 s'.length),(0,0,qad s),(1,0,qbu qs),(2,0,.row 95 4 ra.ms.length (msV ra.ms)),(3,0,.row 95 4 rb.ms.length (msV rb.ms)),(7,0,qad s),(9,0,.row 42 7 (0+qs.length) (qbl qs)),(11,0,qad s'),(13,0,qad s')])) (hs1:Fn 24 2 [moS 0 s' n' d',moS 1 s' n' d'] [(0,0,qad s'),(1,0,qad s')] (.pv (.bool true)) 0 []) (hs2:Fn 28 0 [.dv 6 k ds,.dv 6 k ds] [] (.pv (.bool true)) 0 []) (hp:Fn 29 2 [.ag [.pv (iV ra.e),.pv (iV ra.id),.pv (iV ra.ot),.pv (iV ra.n),.pv (iV ra.d),.ls 0 ra.ms.length],.ag [.pv (iV rb.e),.pv (iV rb.id),.pv (iV rb.ot),.pv (iV rb.n),.pv (iV rb.d),.ls 1 rb.ms.length]] [(0,0,.row 95 4 ra.ms.length (msV ra.ms)),(1,0,.row 95 4 rb.ms.length (msV rb.ms))] (.pv (.bool w)) 0 []) (hq:Fn 26 2 [.ag [.pv (iV ra.e),.pv (iV ra.id),.pv (iV ra.ot),.pv (iV ra.n),.pv (iV ra.d),.ls 0 ra.ms.length],.ag [.pv (iV rb.e),.pv (iV rb.id),.pv (iV rb.ot),.pv (iV rb.n),.pv (iV rb.d),.ls 1 rb.ms.length]] [(0,0,.row 95 4 ra.ms.length (msV ra.ms)),(1,0,.row 95 4 rb.ms.length (msV rb.ms))] (.pv (.bool w)) 0 []) (hi:Fn 29 1 [.ag [.pv (iV ra.e),.pv (iV ra.id),.pv (iV ra.ot),.pv (iV ra.n),.pv (iV ra.d),.ls 0 ra.ms.length],.ag [.pv (iV ra.e),.pv (iV ra.id),.pv (iV ra.ot),.pv (iV ra.n),.pv (iV ra.d),.ls 0 ra.ms.length]] [(0,0,.row 95 4 ra.ms.length (msV ra.ms))] (.pv (.bool true)) 0 []) (hs3:Fn 24 2 [moS 0 s tn td,moS 1 s tn td] [(0,0,qad s),(1,0,qad s)] (.pv (.bool true)) 0 []) :
 Fn 5 4 [moS 0 s tn td,.ls 1 qs.length,.ag [.pv (iV ra.e),.pv (iV ra.id),.pv (iV ra.ot),.pv (iV ra.n),.pv (iV ra.d),.ls 2 ra.ms.length],.ag [.pv (iV rb.e),.pv (iV rb.id),.pv (iV rb.ot),.pv (iV rb.n),.pv (iV rb.d),.ls 3 rb.ms.length]] [(0,0,qad s),(1,0,qbu qs),(2,0,.row 95 4 ra.ms.length (msV ra.ms)),(3,0,.row 95 4 rb.ms.length (msV rb.ms))] (.pv (.bool true)) 0 []:=
 Fz [] [Cf hg [0],.t true,.t false,.t false,.t false,.t false,Cf ht [0],Cf hr1 [7,9],Cf hr2 [0,1],Lf r0,.md,Cf hs1 [11,13],Cf hs2 [],.t true,Cf hp [2,3],Cf hp [2,3],.t true,Cf hi [2],Cf hs3 [7,0]]
  tI (Co hg [0] 7 (Ai h20 (Ai h120 (Ai h130 (Ai ha (Ai hb (Co ht [0] 7 (Ai hm (Co hr1 [7,9] 11 (Co hr2 [0,1] 13 (Lo r0 [] (Co hs1 [11,13] 15 (Co hs2 [] 15 (Ai (qcG e1) (Co hp [2,3] 15 (Co hq [2,3] 15 (Ai (qmy w) (Co hi [2] 15 (Co hs3 [7,0] 15 tI)))))))))))))))))))
end Go.Proofs.YtleaeldgaflmkaaGreat
