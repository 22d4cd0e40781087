/-
  OracleParts holds of every model, list of asks and index. Conditions: none.
-/
import Derived.Test.YtleaeldgaflmkaaGreatW49
import Derived.Test.YtleaeldgaflmkaaGreatW34
import Derived.Test.YtleaeldgaflmkaaGreatW25
namespace Go.Proofs.YtleaeldgaflmkaaGreat
set_option maxRecDepth 100000
open Go.RowKit
theorem qgd:∀ (l:List AskQ) (k:Nat),(qbh l).drop (k*7)=qbh (l.drop k)
 | l,0=>by simp
 | [],k+1=>by simp[qbh]
 | p::r,k+1=>by rw[show (k+1)*7=k*7+1+1+1+1+1+1+1 by omega,List.drop_succ_cons];exact qgd r k
theorem qeZ:∀ (l:List AskQ),(qbh l).length=l.length*7
 | []=>rfl
 | p::r=>by rw[List.length_cons,Nat.succ_mul,← qeZ r];rfl
theorem qhU:∀ (a b:List AskQ),qbh (a++b)=qbh a++qbh b
 | [],_=>rfl
 | p::r,b=>congrArg (fun z=>Value.int .u8 p.kd::iV p.pi::iV p.pa::iV p.pb::iV p.z::iV p.qn::iV p.qd::z) (qhU r b)
theorem qkW (l:List AskQ) (k n:Nat) (h:k+n≤l.length):((qbh l).drop (k*7)).take (n*7)=qbh ((l.drop k).take n):=by
 rw[qgd]
 have e:l.drop k=(l.drop k).take n++(l.drop k).drop n:=(List.take_append_drop n _).symm
 conv=>lhs;rw[e]
 rw[qhU,List.take_append_of_le_length (by rw[qeZ,List.length_take,List.length_drop];exact Nat.mul_le_mul_right 7 (by omega)),List.take_of_length_le (by rw[qeZ,List.length_take,List.length_drop];exact Nat.mul_le_mul_right 7 (by omega))]
abbrev prT (qs:List AskQ) (k:Nat):List (Nat×SV):=[(1,.ls 1 qs.length),(3,.pp 2 0),(7,.pp 4 0),(8,.ls 12 qs.length),(16,.pv (iV (k:Int)))]
abbrev qBs (s:List Pt) (n d:Int) (qs:List AskQ) (rs:List Rep) (n' d':Int) (s':List Pt):List (Nat×Nat×SV):=[(2,0,.pv (iV n)),(2,1,.pv (iV d)),(2,2,.ls 0 s.length),(4,0,.pv (iV n')),(4,1,.pv (iV d')),(4,2,.ls 3 s'.length),(0,0,qad s),(1,0,qb7 qs),(3,0,qad s'),(12,0,.rrow 38 6 qs.length (qaz rs))]
abbrev qyb (s0 s:List Pt) (n d:Int) (qs:List AskQ) (rs:List Rep) (n' d':Int) (s':List Pt):List (Nat×Nat×SV):=[(2,0,.pv (iV n)),(2,1,.pv (iV d)),(2,2,.ls 9 s.length),(4,0,.pv (iV n')),(4,1,.pv (iV d')),(4,2,.ls 3 s'.length),(0,0,qad s0),(1,0,qb7 qs),(9,0,qad s),(3,0,qad s'),(12,0,.rrow 38 6 qs.length (qaz rs))]
section
variable {s s' s0:List Pt} {n d n' d':Int} {qs:List AskQ} {rs:List Rep}
theorem qkh {f:FuncId} {q:List AskQ} {c:Nat} {ds:List Dn} {e:Int} (h:quy f s n d q c ds n' d' s' e) {k0 m:Nat} (hk:k0+m≤qs.length) (hq:q=(qs.drop k0).take m) :
 Fn f 2 [moS 0 s n d,.lq 1 7 k0 m] [(0,0,qad s),(1,0,qb7 qs)] (.tu [mo1 2 s' n' d',.one (.dv 6 c ds),.one (.pv (iV e))]) 1 [(2,0,qad s')]:=by
 have hl:q.length=m:=by rw[hq,List.length_take,List.length_drop];omega
 refine qxQ (A:=mo1 0 s n d) (fun β γ v _ _ hg ⟨vs,hl,e⟩=>?_) (fun β γ v _ hh hg ⟨vs,hl,e⟩=>?_) ?_ hk
 ·match vs,hl with
  | [a,b,c],⟨h1,h2,⟨h3,h4⟩,_⟩=>exact⟨[a,b,c],⟨h1,h2,⟨hg.trans h3,h4⟩,tI⟩,e⟩
 ·match vs,hl with
  | [a,b,c],⟨⟨ws,hw,e1⟩,h2,h3,_⟩=>
   refine⟨[a,b,c],⟨⟨ws,?_,e1⟩,?_,h3,tI⟩,e⟩
   ·match ws,hw with
    | [x,y,z],⟨k1,k2,⟨k3,k4⟩,_⟩=>exact⟨k1,k2,⟨(hg 2 (by decide)).trans k3,k4⟩,tI⟩
   ·show DenH γ.h _ b
    rw[hh];exact h2
 ·have h':=h
  unfold quy at h'
  rw[qkW qs k0 m hk,← hq]
  rw[← hl]
  exact h'
theorem qfk {a:AskQ} {r:Rep} {k:Nat} {fin:Int×Int×List Pt} (hv:Val s) (ht:AskT n d) (o:Outc s n d a r n' d' s') (hk:qs[k]?=some a) (hk2:rs[k]?=some r) (hl:qs.length≤999999) {e:Exit} {tm2:TmL} {hp2:HpL}
 (rr:Rl 2 2 8 0 155 13 (prT qs (k+1)) (qyb s0 s' n' d' qs rs fin.1 fin.2.1 fin.2.2) e tm2 hp2) :
 Rl 2 2 8 0 155 13 (prT qs k) (qyb s0 s n d qs rs fin.1 fin.2.1 fin.2.2) e tm2 hp2∧(s0=s→Rl 2 2 8 0 155 13 (prT qs k) (qBs s n d qs rs fin.1 fin.2.1 fin.2.2) e tm2 hp2):=by
 have hkl:=qaw hk
 have hd:=qAG hv ht o
 obtain⟨i1,i2,_⟩:=o.ask.in
 obtain⟨_,c2⟩:=qdR (s:=s') i1 i2
 rw[(qh3 i1 i2).2 ⟨o.val,o.ask⟩] at c2
 have in0:0≤(k:Int)∧(k:Int)<(qs.length:Int):=⟨by omega,by omega⟩
 have sl:=hv.len
 by_cases he:r.e=0
 ·have he':(r.e !=0)=false:=by simp[he]
  have hsm:=qeS r o.few
  exact⟨qvm (hlt:=dt (by omega)) (hin:=in0) (hk:=hk) (hk2:=hk2) (hd:=hd) (hc:=c2) (hsm:=hsm) (he:=he') (hs:=qar (by omega)) rr,fun e0=>by
   subst e0
   exact qwA (hlt:=dt (by omega)) (hin:=in0) (hk:=hk) (hk2:=hk2) (hd:=hd) (hc:=c2) (hsm:=hsm) (he:=he') (hs:=qar (by omega)) rr⟩
 ·obtain⟨f1,f2,f3,f4⟩:=o.err he
  have he':(r.e !=0)=true:=by simp[he]
  generalize hE:r.e=E at f1 he'
  subst f1
  rw[f2,f3,f4] at hd c2 rr
  have hsm:=qeS (qeX E) (Nat.zero_le _)
  have hsd:Fn 24 2 [moS 0 s n d,moS 1 s n d] [(0,0,qad s),(1,0,qad s)] (.pv (.bool true)) 0 []:=qjZ (by omega)
  exact⟨qxk (hlt:=dt (by omega)) (hin:=in0) (hk:=hk) (hk2:=hk2) (hd:=hd) (hc:=c2) (hsm:=hsm) (he:=he') (hsd:=hsd) (hsn:=qvB) (hs:=qar (by omega)) rr,fun e0=>by
   subst e0
   exact qw4 (hlt:=dt (by omega)) (hin:=in0) (hk:=hk) (hk2:=hk2) (hd:=hd) (hc:=c2) (hsm:=hsm) (he:=he') (hsd:=hsd) (hsn:=qvB) (hs:=qar (by omega)) rr⟩
theorem qf9 {fin:Int×Int×List Pt} (hl:qs.length≤999999):∀ (rest:List AskQ) (rr:List Rep) (k:Nat) (s:List Pt) (n d:Int) (n' d':Int) (s':List Pt),qs=qs.take k++rest→rs=rs.take k++rr→k+rest.length=qs.length→rs.length=qs.length→Val s→AskT n d→qhi s n d rest rr n' d' s'→
 Rl 2 2 8 0 155 13 (prT qs k) (qyb s0 s n d qs rs fin.1 fin.2.1 fin.2.2) (.exit 0) [(3,.pp 2 0),(7,.pp 4 0)] (qyb s0 s' n' d' qs rs fin.1 fin.2.1 fin.2.2)
 | [],[],k,s,n,d,n',d',s',_,_,hk,_,_,_,⟨e1,e2,e3⟩=>by
  subst e1 e2 e3
  exact qzk (hlt:=df (by simp at hk;omega))
 | [],_::_,_,_,_,_,_,_,_,_,_,_,_,_,_,h=>h.elim
 | _::_,[],_,_,_,_,_,_,_,_,_,_,_,_,_,h=>h.elim
 | a::rest,r::rr,k,s,n,d,n',d',s',hq,hr,hk,he,hv,ht,⟨n1,d1,s1,o,h⟩=>by
  have hkl:k<qs.length:=by rw[← hk,List.length_cons];omega
  have at1:∀ {α:Type} {l t:List α} {x:α},k<l.length→l=l.take k++x::t→l[k]?=some x:=fun {α l t x} hk h=>by
   rw[h,List.getElem?_append_right (by rw[List.length_take];omega),List.length_take,Nat.min_eq_left (by omega),Nat.sub_self]
   rfl
  have hka:=at1 hkl hq
  have hkr:=at1 (show k<rs.length by omega) hr
  have ih:=qf9 (fin:=fin) hl rest rr (k+1) s1 n1 d1 n' d' s' (by rw[List.take_add_one,hka,List.append_assoc];exact hq) (by rw[List.take_add_one,hkr,List.append_assoc];exact hr) (by rw[← hk,List.length_cons];omega) he o.val o.ask h
  exact (qfk (fin:=fin) hv ht o hka hkr hl ih).1
theorem qlQ (hn:I64 n) (hd:I64 d) (hq:∀ a∈qs,qpv a) (z:Int):Fn 8 2 [moS 0 s n d,.ls 1 qs.length,.pv (iV z)] [(0,0,qad s),(1,0,qb7 qs)] (.pv (.bool true)) 0 []:=by
 rcases qs0 (s:=s) hn hd with hf | ⟨hv,ht,hf⟩
 ·exact qAy (hf:=hf) (hal:=qd9)
 by_cases h20:qs.length>20
 ·exact qvp (hf:=hf) (h20:=dt (by omega)) (hal:=qd9)
 by_cases hz:z<0
 ·exact qAw (hf:=hf) (h20:=df (by omega)) (hz:=dt hz) (hal:=qd9)
 by_cases hl:z>(qs.length:Int)
 ·exact qzd (hf:=hf) (h20:=df (by omega)) (hz:=df hz) (hl:=dt hl) (hal:=qd9)
 obtain⟨t,rfl⟩:∃ t:Nat,z=(t:Int):=⟨z.toNat,by omega⟩
 have htl:t≤qs.length:=by omega
 obtain⟨rs1,na,y,sa,o1⟩:=qja (qs.take t) hv ht fun a ha=>hq a (List.mem_of_mem_take ha)
 obtain⟨va,ta⟩:=qgu hv ht o1
 obtain⟨rs2,n',d',s',o2⟩:=qja (qs.drop t) va ta fun a ha=>hq a (List.mem_of_mem_drop ha)
 obtain⟨vb,tb⟩:=qgu va ta o2
 have o:=qkp o1 o2
 rw[List.take_append_drop] at o
 have hlen:=qeE o
 have few:=qkj o
 have l1:=qeE o1
 have l2:=qeE o2
 rw[List.length_take,Nat.min_eq_left htl] at l1
 rw[List.length_drop] at l2
 have hr1:=qnm (show qs.length≤120 by omega) hv ht o
 have R1:=qnm (qs:=qs.take t) (by rw[List.length_take];omega) hv ht o1
 have R2:=qnm (qs:=qs.drop t) (by rw[List.length_drop];omega) va ta o2
 rw[List.length_take,Nat.min_eq_left htl] at R1
 rw[List.length_drop] at R2
 have hr2:=qkh (qs:=qs) (k0:=0) (m:=t) R1 (by omega) (by rw[List.drop_zero])
 have hr3:=qkh (qs:=qs) (k0:=0+t) (m:=qs.length-t) R2 (by omega) (by rw[Nat.zero_add,List.take_of_length_le (by rw[List.length_drop];exact Nat.le_refl _)])
 have sl:=vb.len
 have sl0:=hv.len
 have hs2:Fn 28 1 [.dv 6 qs.length (qaz (rs1++rs2)),.ls 0 (0+t+(qs.length-t))] [(0,0,.drow 38 6 (0+t+(qs.length-t)) ([]++qaz rs1++qaz rs2))] (.pv (.bool true)) 0 []:=by
  rw[show 0+t+(qs.length-t)=qs.length by omega,show []++qaz rs1++qaz rs2=qaz (rs1++rs2) by rw[List.nil_append];exact (List.flatMap_append).symm,← hlen]
  refine qsE (r0:=RunsL.rounds (fun k=>[(0,.ls 1 (rs1++rs2).length),(1,.ls 0 (rs1++rs2).length),(5,.pv (iV (k:Int)))]) (fun _=>[(1,0,.rrow 38 6 (rs1++rs2).length (qaz (rs1++rs2))),(0,0,.drow 38 6 (rs1++rs2).length (qaz (rs1++rs2)))]) (rs1++rs2).length 0 (Nat.zero_add _) (fun k _ hk r=>?_) (qtT (hlt:=df (by omega))))
  obtain⟨m,hm⟩:=qal hk
  exact qp2 (hlt:=dt (by omega)) (hin:=qaA hk) (hk:=hm) (hsm:=qeS m (few m (List.mem_of_getElem? hm))) (hs:=qar (by omega)) r
 have hs1:Fn 24 2 [moS 0 s' n' d',moS 1 s' n' d'] [(0,0,qad s'),(1,0,qad s')] (.pv (.bool true)) 0 []:=qjZ (by omega)
 generalize hrs:rs1++rs2=rs at o hlen few hr1 hs2
 match qs,rs,o,hlen with
 | [],[],⟨e1,e2,e3⟩,_=>
  subst e1 e2 e3
  exact qAt (hf:=hf) (h20:=df (by omega)) (hz:=df hz) (hl:=df hl) (hr1:=hr1) (h0t:=by omega) (htl:=htl) (hr2:=hr2) (hr3:=hr3) (hs1:=hs1) (m1:=by omega) (m2:=by omega) (hs2:=hs2) (r0:=qzD (hlt:=df (by decide))) (hs3:=hs1) (hal:=qd9)
 | [],_::_,h,_=>exact h.elim
 | _::_,[],h,_=>exact h.elim
 | a::rest,r::rr,⟨n1,d1,s1,o0,h⟩,hlen=>
  have ih:=qf9 (s0:=s) (qs:=a::rest) (rs:=r::rr) (fin:=(n',d',s')) (by omega) rest rr 1 s1 n1 d1 n' d' s' rfl rfl (by rw[List.length_cons];omega) hlen o0.val o0.ask h
  have r0:=(qfk (fin:=(n',d',s')) (s0:=s) (qs:=a::rest) (rs:=r::rr) hv ht o0 rfl rfl (by omega) ih).2 rfl
  exact qz0 (hf:=hf) (h20:=df (by omega)) (hz:=df hz) (hl:=df hl) (hr1:=hr1) (h0t:=by omega) (htl:=htl) (hr2:=hr2) (hr3:=hr3) (hs1:=hs1) (m1:=by omega) (m2:=by omega) (hs2:=hs2) (r0:=r0) (hs3:=hs1) (hal:=qd9)
theorem qhr (n d:Int) (s:List Pt) (hn:I64 n) (hd:I64 d) (qs:List AskQ) (hq:∀ a∈qs,qpv a) (z:Int):Fn 8 2 [moS 0 s n d,.ls 1 qs.length,.pv (iV z)] [(0,0,qad s),(1,0,qb7 qs)] (.pv (.bool true)) 0 []:=qlQ hn hd hq z
theorem qyY {W:World} {f:FuncId} {u v:Value} {vs:List Value} (h:Fn f 2 (moS 0 s n d::.ls 1 qs.length::vs.map .pv) [(0,0,qad s),(1,0,qb7 qs)] (.pv (.bool true)) 0 []) (hs:Rd W 3 u s.length (qaY s)) (hq:Rd W 7 v qs.length (qbh qs)) :
 Calls Tryz.prog f (.agg #[iV n,iV d,u]::v::vs).toArray W fun e W'=>e=.returned (.bool true)∧Gr W W':=
 qqe (rs:=[(34,3,s.length,qaY s),(42,7,qs.length,qbh qs)]) (us:=[u,v]) h (.cons hs (qgK s) (.cons hq (qpH qs) .nil)) ⟨⟨[iV n,iV d,u],⟨rfl,rfl,⟨rfl,hs.zsl⟩,tI⟩,rfl⟩,⟨rfl,hq.zsl⟩,SV.isl_v vs⟩
end
end Go.Proofs.YtleaeldgaflmkaaGreat
