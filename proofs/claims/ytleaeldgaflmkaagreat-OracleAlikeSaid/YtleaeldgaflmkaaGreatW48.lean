/-
  Joined: VJ, VM, VQ, VT, VU, VY. Conditions: none.
-/
import Derived.Test.YtleaeldgaflmkaaGreatW47
import Derived.Test.YtleaeldgaflmkaaGreatW25
import Derived.Test.YtleaeldgaflmkaaGreatW28
import Derived.Test.YtleaeldgaflmkaaGreatW33
namespace Go.Proofs.YtleaeldgaflmkaaGreat
set_option maxRecDepth 100000
open Go.RowKit
theorem qjK:∀ {qs:List AskQ} {rs:List Rep} {s:List Pt} {n d:Int} {s':List Pt} {n' d':Int},qiQ s n d qs rs n' d' s'→rs.length=qs.length
 | [],[],_,_,_,_,_,_,_=>rfl
 | [],_::_,_,_,_,_,_,_,h=>h.elim
 | _::_,[],_,_,_,_,_,_,h=>h.elim
 | _::_,_::_,_,_,_,_,_,_,⟨_,_,_,_,h⟩=>by rw[List.length_cons,List.length_cons,qjK h]
theorem qgj:∀ {qs:List AskQ} {rs:List Rep} {s:List Pt} {n d:Int} {s':List Pt} {n' d':Int},Val s→AskT n d→qiQ s n d qs rs n' d' s'→Val s'∧AskT n' d'
 | [],[],_,_,_,_,_,_,hv,ht,⟨e1,e2,e3⟩=>by subst e1 e2 e3;exact⟨hv,ht⟩
 | [],_::_,_,_,_,_,_,_,_,_,h=>h.elim
 | _::_,[],_,_,_,_,_,_,_,_,h=>h.elim
 | _::_,_::_,_,_,_,_,_,_,_,_,⟨_,_,_,o,h⟩=>qgj o.val o.ask h
theorem ql2:∀ (qs:List AskQ) {s:List Pt} {n d:Int},Val s→AskT n d→(∀ a∈qs,qq4 a)→∃ rs n' d' s',qiQ s n d qs rs n' d' s'
 | [],s,n,d,_,_,_=>⟨[],n,d,s,rfl,rfl,rfl⟩
 | a::qs,s,n,d,hv,ht,hq=>by
  obtain⟨r,n1,d1,s1,o⟩:=qgU a hv ht (hq a List.mem_cons_self)
  obtain⟨rs,n',d',s',h⟩:=ql2 qs o.val o.ask fun b hb=>hq b (List.mem_cons_of_mem _ hb)
  exact⟨r::rs,n',d',s',n1,d1,s1,o,h⟩
section
variable {s s' s0:List Pt} {n d n' d':Int} {qs:List AskQ}
theorem qhk (hl:qs.length≤999999):∀ (rest:List AskQ) (rs:List Rep) (k:Nat) (s:List Pt) (n d:Int) (ds:List Dn) (n' d':Int) (s':List Pt),qs=qs.take k++rest→k+rest.length=qs.length→qiQ s n d rest rs n' d' s'→
 Rl 2 2 42 0 40 6 (orT qs k) (orH s0 qs s n d (qsz k ds)) (.exit 0) (orE qs.length) (orH s0 qs s' n' d' (qsz qs.length (ds++qbg rs)))
 | [],[],k,s,n,d,ds,n',d',s',_,hk,⟨e1,e2,e3⟩=>by
  have e:k=qs.length:=by simpa using hk
  rw[show ds++qbg []=ds from List.append_nil _]
  subst e e1 e2 e3
  exact qlV (hlt:=df (by omega))
 | [],_::_,_,_,_,_,_,_,_,_,_,_,h=>h.elim
 | _::_,[],_,_,_,_,_,_,_,_,_,_,h=>h.elim
 | a::rest,r::rs,k,s,n,d,ds,n',d',s',hq,hk,⟨n1,d1,s1,o,h⟩=>by
  have hkl:k<qs.length:=by rw[← hk,List.length_cons];omega
  have hka:qs[k]?=some a:=by
   rw[hq,List.getElem?_append_right (by rw[List.length_take];omega),List.length_take,Nat.min_eq_left (by omega),Nat.sub_self]
   rfl
  have ih:=qhk hl rest rs (k+1) s1 n1 d1 (ds++qfE r) n' d' s' (by rw[List.take_add_one,hka,List.append_assoc];exact hq) (by rw[← hk,List.length_cons];omega) h
  rw[show ds++qbg (r::rs)=ds++qfE r++qbg rs by rw[List.append_assoc];rfl]
  exact qj7 o hka hl ih
theorem qwL {rs:List Rep} (hl:qs.length≤999999) (hv:Val s) (ho:qiQ s n d qs rs n' d' s') :
 Fn 42 2 [moS 0 s n d,.ls 1 qs.length] [(0,0,qad s),(1,0,qcG qs)] (.tu [mo1 2 s' n' d',.one (.dv 6 qs.length (qbg rs))]) 1 [(2,0,qad s')]:=by
 have hc:=qhZ (l:=s) (by have:=hv.len;omega)
 match qs,rs,ho with
 | [],[],⟨e1,e2,e3⟩=>subst e1 e2 e3;exact qnA (hc:=hc) (r0:=qjO (hlt:=by decide))
 | [],_::_,h=>exact h.elim
 | _::_,[],h=>exact h.elim
 | a::rest,r::rs,⟨n1,d1,s1,o,h⟩=>
  have ih:=qhk (s0:=s) (qs:=a::rest) hl rest rs 1 s1 n1 d1 (qfE r) n' d' s' rfl (by rw[List.length_cons];omega) h
  exact qr0 (hc:=hc) (r0:=qhU o rfl hl ih)
theorem qnB {rs:List Rep} (hl:qs.length≤120) (hv:Val s) (ht:AskT n d) (ho:qiQ s n d qs rs n' d' s'):qv0 13 s n d qs qs.length (qbg rs) n' d' s' 0:=by
 obtain⟨i1,i2,_⟩:=ht.in
 obtain⟨c1,_⟩:=qj5 (s:=s) i1 i2
 rw[(qrd i1 i2).2 ⟨hv,ht⟩] at c1
 exact qxh (hc:=c1) (hl:=df (by omega)) (hr:=qwL (by omega) hv ho)
end
end Go.Proofs.YtleaeldgaflmkaaGreat

namespace Go.Proofs.YtleaeldgaflmkaaGreat
set_option maxRecDepth 100000
open Go.RowKit
theorem qta :
 Fn 34 1 [.ls 0 0,.pv (.slice none 0 0)] [(0,0,.row 95 4 0 [])] (.pv (.bool true)) 0 []:=
 Fz [] [.k,.k]
  tI tI
theorem qyu {e1:Int} :
 Fn 26 0 [.ag (qeB (qg7 e1)),.pv (.agg #[iV e1,iV 0,iV 0,iV 0,iV 0,.slice none 0 0])] [] (.pv (.bool true)) 0 []:=
 Fz [] [.od true 0 0 5 95 (some []),.t true,.k,.k,.k,.fq [0] [.ls 0 0,.pv (.slice none 0 0)] [(0,0,.row 95 4 0 [])] (.pv (.bool true)) 0 []]
  tI (Ai (Eq.refl ([]:List Dn)) (Ai (qgv e1) (Ai qta (Ai (Eq.refl (List.map (SV.ren (qa4 [0] 3)) [.ls 0 0,.pv (.slice none 0 0)])) (Ai (Ai (qy0 95 95 4 0 []) tI) tI)))))
end Go.Proofs.YtleaeldgaflmkaaGreat

namespace Go.Proofs.YtleaeldgaflmkaaGreat
set_option maxRecDepth 100000
open Go.RowKit
theorem qf0:∀ (l:List AskQ) (k:Nat),(qaQ l).drop (k*7)=qaQ (l.drop k)
 | l,0=>by simp
 | [],k+1=>by simp[qaQ]
 | p::r,k+1=>by rw[show (k+1)*7=k*7+1+1+1+1+1+1+1 by omega,List.drop_succ_cons];exact qf0 r k
theorem qe3:∀ (l:List AskQ),(qaQ l).length=l.length*7
 | []=>rfl
 | p::r=>by rw[List.length_cons,Nat.succ_mul,← qe3 r];rfl
theorem qdw:∀ (a b:List AskQ),qaQ (a++b)=qaQ a++qaQ b
 | [],_=>rfl
 | p::r,b=>congrArg (fun z=>Value.int .u8 p.kd::iV p.pi::iV p.pa::iV p.pb::iV p.z::iV p.qn::iV p.qd::z) (qdw r b)
theorem qgg (l:List AskQ) (k n:Nat) (h:k+n≤l.length):((qaQ l).drop (k*7)).take (n*7)=qaQ ((l.drop k).take n):=by
 rw[qf0]
 have e:l.drop k=(l.drop k).take n++(l.drop k).drop n:=(List.take_append_drop n _).symm
 conv=>lhs;rw[e]
 rw[qdw,List.take_append_of_le_length (by rw[qe3,List.length_take,List.length_drop];exact Nat.mul_le_mul_right 7 (by omega)),List.take_of_length_le (by rw[qe3,List.length_take,List.length_drop];exact Nat.mul_le_mul_right 7 (by omega))]
section
variable {s s' s0:List Pt} {n d n' d':Int} {qs:List AskQ} {rs:List Rep}
end
end Go.Proofs.YtleaeldgaflmkaaGreat

namespace Go.Proofs.YtleaeldgaflmkaaGreat
set_option maxRecDepth 100000
open Go.RowKit
theorem qjZ (z:List Value):∀ {n k j:Nat} {v:Value},k<n→z[j]?=some v→(qcF z n)[k*z.length+j]?=some v
 | 0,_,_,_,h,_=>absurd h (Nat.not_lt_zero _)
 | n+1,0,j,v,_,hv=>by
  rw[Nat.zero_mul,Nat.zero_add]
  show (z++qcF z n)[j]?=some v
  rw[List.getElem?_append_left (List.getElem?_eq_some_iff.1 hv).1]
  exact hv
 | n+1,k+1,j,v,h,hv=>by
  show (z++qcF z n)[(k+1)*z.length+j]?=some v
  have e:(k+1)*z.length=k*z.length+z.length:=Nat.succ_mul _ _
  rw[List.getElem?_append_right (by omega),show (k+1)*z.length+j-z.length=k*z.length+j by omega]
  exact qjZ z (by omega) hv
theorem qto {n k:Nat} (h:0≤(k:Int)∧(k:Int)<(n:Int)):qeg (qcF [iV 0,iV 0,iV 0,iV 0,iV 0,.slice none 0 0] n) (0*6+k*6) [iV 0,iV 0,iV 0,iV 0,iV 0,.slice none 0 0]:=fun j v hj=>by
 rw[Nat.zero_mul,Nat.zero_add]
 exact qjZ [iV 0,iV 0,iV 0,iV 0,iV 0,.slice none 0 0] (by omega) hj
abbrev qrD:Prop:=Fn 19 0 [] [] (.pv (.bool true)) 0 []
theorem qy7 {tn td:Int} {s:List Pt} {qs:List AskQ} {zi:Int} (h1:decide ((s.length:Int)>10)=true) (hal:qrD) :
 Fn 6 2 [.ls 0 s.length,.pv (qaa tn td),.pv (iV zi),.ls 1 qs.length] [(0,0,qad s),(1,0,qcG qs)] (.pv (.bool true)) 0 []:=
 Fz [] [.t true,Cf hal []]
  tI (Ai h1 (Co hal [] 3 tI))
theorem qy4 {tn td:Int} {s:List Pt} {qs:List AskQ} {zi:Int} (h1:decide ((s.length:Int)>10)=false) (h2:decide ((qs.length:Int)>10)=true) (hal:qrD) :
 Fn 6 2 [.ls 0 s.length,.pv (qaa tn td),.pv (iV zi),.ls 1 qs.length] [(0,0,qad s),(1,0,qcG qs)] (.pv (.bool true)) 0 []:=
 Fz [] [.t false,.t true,Cf hal []]
  tI (Ai h1 (Ai h2 (Co hal [] 3 tI)))
theorem qAh {tn td:Int} {s:List Pt} {qs:List AskQ} {zi:Int} (h1:decide ((s.length:Int)>10)=false) (h2:decide ((qs.length:Int)>10)=false) (h3:decide (zi<0)=true) (hal:qrD) :
 Fn 6 2 [.ls 0 s.length,.pv (qaa tn td),.pv (iV zi),.ls 1 qs.length] [(0,0,qad s),(1,0,qcG qs)] (.pv (.bool true)) 0 []:=
 Fz [] [.t false,.t false,.t true,Cf hal []]
  tI (Ai h1 (Ai h2 (Ai h3 (Co hal [] 3 tI))))
theorem qyx {tn td:Int} {s:List Pt} {qs:List AskQ} {zi:Int} (h1:decide ((s.length:Int)>10)=false) (h2:decide ((qs.length:Int)>10)=false) (h3:decide (zi<0)=false) (h4:decide (zi>(s.length:Int))=true) (hal:qrD) :
 Fn 6 2 [.ls 0 s.length,.pv (qaa tn td),.pv (iV zi),.ls 1 qs.length] [(0,0,qad s),(1,0,qcG qs)] (.pv (.bool true)) 0 []:=
 Fz [] [.t false,.t false,.t false,.t true,Cf hal []]
  tI (Ai h1 (Ai h2 (Ai h3 (Ai h4 (Co hal [] 3 tI)))))
abbrev qia (i:Nat) (qs:List AskQ) (s:List Pt) (td:Int) (tn:Int) (xs:List Value):HpL:=[(2,0,.pv (iV tn)),(2,1,.pv (iV td)),(0,0,qad s),(1,0,qcG qs),(3,0,.row 42 7 i xs)]
abbrev qyB (i:Nat) (j:Nat) (qs:List AskQ) (s:List Pt) (zi:Int):TmL:=[(0,.ls 0 s.length),(2,.pv (iV zi)),(3,.ls 1 qs.length),(5,.pp 2 0),(9,.ls 3 i),(10,.pv (.slice none 0 0)),(11,.pv (iV (i:Int))),(12,.pv (iV (j:Int)))]
theorem qki {tn td:Int} {s:List Pt} {qs:List AskQ} {p q:Pt} {i j:Nat} {xs:List Value} {zi:Int} (hlt:decide ((j:Int)<(i:Int))=true) (in1:0≤(j:Int)∧(j:Int)<(s.length:Int)) (hk1:s[j]?=some p) (in2:0≤(i:Int)∧(i:Int)<(s.length:Int)) (hk2:s[i]?=some q) (he:(p.id==q.id)=false) (hs:iV (IntKind.i64.wrap ((j:Int)+1))=iV (((j+1:Nat):Int))) {e:Exit} {tm2:TmL} {hp2:HpL}
 (r:Rl 2 2 6 1 179 4 ([(0,.ls 0 s.length),(2,.pv (iV zi)),(3,.ls 1 qs.length),(5,.pp 2 0),(9,.ls 3 i),(10,.pv (.slice none 0 0)),(11,.pv (iV (i:Int))),(12,.pv (iV ((j+1:Nat):Int)))]) (qia i qs s td tn xs) e tm2 hp2):Rl 2 2 6 1 179 4 (qyB i j qs s zi) (qia i qs s td tn xs) e tm2 hp2:=
 RunsL.next [] 300 [.t true,.md,.r (iV p.id),.r (iV q.id),.t false,Re hs]
  (Ro (Ai hlt (Ai in1 (Ai (qbB hk1) (Ai in2 (Ai (qbB hk2) (Ai he (Ai hs tI)))))))) r
theorem qs9 {tn td:Int} {s:List Pt} {qs:List AskQ} {p q:Pt} {i j:Nat} {xs:List Value} {zi:Int} (hlt:decide ((j:Int)<(i:Int))=true) (in1:0≤(j:Int)∧(j:Int)<(s.length:Int)) (hk1:s[j]?=some p) (in2:0≤(i:Int)∧(i:Int)<(s.length:Int)) (hk2:s[i]?=some q) (he:(p.id==q.id)=true) (hal:qrD):Rl 2 2 6 1 179 4 (qyB i j qs s zi) (qia i qs s td tn xs) (.ret) ([(8,.pv (.bool true))]) ([]):=
 RunsL.stop [] 300 [.t true,.md,.r (iV p.id),.r (iV q.id),.t true,Cf hal []] (fun h=>by cases h)
  (Ro (Ai hlt (Ai in1 (Ai (qbB hk1) (Ai in2 (Ai (qbB hk2) (Ai he (Co hal [] 4 tI))))))))
abbrev qtP (i:Nat) (qs:List AskQ) (s:List Pt) (zi:Int):TmL:=[(0,.ls 0 s.length),(2,.pv (iV zi)),(3,.ls 1 qs.length),(5,.pp 2 0),(9,.ls 3 i),(10,.pv (.slice none 0 0)),(11,.pv (iV (i:Int)))]
theorem quc {tn td:Int} {s:List Pt} {qs:List AskQ} {i j:Nat} {xs:List Value} {zi:Int} (hlt:decide ((j:Int)<(i:Int))=false):Rl 2 2 6 1 179 4 (qyB i j qs s zi) (qia i qs s td tn xs) (.exit 2) (qtP i qs s zi) (qia i qs s td tn xs):=
 RunsL.stop [] 300 [.t false] (fun h=>by cases h)
  (Ro (Ai hlt tI))
abbrev qzc (i:Nat) (qs:List AskQ) (s:List Pt) (zi:Int):TmL:=[(0,.ls 0 s.length),(2,.pv (iV zi)),(3,.ls 1 qs.length),(5,.pp 2 0),(9,.ls 3 i),(10,.pv (.slice none 0 0)),(11,.pv (iV (i:Int))),(12,.pv (iV ((0:Nat):Int)))]
theorem qtd {tn td:Int} {s:List Pt} {qs:List AskQ} {i:Nat} {xs:List Value} {zi:Int} (hlt:decide ((i:Int)<(s.length:Int))=true) (r0:Rl 2 2 6 1 179 4 (qzc i qs s zi) (qia i qs s td tn xs) (.ret) ([(8,.pv (.bool true))]) ([])):Rl 2 2 6 0 179 4 (qtP i qs s zi) (qia i qs s td tn xs) (.ret) ([(8,.pv (.bool true))]) ([]):=
 RunsL.stop [] 300 [.t true,Lf r0] (fun h=>by cases h)
  (Ro (Ai hlt (Lo r0 [] tI)))
theorem quI {tn td e1:Int} {s:List Pt} {qs:List AskQ} {q:Pt} {i:Nat} {xs:List Value} {zi:Int} (hlt:decide ((i:Int)<(s.length:Int))=true) (r0:Rl 2 2 6 1 179 4 (qzc i qs s zi) (qia i qs s td tn xs) (.exit 2) (qtP i qs s zi) (qia i qs s td tn xs)) (in2:0≤(i:Int)∧(i:Int)<(s.length:Int)) (hk2:s[i]?=some q) (hc:Pure Tryz.prog 30 #[qab q.id q.a q.b] (iV (e1))) (he:(e1 !=0)=true) (hal:qrD):Rl 2 2 6 0 179 4 (qtP i qs s zi) (qia i qs s td tn xs) (.ret) ([(8,.pv (.bool true))]) ([]):=
 RunsL.stop [] 300 [.t true,Lf r0,.r (ptV q),Rf hc,.t true,Cf hal []] (fun h=>by cases h)
  (Ro (Ai hlt (Lo r0 [] (Ai in2 (Ai (qaY hk2) (Ai hc (Ai he (Co hal [] 4 tI))))))))
theorem qqP {tn td:Int} {s:List Pt} {qs:List AskQ} {q:Pt} {i:Nat} {xs:List Value} {zi:Int} (hlt:decide ((i:Int)<(s.length:Int))=true) (r0:Rl 2 2 6 1 179 4 (qzc i qs s zi) (qia i qs s td tn xs) (.exit 2) (qtP i qs s zi) (qia i qs s td tn xs)) (in2:0≤(i:Int)∧(i:Int)<(s.length:Int)) (hk2:s[i]?=some q) (hc:Pure Tryz.prog 30 #[qab q.id q.a q.b] (iV (0))) (hm:i+1≤1000000) (hs:iV (IntKind.i64.wrap ((i:Int)+1))=iV (((i+1:Nat):Int))) {e:Exit} {tm2:TmL} {hp2:HpL}
 (r:Rl 2 2 6 0 179 4 ([(0,.ls 0 s.length),(2,.pv (iV zi)),(3,.ls 1 qs.length),(5,.pp 2 0),(9,.ls 3 (i+1:Nat)),(10,.pv (.slice none 0 0)),(11,.pv (iV ((i+1:Nat):Int)))]) ([(2,0,.pv (iV tn)),(2,1,.pv (iV td)),(0,0,qad s),(1,0,qcG qs),(3,0,.row 42 7 (i+1) (xs++[.int .u8 1,iV q.id,iV q.a,iV q.b,iV 0,iV 0,iV 0]))]) e tm2 hp2):Rl 2 2 6 0 179 4 (qtP i qs s zi) (qia i qs s td tn xs) e tm2 hp2:=
 RunsL.next [(3,5)] 300 [.t true,Lf r0,.r (ptV q),Rf hc,.k,.r (ptV q),Re hs]
  (Ro (Ai hlt (Lo r0 [] (Ai in2 (Ai (qaY hk2) (Ai hc (Ai in2 (Ai (qaY hk2) (Ai hm (Ai hs tI)))))))))) r
theorem qse {tn td:Int} {s:List Pt} {qs:List AskQ} {i:Nat} {xs:List Value} {zi:Int} (hlt:decide ((i:Int)<(s.length:Int))=false):Rl 2 2 6 0 179 4 (qtP i qs s zi) (qia i qs s td tn xs) (.exit 0) ([(0,.ls 0 s.length),(2,.pv (iV zi)),(3,.ls 1 qs.length),(5,.pp 2 0),(9,.ls 3 i),(10,.pv (.slice none 0 0))]) (qia i qs s td tn xs):=
 RunsL.stop [] 300 [.t false] (fun h=>by cases h)
  (Ro (Ai hlt tI))
theorem qsH {tn td:Int} {s:List Pt} {qs:List AskQ} {ta:Nat} (h1:decide ((s.length:Int)>10)=false) (h2:decide ((qs.length:Int)>10)=false) (h3:decide ((ta:Int)<0)=false) (h4:decide ((ta:Int)>(s.length:Int))=false) (r0:Rl 2 2 6 0 179 4 ([(0,.ls 0 s.length),(2,.pv (iV (ta:Int))),(3,.ls 1 qs.length),(5,.pp 2 0),(9,.ls 3 (0:Nat)),(10,.pv (.slice none 0 0)),(11,.pv (iV ((0:Nat):Int)))]) ([(2,0,.pv (iV tn)),(2,1,.pv (iV td)),(0,0,qad s),(1,0,qcG qs),(3,0,.row 42 7 0 [])]) (.ret) ([(8,.pv (.bool true))]) ([])) :
 Fn 6 2 [.ls 0 s.length,.pv (qaa tn td),.pv (iV (ta:Int)),.ls 1 qs.length] [(0,0,qad s),(1,0,qcG qs)] (.pv (.bool true)) 0 []:=
 Fz [] [.t false,.t false,.t false,.t false,.ln true 9 0 42 7,Lf r0]
  tI (Ai h1 (Ai h2 (Ai h3 (Ai h4 (Lo r0 [] tI)))))
abbrev qAA (qs:List AskQ) (s:List Pt) (ta:Nat) (td:Int) (tn:Int) (xs:List Value):Prop:=Rl 2 2 6 0 179 4 ([(0,.ls 0 s.length),(2,.pv (iV (ta:Int))),(3,.ls 1 qs.length),(5,.pp 2 0),(9,.ls 3 (0:Nat)),(10,.pv (.slice none 0 0)),(11,.pv (iV ((0:Nat):Int)))]) ([(2,0,.pv (iV tn)),(2,1,.pv (iV td)),(0,0,qad s),(1,0,qcG qs),(3,0,.row 42 7 0 [])]) (.exit 0) ([(0,.ls 0 s.length),(2,.pv (iV (ta:Int))),(3,.ls 1 qs.length),(5,.pp 2 0),(9,.ls 3 s.length),(10,.pv (.slice none 0 0))]) ([(2,0,.pv (iV tn)),(2,1,.pv (iV td)),(0,0,qad s),(1,0,qcG qs),(3,0,.row 42 7 s.length xs)])
theorem qtw {tn td e1 e2:Int} {s:List Pt} {qs:List AskQ} {n1 d1:Int} {ta:Nat} {xs:List Value} (h1:decide ((s.length:Int)>10)=false) (h2:decide ((qs.length:Int)>10)=false) (h3:decide ((ta:Int)<0)=false) (h4:decide ((ta:Int)>(s.length:Int))=false) (r0:qAA qs s ta td tn xs) (h0t:0≤(ta:Int)) (htl:ta≤s.length) (m1:0+(s.length-ta)≤1000000) (m2:0+(s.length-ta)+ta≤1000000) (hn:Fn 10 0 [.pv (qaa tn td)] [] (.tu [mo1 0 [] n1 d1,.one (.pv (iV e1))]) 1 [(0,0,qad [])]) (he:(e1 !=0)=true) (ha:Pure Tryz.prog 31 #[qaa tn td] (iV (e2))) (he2:(e2 !=0)=true) (hal:qrD) :
 Fn 6 2 [.ls 0 s.length,.pv (qaa tn td),.pv (iV (ta:Int)),.ls 1 qs.length] [(0,0,qad s),(1,0,qcG qs)] (.pv (.bool true)) 0 []:=
 Fz [] [.t false,.t false,.t false,.t false,.ln true 9 0 42 7,Lf r0,.lz true 10 0 42 7,.md,.k,.k,Cf hn [],.t true,Rf ha,.t true,Cf hal []]
  tI (Ai h1 (Ai h2 (Ai h3 (Ai h4 (Lo r0 [] (Ai h0t (Ai tI (Ai htl (Ai (Nat.le_refl s.length) (Ai m1 (Ai tI (Ai h0t (Ai (Nat.zero_le ta) (Ai htl (Ai m2 (Co hn [] 7 (Ai he (Ai ha (Ai he2 (Co hal [] 9 tI))))))))))))))))))))
theorem qwZ {tn td n' d':Int} {s s' m:List Pt} {qs:List AskQ} {ta:Nat} {db:List Dn} {xs:List Value} {dsa:List Dn} (h1:decide ((s.length:Int)>10)=false) (h2:decide ((qs.length:Int)>10)=false) (h3:decide ((ta:Int)<0)=false) (h4:decide ((ta:Int)>(s.length:Int))=false) (r0:qAA qs s ta td tn xs) (h0t:0≤(ta:Int)) (htl:ta≤s.length) (m1:0+(s.length-ta)≤1000000) (m2:0+(s.length-ta)+ta≤1000000) (hn:Fn 10 0 [.pv (qaa tn td)] [] (.tu [mo1 0 [] tn td,.one (.pv (iV 0))]) 1 [(0,0,qad [])]) (hr1:Fn 13 2 [moS 0 [] tn td,.ls 1 s.length] [(0,0,qad []),(1,0,.row 42 7 s.length xs)] (.tu [mo1 2 m tn td,.one (.dv 6 s.length dsa),.one (.pv (iV 0))]) 1 [(2,0,qad m)]) (hr2:Fn 13 2 [moS 0 [] tn td,.ls 1 (0+(s.length-ta)+ta)] [(0,0,qad []),(1,0,.row 42 7 (0+(s.length-ta)+ta) ([]++(xs.drop ((0+ta)*7)).take ((s.length-ta)*7)++(xs.drop (0*7)).take (ta*7)))] (.tu [mo1 2 m tn td,.one (.dv 6 s.length dsa),.one (.pv (iV 0))]) 1 [(2,0,qad m)]) (l0:0≤(s.length:Int)) (l1:(s.length:Int)≤1000000) (hs1:Fn 28 1 [.dv 6 s.length dsa,.ls 0 s.length] [(0,0,.row 38 6 s.length (qcF [iV 0,iV 0,iV 0,iV 0,iV 0,.slice none 0 0] s.length))] (.pv (.bool true)) 0 []) (hs2:Fn 28 0 [.dv 6 s.length dsa,.dv 6 s.length dsa] [] (.pv (.bool true)) 0 []) (hs3:Fn 24 2 [moS 0 m tn td,moS 1 m tn td] [(0,0,qad m),(1,0,qad m)] (.pv (.bool true)) 0 []) (hr3:Fn 13 2 [moS 0 m tn td,.ls 1 qs.length] [(0,0,qad m),(1,0,qcG qs)] (.tu [mo1 2 s' n' d',.one (.dv 6 qs.length db),.one (.pv (iV 0))]) 1 [(2,0,qad s')]) (hs4:Fn 24 2 [moS 0 s' n' d',moS 1 s' n' d'] [(0,0,qad s'),(1,0,qad s')] (.pv (.bool true)) 0 []) (hs5:Fn 28 0 [.dv 6 qs.length db,.dv 6 qs.length db] [] (.pv (.bool true)) 0 []) (hal:qrD) :
 Fn 6 2 [.ls 0 s.length,.pv (qaa tn td),.pv (iV (ta:Int)),.ls 1 qs.length] [(0,0,qad s),(1,0,qcG qs)] (.pv (.bool true)) 0 []:=
 Fz [] [.t false,.t false,.t false,.t false,.ln true 9 0 42 7,Lf r0,.lz true 10 0 42 7,.md,.k,.k,Cf hn [],.k,Cf hr1 [7,3],Cf hr2 [7,6],.k,.k,Cf hs1 [13],.k,Cf hs2 [],.k,Cf hs3 [9,11],.k,Cf hr3 [9,1],Cf hr3 [11,1],.k,.k,Cf hs4 [14,16],Cf hs5 [],Cf hal []]
  tI (Ai h1 (Ai h2 (Ai h3 (Ai h4 (Lo r0 [] (Ai h0t (Ai tI (Ai htl (Ai (Nat.le_refl s.length) (Ai m1 (Ai tI (Ai h0t (Ai (Nat.zero_le ta) (Ai htl (Ai m2 (Co hn [] 7 (Co hr1 [7,3] 9 (Co hr2 [7,6] 11 (Ai l0 (Ai (Eq.refl (s.length:Int)) (Ai l1 (Co hs1 [13] 14 (Co hs2 [] 14 (Co hs3 [9,11] 14 (Co hr3 [9,1] 14 (Co hr3 [11,1] 16 (Co hs4 [14,16] 18 (Co hs5 [] 18 (Co hal [] 18 tI)))))))))))))))))))))))))))))
abbrev qxI (rs:List Rep):HpL:=[(1,0,.rrow 38 6 rs.length (qbg rs)),(0,0,.row 38 6 rs.length (qcF [iV 0,iV 0,iV 0,iV 0,iV 0,.slice none 0 0] rs.length))]
theorem qpJ {rs:List Rep} {k:Nat} (hlt:decide ((k:Int)<(rs.length:Int))=true) (hin:0≤(k:Int)∧(k:Int)<(rs.length:Int)) (hk0:rs[k]?=some (qg7 0)) (hsm:Fn 26 0 [.ag (qeB (qg7 0)),.pv (.agg #[iV 0,iV 0,iV 0,iV 0,iV 0,.slice none 0 0])] [] (.pv (.bool true)) 0 []) (hs:iV (IntKind.i64.wrap ((k:Int)+1))=iV (((k+1:Nat):Int))) {e:Exit} {tm2:TmL} {hp2:HpL}
 (r:Rl 1 1 28 0 27 2 ([(0,.ls 1 rs.length),(1,.ls 0 rs.length),(5,.pv (iV ((k+1:Nat):Int)))]) (qxI rs) e tm2 hp2):Rl 1 1 28 0 27 2 ([(0,.ls 1 rs.length),(1,.ls 0 rs.length),(5,.pv (iV (k:Int)))]) (qxI rs) e tm2 hp2:=
 RunsL.next [] 300 [.t true,.md,.dr (qeB (qg7 0)),.r (.agg #[iV 0,iV 0,iV 0,iV 0,iV 0,.slice none 0 0]),Cf hsm [],.k,Re hs]
  (Ro (Ai hlt (Ai hin (Ai (qkm hk0) (Ai hin (Ai (qto (n:=rs.length) hin) (Co hsm [] 2 (Ai hs tI)))))))) r
theorem qtu {rs:List Rep} {k:Nat} (hlt:decide ((k:Int)<(rs.length:Int))=false):Rl 1 1 28 0 27 2 ([(0,.ls 1 rs.length),(1,.ls 0 rs.length),(5,.pv (iV (k:Int)))]) (qxI rs) (.exit 0) ([]) ([]):=
 RunsL.stop [] 300 [.t false] (fun h=>by cases h)
  (Ro (Ai hlt tI))
theorem qt8 {rs:List Rep} (r0:Rl 1 1 28 0 27 2 ([(0,.ls 1 rs.length),(1,.ls 0 rs.length),(5,.pv (iV ((0:Nat):Int)))]) (qxI rs) (.exit 0) ([]) ([])) :
 Fn 28 1 [.dv 6 rs.length (qbg rs),.ls 0 rs.length] [(0,0,.row 38 6 rs.length (qcF [iV 0,iV 0,iV 0,iV 0,iV 0,.slice none 0 0] rs.length))] (.pv (.bool true)) 0 []:=
 Fz [] [.od true 0 0 0 38 none,.t false,Lf r0]
  tI (Ai (qjx (rs.length:Int)) (Lo r0 [] tI))
end Go.Proofs.YtleaeldgaflmkaaGreat

namespace Go.Proofs.YtleaeldgaflmkaaGreat
set_option maxRecDepth 100000
open Go.RowKit
abbrev qrq (p:Pt):AskQ:=⟨1,p.id,p.a,p.b,0,0,0⟩
abbrev qg9 (l:List Pt):List AskQ:=l.map qrq
section
variable {s m:List Pt} {n d zi:Int} {qs:List AskQ}
theorem qfa:∀ (l m:List Pt) {n d:Int},AskT n d→Val m→(∀ p∈l,qcA p=true)→(l.map Pt.id).Nodup→(∀ p∈l,∀ q∈m,q.id≠p.id)→m.length+l.length≤64→qiQ m n d (qg9 l) (List.replicate l.length (qg7 0)) n d (qer l m)
 | [],m,_,_,_,_,_,_,_,_=>⟨rfl,rfl,rfl⟩
 | p::l,m,n,d,ht,hv,hok,hnd,hne,hlen=>by
  have i0:I64 0:=by unfold I64;decide
  obtain⟨r,n',d',s',o⟩:=qgU (qrq p) hv ht ⟨i0,i0⟩
  have hl:m.length+(l.length+1)≤64:=hlen
  obtain⟨e1,e2,e3,e4⟩:=o.k1 rfl (by simp[wfB]) (hok p List.mem_cons_self) (fun q hq=>hne p List.mem_cons_self q hq) (by omega)
  rw[e1,e2,e3,e4] at o
  have h2:=List.nodup_cons.1 hnd
  have ih:=qfa l (qdm p m) ht o.val (fun x hx=>hok x (List.mem_cons_of_mem _ hx)) h2.2 (fun x hx q hq=>by
   rcases qjJ.1 hq with rfl | h
   ·intro e
    exact h2.1 (e▸List.mem_map_of_mem hx)
   ·exact hne x (List.mem_cons_of_mem _ hx) q h) (by rw[qkg];omega)
  exact⟨_,_,qdm p m,o,ih⟩
theorem qoA {f:FuncId} {q:List AskQ} {c c2:Nat} {xs:List Value} {ds:List Dn} {n' d' e:Int} {s':List Pt} (hc:q.length=c) (hc2:q.length=c2) (hx:qaQ q=xs) (h:qv0 f s n d q q.length ds n' d' s' e) :
 Fn f 2 [moS 0 s n d,.ls 1 c] [(0,0,qad s),(1,0,.row 42 7 c xs)] (.tu [mo1 2 s' n' d',.one (.dv 6 c2 ds),.one (.pv (iV e))]) 1 [(2,0,qad s')]:=by
 subst hx hc
 rw[← hc2]
 exact h
theorem qod {rs:List Rep} (hl:rs.length≤999999) (hz:∀ r∈rs,r=qg7 0):Fn 28 1 [.dv 6 rs.length (qbg rs),.ls 0 rs.length] [(0,0,.row 38 6 rs.length (qcF [iV 0,iV 0,iV 0,iV 0,iV 0,.slice none 0 0] rs.length))] (.pv (.bool true)) 0 []:=by
 refine qt8 (r0:=RunsL.rounds (fun k=>[(0,.ls 1 rs.length),(1,.ls 0 rs.length),(5,.pv (iV (k:Int)))]) (fun _=>[(1,0,.rrow 38 6 rs.length (qbg rs)),(0,0,.row 38 6 rs.length (qcF [iV 0,iV 0,iV 0,iV 0,iV 0,.slice none 0 0] rs.length))]) rs.length 0 (Nat.zero_add _) (fun k _ hk r=>?_) (qtu (hlt:=df (by omega))))
 obtain⟨m,hm⟩:=qal hk
 rw[hz m (List.mem_of_getElem? hm)] at hm
 exact qpJ (hlt:=dt (by omega)) (hin:=qax hk) (hk0:=hm) (hsm:=qyu) (hs:=qat (by omega)) r
abbrev akT (s:List Pt) (qs:List AskQ) (zi:Int) (k:Nat):List (Nat×SV):=[(0,.ls 0 s.length),(2,.pv (iV zi)),(3,.ls 1 qs.length),(5,.pp 2 0),(9,.ls 3 k),(10,.pv (.slice none 0 0)),(11,.pv (iV (k:Int)))]
abbrev qAK (s:List Pt) (qs:List AskQ) (zi:Int) (k j:Nat):List (Nat×SV):=[(0,.ls 0 s.length),(2,.pv (iV zi)),(3,.ls 1 qs.length),(5,.pp 2 0),(9,.ls 3 k),(10,.pv (.slice none 0 0)),(11,.pv (iV (k:Int))),(12,.pv (iV (j:Int)))]
abbrev akE (s:List Pt) (qs:List AskQ) (zi:Int) (k:Nat):List (Nat×SV):=[(0,.ls 0 s.length),(2,.pv (iV zi)),(3,.ls 1 qs.length),(5,.pp 2 0),(9,.ls 3 k),(10,.pv (.slice none 0 0))]
abbrev akH (s:List Pt) (qs:List AskQ) (n d:Int) (k:Nat) (xs:List Value):List (Nat×Nat×SV):=[(2,0,.pv (iV n)),(2,1,.pv (iV d)),(0,0,qad s),(1,0,qcG qs),(3,0,.row 42 7 k xs)]
abbrev akL (s:List Pt) (qs:List AskQ) (k:Nat):Nat→List (Nat×SV)→List (Nat×Nat×SV)→Exit→List (Nat×SV)→List (Nat×Nat×SV)→Prop:=fun _ tm hp e tm2 hp2=>RunsL Tryz.prog 2 2 (qmd Tryz.prog 6 k) 179 4 tm hp e tm2 hp2
theorem qj3 {i:Nat} {q:Pt} {xs:List Value} (hl:s.length≤10) (hi:s[i]?=some q):∀ (m j:Nat),j+m=i→
 akL s qs 1 0 (qAK s qs zi i j) (akH s qs n d i xs) .ret [(8,.pv (.bool true))] []∨(akL s qs 1 0 (qAK s qs zi i j) (akH s qs n d i xs) (.exit 2) (akT s qs zi i) (akH s qs n d i xs)∧∀ k p,j≤k→k<i→s[k]?=some p→p.id≠q.id)
 | 0,j,h=>by
  have e:j=i:=by omega
  subst e
  exact Or.inr ⟨quc (hlt:=df (by omega)),fun k p h1 h2=>by omega⟩
 | m+1,j,h=>by
  have hil:=qav hi
  obtain⟨p,hp⟩:=qal (l:=s) (k:=j) (by omega)
  by_cases he:p.id=q.id
  ·exact Or.inl (qs9 (hlt:=dt (by omega)) (in1:=qax (by omega)) (hk1:=hp) (in2:=qax hil) (hk2:=hi) (he:=by simp[he]) (hal:=qcK))
  ·have hs:iV (IntKind.i64.wrap ((j:Int)+1))=iV ((j+1:Nat):Int):=qat (by omega)
   rcases qj3 hl hi m (j+1) (by omega) with r | ⟨r,hr⟩
   ·exact Or.inl (qki (hlt:=dt (by omega)) (in1:=qax (by omega)) (hk1:=hp) (in2:=qax hil) (hk2:=hi) (he:=by simp[he]) (hs:=hs) r)
   ·refine Or.inr ⟨qki (hlt:=dt (by omega)) (in1:=qax (by omega)) (hk1:=hp) (in2:=qax hil) (hk2:=hi) (he:=by simp[he]) (hs:=hs) r,fun k p' h1 h2 h3=>?_⟩
    by_cases hk:k=j
    ·subst hk
     rw[hp] at h3
     cases h3
     exact he
    ·exact hr k p' (by omega) h2 h3
theorem qk3 {i:Nat} {q:Pt} (hi:s[i]?=some q):qaQ (qg9 (s.take (i+1)))=qaQ (qg9 (s.take i))++[.int .u8 1,iV q.id,iV q.a,iV q.b,iV 0,iV 0,iV 0]:=by
 rw[List.take_add_one,hi]
 show qaQ ((s.take i++[q]).map qrq)=_
 rw[List.map_append,qdw]
 rfl
theorem qj0 (hl:s.length≤10):∀ (m i:Nat),i+m=s.length→
 akL s qs 0 0 (akT s qs zi i) (akH s qs n d i (qaQ (qg9 (s.take i)))) .ret [(8,.pv (.bool true))] []∨(akL s qs 0 0 (akT s qs zi i) (akH s qs n d i (qaQ (qg9 (s.take i)))) (.exit 0) (akE s qs zi s.length) (akH s qs n d s.length (qaQ (qg9 s)))∧∀ k q,i≤k→s[k]?=some q→qcA q=true∧∀ j p,j<k→s[j]?=some p→p.id≠q.id)
 | 0,i,h=>by
  have e:i=s.length:=by omega
  refine Or.inr ⟨?_,fun k q h1 h2=>by have:=qav h2;omega⟩
  rw[e,List.take_length]
  exact qse (hlt:=df (by omega))
 | m+1,i,h=>by
  obtain⟨q,hq⟩:=qal (l:=s) (k:=i) (by omega)
  rcases qj3 (n:=n) (d:=d) (zi:=zi) (qs:=qs) (xs:=qaQ (qg9 (s.take i))) hl hq i 0 (by omega) with r0 | ⟨r0,hne⟩
  ·exact Or.inl (qtd (hlt:=dt (by omega)) (r0:=r0))
  ·by_cases hok:qcA q=true
   ·have hs:iV (IntKind.i64.wrap ((i:Int)+1))=iV ((i+1:Nat):Int):=qat (by omega)
    have st:∀ {e:Exit} {tm2:TmL} {hp2:HpL},akL s qs 0 0 (akT s qs zi (i+1)) (akH s qs n d (i+1) (qaQ (qg9 (s.take (i+1))))) e tm2 hp2→akL s qs 0 0 (akT s qs zi i) (akH s qs n d i (qaQ (qg9 (s.take i)))) e tm2 hp2:=fun r=>by
     rw[qk3 hq] at r
     exact qqP (hlt:=dt (by omega)) (r0:=r0) (in2:=qax (by omega)) (hk2:=hq) (hc:=qaP hok) (hm:=by omega) (hs:=hs) r
    rcases qj0 hl m (i+1) (by omega) with r | ⟨r,hr⟩
    ·exact Or.inl (st r)
    ·refine Or.inr ⟨st r,fun k q' h1 h2=>?_⟩
     by_cases hk:k=i
     ·subst hk
      rw[hq] at h2
      cases h2
      exact⟨hok,fun j p hj hp=>hne j p (Nat.zero_le _) hj hp⟩
     ·exact hr k q' (by omega) h2
   ·exact Or.inl (quI (hlt:=dt (by omega)) (r0:=r0) (in2:=qax (by omega)) (hk2:=hq) (hc:=qcd hok) (he:=by decide) (hal:=qcK))
theorem qmB (hn:I64 n) (hd:I64 d) (hq:∀ a∈qs,qq4 a) (z:Int):Fn 6 2 [.ls 0 s.length,.pv (qaa n d),.pv (iV z),.ls 1 qs.length] [(0,0,qad s),(1,0,qcG qs)] (.pv (.bool true)) 0 []:=by
 by_cases h1:s.length>10
 ·exact qy7 (h1:=dt (by omega)) (hal:=qcK)
 by_cases h2:qs.length>10
 ·exact qy4 (h1:=df (by omega)) (h2:=dt (by omega)) (hal:=qcK)
 by_cases h3:z<0
 ·exact qAh (h1:=df (by omega)) (h2:=df (by omega)) (h3:=dt h3) (hal:=qcK)
 by_cases h4:z>(s.length:Int)
 ·exact qyx (h1:=df (by omega)) (h2:=df (by omega)) (h3:=df h3) (h4:=dt h4) (hal:=qcK)
 obtain⟨t,rfl⟩:∃ t:Nat,z=(t:Int):=⟨z.toNat,by omega⟩
 have htl:t≤s.length:=by omega
 rcases qj0 (n:=n) (d:=d) (zi:=(t:Int)) (qs:=qs) (s:=s) (by omega) s.length 0 (by omega) with r0 | ⟨r0,hall⟩
 ·exact qsH (h1:=df (by omega)) (h2:=df (by omega)) (h3:=df h3) (h4:=df h4) (r0:=r0)
 have c1:Pure Tryz.prog 40 #[qaa n d] (iV (qdz n d)):=fun w=>qb1 n d w hn hd
 have c2:Pure Tryz.prog 31 #[qaa n d] (iV (qdz n d)):=fun w=>qdk n d w hn hd
 by_cases ha:qdz n d=0
 ·have ht:=qbx.1 ha
  rw[ha] at c1 c2
  have hok:∀ p∈s,qcA p=true:=fun p hp=>by
   obtain⟨k,hk⟩:=List.getElem?_of_mem hp
   exact (hall k p (Nat.zero_le _) hk).1
  have hnd:(s.map Pt.id).Nodup:=by
   refine List.pairwise_iff_getElem.2 fun i j hi hj hij=>?_
   rw[List.length_map] at hi hj
   rw[List.getElem_map,List.getElem_map]
   exact (hall j s[j] (Nat.zero_le _) (List.getElem?_eq_getElem hj)).2 i s[i] hij (List.getElem?_eq_getElem hi)
  have v0:Val []:=⟨by decide,fun p hp=>(by cases hp),fun k p q h=>(by simp at h)⟩
  have o1:=qfa s [] ht v0 hok hnd (fun p _ q hq=>by cases hq) (by show 0+s.length≤64;omega)
  have hp:(s.drop t++s.take t).Perm s:=by
   have:=List.perm_append_comm (l₁:=s.drop t) (l₂:=s.take t)
   rwa [List.take_append_drop] at this
  have o2:=qfa (s.drop t++s.take t) [] ht v0 (fun p hx=>hok p (hp.mem_iff.1 hx)) ((hp.map Pt.id).nodup_iff.2 hnd) (fun p _ q hq=>by cases hq) (by rw[hp.length_eq];show 0+s.length≤64;omega)
  rw[qkx t hnd,hp.length_eq] at o2
  obtain⟨vm,_⟩:=qgj v0 ht o1
  generalize hm:qer s []=m at o1 o2 vm
  obtain⟨rs,hrs⟩:∃ rs,rs=List.replicate s.length (qg7 0):=⟨_,rfl⟩
  have hrl:rs.length=s.length:=by rw[hrs,List.length_replicate]
  have hz:∀ r∈rs,r=qg7 0:=fun r hr=>by rw[hrs] at hr;exact List.eq_of_mem_replicate hr
  rw[← hrs] at o1 o2
  obtain⟨rb,n',d',s',o3⟩:=ql2 qs vm ht hq
  obtain⟨vs,_⟩:=qgj vm ht o3
  have hbl:=qjK o3
  have few:=qjk o3
  have R1:=qoA (q:=qg9 s) (c:=s.length) (c2:=s.length) (by rw[List.length_map]) (by rw[List.length_map]) rfl (by have:=qnB (qs:=qg9 s) (by rw[List.length_map];omega) v0 ht o1;exact this)
  have R3:=qnB (qs:=qs) (by omega) vm ht o3
  have hpart:qaQ (qg9 (s.drop t++s.take t))=[]++((qaQ (qg9 s)).drop ((0+t)*7)).take ((s.length-t)*7)++((qaQ (qg9 s)).drop (0*7)).take (t*7):=by
   rw[qgg (qg9 s) (0+t) (s.length-t) (by rw[List.length_map];omega),qgg (qg9 s) 0 t (by rw[List.length_map];omega),List.nil_append,← qdw]
   refine congrArg qaQ ?_
   have e1:((s.map qrq).drop t).take (s.length-t)=(s.map qrq).drop t:=List.take_of_length_le (by rw[List.length_drop,List.length_map];exact Nat.le_refl _)
   show (s.drop t++s.take t).map qrq=((s.map qrq).drop (0+t)).take (s.length-t)++((s.map qrq).drop 0).take t
   rw[Nat.zero_add,e1,List.drop_zero,List.map_append,List.map_drop,List.map_take]
  have R2:=qoA (q:=qg9 (s.drop t++s.take t)) (c:=0+(s.length-t)+t) (c2:=s.length) (by rw[List.length_map,hp.length_eq];omega) (by rw[List.length_map,hp.length_eq]) hpart (by have:=qnB (qs:=qg9 (s.drop t++s.take t)) (by rw[List.length_map,hp.length_eq];omega) v0 ht o2;exact this)
  have S1:=qod (rs:=rs) (by omega) hz
  have S2:=qgP (rs:=rs) (by omega) fun r hr=>by rw[hz r hr];exact Nat.zero_le _
  rw[hrl] at S1 S2
  have S5:=qgP (rs:=rb) (by omega) few
  rw[hbl] at S5
  have lm:=vm.len
  have ls:=vs.len
  exact qwZ (h1:=df (by omega)) (h2:=df (by omega)) (h3:=df h3) (h4:=df h4) (r0:=r0) (h0t:=by omega) (htl:=htl) (m1:=by omega) (m2:=by omega) (hn:=qgp (qxu (ha:=c1) (hn:=qmE))) (hr1:=R1) (hr2:=R2) (l0:=by omega) (l1:=by omega) (hs1:=S1) (hs2:=S2) (hs3:=qjc (by omega)) (hr3:=R3) (hs4:=qjc (by omega)) (hs5:=S5) (hal:=qcK)
 ·exact qtw (h1:=df (by omega)) (h2:=df (by omega)) (h3:=df h3) (h4:=df h4) (r0:=r0) (h0t:=by omega) (htl:=htl) (m1:=by omega) (m2:=by omega) (hn:=qgp (qyv (ha:=c1) (he:=by simpa using ha))) (he:=by simpa using ha) (ha:=c2) (he2:=by simpa using ha) (hal:=qcK)
end
end Go.Proofs.YtleaeldgaflmkaaGreat

namespace Go.Proofs.YtleaeldgaflmkaaGreat
set_option maxRecDepth 100000
open Go.ChangeShapes Go.WideShapes Go.ChangeAt Go.RowKit Go.Joins Go.Deep
theorem qo3:Tryz.prog.readableRec 24=true:=by kernel_rfl
theorem qsN:24<Tryz.prog.types.size:=of_decide_eq_true (by kernel_rfl)
section
variable {H:Type} {enc:TypeId×Value→H} {W:World} {base:Nat} {spare:Nat→Bool} {held:Bool}
theorem qs3 {r:Reach} {b0:Nat} {v:Value} {d:DataW H} {p:List MemPlace} (hv:Value.okWide Tryz.prog W r b0 24 v) (h:DataW.Trod enc Tryz.prog W base spare held 24 v d p) :
 ∃ l:List Pt,Rd W 3 v l.length (qaZ l):=by
 obtain⟨a0,len0,cap0,rfl⟩:=okWide_slice Tryz.underlying24 hv
 obtain⟨fuel,hf⟩:=h
 obtain⟨u,l,hc,r0,_⟩:=qqk hf
 simp[Value.cells] at hc
 rw[hc]
 exact⟨l,r0⟩
end
section
variable {s:List Pt} {qs:List AskQ}
theorem qhb (s:List Pt) (n d:Int) (hn:I64 n) (hd:I64 d) (z:Int) (qs:List AskQ) (hq:∀ a∈qs,qq4 a):Fn 6 2 [.ls 0 s.length,.pv (qaa n d),.pv (iV z),.ls 1 qs.length] [(0,0,qad s),(1,0,qcG qs)] (.pv (.bool true)) 0 []:=qmB hn hd hq z
theorem qAl {W:World} {f:FuncId} {u v a b:Value} (h:Fn f 2 [.ls 0 s.length,.pv a,.pv b,.ls 1 qs.length] [(0,0,qad s),(1,0,qcG qs)] (.pv (.bool true)) 0 []) (hs:Rd W 3 u s.length (qaZ s)) (hq:Rd W 7 v qs.length (qaQ qs)) :
 Calls Tryz.prog f #[u,a,b,v] W fun e W'=>e=.returned (.bool true)∧Gr W W':=
 qo2 (rs:=[(34,3,s.length,qaZ s),(42,7,qs.length,qaQ qs)]) (us:=[u,v]) h (.cons hs (qgX s) (.cons hq (qq6 qs) .nil)) ⟨⟨rfl,hs.zsl⟩,rfl,rfl,⟨rfl,hq.zsl⟩,tI⟩
end
end Go.Proofs.YtleaeldgaflmkaaGreat
