/-
  Joined: VC, VD. Conditions: none.
-/
import Derived.Test.YtleaeldgaflmkaaGreatW47
import Derived.Test.YtleaeldgaflmkaaGreatW46
import Derived.Test.YtleaeldgaflmkaaGreatW25
namespace Go.Proofs.YtleaeldgaflmkaaGreat
set_option maxRecDepth 100000
open Go.RowKit
section
variable {s s' s0:List Pt} {n d n' d':Int} {qs:List AskQ} {a:AskQ} {r:Rep} {k:Nat} {ds:List Dn}
theorem mne {ma mb:Mt} (h:ma≠mb):(!((ma.n==mb.n&&(ma.d==mb.d&&true))&&(ma.i==mb.i&&(ma.j==mb.j&&true))))=true:=by
 cases hb:((ma.n==mb.n&&(ma.d==mb.d&&true))&&(ma.i==mb.i&&(ma.j==mb.j&&true))) with
 | false=>rfl
 | true=>
  exfalso
  apply h
  obtain⟨a1,a2,a3,a4⟩:=ma
  obtain⟨b1,b2,b3,b4⟩:=mb
  simp at hb
  obtain⟨⟨rfl,rfl⟩,rfl,rfl⟩:=hb
  rfl
theorem qmc (a b:List Mt) (ha:a.length≤100000):∃ w,Fn 34 2 [.ls 0 a.length,.ls 1 b.length] [(0,0,.row 95 4 a.length (msV a)),(1,0,.row 95 4 b.length (msV b))] (.pv (.bool w)) 0 []∧
 Fn 51 2 [.ls 0 a.length,.ls 1 b.length] [(0,0,.row 95 4 a.length (msV a)),(1,0,.row 95 4 b.length (msV b))] (.pv (.bool w)) 0 []:=by
 by_cases hn:a.length=b.length
 ·rcases qcF (fun k=>a[k]?=b[k]?) a.length with h | ⟨j,hj,hne,hb⟩
  ·refine⟨true,?_,?_⟩
   ·rw[← hn]
    refine qtc (r0:=RunsL.rounds (fun k=>[(0,.ls 0 a.length),(1,.ls 1 a.length),(5,.pv (iV (k:Int)))]) (fun _=>[(0,0,.row 95 4 a.length (msV a)),(1,0,.row 95 4 a.length (msV b))]) a.length 0 (Nat.zero_add _) (fun k _ hk r=>?_) (qs2 (hlt:=df (by omega))))
    obtain⟨m,hm⟩:=qaj hk
    exact qjq (hlt:=dt (by omega)) (hin:=qax hk) (ha:=hm) (hb:=(h k hk).symm.trans hm) (he:=qdN m) (hs:=qao (by omega)) r
   ·rw[← hn]
    refine qtC (r0:=RunsL.rounds (fun k=>[(0,.ls 0 a.length),(1,.ls 1 a.length),(12,.pv (iV (a.length:Int))),(13,.pv (iV (k:Int)))]) (fun _=>[(0,0,.row 95 4 a.length (msV a)),(1,0,.row 95 4 a.length (msV b))]) a.length 0 (Nat.zero_add _) (fun k _ hk r=>?_) (quo (hlt:=df (by omega))))
    obtain⟨m,hm⟩:=qaj hk
    exact qjP (hlt:=dt (by omega)) (hin:=qax hk) (ha:=hm) (hb:=(h k hk).symm.trans hm) (he:=qdN m) (hs:=qao (by omega)) r
  ·obtain⟨ma,hma⟩:=qaj hj
   obtain⟨mb,hmb⟩:=qaj (l:=b) (k:=j) (by omega)
   have hd:ma≠mb:=fun e=>hne (by rw[hma,hmb,e])
   refine⟨false,?_,?_⟩
   ·rw[← hn]
    refine qvI (r0:=RunsL.rounds (fun k=>[(0,.ls 0 a.length),(1,.ls 1 a.length),(5,.pv (iV (k:Int)))]) (fun _=>[(0,0,.row 95 4 a.length (msV a)),(1,0,.row 95 4 a.length (msV b))]) j 0 (Nat.zero_add _) (fun k _ hk r=>?_) (qoM (hlt:=dt (by omega)) (hin:=qax hj) (ha:=hma) (hb:=hmb) (he:=mne hd)))
    obtain⟨m,hm⟩:=qaj (l:=a) (k:=k) (by omega)
    exact qjq (hlt:=dt (by omega)) (hin:=qax (by omega)) (ha:=hm) (hb:=(hb k hk).symm.trans hm) (he:=qdN m) (hs:=qao (by omega)) r
   ·rw[← hn]
    refine qu0 (r0:=RunsL.rounds (fun k=>[(0,.ls 0 a.length),(1,.ls 1 a.length),(12,.pv (iV (a.length:Int))),(13,.pv (iV (k:Int)))]) (fun _=>[(0,0,.row 95 4 a.length (msV a)),(1,0,.row 95 4 a.length (msV b))]) j 0 (Nat.zero_add _) (fun k _ hk r=>?_) (qqH (hlt:=dt (by omega)) (hin:=qax hj) (ha:=hma) (hb:=hmb) (he:=mne hd)))
    obtain⟨m,hm⟩:=qaj (l:=a) (k:=k) (by omega)
    exact qjP (hlt:=dt (by omega)) (hin:=qax (by omega)) (ha:=hm) (hb:=(hb k hk).symm.trans hm) (he:=qdN m) (hs:=qao (by omega)) r
 ·have hb:((a.length:Int) !=(b.length:Int))=true:=by simp;omega
  exact⟨false,qsB (hn:=hb),qtu (hn:=hb)⟩
abbrev rpS (k:Nat) (r:Rep):SV:=.ag [.pv (iV r.e),.pv (iV r.id),.pv (iV r.ot),.pv (iV r.n),.pv (iV r.d),.ls k r.ms.length]
abbrev rpR (r:Rep):SV:=.row 95 4 r.ms.length (msV r.ms)
theorem qpZ (ra rb:Rep) (ha:ra.ms.length≤100000):∃ w,Fn 29 2 [rpS 0 ra,rpS 1 rb] [(0,0,rpR ra),(1,0,rpR rb)] (.pv (.bool w)) 0 []∧Fn 26 2 [rpS 0 ra,rpS 1 rb] [(0,0,rpR ra),(1,0,rpR rb)] (.pv (.bool w)) 0 []:=by
 cases h0:(ra.e==rb.e) with
 | false=>exact⟨false,qza (h0:=h0),qzZ (h0:=h0)⟩
 | true=>
  cases h1:(ra.id==rb.id) with
  | false=>exact⟨false,qzu (h0:=h0) (h1:=h1),qyh (h0:=h0) (h1:=h1)⟩
  | true=>
   cases h2:(ra.ot==rb.ot) with
   | false=>exact⟨false,qAE (h0:=h0) (h1:=h1) (h2:=h2),qAq (h0:=h0) (h1:=h1) (h2:=h2)⟩
   | true=>
    cases h3:(ra.n==rb.n&&(ra.d==rb.d&&true)) with
    | false=>exact⟨false,qAo (h0:=h0) (h1:=h1) (h2:=h2) (h3:=h3),qAv (h0:=h0) (h1:=h1) (h2:=h2) (h3:=h3)⟩
    | true=>
     obtain⟨w,m1,m2⟩:=qmc ra.ms rb.ms ha
     exact⟨w,qzy (h0:=h0) (h1:=h1) (h2:=h2) (h3:=h3) (hs:=m2),qyZ (h0:=h0) (h1:=h1) (h2:=h2) (h3:=h3) (hs:=m1)⟩
theorem qo1 (ra:Rep) (ha:ra.ms.length≤100000):Fn 29 1 [rpS 0 ra,rpS 0 ra] [(0,0,rpR ra)] (.pv (.bool true)) 0 []:=by
 refine qx6 (hs:=quk (r0:=RunsL.rounds (fun k=>[(0,.ls 0 ra.ms.length),(1,.ls 0 ra.ms.length),(12,.pv (iV (ra.ms.length:Int))),(13,.pv (iV (k:Int)))]) (fun _=>[(0,0,.row 95 4 ra.ms.length (msV ra.ms))]) ra.ms.length 0 (Nat.zero_add _) (fun k _ hk r=>?_) (qua (hlt:=df (by omega)))))
 obtain⟨m,hm⟩:=qaj hk
 exact qpM (hlt:=dt (by omega)) (hin:=qax hk) (ha:=hm) (hs:=qao (by omega)) r
theorem qjJ {rs:List Rep} (hl:rs.length≤999999) (hf:∀ r∈rs,r.ms.length≤100000):Fn 28 0 [.dv 6 rs.length (qbW rs),.dv 6 rs.length (qbW rs)] [] (.pv (.bool true)) 0 []:=by
 refine qt8 (r0:=RunsL.rounds (fun k=>[(0,.ls 0 rs.length),(1,.ls 1 rs.length),(5,.pv (iV (k:Int)))]) (fun _=>[(0,0,.rrow 38 6 rs.length (qbW rs)),(1,0,.rrow 38 6 rs.length (qbW rs))]) rs.length 0 (Nat.zero_add _) (fun k _ hk r=>?_) (qth (hlt:=df (by omega))))
 obtain⟨m,hm⟩:=qaj hk
 exact qoZ (hlt:=dt (by omega)) (hin:=qax hk) (hk:=hm) (hsm:=qpV m (hf m (List.mem_of_getElem? hm))) (hs:=qao (by omega)) r
theorem qjp:∀ {qs:List AskQ} {rs:List Rep} {s:List Pt} {n d:Int} {s':List Pt} {n' d':Int},quF s n d qs rs n' d' s'→∀ r∈rs,r.ms.length≤100000
 | [],[],_,_,_,_,_,_,_,r,hr=>by cases hr
 | [],_::_,_,_,_,_,_,_,h,_,_=>h.elim
 | _::_,[],_,_,_,_,_,_,h,_,_=>h.elim
 | a::qs,q::rs,_,_,_,_,_,_,⟨_,_,_,o,h⟩,r,hr=>by
  rcases List.mem_cons.1 hr with rfl | hr
  ·exact o.few
  ·exact qjp h r hr
abbrev vrT (qs:List AskQ) (k:Nat):List (Nat×SV):=[(1,.ls 1 qs.length),(2,.pp 2 0),(4,.pp 3 0),(7,.pp 5 0),(8,.ls 6 k),(9,.pv (iV (k:Int)))]
abbrev vrH (s0:List Pt) (qs:List AskQ) (s:List Pt) (n d:Int) (row:SV):List (Nat×Nat×SV):=[(3,0,.pv (iV 0)),(3,1,.pv (iV 0)),(3,2,.pv (.slice none 0 0)),(5,0,.pv (iV n)),(5,1,.pv (iV d)),(5,2,.ls 4 s.length),(0,0,qad s0),(1,0,qbu qs),(4,0,qad s),(6,0,row)]
abbrev vrE (k:Nat):List (Nat×SV):=[(4,.pp 3 0),(7,.pp 5 0),(8,.ls 6 k)]
theorem qhi (hl:qs.length≤999999):∀ (rest:List AskQ) (rs:List Rep) (k:Nat) (s:List Pt) (n d:Int) (ds:List Dn) (n' d':Int) (s':List Pt),qs=qs.take k++rest→k+rest.length=qs.length→quF s n d rest rs n' d' s'→
 Rl 2 2 27 0 44 7 (vrT qs k) (vrH s0 qs s n d (qsU k ds)) (.exit 0) (vrE qs.length) (vrH s0 qs s' n' d' (qsU qs.length (ds++qbW rs)))
 | [],[],k,s,n,d,ds,n',d',s',_,hk,⟨e1,e2,e3⟩=>by
  have e:k=qs.length:=by simpa using hk
  rw[show ds++qbW []=ds from List.append_nil _]
  subst e e1 e2 e3
  exact qsc (hlt:=df (by omega))
 | [],_::_,_,_,_,_,_,_,_,_,_,_,h=>h.elim
 | _::_,[],_,_,_,_,_,_,_,_,_,_,h=>h.elim
 | a::rest,r::rs,k,s,n,d,ds,n',d',s',hq,hk,⟨n1,d1,s1,o,h⟩=>by
  have hkl:k<qs.length:=by rw[← hk,List.length_cons];omega
  have hka:qs[k]?=some a:=by
   rw[hq,List.getElem?_append_right (by rw[List.length_take];omega),List.length_take,Nat.min_eq_left (by omega),Nat.sub_self]
   rfl
  have ih:=qhi hl rest rs (k+1) s1 n1 d1 (ds++qfd r) n' d' s' (by rw[List.take_add_one,hka,List.append_assoc];exact hq) (by rw[← hk,List.length_cons];omega) h
  rw[show ds++qbW (r::rs)=ds++qfd r++qbW rs by rw[List.append_assoc];rfl]
  exact qx8 (hlt:=dt (by omega)) (hin:=⟨by omega,by omega⟩) (hk:=hka) (hd:=o.ref) (hm:=by omega) (hs:=qao (by omega)) ih
abbrev qhA (f:FuncId) (s:List Pt) (n d:Int) (qs:List AskQ) (k:Nat) (ds:List Dn) (n' d':Int) (s':List Pt) (e:Int):Prop:=Fn f 2 [moS 0 s n d,.ls 1 qs.length] [(0,0,qad s),(1,0,qbu qs)] (.tu [mo1 2 s' n' d',.one (.dv 6 k ds),.one (.pv (iV e))]) 1 [(2,0,qad s')]
theorem qpY {rs:List Rep} (hl:qs.length≤120) (hv:Val s) (hc:Fn 25 1 [moS 0 s n d] [(0,0,qad s)] (.pv (iV 0)) 0 []) (ho:quF s n d qs rs n' d' s'):qhA 27 s n d qs qs.length (qbW rs) n' d' s' 0:=by
 have tw:=qrq (n:=n) (d:=d) hv
 match qs,rs,ho with
 | [],[],⟨e1,e2,e3⟩=>
  subst e1 e2 e3
  exact qtO (hc:=hc) (hl:=by decide) (ht:=tw) (r0:=qoK (hlt:=by decide))
 | [],_::_,h=>exact h.elim
 | _::_,[],h=>exact h.elim
 | a::rest,r::rs,⟨n1,d1,s1,o,h⟩=>
  have ih:=qhi (s0:=s) (qs:=a::rest) (by omega) rest rs 1 s1 n1 d1 (qfd r) n' d' s' rfl (by rw[List.length_cons];omega) h
  exact qxb (hc:=hc) (hl:=df (by omega)) (ht:=tw) (r0:=qyM (hlt:=dt (by rw[List.length_cons];omega)) (hin:=⟨by omega,by rw[List.length_cons];omega⟩) (hk:=rfl) (hd:=o.ref) (hm:=by decide) (hs:=qao (by decide)) ih)
theorem qeC {f:FuncId} {e:Int} (h:Fn f 2 [moS 0 s n d,.ls 1 qs.length] [(0,0,qad s),(1,0,qbu qs)] (.pv (.tuple #[.agg #[iV 0,iV 0,.slice none 0 0],.slice none 0 0,iV e])) 0 []):qhA f s n d qs 0 [] 0 0 [] e:=
 qsg (x:=.tu [.one (.pv (.agg #[iV 0,iV 0,.slice none 0 0])),.one (.dv 6 0 []),.one (.pv (iV e))]) 34 3
  (qgM h fun β v hv=>⟨[_,_,_],⟨rfl,qis,rfl,tI⟩,hv⟩)
  (.tu (.cons (.un (vs:=[iV 0,iV 0,.slice none 0 0]) (.cons (.same _) (.cons (.same _) (.cons .nil .nil)))) (.cons (.one (.same _)) (.cons (.one (.same _)) .nil))))
theorem qmi (hn:I64 n) (hd:I64 d) (hl:qs.length≤999999) (hq:∀ a∈qs,qrc a):∃ rs n' d' s' e,s'.length≤1000000∧rs.length≤999999∧(∀ r∈rs,r.ms.length≤100000)∧qhA 13 s n d qs rs.length (qbW rs) n' d' s' e∧qhA 27 s n d qs rs.length (qbW rs) n' d' s' e:=by
 obtain⟨c1,c2⟩:=qql (s:=s) hn hd
 by_cases h:qpj s n d=0
 ·obtain⟨hv,ht⟩:=(qvj hn hd).1 h
  rw[h] at c1 c2
  by_cases h2:qs.length≤120
  ·obtain⟨rs,n',d',s',h1,h3,_,h4,h5⟩:=qsa hl hv ht hq
   have h6:=qpY h2 hv c2 h1
   rw[← h4] at h6
   have h7:qhA 13 s n d qs rs.length (qbW rs) n' d' s' 0:=by
    rw[h4]
    exact qyr (hc:=c1) (hl:=df (by omega)) (hr:=h5)
   exact⟨rs,n',d',s',0,by have:=h3.len;omega,by omega,qjp h1,h7,h6⟩
  ·exact⟨[],0,0,[],4,by decide,by decide,fun r hr=>(by cases hr),qeC (qys (hc:=c1) (hl:=dt (by omega))),qeC (qyw (hc:=c2) (hl:=dt (by omega)))⟩
 ·rw[qtA h] at c1 c2
  exact⟨[],0,0,[],8,by decide,by decide,fun r hr=>(by cases hr),qeC (qAy (hc:=c1) (he:=by decide)),qeC (qAf (hc:=c2) (he:=by decide))⟩
end
end Go.Proofs.YtleaeldgaflmkaaGreat

namespace Go.Proofs.YtleaeldgaflmkaaGreat
set_option maxRecDepth 100000
open Go.ChangeShapes Go.WideShapes Go.ChangeAt Go.RowKit Go.Joins Go.Deep
theorem qi5 {α:Type} {enc:α→List Value} {es:Nat} (he:∀ a,(enc a).length=es):∀ (l:List α) (j:Nat) (v:Value),(l.flatMap enc)[j]?=some v→∃ k x t,l[k]?=some x∧(enc x)[t]?=some v∧j=k*es+t
 | [],j,v,h=>by simp at h
 | x::r,j,v,h=>by
  rw[List.flatMap_cons] at h
  by_cases hj:j<(enc x).length
  ·rw[List.getElem?_append_left hj] at h
   exact⟨0,x,j,rfl,h,by omega⟩
  ·rw[List.getElem?_append_right (by omega),he] at h
   obtain⟨k,y,t,h1,h2,h3⟩:=qi5 he r _ _ h
   rw[he] at hj
   exact⟨k+1,y,t,by simpa using h1,h2,by rw[Nat.succ_mul];omega⟩
theorem qi2 {α:Type} {enc:α→List Value} {es:Nat} (he:∀ a,(enc a).length=es):∀ l:List α,(l.flatMap enc).length=l.length*es
 | []=>by simp
 | x::r=>by rw[List.flatMap_cons,List.length_append,he,qi2 he r,List.length_cons,Nat.succ_mul];omega
theorem qm8 {α:Type} [Inhabited α] {enc:α→List Value} {es:Nat} (he:∀ a,(enc a).length=es) {W:World} {a:Addr} {len cap:Nat} {Q:α→Prop} (hc:len≤cap) (each:∀ i,i<len→∃ x,Q x∧∀ t v,(enc x)[t]?=some v→W.cell? (a.add (i*es+t))=some v) :
 ∃ l:List α,l.length=len∧Rd W es (.slice (some a) len cap) l.length (l.flatMap enc)∧∀ x∈l,Q x:=by
 obtain⟨f,hf⟩:=choose_lt (α:=α) each
 refine⟨(List.range len).map f,by simp,⟨qi2 he _,some a,cap,by simp,by simpa using hc,fun j v hv=>?_⟩,fun x hx=>?_⟩
 ·obtain⟨k,x,t,h1,h2,h3⟩:=qi5 he _ _ _ hv
  rw[List.getElem?_map] at h1
  obtain⟨i,hi,rfl⟩:=Option.map_eq_some_iff.1 h1
  obtain⟨hk,e⟩:=List.getElem?_eq_some_iff.1 hi
  rw[List.getElem_range] at e
  subst e
  rw[List.length_range] at hk
  have hcell:=(hf k hk).2 t v h2
  rw[← h3] at hcell
  obtain⟨b,off,spot⟩:=a
  have hs:spot=none:=by
   have ht:t<(enc (f k)).length:=(List.getElem?_eq_some_iff.1 h2).1
   rw[he] at ht
   have h9:=(hf 0 (by omega)).2 0 _ (List.getElem?_eq_getElem (by rw[he];omega))
   rw[Nat.zero_mul] at h9
   simpa [Addr.add] using World.cell?_spot h9
  subst hs
  exact⟨b,off,rfl,by rw[← Go.WideShapes.add_plain];exact hcell⟩
 ·obtain⟨i,hi',rfl⟩:=List.mem_map.1 hx
  exact (hf i (List.mem_range.1 hi')).1
abbrev qAO (a:AskQ):List Value:=[.int .u8 a.kd,iV a.pi,iV a.pa,iV a.pb,iV a.z,iV a.qn,iV a.qd]
abbrev mtL (m:Mt):List Value:=[iV m.n,iV m.d,iV m.i,iV m.j]
theorem qeZ:∀ l:List AskQ,qbl l=l.flatMap qAO
 | []=>rfl
 | a::r=>by rw[List.flatMap_cons,← qeZ r];rfl
theorem qgR:∀ l:List Mt,msV l=l.flatMap mtL
 | []=>rfl
 | a::r=>by rw[List.flatMap_cons,← qgR r];rfl
theorem qy4:Tryz.prog.cellsOf 95=4:=by kernel_rfl
theorem qvP:Tryz.prog.cellsOf 36=1:=by kernel_rfl
theorem qu3:Tryz.prog.cellsOf 29=1:=by kernel_rfl
theorem qpB:Tryz.prog.cellsOf 38=6:=by kernel_rfl
theorem qmD:Tryz.prog.readableRec 38=true:=by kernel_rfl
theorem qqU:38<Tryz.prog.types.size:=of_decide_eq_true (by kernel_rfl)
theorem qsl:Tryz.prog.readableRec 46=true:=by kernel_rfl
theorem qwX:46<Tryz.prog.types.size:=of_decide_eq_true (by kernel_rfl)
theorem qoy:∀ (l:List AskQ) (v:Value),v∈qbl l→v.oneCell'=true:=fun l v h=>by
 rw[qeZ] at h
 obtain⟨a,_,h⟩:=List.mem_flatMap.1 h
 simp only[List.mem_cons,List.not_mem_nil,or_false] at h
 rcases h with rfl | rfl | rfl | rfl | rfl | rfl | rfl<;>rfl
theorem qmr:∀ (l:List Mt) (v:Value),v∈msV l→v.oneCell'=true:=fun l v h=>by
 rw[qgR] at h
 obtain⟨a,_,h⟩:=List.mem_flatMap.1 h
 simp only[List.mem_cons,List.not_mem_nil,or_false] at h
 rcases h with rfl | rfl | rfl | rfl<;>rfl
section
variable {H:Type} {enc:TypeId×Value→H} {W:World} {base:Nat} {spare:Nat→Bool} {held:Bool}
theorem qvv {P:Program} {t:TypeId} {f0 f1 f2 f3 f4:Field} {fuel:Nat} {cs:List Value} {x:DataW H×List MemPlace} (ht:P.underlying t=some (.struct #[f0,f1,f2,f3,f4])) (h:DataW.trod enc P W base spare held fuel t cs=some x) :
 ∃ y0 y1 y2 y3 y4 n,cs.length=P.cellsOf t∧DataW.trod enc P W base spare held n f0.type ((cs.drop f0.offset).take (P.cellsOf f0.type))=some y0∧DataW.trod enc P W base spare held n f1.type ((cs.drop f1.offset).take (P.cellsOf f1.type))=some y1∧
  DataW.trod enc P W base spare held n f2.type ((cs.drop f2.offset).take (P.cellsOf f2.type))=some y2∧DataW.trod enc P W base spare held n f3.type ((cs.drop f3.offset).take (P.cellsOf f3.type))=some y3∧DataW.trod enc P W base spare held n f4.type ((cs.drop f4.offset).take (P.cellsOf f4.type))=some y4:=by
 obtain⟨xs,n,_,rfl,hl,hlen,hf⟩:=DataW.trod_struct ht h
 match xs,hlen with
 | [y0,y1,y2,y3,y4],_=>exact⟨y0,y1,y2,y3,y4,n,hl,by simpa using hf 0 f0 rfl,by simpa using hf 1 f1 rfl,by simpa using hf 2 f2 rfl,by simpa using hf 3 f3 rfl,by simpa using hf 4 f4 rfl⟩
theorem qpP {fuel:Nat} {cs:List Value} {x:DataW H×List MemPlace} (h:DataW.trod enc Tryz.prog W base spare held fuel 36 cs=some x) :
 ∃ (u:Value) (l:List Mt),cs=[u]∧Rd W 4 u l.length (msV l):=by
 rcases open_slice Tryz.underlying36 h with ⟨rfl,_⟩ | ⟨a,len,cap,m,n,D,Pl,rfl,_,hlc,_,hm,_,hi⟩
 ·exact⟨_,[],rfl,⟨rfl,none,0,rfl,Nat.le_refl _,fun j v hv=>by simp[msV] at hv⟩⟩
 have hlm:len≤m:=by rw[hm];split<;>omega
 haveI:Inhabited Mt:=⟨⟨0,0,0,0⟩⟩
 obtain⟨l,_,hr,_⟩:=qm8 (enc:=mtL) (es:=4) (fun _=>rfl) (W:=W) (a:=a) (Q:=fun _=>True) hlc (fun i hil=>by
  obtain⟨cs',hc,ht⟩:=hi i (by omega)
  rw[qy4] at hc
  obtain⟨y0,y1,y2,n',_,hlen,t0,t1,t2⟩:=trod_struct3 Tryz.underlying95 ht
  obtain⟨z0,z1,n1,_,_,a0,a1⟩:=trod_struct2 Tryz.underlying23 t0
  obtain⟨_,hcl,hat⟩:=World.cells?_some hc
  match cs',hcl with
  | [c0,c1,c2,c3],_=>
   obtain⟨mn,e0,_,_⟩:=DataW.trod_int Tryz.underlying2 a0
   obtain⟨md,e1,_,_⟩:=DataW.trod_int Tryz.underlying2 a1
   obtain⟨mi,e2,_,_⟩:=DataW.trod_int Tryz.underlying3 t1
   obtain⟨mj,e3,_,_⟩:=DataW.trod_int Tryz.underlying3 t2
   simp[qhH,qjl,qqL] at e0 e1 e2 e3
   refine⟨⟨mn,md,mi,mj⟩,tI,fun t v hv=>?_⟩
   match t,hv with
   | 0,hv=>cases hv;have:=hat 0 (by omega);rw[add_add] at this;simpa [e0] using this
   | 1,hv=>cases hv;have:=hat 1 (by omega);rw[add_add] at this;simpa [e1] using this
   | 2,hv=>cases hv;have:=hat 2 (by omega);rw[add_add] at this;simpa [e2] using this
   | 3,hv=>cases hv;have:=hat 3 (by omega);rw[add_add] at this;simpa [e3] using this
   | t+4,hv=>simp at hv)
 exact⟨_,l,rfl,by rw[qgR];rwa [show l.length=len from ‹_›] at hr ⊢⟩
theorem qnW {r:Reach} {b0:Nat} {v:Value} {d:DataW H} {p:List MemPlace} (hv:Value.okWide Tryz.prog W r b0 46 v) (h:DataW.Trod enc Tryz.prog W base spare held 46 v d p) :
 ∃ l:List AskQ,Rd W 7 v l.length (qbl l)∧∀ a∈l,qrc a:=by
 obtain⟨a0,len0,cap0,rfl⟩:=okWide_slice Tryz.underlying46 hv
 obtain⟨fuel,hf⟩:=h
 rcases open_slice Tryz.underlying46 hf with ⟨hc,_⟩ | ⟨a,len,cap,m,n,D,Pl,hc,_,hlc,_,hm,_,hi⟩
 ·simp[Value.cells] at hc
  obtain⟨rfl,rfl,rfl⟩:=hc
  exact⟨[],⟨rfl,none,0,rfl,Nat.le_refl _,fun j v hv=>by simp[qbl] at hv⟩,fun a ha=>(by cases ha)⟩
 simp[Value.cells] at hc
 obtain⟨rfl,rfl,rfl⟩:=hc
 have hlm:len0≤m:=by rw[hm];split<;>omega
 haveI:Inhabited AskQ:=⟨⟨0,0,0,0,0,0,0⟩⟩
 obtain⟨l,hl,hr,hq⟩:=qm8 (enc:=qAO) (es:=7) (fun _=>rfl) (W:=W) (a:=a) (Q:=qrc) hlc (fun i hil=>by
  obtain⟨cs',hc,ht⟩:=hi i (by omega)
  rw[qpW] at hc
  obtain⟨_,hcl,hat⟩:=World.cells?_some hc
  obtain⟨q,he,hn⟩:=qlU hcl ht
  refine⟨q,hn,fun t v hv=>?_⟩
  have ht7:t<7:=(List.getElem?_eq_some_iff.1 hv).1
  have:=hat t ht7
  rw[add_add] at this
  rw[this,he]
  exact hv)
 refine⟨l,?_,hq⟩
 rw[qeZ]
 rw[hl] at hr ⊢
 exact hr
theorem qf8 {r:Reach} {b0:Nat} {v:Value} {d:DataW H} {p:List MemPlace} (hv:Value.okWide Tryz.prog W r b0 38 v) (h:DataW.Trod enc Tryz.prog W base spare held 38 v d p) :
 ∃ (q:Rep) (u:Value),v=.agg #[iV q.e,iV q.id,iV q.ot,iV q.n,iV q.d,u]∧Rd W 4 u q.ms.length (msV q.ms):=by
 obtain⟨cs,rfl,hsz⟩:=okWide_struct Tryz.underlying38 hv
 obtain⟨fuel,hf⟩:=h
 obtain⟨y0,y1,y2,y3,y4,n,hlen,h0,h1,h2,h3,h4⟩:=qvv Tryz.underlying38 hf
 obtain⟨er,e0,_,_⟩:=DataW.trod_int Tryz.underlying29 h0
 obtain⟨id,e1,_,_⟩:=DataW.trod_int Tryz.underlying3 h1
 obtain⟨ot,e2,_,_⟩:=DataW.trod_int Tryz.underlying3 h2
 obtain⟨z0,z1,n1,_,_,a0,a1⟩:=trod_struct2 Tryz.underlying23 h3
 obtain⟨vn,e3,_,_⟩:=DataW.trod_int Tryz.underlying2 a0
 obtain⟨vd,e4,_,_⟩:=DataW.trod_int Tryz.underlying2 a1
 obtain⟨u,ms,c0,r0⟩:=qpP h4
 refine⟨⟨er,id,ot,vn,vd,ms⟩,u,?_,r0⟩
 rw[qu3] at e0
 rw[qjl] at e1 e2
 rw[qhH,qqL] at e3 e4
 rw[qvP] at c0
 have hs:cs.size=6:=hsz.trans qpB
 obtain⟨L⟩:=cs
 match L,hs with
 | [v0,v1,v2,v3,v4,v5],_=>
  simp[Value.cells] at c0 e0 e1 e2 e3 e4
  rw[c0,e0,e1,e2,e3,e4]
end
abbrev wrE (qs:List AskQ) (k:Nat) (ds:List Dn) (e1:Int):List (Nat×SV):=[(1,.ls 1 qs.length),(4,.pp 4 0),(6,.pp 5 0),(7,.pp 6 0),(9,.pp 10 0),(10,.ls 9 (0+qs.length)),(11,.pp 12 0),(12,.dv 6 k ds),(13,.pv (iV e1)),(14,.pp 14 0),(15,.dv 6 k ds),(16,.pv (iV e1))]
abbrev wrT (qs:List AskQ) (k:Nat) (ds:List Dn) (e1:Int) (k2:Nat):List (Nat×SV):=[(1,.ls 1 qs.length),(4,.pp 4 0),(6,.pp 5 0),(7,.pp 6 0),(9,.pp 10 0),(10,.ls 9 (0+qs.length)),(11,.pp 12 0),(12,.dv 6 k ds),(13,.pv (iV e1)),(14,.pp 14 0),(15,.dv 6 k ds),(16,.pv (iV e1)),(17,.pv (iV (k2:Int)))]
abbrev wrH (s:List Pt) (tn td:Int) (qs:List AskQ) (ra rb:Rep) (n' d':Int) (s':List Pt):List (Nat×Nat×SV):=[(4,0,.pv (iV tn)),(4,1,.pv (iV td)),(4,2,.ls 0 s.length),(5,0,.pv (iV ra.e)),(5,1,.pv (iV ra.id)),(5,2,.pv (iV ra.ot)),(5,3,.pv (iV ra.n)),(5,4,.pv (iV ra.d)),(5,5,.ls 2 ra.ms.length),(6,0,.pv (iV rb.e)),(6,1,.pv (iV rb.id)),(6,2,.pv (iV rb.ot)),(6,3,.pv (iV rb.n)),(6,4,.pv (iV rb.d)),(6,5,.ls 3 rb.ms.length),(10,0,.pv (iV tn)),(10,1,.pv (iV td)),(10,2,.ls 7 s.length),(12,0,.pv (iV n')),(12,1,.pv (iV d')),(12,2,.ls 11 s'.length),(14,0,.pv (iV n')),(14,1,.pv (iV d')),(14,2,.ls 13 s'.length),(0,0,qad s),(1,0,qbu qs),(2,0,.row 95 4 ra.ms.length (msV ra.ms)),(3,0,.row 95 4 rb.ms.length (msV rb.ms)),(7,0,qad s),(9,0,.row 42 7 (0+qs.length) (qbl qs)),(11,0,qad s'),(13,0,qad s')]
section
variable {W:World} {s:List Pt} {n d:Int} {qs:List AskQ} {ra rb:Rep} {u v w1 w2:Value}
theorem qoE (hn:I64 n) (hd:I64 d) (hq:∀ a∈qs,qrc a) :
 Fn 5 4 [moS 0 s n d,.ls 1 qs.length,rpS 2 ra,rpS 3 rb] [(0,0,qad s),(1,0,qbu qs),(2,0,rpR ra),(3,0,rpR rb)] (.pv (.bool true)) 0 []:=by
 rcases qs5 s with hg | ⟨hl,hg⟩
 ·exact qyX (hg:=hg)
 have tw:Fn 21 1 [moS 0 s n d] [(0,0,qad s)] (moS 1 s n d) 1 [(1,0,qad s)]:=vtw (ht:=qgZ (by omega))
 have main:qs.length≤130→ra.ms.length≤100→∃ rs n' d' s' e w,s'.length≤1000000∧rs.length≤999999∧(∀ r∈rs,r.ms.length≤100000)∧qhA 13 s n d qs rs.length (qbW rs) n' d' s' e∧qhA 27 s n d qs rs.length (qbW rs) n' d' s' e∧
  Fn 29 2 [rpS 0 ra,rpS 1 rb] [(0,0,rpR ra),(1,0,rpR rb)] (.pv (.bool w)) 0 []∧Fn 26 2 [rpS 0 ra,rpS 1 rb] [(0,0,rpR ra),(1,0,rpR rb)] (.pv (.bool w)) 0 []:=fun h1 h2=>by
  obtain⟨rs,n',d',s',e,a1,a2,a3,a4,a5⟩:=qmi (s:=s) hn hd (show qs.length≤999999 by omega) hq
  obtain⟨w,b1,b2⟩:=qpZ ra rb (by omega)
  exact⟨rs,n',d',s',e,w,a1,a2,a3,a4,a5,b1,b2⟩
 have flip:∀ {k:Nat} {ds:List Dn} {n' d':Int} {s':List Pt} {e:Int},qhA 13 s n d qs k ds n' d' s' e→Fn 13 2 [moS 0 s n d,.ls 1 (0+qs.length)] [(0,0,qad s),(1,0,.row 42 7 (0+qs.length) (qbl qs))] (.tu [mo1 2 s' n' d',.one (.dv 6 k ds),.one (.pv (iV e))]) 1 [(2,0,qad s')]:=fun h=>by
  rw[Nat.zero_add];exact h
 have rl:∀ {k:Nat} {ds:List Dn} {n' d' e:Int} {s':List Pt},qs.length≤130→Rl 4 4 5 0 114 15 (wrT qs k ds e 0) (wrH s n d qs ra rb n' d' s') (.exit 0) (wrE qs k ds e) (wrH s n d qs ra rb n' d' s'):=fun {k ds n' d' e s'} hl=>by
  refine RunsL.rounds (fun j=>wrT qs k ds e j) (fun _=>wrH s n d qs ra rb n' d' s') qs.length 0 (Nat.zero_add _) (fun j _ hj r=>?_) (qs0 (hlt:=df (by omega)))
  obtain⟨aq,ha⟩:=qaj hj
  exact qo4 (hlt:=dt (by omega)) (hin:=qax hj) (hin2:=⟨by omega,by omega⟩) (hk:=ha) (hs:=qao (by omega)) r
 have self:ra.ms.length≤100→Fn 29 1 [rpS 0 ra,rpS 0 ra] [(0,0,rpR ra)] (.pv (.bool true)) 0 []:=fun h=>qo1 ra (by omega)
 by_cases h20:qs.length>20
 ·by_cases h120:qs.length≤120
  ·exact qte (hg:=hg) (h20:=dt (by omega)) (h120:=dt (by omega))
  ·by_cases h130:qs.length>130
   ·exact qtm (hg:=hg) (h20:=dt (by omega)) (h120:=df (by omega)) (h130:=dt (by omega))
   ·by_cases ha:ra.ms.length>100
    ·exact qw9 (hg:=hg) (h20:=dt (by omega)) (h120:=df (by omega)) (h130:=df (by omega)) (ha:=dt (by omega))
    ·by_cases hb:rb.ms.length>100
     ·exact qxs (hg:=hg) (h20:=dt (by omega)) (h120:=df (by omega)) (h130:=df (by omega)) (ha:=df (by omega)) (hb:=dt (by omega))
     ·obtain⟨rs,n',d',s',e,w,a1,a2,a3,a4,a5,b1,b2⟩:=main (by omega) (by omega)
      exact qto (hg:=hg) (h20:=dt (by omega)) (h120:=df (by omega)) (h130:=df (by omega)) (ha:=df (by omega)) (hb:=df (by omega)) (ht:=tw) (hm:=by omega) (hr1:=flip a4) (hr2:=a5) (r0:=rl (by omega)) (hs1:=qez a1) (hs2:=qjJ a2 a3) (hp:=b1) (hq:=b2) (hi:=self (by omega)) (hs3:=qez (by omega))
 ·by_cases ha:ra.ms.length>100
  ·exact qu6 (hg:=hg) (h20:=df (by omega)) (h130:=df (by omega)) (ha:=dt (by omega))
  ·by_cases hb:rb.ms.length>100
   ·exact qwh (hg:=hg) (h20:=df (by omega)) (h130:=df (by omega)) (ha:=df (by omega)) (hb:=dt (by omega))
   ·obtain⟨rs,n',d',s',e,w,a1,a2,a3,a4,a5,b1,b2⟩:=main (by omega) (by omega)
    exact qsj (hg:=hg) (h20:=df (by omega)) (h130:=df (by omega)) (ha:=df (by omega)) (hb:=df (by omega)) (ht:=tw) (hm:=by omega) (hr1:=flip a4) (hr2:=a5) (r0:=rl (by omega)) (hs1:=qez a1) (hs2:=qjJ a2 a3) (hp:=b1) (hq:=b2) (hi:=self (by omega)) (hs3:=qez (by omega))
theorem qmj (n d:Int) (s:List Pt) (hn:I64 n) (hd:I64 d) (qs:List AskQ) (hq:∀ a∈qs,qrc a) (ra rb:Rep) :
 Fn 5 4 [moS 0 s n d,.ls 1 qs.length,rpS 2 ra,rpS 3 rb] [(0,0,qad s),(1,0,qbu qs),(2,0,rpR ra),(3,0,rpR rb)] (.pv (.bool true)) 0 []:=qoE hn hd hq
theorem qtl {f:FuncId} (h:Fn f 4 [moS 0 s n d,.ls 1 qs.length,rpS 2 ra,rpS 3 rb] [(0,0,qad s),(1,0,qbu qs),(2,0,rpR ra),(3,0,rpR rb)] (.pv (.bool true)) 0 []) (hs:Rd W 3 u s.length (qaY s)) (hq:Rd W 7 v qs.length (qbl qs)) (ha:Rd W 4 w1 ra.ms.length (msV ra.ms)) (hb:Rd W 4 w2 rb.ms.length (msV rb.ms)) :
 Calls Tryz.prog f #[.agg #[iV n,iV d,u],v,.agg #[iV ra.e,iV ra.id,iV ra.ot,iV ra.n,iV ra.d,w1],.agg #[iV rb.e,iV rb.id,iV rb.ot,iV rb.n,iV rb.d,w2]] W fun e W'=>e=.returned (.bool true)∧Gr W W':=
 qqQ (rs:=[(34,3,s.length,qaY s),(42,7,qs.length,qbl qs),(95,4,ra.ms.length,msV ra.ms),(95,4,rb.ms.length,msV rb.ms)]) (us:=[u,v,w1,w2]) h (.cons hs (qgP s) (.cons hq (qoy qs) (.cons ha (qmr ra.ms) (.cons hb (qmr rb.ms) .nil))))
  ⟨⟨[iV n,iV d,u],⟨rfl,rfl,⟨rfl,hs.zsl⟩,tI⟩,rfl⟩,⟨rfl,hq.zsl⟩,⟨[iV ra.e,iV ra.id,iV ra.ot,iV ra.n,iV ra.d,w1],⟨rfl,rfl,rfl,rfl,rfl,⟨rfl,ha.zsl⟩,tI⟩,rfl⟩,⟨[iV rb.e,iV rb.id,iV rb.ot,iV rb.n,iV rb.d,w2],⟨rfl,rfl,rfl,rfl,rfl,⟨rfl,hb.zsl⟩,tI⟩,rfl⟩,tI⟩
end
end Go.Proofs.YtleaeldgaflmkaaGreat
