/-
  Joined: Mn, Ha, Mo, Mq, Mr. Conditions: none.
-/
import Derived.Test.YtleaeldgaflmkaaGreatW42
import Derived.Test.YtleaeldgaflmkaaGreatW32
import Derived.Test.YtleaeldgaflmkaaGreatW25
import Derived.Test.YtleaeldgaflmkaaGreatW37
import Derived.Test.YtleaeldgaflmkaaGreatW31
namespace Go.Proofs.YtleaeldgaflmkaaGreat
set_option maxRecDepth 100000
open Go.RowKit
structure MSpec (p q:Pt) (m:Mt):Prop where
 n:I64 m.n
 d:I64 m.d
 ok:okB m.n m.d=true
 eq:m.n*(p.b-q.b)=(q.a-p.a)*m.d
 i:m.i=p.id
 j:m.j=q.id
 run:Pure Tryz.prog 133 #[ptV p,ptV q] (qaa m.n m.d)
noncomputable def fM (x:Pt×Pt):Option Mt:=open Classical in if x.1.b=x.2.b then none else if h:∃ m,MSpec x.1 x.2 m then some h.choose else none
theorem qmv {x:Pt×Pt} (h:x.1.b=x.2.b):fM x=none:=by unfold fM;rw[if_pos h]
theorem qiB {x:Pt×Pt} (h1:qcX x.1=true) (h2:qcX x.2=true) (h:x.1.b≠x.2.b):∃ m,fM x=some m∧MSpec x.1 x.2 m:=by
 have hex:∃ m,MSpec x.1 x.2 m:=by
  obtain⟨n,d,k1,k2,k3,k4,k5,_⟩:=qhE h1 h2 h
  exact⟨⟨n,d,x.1.id,x.2.id⟩,k2,k3,k1,k4,rfl,rfl,k5⟩
 unfold fM
 rw[if_neg h,dif_pos hex]
 exact⟨_,rfl,hex.choose_spec⟩
theorem qrJ {p:Pt} {r:List Pt} (h:Up (p::r)):Up r:=fun k a b h1 h2=>h (k+1) a b (by simpa using h1) (by simpa using h2)
theorem qdw {l:List Pt} {x:Pt×Pt} (h:x∈qau l):x.1∈l∧x.2∈l:=by
 induction l with
 | nil=>cases h
 | cons p r ih=>
  rw[qau] at h
  rcases List.mem_append.1 h with h | h
  ·obtain⟨q,hq,rfl⟩:=List.mem_map.1 h
   exact⟨List.mem_cons_self,List.mem_cons_of_mem _ hq⟩
  ·exact⟨List.mem_cons_of_mem _ (ih h).1,List.mem_cons_of_mem _ (ih h).2⟩
theorem qqD {l:List Pt} (hu:Up l) {x:Pt×Pt} (h:x∈qau l):x.1.id<x.2.id:=by
 induction l with
 | nil=>cases h
 | cons p r ih=>
  rw[qau] at h
  rcases List.mem_append.1 h with h | h
  ·obtain⟨q,hq,rfl⟩:=List.mem_map.1 h
   obtain⟨k,hk,rfl⟩:=List.getElem_of_mem hq
   exact hu.mono (i:=0) (j:=k+1) (by omega) rfl (by simp[hk])
  ·exact ih (qrJ hu) h
theorem qrf {l:List Pt} (hv:Val l) {x:Pt×Pt} (h:x∈qau l):(x.1.b=x.2.b∧fM x=none)∨(x.1.b≠x.2.b∧∃ m,fM x=some m∧MSpec x.1 x.2 m):=by
 by_cases hb:x.1.b=x.2.b
 ·exact Or.inl ⟨hb,qmv hb⟩
 ·exact Or.inr ⟨hb,qiB (hv.ok _ (qdw h).1) (hv.ok _ (qdw h).2) hb⟩
noncomputable abbrev qfy (l:List Pt):List Mt:=(qau l).filterMap fM
theorem qwi {l:List Pt} (hv:Val l) {m:Mt} (h:m∈qfy l):∃ x∈qau l,MSpec x.1 x.2 m∧x.1.b≠x.2.b:=by
 obtain⟨x,hx,e⟩:=List.mem_filterMap.1 h
 rcases qrf hv hx with ⟨_,h1⟩ | ⟨hb,m',h1,h2⟩
 ·rw[h1] at e;cases e
 ·rw[h1] at e;cases e;exact⟨x,hx,h2,hb⟩
theorem qlq {l:List Pt} (hv:Val l):∀ m∈qfy l,MtOk m:=fun m h=>by
 obtain⟨x,_,h2,_⟩:=qwi hv h
 exact⟨h2.n,h2.d,h2.ok⟩
theorem qnu {l:List Pt} (hv:Val l):Meets l fM where
 len:=by have:=hv.len;omega
 run:=fun x hx=>by
  have o1:=hv.ok _ (qdw hx).1
  have o2:=hv.ok _ (qdw hx).2
  have hlt:=qqD hv.up hx
  rcases qrf hv hx with ⟨hb,h⟩ | ⟨hb,m,h,hm⟩
  ·refine Or.inl ⟨h,?_⟩
   have:=qmu (pi:=x.1.id) (pa:=x.1.a) (qi:=x.2.id) (qa:=x.2.a) (b:=x.1.b) o1 (by rw[hb];exact o2) (by omega)
   rw[show ptV x.2=qab x.2.id x.2.a x.1.b by rw[hb]]
   exact this
  ·refine Or.inr ⟨m.n,m.d,?_,qmZ o1 o2 (by omega) hb hm.run⟩
   rw[h,← hm.i,← hm.j]
 ok:=qlq hv
end Go.Proofs.YtleaeldgaflmkaaGreat

namespace Go.Proofs.YtleaeldgaflmkaaGreat
set_option maxRecDepth 100000
open Go.RowKit
structure Ld where
 n:Int
 d:Int
 id:Int
def quo:List Ld→List Value
 | []=>[]
 | m::r=>iV m.n::iV m.d::iV m.id::quo r
theorem qg2:∀ {l:List Ld} {k:Nat} {m:Ld},l[k]?=some m→(quo l)[k*3]?=some (iV m.n)∧(quo l)[k*3+1]?=some (iV m.d)∧(quo l)[k*3+2]?=some (iV m.id)
 | [],k,p,h=>by simp at h
 | q::r,0,p,h=>by simp at h;subst h;exact⟨rfl,rfl,rfl⟩
 | q::r,k+1,p,h=>by
  have:=qg2 (l:=r) (k:=k) (m:=p) (by simpa using h)
  rw[show (k+1)*3=k*3+1+1+1 by omega]
  exact this
theorem qAc {l:List Ld} {k:Nat} {m:Ld} (h:l[k]?=some m):qes (quo l) (0*3+k*3) [iV m.n,iV m.d]:=by
 obtain⟨h1,h2,h3⟩:=qg2 h
 intro j v hj
 rw[show 0*3+k*3+j=k*3+j by omega]
 match j,hj with
 | 0,hj=>cases hj;exact h1
 | 1,hj=>cases hj;exact h2
 | j+2,hj=>simp at hj
theorem qAm {l:List Ld} {k:Nat} {m:Ld} (h:l[k]?=some m):qes (quo l) (0*3+k*3+2) [iV m.id]:=by
 obtain⟨h1,h2,h3⟩:=qg2 h
 intro j v hj
 match j,hj with
 | 0,hj=>cases hj;rw[show 0*3+k*3+2+0=k*3+2 by omega];exact h3
 | j+1,hj=>simp at hj
section
variable {x y:Ld} {e:Int} {a b c:Bool}
end
end Go.Proofs.YtleaeldgaflmkaaGreat

namespace Go.Proofs.YtleaeldgaflmkaaGreat
set_option maxRecDepth 100000
open Go.RowKit
abbrev mcV (m:Mt):List Value:=[iV m.n,iV m.d,iV m.i,iV m.j]
def msV:List Mt→List Value
 | []=>[]
 | m::r=>iV m.n::iV m.d::iV m.i::iV m.j::msV r
theorem qd3:∀ (a b:List Mt),msV (a++b)=msV a++msV b
 | [],_=>rfl
 | p::r,b=>by simp[msV,qd3 r b]
theorem qcV:∀ (l:List Mt),(msV l).length=l.length*4
 | []=>rfl
 | p::r=>by simp[msV,qcV r];omega
theorem qgL:∀ {l:List Mt} {k:Nat} {m:Mt},l[k]?=some m→(msV l)[k*4]?=some (iV m.n)∧(msV l)[k*4+1]?=some (iV m.d)∧(msV l)[k*4+2]?=some (iV m.i)∧(msV l)[k*4+3]?=some (iV m.j)
 | [],k,p,h=>by simp at h
 | q::r,0,p,h=>by simp at h;subst h;exact⟨rfl,rfl,rfl,rfl⟩
 | q::r,k+1,p,h=>by
  have:=qgL (l:=r) (k:=k) (m:=p) (by simpa using h)
  rw[show (k+1)*4=k*4+1+1+1+1 by omega]
  exact this
theorem qgk {l:List Mt} {k:Nat} {m:Mt} (h:l[k]?=some m):qes (msV l) (0*4+k*4) (mcV m):=by
 obtain⟨h1,h2,h3,h4⟩:=qgL h
 intro j v hj
 rw[show 0*4+k*4+j=k*4+j by omega]
 match j,hj with
 | 0,hj=>cases hj;exact h1
 | 1,hj=>cases hj;exact h2
 | 2,hj=>cases hj;exact h3
 | 3,hj=>cases hj;exact h4
 | j+4,hj=>simp at hj
abbrev qc0 (l:List Mt):SV:=.row 95 4 l.length (msV l)
theorem qte (l:List Mt) (m:Mt):msV l++mcV m=msV (l++[m]):=by rw[qd3];rfl
theorem qhH (b:Nat) (l:List Mt) (m:Mt):SV.ls b (l.length+1)=SV.ls b (l++[m]).length:=by rw[List.length_append];rfl
theorem qhf (l:List Mt) (m:Mt):some (SV.row 95 4 (l.length+1) (msV l++mcV m))=some (qc0 (l++[m])):=by rw[qte,qc0,List.length_append];rfl
theorem qqQ:∀ (l:List Mt) (k:Nat) (m:Mt),k<l.length→msV (l.set k m)=qfJ (msV l) (k*4) (mcV m)
 | [],k,m,h=>by simp at h
 | q::r,0,m,h=>by cases q;rfl
 | q::r,k+1,m,h=>by
  rw[List.set_cons_succ,msV,msV,show (k+1)*4=k*4+1+1+1+1 by omega,qqQ r k m (by simpa using h)]
  rfl
theorem qjZ (l:List Mt) (k:Nat) (m:Mt) (h:k<l.length):msV (l.set k m)=qfJ (msV l) (0*4+k*4) (mcV m):=by rw[show 0*4+k*4=k*4 by omega];exact qqQ l k m h
theorem qoA (l:List Mt) (k:Nat) (h:k<l.length):0*4+k*4+4≤(msV l).length:=by rw[qcV];omega
def quv (a b:Mt):Bool:=if (a.n*b.d-b.n*a.d).sign=0 then (if a.i=b.i then decide (a.j<b.j) else decide (a.i<b.i)) else decide ((a.n*b.d-b.n*a.d).sign<0)
section
variable {a b:Mt} {c:Int} {t:Bool}
theorem qAk (h:Pure Tryz.prog 33 #[qaa a.n a.d,qaa b.n b.d] (iV c)) (h1:(c !=0)=true) (h2:decide (c<0)=t):Pure Tryz.prog 146 #[qar a,qar b] (.bool t):=
 qac (args:=[qar a,qar b]) 200 [Rf h,.t true,.t t] (Ai rfl (Ai h (Ai h1 (Ai h2 tI)))) (by kernel_rfl)
theorem qAj (h:Pure Tryz.prog 33 #[qaa a.n a.d,qaa b.n b.d] (iV 0)) (h1:(a.i !=b.i)=true) (h2:decide (a.i<b.i)=t):Pure Tryz.prog 146 #[qar a,qar b] (.bool t):=
 qac (args:=[qar a,qar b]) 200 [Rf h,.k,.t true,.t t] (Ai rfl (Ai h (Ai h1 (Ai h2 tI)))) (by kernel_rfl)
theorem qAn (h:Pure Tryz.prog 33 #[qaa a.n a.d,qaa b.n b.d] (iV 0)) (h1:(a.i !=b.i)=false) (h2:decide (a.j<b.j)=t):Pure Tryz.prog 146 #[qar a,qar b] (.bool t):=
 qac (args:=[qar a,qar b]) 200 [Rf h,.k,.t false,.t t] (Ai rfl (Ai h (Ai h1 (Ai h2 tI)))) (by kernel_rfl)
end
theorem qnY {a b:Mt} (ha:MtOk a) (hb:MtOk b):Pure Tryz.prog 146 #[qar a,qar b] (.bool (quv a b)):=by
 have h:=qbF ha.n ha.d hb.n hb.d
 unfold quv
 by_cases g:(a.n*b.d-b.n*a.d).sign=0
 ·rw[if_pos g]
  rw[g] at h
  by_cases g1:a.i=b.i
  ·rw[if_pos g1];exact qAn h (by simpa using g1) rfl
  ·rw[if_neg g1];exact qAj h (by simpa using g1) rfl
 ·rw[if_neg g];exact qAk h (by simpa using g) rfl
abbrev qru (l:List Pt) (m:List Mt):HpL:=[(1,0,.ls 0 l.length),(0,0,qad l),(2,0,qc0 (m))]
abbrev qyp (i:Nat) (k:Nat) (m:List Mt):TmL:=[(1,.pp 1 0),(3,.ls 2 (m).length),(4,.pv (iV (i:Int))),(5,.pv (iV (k:Int)))]
theorem qxU {l:List Pt} {i k:Nat} {p q:Pt} {m:List Mt} (hi:l[i]?=some p) (hk:l[k]?=some q) (hii:0≤(i:Int)∧(i:Int)<(l.length:Int)) (hin:0≤(k:Int)∧(k:Int)<(l.length:Int)) (hlt:decide ((k:Int)<(l.length:Int))=true) (hb:(!(p.b==q.b))=false) (hs:iV (IntKind.i64.wrap ((k:Int)+1))=iV (((k+1:Nat):Int))) {e:Exit} {tm2:TmL} {hp2:HpL}
 (r:Rl 1 1 125 1 92 3 ([(1,.pp 1 0),(3,.ls 2 (m).length),(4,.pv (iV (i:Int))),(5,.pv (iV ((k+1:Nat):Int)))]) (qru l m) e tm2 hp2):Rl 1 1 125 1 92 3 (qyp i k m) (qru l m) e tm2 hp2:=
 RunsL.next [] 300 [.t true,.r (ptV p),.r (ptV q),.t false,Re hs]
  (Ro (Ai hlt (Ai hii (Ai (qa4 hi) (Ai hin (Ai (qa4 hk) (Ai hb (Ai hs tI)))))))) r
theorem qvb {l:List Pt} {i k:Nat} {p q:Pt} {m:List Mt} {n d:Int} (hi:l[i]?=some p) (hk:l[k]?=some q) (hii:0≤(i:Int)∧(i:Int)<(l.length:Int)) (hin:0≤(k:Int)∧(k:Int)<(l.length:Int)) (hlt:decide ((k:Int)<(l.length:Int))=true) (hb:(!(p.b==q.b))=true) (hm:Pure Tryz.prog 145 #[ptV p,ptV q] (qaa n d)) (hl:m.length+1≤1000000) (hs:iV (IntKind.i64.wrap ((k:Int)+1))=iV (((k+1:Nat):Int))) {e:Exit} {tm2:TmL} {hp2:HpL}
 (r:Rl 1 1 125 1 92 3 ([(1,.pp 1 0),(3,.ls 2 (m++[Mt.mk n d p.id q.id]).length),(4,.pv (iV (i:Int))),(5,.pv (iV ((k+1:Nat):Int)))]) ([(1,0,.ls 0 l.length),(0,0,qad l),(2,0,qc0 (m++[Mt.mk n d p.id q.id]))]) e tm2 hp2):Rl 1 1 125 1 92 3 (qyp i k m) (qru l m) e tm2 hp2:=
 RunsL.next [(2,6)] 300 [.t true,.r (ptV p),.r (ptV q),.t true,Rf hm,Re hs]
  (qfL (Ai (Eq.refl (SV.pp 1 0)) (Ai (qhH 6 m (Mt.mk n d p.id q.id)) (Ai (Eq.refl (SV.pv (iV (i:Int)))) (Ai (Eq.refl (SV.pv (iV ((k+1:Nat):Int)))) tI)))) (Ai (Er (SV.ls 0 l.length)) (Ai (Er (qad l)) (Ai (qhf m (Mt.mk n d p.id q.id)) tI))) (Ai hlt (Ai hii (Ai (qa4 hi) (Ai hin (Ai (qa4 hk) (Ai hb (Ai hm (Ai hl (Ai hs tI))))))))) (by kernel_rfl)) r
theorem qwp {l:List Pt} {i k:Nat} {m:List Mt} (hge:decide ((k:Int)<(l.length:Int))=false):Rl 1 1 125 1 92 3 (qyp i k m) (qru l m) (.exit 2) ([(1,.pp 1 0),(3,.ls 2 (m).length),(4,.pv (iV (i:Int)))]) (qru l m):=
 RunsL.stop [] 300 [.t false] (fun h=>by cases h)
  (Ro (Ai hge tI))
theorem qsZ {l:List Pt} {i:Nat} {m m2:List Mt} (hlt:decide ((i:Int)<(l.length:Int))=true) (hs:iV (IntKind.i64.wrap ((i:Int)+1))=iV (((i+1:Nat):Int))) (r1:Rl 1 1 125 1 92 3 ([(1,.pp 1 0),(3,.ls 2 (m).length),(4,.pv (iV (i:Int))),(5,.pv (iV ((i+1:Nat):Int)))]) (qru l m) (.exit 2) ([(1,.pp 1 0),(3,.ls 2 (m2).length),(4,.pv (iV (i:Int)))]) ([(1,0,.ls 0 l.length),(0,0,qad l),(2,0,qc0 (m2))])) {e:Exit} {tm2:TmL} {hp2:HpL}
 (r:Rl 1 1 125 0 92 3 ([(1,.pp 1 0),(3,.ls 2 (m2).length),(4,.pv (iV ((i+1:Nat):Int)))]) ([(1,0,.ls 0 l.length),(0,0,qad l),(2,0,qc0 (m2))]) e tm2 hp2):Rl 1 1 125 0 92 3 ([(1,.pp 1 0),(3,.ls 2 (m).length),(4,.pv (iV (i:Int)))]) (qru l m) e tm2 hp2:=
 RunsL.next [] 300 [.t true,Re hs,Lf r1,Re hs]
  (Ro (Ai hlt (Ai hs (Lo r1 [] (Ai hs tI))))) r
theorem qvd {l:List Pt} {i:Nat} {m:List Mt} (hlt:decide ((i:Int)<(l.length:Int))=false):Rl 1 1 125 0 92 3 ([(1,.pp 1 0),(3,.ls 2 (m).length),(4,.pv (iV (i:Int)))]) (qru l m) (.exit 0) ([(3,.ls 2 (m).length)]) ([(2,0,.row 95 4 m.length (msV m))]):=
 RunsL.stop [] 300 [.t false] (fun h=>by cases h)
  (Ro (Ai hlt tI))
abbrev quj (j:Nat) (n:Nat):TmL:=[(3,.ls 2 n),(8,.pv (iV (j:Int)))]
theorem qsF {j n:Nat} {m m2:List Mt} (hlt:decide ((j:Int)<(n:Int))=true) (r1:Rl 1 1 125 3 92 3 ([(3,.ls 2 n),(8,.pv (iV (j:Int))),(9,.pv (iV (j:Int)))]) ([(2,0,.row 95 4 n (msV (m)))]) (.exit 6) (quj j n) ([(2,0,.row 95 4 n (msV (m2)))])) (hs:iV (IntKind.i64.wrap ((j:Int)+1))=iV (((j+1:Nat):Int))) {e:Exit} {tm2:TmL} {hp2:HpL}
 (r:Rl 1 1 125 2 92 3 ([(3,.ls 2 n),(8,.pv (iV ((j+1:Nat):Int)))]) ([(2,0,.row 95 4 n (msV (m2)))]) e tm2 hp2):Rl 1 1 125 2 92 3 (quj j n) ([(2,0,.row 95 4 n (msV (m)))]) e tm2 hp2:=
 RunsL.next [] 300 [.t true,Lf r1,Re hs]
  (Ro (Ai hlt (Lo r1 [] (Ai hs tI)))) r
theorem qrB {j n:Nat} {m:List Mt} (hlt:decide ((j:Int)<(n:Int))=false):Rl 1 1 125 2 92 3 (quj j n) ([(2,0,.row 95 4 n (msV (m)))]) (.exit 4) ([(3,.ls 2 n)]) ([(2,0,.row 95 4 n (msV (m)))]):=
 RunsL.stop [] 300 [.t false] (fun h=>by cases h)
  (Ro (Ai hlt tI))
theorem qrX {j n:Nat} {m:List Mt} (h0:decide (((0:Nat):Int)>0)=false):Rl 1 1 125 3 92 3 ([(3,.ls 2 n),(8,.pv (iV (j:Int))),(9,.pv (iV ((0:Nat):Int)))]) ([(2,0,.row 95 4 n (msV (m)))]) (.exit 6) (quj j n) ([(2,0,.row 95 4 n (msV (m)))]):=
 RunsL.stop [] 300 [.t false] (fun h=>by cases h)
  (Ro (Ai h0 tI))
theorem qzl {j k n:Nat} {m:List Mt} {a b:Mt} (hq:m[k]?=some b) (hk:m[k+1]?=some a) (hi0:0≤(k:Int)∧(k:Int)<(n:Int)) (hi1:0≤((k+1:Nat):Int)∧((k+1:Nat):Int)<(n:Int)) (h0:decide (((k+1:Nat):Int)>0)=true) (hm:iV (IntKind.i64.wrap (((k+1:Nat):Int)-1))=iV (k:Int)) (hb:Pure Tryz.prog 146 #[qar a,qar b] (.bool false)):Rl 1 1 125 3 92 3 ([(3,.ls 2 n),(8,.pv (iV (j:Int))),(9,.pv (iV ((k+1:Nat):Int)))]) ([(2,0,.row 95 4 n (msV (m)))]) (.exit 6) (quj j n) ([(2,0,.row 95 4 n (msV (m)))]):=
 RunsL.stop [] 300 [.t true,.r (qar a),.r (iV (k:Int)),.r (qar b),Rf hb] (fun h=>by cases h)
  (Ro (Ai h0 (Ai hi1 (Ai (qgk hk) (Ai hm (Ai hi0 (Ai (qgk hq) (Ai hb tI))))))))
theorem qu0 {j k n:Nat} {m:List Mt} {a b:Mt} (hq:m[k]?=some b) (hk:m[k+1]?=some a) (hi0:0≤(k:Int)∧(k:Int)<(n:Int)) (hi1:0≤((k+1:Nat):Int)∧((k+1:Nat):Int)<(n:Int)) (h0:decide (((k+1:Nat):Int)>0)=true) (hm:iV (IntKind.i64.wrap (((k+1:Nat):Int)-1))=iV (k:Int)) (hb:Pure Tryz.prog 146 #[qar a,qar b] (.bool true)) (hl0:k+1<m.length) {e:Exit} {tm2:TmL} {hp2:HpL}
 (r:Rl 1 1 125 3 92 3 ([(3,.ls 2 n),(8,.pv (iV (j:Int))),(9,.pv (iV (k:Int)))]) ([(2,0,.row 95 4 n (msV ((m.set (k+1) b).set k a)))]) e tm2 hp2):Rl 1 1 125 3 92 3 ([(3,.ls 2 n),(8,.pv (iV (j:Int))),(9,.pv (iV ((k+1:Nat):Int)))]) ([(2,0,.row 95 4 n (msV (m)))]) e tm2 hp2:=
 RunsL.next [] 300 [.t true,.r (qar a),.r (iV (k:Int)),.r (qar b),Rf hb,.gr,.r (iV (k:Int)),.r (iV (k:Int)),.r (qar b),.r (qar a),.w (msV (m.set (k+1) b)),.w (msV ((m.set (k+1) b).set k a)),.r (iV (k:Int))]
  (Ro (Ai h0 (Ai hi1 (Ai (qgk hk) (Ai hm (Ai hi0 (Ai (qgk hq) (Ai hb (Ai hm (Ai hm (Ai hi0 (Ai hi1 (Ai (qgk hq) (Ai (qgk hk) (Ai hi1 (Ai (qjZ m (k+1) b hl0) (Ai (qoA m (k+1) hl0) (Ai hi0 (Ai (qjZ (m.set (k+1) b) k a (by rw[List.length_set];omega)) (Ai (qoA (m.set (k+1) b) k (by rw[List.length_set];omega)) (Ai hm tI))))))))))))))))))))) r
theorem qsQ {l:List Pt} {m m2:List Mt} (r0:Rl 1 1 125 0 92 3 ([(1,.pp 1 0),(3,.ls 2 ([]:List Mt).length),(4,.pv (iV ((0:Nat):Int)))]) ([(1,0,.ls 0 l.length),(0,0,qad l),(2,0,qc0 ([]:List Mt))]) (.exit 0) ([(3,.ls 2 (m).length)]) ([(2,0,.row 95 4 m.length (msV m))])) (r2:Rl 1 1 125 2 92 3 ([(3,.ls 2 m.length),(8,.pv (iV ((1:Nat):Int)))]) ([(2,0,.row 95 4 m.length (msV (m)))]) (.exit 4) ([(3,.ls 2 m.length)]) ([(2,0,.row 95 4 m.length (msV (m2)))])) :
 Fn 125 1 [qaq 0 l] [(0,0,qad l)] (.ls 1 m.length) 1 [(1,0,.row 95 4 m.length (msV m2))]:=
 Fz [(1,2)] [.ln true 3 0 95 4,Lf r0,Lf r2]
  (qaH (qaG [(1,2)]) [(1,0,.row 95 4 m.length (msV m2))]) (Lo r0 [] (Lo r2 [] tI))
theorem qgz {l:List Pt} (hv:Val l) {i:Nat} {p:Pt} (hi:l[i]?=some p):∀ (d k:Nat) (m:List Mt),k+d=l.length→i<k→m.length+d≤6000→
 Rl 1 1 125 1 92 3 ([(1,.pp 1 0),(3,.ls 2 (m).length),(4,.pv (iV (i:Int))),(5,.pv (iV (k:Int)))]) ([(1,0,.ls 0 l.length),(0,0,qad l),(2,0,qc0 (m))]) (.exit 2)
  ([(1,.pp 1 0),(3,.ls 2 (m++((l.drop k).map fun q=>(p,q)).filterMap fM).length),(4,.pv (iV (i:Int)))]) ([(1,0,.ls 0 l.length),(0,0,qad l),(2,0,qc0 (m++((l.drop k).map fun q=>(p,q)).filterMap fM))])
 | 0,k,m,hd,hik,hm=>by
  rw[List.drop_eq_nil_of_le (by omega),List.map_nil,List.filterMap_nil,List.append_nil]
  exact qwp (df (by omega))
 | d+1,k,m,hd,hik,hm=>by
  obtain⟨q,hq⟩:=qan (l:=l) (k:=k) (by omega)
  have hkl:=qaw hq
  have hil:=qaw hi
  have e:l.drop k=q::l.drop (k+1):=by
   obtain⟨h1,rfl⟩:=List.getElem?_eq_some_iff.1 hq
   exact List.drop_eq_getElem_cons h1
  have o1:=hv.ok _ (List.mem_of_getElem? hi)
  have o2:=hv.ok _ (List.mem_of_getElem? hq)
  rw[e,List.map_cons]
  by_cases hb:p.b=q.b
  ·rw[List.filterMap_cons_none (qmv (x:=(p,q)) hb)]
   exact qxU hi hq (qaB hil) (qaB hkl) (dt (by omega)) (by simp[hb]) (qeH hkl hv.len) (qgz hv hi d (k+1) m (by omega) (by omega) (by omega))
  ·obtain⟨mt,h1,h2⟩:=qiB (x:=(p,q)) o1 o2 hb
   rw[List.filterMap_cons_some h1]
   have r:=qgz hv hi d (k+1) (m++[mt]) (by omega) (by omega) (by rw[List.length_append];simp;omega)
   rw[List.append_assoc,List.singleton_append] at r
   have em:Mt.mk mt.n mt.d p.id q.id=mt:=by rw[← h2.i,← h2.j]
   have mm:=qv5 (pi:=p.id) (pa:=p.a) (pb:=p.b) (qi:=q.id) (qa:=q.a) (qb:=q.b) o1 o2 hb h2.ok h2.n h2.d h2.eq
   exact qvb hi hq (qaB hil) (qaB hkl) (dt (by omega)) (by simp[hb]) mm (by omega) (qeH hkl hv.len) (by rw[em];exact r)
theorem qhz {l:List Pt} (hv:Val l):∀ (d i:Nat) (m:List Mt),i+d=l.length→m.length+d*64≤5000→
 Rl 1 1 125 0 92 3 ([(1,.pp 1 0),(3,.ls 2 (m).length),(4,.pv (iV (i:Int)))]) ([(1,0,.ls 0 l.length),(0,0,qad l),(2,0,qc0 (m))]) (.exit 0)
  ([(3,.ls 2 (m++(qau (l.drop i)).filterMap fM).length)]) ([(2,0,.row 95 4 (m++(qau (l.drop i)).filterMap fM).length (msV (m++(qau (l.drop i)).filterMap fM)))])
 | 0,i,m,hd,hm=>by
  rw[List.drop_eq_nil_of_le (by omega),qau,List.filterMap_nil,List.append_nil]
  exact qvd (df (by omega))
 | d+1,i,m,hd,hm=>by
  obtain⟨p,hp⟩:=qan (l:=l) (k:=i) (by omega)
  have hil:=qaw hp
  have hlen:=hv.len
  have e:l.drop i=p::l.drop (i+1):=by
   obtain⟨h1,rfl⟩:=List.getElem?_eq_some_iff.1 hp
   exact List.drop_eq_getElem_cons h1
  have r1:=qgz hv hp d (i+1) m (by omega) (by omega) (by omega)
  have hfl:(((l.drop (i+1)).map fun q=>(p,q)).filterMap fM).length≤64:=by
   refine Nat.le_trans (List.length_filterMap_le _ _) ?_
   rw[List.length_map,List.length_drop];omega
  rw[e,qau,List.filterMap_append,← List.append_assoc]
  exact qsZ (dt (by omega)) (qeH hil hlen) r1 (qhz hv d (i+1) _ (by omega) (by rw[List.length_append];omega))
def qfx (x:Mt):List Mt→List Mt
 | []=>[x]
 | a::R=>if quv x a=true then a::qfx x R else x::a::R
theorem qeE (x:Mt):∀ (R:List Mt),(qfx x R).length=R.length+1
 | []=>rfl
 | a::R=>by
  unfold qfx
  split
  ·simp[qeE x R]
  ·rfl
theorem qg7 {n j:Nat} (hn:n≤100000) {x:Mt} (hx:MtOk x):∀ (R C:List Mt),R.length+1+C.length=n→(∀ a∈R,MtOk a)→
 Rl 1 1 125 3 92 3 ([(3,.ls 2 n),(8,.pv (iV (j:Int))),(9,.pv (iV (R.length:Int)))]) ([(2,0,.row 95 4 n (msV (R.reverse++x::C)))]) (.exit 6)
  (quj j n) ([(2,0,.row 95 4 n (msV ((qfx x R).reverse++C)))])
 | [],C,hl,_=>qrX (df (by decide))
 | a::R,C,hl,hR=>by
  simp only[List.length_cons] at hl
  have e0:(a::R).reverse++x::C=R.reverse++a::x::C:=by simp
  have hq:((a::R).reverse++x::C)[R.length]?=some a:=by
   rw[e0,List.getElem?_append_right (by simp)];simp
  have hk:((a::R).reverse++x::C)[R.length+1]?=some x:=by
   rw[e0,List.getElem?_append_right (by simp)];simp
  have hbf:=qnY hx (hR a List.mem_cons_self)
  have hw:iV (IntKind.i64.wrap (((R.length+1:Nat):Int)-1))=iV (R.length:Int):=by rw[qah (by omega) (by omega),show ((R.length+1:Nat):Int)-1=(R.length:Int) by omega]
  show RunsL Tryz.prog 1 1 _ 92 3 ([(3,.ls 2 n),(8,.pv (iV (j:Int))),(9,.pv (iV ((R.length+1:Nat):Int)))]) _ _ _ _
  unfold qfx
  cases hb:quv x a with
  | false=>
   rw[hb] at hbf
   rw[if_neg (by simp)]
   have e1:(x::a::R).reverse++C=(a::R).reverse++x::C:=by simp
   rw[e1]
   exact qzl hq hk (qaB (by omega)) (qaB (by omega)) (dt (by omega)) hw hbf
  | true=>
   rw[hb] at hbf
   rw[if_pos rfl]
   have e1:(a::qfx x R).reverse++C=(qfx x R).reverse++a::C:=by simp
   rw[e1]
   have r:=qg7 (j:=j) hn hx R (a::C) (by simp;omega) (fun b hb=>hR b (List.mem_cons_of_mem _ hb))
   have e2:(((a::R).reverse++x::C).set (R.length+1) a).set R.length x=R.reverse++x::a::C:=by
    rw[e0,List.set_append_right _ _ (by simp),List.set_append_right _ _ (by simp)]
    simp
   exact qu0 hq hk (qaB (by omega)) (qaB (by omega)) (dt (by omega)) hw hbf (qaw hk) (by rw[e2];exact r)
def qfC (S:List Mt) (C:List Mt):List Mt:=C.foldl (fun S x=>qfx x S) S
theorem qdA {x y:Mt}:∀ {R:List Mt},y∈qfx x R↔y=x∨y∈R
 | []=>by simp[qfx]
 | a::R=>by
  unfold qfx
  split
  ·rw[List.mem_cons,qdA,List.mem_cons];constructor<;>rintro (h | h | h)<;>simp[h]
  ·simp
theorem qhF {n:Nat} (hn:n≤100000):∀ (C S:List Mt),S.length+C.length=n→(∀ a∈S,MtOk a)→(∀ a∈C,MtOk a)→
 Rl 1 1 125 2 92 3 ([(3,.ls 2 n),(8,.pv (iV (S.length:Int)))]) ([(2,0,.row 95 4 n (msV (S.reverse++C)))]) (.exit 4)
  ([(3,.ls 2 n)]) ([(2,0,.row 95 4 n (msV ((qfC S C).reverse)))])
 | [],S,hl,_,_=>by
  rw[List.append_nil]
  simp only[List.length_nil] at hl
  exact qrB (df (by omega))
 | x::C,S,hl,hS,hC=>by
  simp only[List.length_cons] at hl
  have r1:=qg7 (n:=n) (j:=S.length) hn (hC x List.mem_cons_self) S C (by omega) hS
  have r2:=qhF hn C (qfx x S) (by rw[qeE];omega) (fun a ha=>by
   rcases qdA.1 ha with rfl | h
   ·exact hC _ List.mem_cons_self
   ·exact hS _ h) (fun a ha=>hC a (List.mem_cons_of_mem _ ha))
  rw[qeE] at r2
  exact qsF (dt (by omega)) r1 (by rw[qah (by omega) (by omega)];rfl) r2
noncomputable def srt (l:List Pt):List Mt:=(qfC [] (qfy l)).reverse
theorem qhx:∀ (C S:List Mt),(qfC S C).length=S.length+C.length
 | [],S=>rfl
 | x::C,S=>by
  show (qfC (qfx x S) C).length=_
  rw[qhx C,qeE,List.length_cons];omega
theorem qmt (l:List Pt):(srt l).length=(qfy l).length:=by
 unfold srt
 rw[List.length_reverse,qhx];simp
theorem qha:∀ (l:List Pt),(qau l).length≤l.length*l.length
 | []=>Nat.le_refl _
 | p::r=>by
  have:=qha r
  rw[qau,List.length_append,List.length_map,List.length_cons,Nat.add_mul,Nat.mul_add]
  omega
theorem qom {l:List Pt} (hv:Val l):(qfy l).length≤4096:=by
 refine Nat.le_trans (List.length_filterMap_le _ _) (Nat.le_trans (qha l) ?_)
 exact Nat.mul_le_mul hv.len hv.len
theorem qk5 {l:List Pt} (hv:Val l):Fn 125 1 [qaq 0 l] [(0,0,qad l)] (.ls 1 (qfy l).length) 1 [(1,0,.row 95 4 (qfy l).length (msV (srt l)))]:=by
 have r0:=qhz hv l.length 0 [] (by omega) (by have:=hv.len;simp;omega)
 rw[List.drop_zero,List.nil_append] at r0
 refine qsQ r0 ?_
 have hl:=qom hv
 have hok:=qlq hv
 unfold srt
 show RunsL Tryz.prog 1 1 _ 92 3 ([(3,.ls 2 (qfy l).length),_]) ([(2,0,.row 95 4 (qfy l).length (msV (qfy l)))]) _ _ _
 generalize qfy l=ms at *
 cases ms with
 | nil=>exact qrB (df (by decide))
 | cons c r=>exact qhF (n:=(c::r).length) (by omega) r [c] (by simp;omega) (fun a ha=>hok a (by simp at ha;simp[ha])) (fun a ha=>hok a (List.mem_cons_of_mem _ ha))
end Go.Proofs.YtleaeldgaflmkaaGreat

namespace Go.Proofs.YtleaeldgaflmkaaGreat
set_option maxRecDepth 100000
open Go.RowKit
theorem qjz (x y:Int):(x<y∧cI x y = -1)∨(x=y∧cI x y=0)∨(x>y∧cI x y=1):=by
 unfold cI
 by_cases h1:x<y
 ·rw[if_pos h1];exact Or.inl ⟨h1,rfl⟩
 ·by_cases h2:x>y
  ·rw[if_neg h1,if_pos h2];exact Or.inr (Or.inr ⟨h2,rfl⟩)
  ·rw[if_neg h1,if_neg h2];exact Or.inr (Or.inl ⟨by omega,rfl⟩)
theorem qp0 (x:Int):(x<0∧x.sign = -1)∨(x=0∧x.sign=0)∨(0<x∧x.sign=1):=by
 rcases Int.lt_trichotomy x 0 with h | h | h
 ·exact Or.inl ⟨h,Int.sign_eq_neg_one_of_neg h⟩
 ·exact Or.inr (Or.inl ⟨h,by rw[h];rfl⟩)
 ·exact Or.inr (Or.inr ⟨h,Int.sign_eq_one_of_pos h⟩)
theorem qbl (a b:Mt):(a.n*b.d-b.n*a.d<0∧qcJ a b = -1)∨(a.n*b.d-b.n*a.d>0∧qcJ a b=1)∨
 (a.n*b.d-b.n*a.d=0∧((a.i<b.i∧qcJ a b = -1)∨(a.i>b.i∧qcJ a b=1)∨(a.i=b.i∧((a.j<b.j∧qcJ a b = -1)∨(a.j>b.j∧qcJ a b=1)∨(a.j=b.j∧qcJ a b=0))))):=by
 unfold qcJ
 rcases qp0 (a.n*b.d-b.n*a.d) with ⟨h,e⟩ | ⟨h,e⟩ | ⟨h,e⟩
 ·rw[e,if_pos (by decide)];exact Or.inl ⟨h,rfl⟩
 ·rw[e,if_neg (by decide)]
  refine Or.inr (Or.inr ⟨h,?_⟩)
  rcases qjz a.i b.i with ⟨h1,e1⟩ | ⟨h1,e1⟩ | ⟨h1,e1⟩
  ·rw[e1,if_pos (by decide)];exact Or.inl ⟨h1,rfl⟩
  ·rw[e1,if_neg (by decide)]
   refine Or.inr (Or.inr ⟨h1,?_⟩)
   rcases qjz a.j b.j with ⟨h2,e2⟩ | ⟨h2,e2⟩ | ⟨h2,e2⟩
   ·exact Or.inl ⟨h2,e2⟩
   ·exact Or.inr (Or.inr ⟨h2,e2⟩)
   ·exact Or.inr (Or.inl ⟨h2,e2⟩)
  ·rw[e1,if_pos (by decide)];exact Or.inr (Or.inl ⟨h1,rfl⟩)
 ·rw[e,if_pos (by decide)];exact Or.inr (Or.inl ⟨h,rfl⟩)
theorem qsh (a b:Mt):quv a b=decide (qcJ a b<0):=by
 unfold quv
 rcases qbl a b with ⟨h,e⟩ | ⟨h,e⟩ | ⟨h,⟨h1,e⟩ | ⟨h1,e⟩ | ⟨h1,⟨h2,e⟩ | ⟨h2,e⟩ | ⟨h2,e⟩⟩⟩<;>rw[e]
 ·rw[Int.sign_eq_neg_one_of_neg h];rfl
 ·rw[Int.sign_eq_one_of_pos h];rfl
 ·rw[h,Int.sign_zero,if_pos rfl,if_neg (by omega),dt h1];rfl
 ·rw[h,Int.sign_zero,if_pos rfl,if_neg (by omega),df (by omega)];rfl
 ·rw[h,Int.sign_zero,if_pos rfl,if_pos h1,dt h2];rfl
 ·rw[h,Int.sign_zero,if_pos rfl,if_pos h1,df (by omega)];rfl
 ·rw[h,Int.sign_zero,if_pos rfl,if_pos h1,df (by omega)];rfl
theorem qeh (a b:Mt):qcJ a b = -qcJ b a:=by
 rcases qbl a b with ⟨h,e⟩ | ⟨h,e⟩ | ⟨h,⟨h1,e⟩ | ⟨h1,e⟩ | ⟨h1,⟨h2,e⟩ | ⟨h2,e⟩ | ⟨h2,e⟩⟩⟩<;>rcases qbl b a with ⟨g,f⟩ | ⟨g,f⟩ | ⟨g,⟨g1,f⟩ | ⟨g1,f⟩ | ⟨g1,⟨g2,f⟩ | ⟨g2,f⟩ | ⟨g2,f⟩⟩⟩<;>omega
theorem qrV {an ad bn bd cn cd:Int} (h1:0<ad) (h2:0<bd) (h3:0<cd) :
 (an*bd-bn*ad>0→bn*cd-cn*bd≥0→an*cd-cn*ad>0)∧(an*bd-bn*ad≥0→bn*cd-cn*bd>0→an*cd-cn*ad>0)∧(an*bd-bn*ad=0→bn*cd-cn*bd=0→an*cd-cn*ad=0):=by
 have key:(an*cd-cn*ad)*bd=(an*bd-bn*ad)*cd+(bn*cd-cn*bd)*ad:=by
  rw[Int.sub_mul,Int.sub_mul,Int.sub_mul,Int.mul_right_comm an cd bd,Int.mul_right_comm bn ad cd,Int.mul_right_comm cn ad bd]
  omega
 generalize an*bd-bn*ad=A at *
 generalize bn*cd-cn*bd=B at *
 generalize an*cd-cn*ad=C at *
 have pos:∀ {x:Int},0<x*bd→0<x:=fun {x} h=>by
  rcases Int.lt_trichotomy x 0 with g | g | g
  ·have:=Int.mul_neg_of_neg_of_pos g h2;omega
  ·rw[g,Int.zero_mul] at h;omega
  ·exact g
 refine⟨fun a b=>pos ?_,fun a b=>pos ?_,fun a b=>?_⟩
 ·have:=Int.mul_pos a h3;have:=Int.mul_nonneg b (Int.le_of_lt h1);omega
 ·have:=Int.mul_nonneg a (Int.le_of_lt h3);have:=Int.mul_pos b h1;omega
 ·rw[a,b,Int.zero_mul,Int.zero_mul,Int.add_zero] at key
  rcases Int.mul_eq_zero.1 key with h | h
  ·exact h
  ·omega
theorem qnV {a b c:Mt} (ha:MtOk a) (hb:MtOk b) (hc:MtOk c) (h1:0≤qcJ a b) (h2:0≤qcJ b c):0≤qcJ a c:=by
 obtain⟨t1,t2,t3⟩:=qrV (an:=a.n) (bn:=b.n) (cn:=c.n) (by have:=qaz ha.ok;omega) (by have:=qaz hb.ok;omega) (by have:=qaz hc.ok;omega) (ad:=a.d) (bd:=b.d) (cd:=c.d)
 rcases qbl a b with ⟨h,e⟩ | ⟨h,e⟩ | ⟨h,⟨h3,e⟩ | ⟨h3,e⟩ | ⟨h3,⟨h4,e⟩ | ⟨h4,e⟩ | ⟨h4,e⟩⟩⟩<;>rcases qbl b c with ⟨g,f⟩ | ⟨g,f⟩ | ⟨g,⟨g3,f⟩ | ⟨g3,f⟩ | ⟨g3,⟨g4,f⟩ | ⟨g4,f⟩ | ⟨g4,f⟩⟩⟩<;>
  first
  | omega
  | (have k:=t1 h (by omega);rcases qbl a c with ⟨w,z⟩ | ⟨w,z⟩ | ⟨w,_⟩<;>omega)
  | (have k:=t2 (by omega) g;rcases qbl a c with ⟨w,z⟩ | ⟨w,z⟩ | ⟨w,_⟩<;>omega)
  | (have k:=t3 h g;rcases qbl a c with ⟨w,z⟩ | ⟨w,z⟩ | ⟨w,⟨w3,z⟩ | ⟨w3,z⟩ | ⟨w3,⟨w4,z⟩ | ⟨w4,z⟩ | ⟨w4,z⟩⟩⟩<;>omega)
theorem qq5 {a b:Mt} (ha:MtOk a) (hb:MtOk b) (h:qcJ a b=0):a=b:=by
 rcases qbl a b with ⟨_,e⟩ | ⟨_,e⟩ | ⟨h0,⟨_,e⟩ | ⟨_,e⟩ | ⟨h1,⟨_,e⟩ | ⟨_,e⟩ | ⟨h2,e⟩⟩⟩<;>try omega
 obtain⟨e1,e2⟩:=qda ha.ok hb.ok (by omega)
 cases a;cases b
 simp_all
theorem qhj {x:Mt} (hx:MtOk x):∀ {R:List Mt},(∀ a∈R,MtOk a)→R.Pairwise (fun a b=>0≤qcJ a b)→(qfx x R).Pairwise (fun a b=>0≤qcJ a b)
 | [],_,_=>by simp[qfx]
 | a::R,hR,hp=>by
  have ha:=hR a List.mem_cons_self
  obtain⟨p1,p2⟩:=List.pairwise_cons.1 hp
  unfold qfx
  rw[qsh]
  by_cases h:qcJ x a<0
  ·rw[if_pos (decide_eq_true h)]
   refine List.pairwise_cons.2 ⟨fun y hy=>?_,qhj hx (fun b hb=>hR b (List.mem_cons_of_mem _ hb)) p2⟩
   rcases qdA.1 hy with rfl | hy
   ·have:=qeh a y;omega
   ·exact p1 y hy
  ·rw[if_neg (by simpa using h)]
   refine List.pairwise_cons.2 ⟨fun y hy=>?_,hp⟩
   rcases List.mem_cons.1 hy with rfl | hy
   ·omega
   ·exact qnV hx ha (hR y (List.mem_cons_of_mem _ hy)) (by omega) (p1 y hy)
theorem qhd {y:Mt}:∀ {C S:List Mt},y∈qfC S C↔y∈S∨y∈C
 | [],S=>by simp[qfC]
 | x::C,S=>by
  show y∈qfC (qfx x S) C↔_
  rw[qhd,qdA,List.mem_cons]
  exact⟨fun h=>by rcases h with (h | h) | h<;>simp[h],fun h=>by rcases h with h | h | h<;>simp[h]⟩
theorem qfQ:∀ {C S:List Mt},(∀ a∈S,MtOk a)→(∀ a∈C,MtOk a)→S.Pairwise (fun a b=>0≤qcJ a b)→(qfC S C).Pairwise (fun a b=>0≤qcJ a b)
 | [],S,_,_,h=>h
 | x::C,S,hS,hC,h=>by
  have hx:=hC x List.mem_cons_self
  exact qfQ (C:=C) (S:=qfx x S) (fun a ha=>by
   rcases qdA.1 ha with rfl | h
   ·exact hx
   ·exact hS _ h) (fun a ha=>hC a (List.mem_cons_of_mem _ ha)) (qhj hx hS h)
theorem qsx {l:List Pt} {m:Mt}:m∈srt l↔m∈qfy l:=by
 unfold srt
 rw[List.mem_reverse,qhd];simp
theorem qwP {l:List Pt} (hv:Val l):∀ m∈srt l,MtOk m:=fun m h=>qlq hv m (qsx.1 h)
end Go.Proofs.YtleaeldgaflmkaaGreat

namespace Go.Proofs.YtleaeldgaflmkaaGreat
set_option maxRecDepth 100000
open Go.RowKit
noncomputable def nE (l:List Pt) (fn fd:Int):Int:=if qb4 l=0 then (if okB fn fd=true then 0 else 8) else qb4 l
section
variable {fn fd:Int} (h1:I64 fn) (h2:I64 fd) {s:List Mt} {n:Nat} (hn:s.length=n) (hl:n≤100000) (hs:∀ m∈s,MtOk m)
include h1 h2 hn hl hs
end
end Go.Proofs.YtleaeldgaflmkaaGreat
