/-
  Joined: Vp, Vq, Vr0, Vt, Vs, Vy, Vr. Conditions: none.
-/
import Derived.Test.YtleaeldgaflmkaaGreatW35
import Derived.Test.YtleaeldgaflmkaaGreatW28
import Derived.Test.YtleaeldgaflmkaaGreatW45
import Derived.Test.YtleaeldgaflmkaaGreatW36
import Derived.Test.YtleaeldgaflmkaaGreatW37
import Derived.Test.YtleaeldgaflmkaaGreatW25
import Derived.Test.YtleaeldgaflmkaaGreatW33
namespace Go.Proofs.YtleaeldgaflmkaaGreat
set_option maxRecDepth 100000
open Go.RowKit
abbrev qc7 (a:AskQ):Value:=.agg #[.int .u8 a.kd,iV a.pi,iV a.pa,iV a.pb,iV a.z,iV a.qn,iV a.qd]
abbrev qeY (r:Rep):List S0:=[.pv (iV r.e),.pv (iV r.id),.pv (iV r.ot),.pv (iV r.n),.pv (iV r.d),.dv 4 r.ms.length ((msV r.ms).map .v)]
abbrev moS (k:Nat) (s:List Pt) (n d:Int):SV:=.ag [.pv (iV n),.pv (iV d),.ls k s.length]
abbrev mo1 (k:Nat) (s:List Pt) (n d:Int):S1:=.ag [.pv (iV n),.pv (iV d),.ls k s.length]
def wfB (a:AskQ):Bool:=
 if a.kd=1∨a.kd=3 then a.z==0&&(a.qn==0&&a.qd==0)
 else if a.kd=2 then a.pi==0&&(a.pa==0&&(a.pb==0&&(a.qn==0&&a.qd==0)))
 else if a.kd=4 then a.pi==0&&(a.pa==0&&(a.pb==0&&a.z==0))
 else if a.kd=5∨a.kd=6 then a.pi==0&&(a.pa==0&&(a.pb==0&&(a.z==0&&(a.qn==0&&a.qd==0))))
 else false
theorem qs9 (a:AskQ):Pure Tryz.prog 94 #[qc7 a] (.bool (wfB a))∧Pure Tryz.prog 72 #[qc7 a] (.bool (wfB a)):=by
 obtain⟨kd,pi,pa,pb,z,qn,qd⟩:=a
 by_cases h1:kd=1
 ·subst h1;exact⟨qzR (hf:=by simp[wfB]),qzp (hf:=by simp[wfB])⟩
 by_cases h2:kd=2
 ·subst h2;exact⟨qAp (hf:=by simp[wfB,Bool.and_assoc]),qzT (hf:=by simp[wfB,Bool.and_assoc])⟩
 by_cases h3:kd=3
 ·subst h3;exact⟨qyP (hf:=by simp[wfB]),qAj (hf:=by simp[wfB])⟩
 by_cases h4:kd=4
 ·subst h4;exact⟨qyg (hf:=by simp[wfB,Bool.and_assoc]),qyA (hf:=by simp[wfB,Bool.and_assoc])⟩
 by_cases h5:kd=5
 ·subst h5;exact⟨qzh (hf:=by simp[wfB,Bool.and_assoc]),qzY (hf:=by simp[wfB,Bool.and_assoc])⟩
 by_cases h6:kd=6
 ·subst h6;exact⟨qyq (hf:=by simp[wfB,Bool.and_assoc]),qzr (hf:=by simp[wfB,Bool.and_assoc])⟩
 have hw:wfB ⟨kd,pi,pa,pb,z,qn,qd⟩=false:=by simp[wfB,h1,h2,h3,h4,h5,h6]
 rw[hw]
 exact⟨qyB (h1:=by simp[h1]) (h2:=by simp[h2]) (h3:=by simp[h3]) (h4:=by simp[h4]) (h5:=by simp[h5]) (h6:=by simp[h6]),qzb (h1:=by simp[h1]) (h2:=by simp[h2]) (h3:=by simp[h3]) (h4:=by simp[h4]) (h5:=by simp[h5]) (h6:=by simp[h6])⟩
section
variable {s:List Pt} {n d:Int} {a:AskQ}
inductive Done (s:List Pt) (n d:Int) (a:AskQ) (r:Rep) (n' d':Int) (s':List Pt):Prop where
 | new (he:r.e=0) (h:Fn 69 1 [moS 0 s n d,.pv (qc7 a)] [(0,0,qad s)] (.tu [mo1 1 s' n' d',.ag (qeY r)]) 1 [(1,0,qad s')])
 | old (he:r.e=0) (hs:s'=s) (h:Fn 69 1 [moS 0 s n d,.pv (qc7 a)] [(0,0,qad s)] (.tu [mo1 0 s n' d',.ag (qeY r)]) 0 [])
 | err (he:r.e≠0) (x y:Int) (h:Fn 69 1 [moS 0 s n d,.pv (qc7 a)] [(0,0,qad s)] (.tu [mo1 0 s x y,.ag (qeY r)]) 0 [])
 | non (he:r.e≠0) (x y:Int) (h:Fn 69 1 [moS 0 s n d,.pv (qc7 a)] [(0,0,qad s)] (.tu [.one (.pv (.agg #[iV x,iV y,.slice none 0 0])),.ag (qeY r)]) 0 [])
abbrev qp6 (s:List Pt) (n d:Int) (a:AskQ) (r:Rep) (n' d':Int) (s':List Pt):Prop:=
 Fn 48 1 [moS 0 s n d,.pv (qc7 a)] [(0,0,qad s)] (.tu [mo1 1 s' n' d',.ag (qeY r)]) 2 [(1,0,qad s')]
abbrev qpk (e:Int):Rep:=⟨e,0,0,0,0,[]⟩
noncomputable def qiF (s:List Pt) (n d:Int) (a:AskQ):Int:=open Classical in
 if wfB a=false then 12
 else if a.kd=1 then (if ¬ okP a.pi a.pa a.pb=true then 8 else if ∃ p∈s,p.id=a.pi then 14 else if s.length=64 then 18 else 0)
 else if a.kd=2 then (if ∃ p∈s,p.id=a.z then 0 else 6)
 else if a.kd=3 then (if ¬ okP a.pi a.pa a.pb=true then 8 else if ∃ p∈s,p.id=a.pi then 0 else 6)
 else if a.kd=4 then (if qei a.qn a.qd≠0 then qei a.qn a.qd else if n*a.qd<a.qn*d then 0 else 44)
 else if a.kd=5 then (if s=[] then 42 else 0)
 else (if s.length<2 then 42 else 0)
structure Outc (s:List Pt) (n d:Int) (a:AskQ) (r:Rep) (n' d':Int) (s':List Pt):Prop where
 val:Val s'
 ask:AskT n' d'
 few:r.ms.length≤100000
 ee:r.e=qiF s n d a
 keep:a.kd=5∨a.kd=6→n'=n∧d'=d∧s'=s
 err:r.e≠0→r=qpk r.e∧s'=s∧n'=n∧d'=d
 ref:qp6 s n d a r n' d' s'
 prg:Done s n d a r n' d' s'
 k1:a.kd=1→wfB a=true→okP a.pi a.pa a.pb=true→(∀ p∈s,p.id≠a.pi)→s.length<64→r=qpk 0∧n'=n∧d'=d∧s'=qxu ⟨a.pi,a.pa,a.pb⟩ s
 k4:a.kd=4→wfB a=true→AskT a.qn a.qd→n*a.qd<a.qn*d→r=⟨0,0,0,0,0,qlh s n d a.qn a.qd⟩∧n'=a.qn∧d'=a.qd∧s'=s
 k5:a.kd=5→wfB a=true→(s=[]∧r.e=42)∨(s≠[]∧∃ N D,r=⟨0,(ldr s n d).id,0,N,D,[]⟩∧okB N D=true∧I64 N∧I64 D∧N*d=plS (ldr s n d) n d*D)
 k6:a.kd=6→wfB a=true→(s.length<2∧r.e=42)∨(2≤s.length∧∃ N D,r=⟨0,(ptK s (qcc s n d).1).id,(ptK s (qcc s n d).2).id,N,D,[]⟩∧DisI s n d (qcc s n d) N D)
theorem qcj {n' d':Int} {s':List Pt} {e id ot N D:Int} (h:Fn 48 1 [moS 0 s n d,.pv (qc7 a)] [(0,0,qad s)] (.tu [mo1 1 s' n' d',.one (.pv (.agg #[iV e,iV id,iV ot,iV N,iV D,.slice none 0 0]))]) 1 [(1,0,qad s')]):qp6 s n d a ⟨e,id,ot,N,D,[]⟩ n' d' s':=
 qwL (by decide) (qgM h fun β v ⟨vs,hl,hv⟩=>match vs,hl with
  | [p,q],⟨hp,hq,_⟩=>⟨[p,q],⟨hp,⟨[iV e,iV id,iV ot,iV N,iV D,.slice none 0 0],⟨rfl,rfl,rfl,rfl,rfl,qis,tI⟩,hq⟩,tI⟩,hv⟩)
theorem qwl {n' d':Int} {s':List Pt} {ms:List Mt} (h:Fn 48 1 [moS 0 s n d,.pv (qc7 a)] [(0,0,qad s)] (.tu [mo1 1 s' n' d',.ag [.pv (iV 0),.pv (iV 0),.pv (iV 0),.pv (iV 0),.pv (iV 0),.ls 2 ms.length]]) 2 [(1,0,qad s'),(2,0,.row 95 4 ms.length (msV ms))]):qp6 s n d a ⟨0,0,0,0,0,ms⟩ n' d' s':=
 quv (j:=2) h (by decide) rfl fun β β' v u hle hg hd ⟨vs,hl,hv⟩=>match vs,hl with
  | [p,q],⟨hp,⟨xs,hx,hq⟩,_⟩=>match xs,hx with
   | [x0,x1,x2,x3,x4,x5],⟨e0,e1,e2,e3,e4,⟨e5,_⟩,_⟩=>⟨[p,q],⟨S1.is_mono hle hp,⟨[x0,x1,x2,x3,x4,x5],⟨e0,e1,e2,e3,e4,by rw[hg] at e5;cases e5;exact hd,tI⟩,hq⟩,tI⟩,hv⟩
theorem qwN (h:Fn 69 1 [moS 0 s n d,.pv (qc7 a)] [(0,0,qad s)] (.pv (.tuple #[.agg #[iV 0,iV 0,.slice none 0 0],.agg #[iV 12,iV 0,iV 0,iV 0,iV 0,.slice none 0 0]])) 0 []) {n' d':Int} {s':List Pt}:Done s n d a (qpk 12) n' d' s':=
 .non (by decide) 0 0 (qgM h fun β v hv=>⟨[_,_],⟨rfl,⟨[iV 12,iV 0,iV 0,iV 0,iV 0,.slice none 0 0],⟨rfl,rfl,rfl,rfl,rfl,qis,tI⟩,rfl⟩,tI⟩,hv⟩)
end
end Go.Proofs.YtleaeldgaflmkaaGreat

namespace Go.Proofs.YtleaeldgaflmkaaGreat
set_option maxRecDepth 100000
open Go.RowKit
section
variable {s:List Pt} {n d:Int}
theorem qrq (hv:Val s):Fn 21 1 [moS 0 s n d] [(0,0,qad s)] (moS 1 s n d) 1 [(1,0,qad s)]:=vtw (ht:=qgZ (by have:=hv.len;omega))
theorem qcH {a:AskQ} (hv:Val s) (ha:AskT n d) {e:Int} (he:e≠0) (hee:e=qiF s n d a) (hr:qp6 s n d a (qpk e) n d s) (hp:Done s n d a (qpk e) n d s) (h1:a.kd=1→wfB a=true→¬ (okP a.pi a.pa a.pb=true∧(∀ p∈s,p.id≠a.pi)∧s.length<64)) (h4:a.kd=4→wfB a=true→¬ (AskT a.qn a.qd∧n*a.qd<a.qn*d))
 (h5:a.kd=5→wfB a=true→s=[]∧e=42) (h6:a.kd=6→wfB a=true→s.length<2∧e=42):Outc s n d a (qpk e) n d s where
 val:=hv
 ask:=ha
 few:=Nat.zero_le _
 ee:=hee
 keep:=fun _=>⟨rfl,rfl,rfl⟩
 err:=fun _=>⟨rfl,rfl,rfl,rfl⟩
 ref:=hr
 prg:=hp
 k1:=fun x y z u v=>(h1 x y ⟨z,u,v⟩).elim
 k4:=fun x y z u=>(h4 x y ⟨z,u⟩).elim
 k5:=fun x y=>Or.inl (h5 x y)
 k6:=fun x y=>Or.inl (h6 x y)
section
variable {pi pa pb z qn qd:Int}
open Classical in
theorem qro (hw:wfB ⟨1,pi,pa,pb,z,qn,qd⟩=true):qiF s n d ⟨1,pi,pa,pb,z,qn,qd⟩=if ¬ okP pi pa pb=true then 8 else if ∃ p∈s,p.id=pi then 14 else if s.length=64 then 18 else 0:=by
 unfold qiF
 rw[if_neg (by rw[hw];intro h;cases h),if_pos rfl]
open Classical in
theorem qrE (hw:wfB ⟨2,pi,pa,pb,z,qn,qd⟩=true):qiF s n d ⟨2,pi,pa,pb,z,qn,qd⟩=if ∃ p∈s,p.id=z then 0 else 6:=by
 unfold qiF
 rw[if_neg (by rw[hw];intro h;cases h),if_neg (by intro h;cases h),if_pos rfl]
open Classical in
theorem qrf (hw:wfB ⟨3,pi,pa,pb,z,qn,qd⟩=true):qiF s n d ⟨3,pi,pa,pb,z,qn,qd⟩=if ¬ okP pi pa pb=true then 8 else if ∃ p∈s,p.id=pi then 0 else 6:=by
 unfold qiF
 rw[if_neg (by rw[hw];intro h;cases h),if_neg (by intro h;cases h),if_neg (by intro h;cases h),if_pos rfl]
theorem qoj (hw:wfB ⟨4,pi,pa,pb,z,qn,qd⟩=true):qiF s n d ⟨4,pi,pa,pb,z,qn,qd⟩=if qei qn qd≠0 then qei qn qd else if n*qd<qn*d then 0 else 44:=by
 unfold qiF
 rw[if_neg (by rw[hw];intro h;cases h),if_neg (by intro h;cases h),if_neg (by intro h;cases h),if_neg (by intro h;cases h),if_pos rfl]
open Classical in
theorem qrA (hw:wfB ⟨5,pi,pa,pb,z,qn,qd⟩=true):qiF s n d ⟨5,pi,pa,pb,z,qn,qd⟩=if s=[] then 42 else 0:=by
 unfold qiF
 rw[if_neg (by rw[hw];intro h;cases h),if_neg (by intro h;cases h),if_neg (by intro h;cases h),if_neg (by intro h;cases h),if_neg (by intro h;cases h),if_pos rfl]
theorem qrD (hw:wfB ⟨6,pi,pa,pb,z,qn,qd⟩=true):qiF s n d ⟨6,pi,pa,pb,z,qn,qd⟩=if s.length<2 then 42 else 0:=by
 unfold qiF
 rw[if_neg (by rw[hw];intro h;cases h),if_neg (by intro h;cases h),if_neg (by intro h;cases h),if_neg (by intro h;cases h),if_neg (by intro h;cases h),if_neg (by intro h;cases h)]
end
theorem qn8 (a:AskQ) (hv:Val s) (ht:AskT n d) (hq:I64 a.qn∧I64 a.qd):∃ r n' d' s',Outc s n d a r n' d' s':=by
 obtain⟨kd,pi,pa,pb,z,qn,qd⟩:=a
 obtain⟨w1,w2⟩:=qs9 ⟨kd,pi,pa,pb,z,qn,qd⟩
 have tw:=qrq (n:=n) (d:=d) hv
 obtain⟨i1,i2,i3⟩:=ht.in
 have tm:Tm n d:=⟨i1,i2,ht.ok⟩
 have e0:qcg s=0:=qca.2 hv
 by_cases hn:¬ wfB ⟨kd,pi,pa,pb,z,qn,qd⟩=true
 ·have hw:=hn
  have hw':=Bool.not_eq_true _ |>.mp hn
  rw[hw'] at w1 w2
  exact⟨_,_,_,_,qcH hv ht (by decide) (by unfold qiF;rw[if_pos hw']) (qcj (qyd (hw:=w2) (ht:=tw))) (qwN (qzJ (hw:=w1))) (fun _ h=>(hw h).elim) (fun _ h=>(hw h).elim) (fun _ h=>(hw h).elim) (fun _ h=>(hw h).elim)⟩
 have hw:=Classical.not_not.1 hn
 rw[hw] at w1 w2
 by_cases h1:kd=1
 ·subst h1
  rcases qtg s pi pa pb with ⟨e,p1,p2,hr⟩ | ⟨k,_,g1,g2,g3,g4,g5,g6,p1,p2⟩
  ·have he:e≠0:=by rcases hr with ⟨h,_⟩ | ⟨_,_,h⟩ | ⟨_,_,_,h⟩ | ⟨_,_,_,_,h⟩<;>omega
   refine⟨_,_,_,_,qcH hv ht he (by
    rw[qro hw]
    rcases hr with ⟨h,_⟩ | ⟨_,h,h9⟩ | ⟨_,k1,k2,h9⟩ | ⟨_,k1,k2,k3,h9⟩
    ·exact (h e0).elim
    ·rw[if_pos h];exact h9
    ·rw[if_neg (fun q=>q k1),if_pos k2];exact h9
    ·rw[if_neg (fun q=>q k1),if_neg (fun ⟨p,hp,e⟩=>k2 p hp e),if_pos k3];exact h9) (qcj (qwT (hw:=w2) (hc:=qvn (hp:=p2) (he:=by simpa using he) (ht:=tw)))) (.non he n d (qvp (hw:=w1) (hp:=p1))) (fun _ _ ⟨a1,a2,a3⟩=>?_) (fun h=>by cases h) (fun h=>by cases h) (fun h=>by cases h)⟩
   rcases hr with ⟨h,_⟩ | ⟨_,h,_⟩ | ⟨_,_,⟨p,hp,h⟩,_⟩ | ⟨_,_,_,h,_⟩
   ·exact h e0
   ·exact h a1
   ·exact a2 p hp h
   ·omega
  ·refine⟨qpk 0,n,d,_,⟨quy hv g2 g1 g4 g5 g6,ht,Nat.zero_le _,(by rw[qro hw,if_neg (fun q=>q g1),if_neg (fun ⟨p,hp,e⟩=>g3 p hp e),if_neg (by omega)]),(fun h=>(by rcases h with h | h<;>cases h)),fun h=>(h rfl).elim,qcj (qwI (hw:=w2) (hc:=qxq (hp:=p2))),.new rfl (qv7 (hw:=w1) (hp:=p1)),fun _ _ _ _ _=>⟨rfl,rfl,rfl,?_⟩,(fun h=>by cases h),(fun h=>by cases h),(fun h=>by cases h)⟩⟩
   exact (ql1 (p:=⟨pi,pa,pb⟩) g4 g5 g6).symm
 by_cases h2:kd=2
 ·subst h2
  rcases qqD s z with ⟨e,p1,p2,hr⟩ | ⟨k,p,_,g1,g2,p1,p2⟩
  ·have he:e≠0:=by rcases hr with ⟨h,_⟩ | ⟨_,_,h⟩<;>omega
   exact⟨_,_,_,_,qcH hv ht he (by
    rw[qrE hw]
    rcases hr with ⟨h,_⟩ | ⟨_,h,h9⟩
    ·exact (h e0).elim
    ·rw[if_neg (fun ⟨p,hp,e⟩=>h p hp e)];exact h9) (qcj (qu4 (hw:=w2) (hc:=qxd (hp:=p2) (he:=by simpa using he) (ht:=tw)))) (.non he n d (qvf (hw:=w1) (hp:=p1))) (fun h=>by cases h) (fun h=>by cases h) (fun h=>by cases h) (fun h=>by cases h)⟩
  ·exact⟨qpk 0,n,d,_,⟨qpH hv (qaw g1),ht,Nat.zero_le _,(by rw[qrE hw,if_pos ⟨p,List.mem_of_getElem? g1,g2⟩]),(fun h=>(by rcases h with h | h<;>cases h)),fun h=>(h rfl).elim,qcj (qwz (hw:=w2) (hc:=qvD (hp:=p2))),.new rfl (qwV (hw:=w1) (hp:=p1)),(fun h=>by cases h),(fun h=>by cases h),(fun h=>by cases h),(fun h=>by cases h)⟩⟩
 by_cases h3:kd=3
 ·subst h3
  rcases qka s pi pa pb with ⟨e,p1,p2,hr⟩ | ⟨k,p,_,g1,g2,g3,p1,p2⟩
  ·have he:e≠0:=by rcases hr with ⟨h,_⟩ | ⟨_,_,h⟩ | ⟨_,_,_,h⟩<;>omega
   exact⟨_,_,_,_,qcH hv ht he (by
    rw[qrf hw]
    rcases hr with ⟨h,_⟩ | ⟨_,h,h9⟩ | ⟨_,k1,k2,h9⟩
    ·exact (h e0).elim
    ·rw[if_pos h];exact h9
    ·rw[if_neg (fun q=>q k1),if_neg (fun ⟨p,hp,e⟩=>k2 p hp e)];exact h9) (qcj (qwJ (hw:=w2) (hc:=qu8 (hp:=p2) (he:=by simpa using he) (ht:=tw)))) (.non he n d (qwB (hw:=w1) (hp:=p1))) (fun h=>by cases h) (fun h=>by cases h) (fun h=>by cases h) (fun h=>by cases h)⟩
  ·exact⟨qpk 0,n,d,_,⟨qtS hv g2 g3 g1,ht,Nat.zero_le _,(by rw[qrf hw,if_neg (fun q=>q g1),if_pos ⟨p,List.mem_of_getElem? g2,g3⟩]),(fun h=>(by rcases h with h | h<;>cases h)),fun h=>(h rfl).elim,qcj (qwY (hw:=w2) (hc:=qwf (hp:=p2))),.new rfl (qvO (hw:=w1) (hp:=p1)),(fun h=>by cases h),(fun h=>by cases h),(fun h=>by cases h),(fun h=>by cases h)⟩⟩
 by_cases h4:kd=4
 ·subst h4
  have c1:Pure Tryz.prog 40 #[qaa qn qd] (iV (qei qn qd)):=fun w=>qdk qn qd w hq.1 hq.2
  have c2:Pure Tryz.prog 31 #[qaa qn qd] (iV (qei qn qd)):=fun w=>qfj qn qd w hq.1 hq.2
  by_cases ha:qei qn qd=0
  ·have hT:=qcs.1 ha
   rw[ha] at c1 c2
   have k1:=qji hq.1 hq.2 i1 i2 hT.ok ht.ok
   have k2:=qbC hq.1 hq.2 i1 i2
   by_cases hl:(qn*d-n*qd).sign≤0
   ·have hl':qn*d-n*qd≤0:=Int.sign_nonpos_iff.1 hl
    exact⟨_,_,_,_,qcH hv ht (e:=44) (by decide) (by rw[qoj hw,if_neg (fun q=>q ha),if_neg (by omega)]) (qcj (qqZ (hw:=w2) (hm:=qAz (ha:=c2) (hc:=k2) (hl:=dt hl) (ht:=tw)))) (.err (by decide) qn qd (qrh (hw:=w1) (hb:=qzj (ha:=c1) (hc:=k1) (hl:=dt hl)))) (fun h=>by cases h) (fun _ _ ⟨_,h⟩=>by simp only at h;omega) (fun h=>by cases h) (fun h=>by cases h)⟩
   ·have hl':¬ qn*d-n*qd≤0:=fun q=>hl (Int.sign_nonpos_iff.2 q)
    have hm:=qxj i1 i2 hq.1 hq.2 s (by unfold mE;rw[if_pos e0,if_pos ⟨ht.ok,hT.ok⟩,if_neg (by show ¬ n*qd-qn*d>0;omega)])
    have hb:=qhr i1 i2 hq.1 hq.2 hv
    exact⟨⟨0,0,0,0,0,qlh s n d qn qd⟩,qn,qd,s,⟨hv,hT,(by have:=qjz hv n d qn qd;show (qlh s n d qn qd).length≤100000;omega),(by rw[qoj hw,if_neg (fun q=>q ha),if_pos (by omega)]),(fun h=>(by rcases h with h | h<;>cases h)),fun h=>(h rfl).elim,qwl (qw0 (hw:=w2) (hm:=qyN (ha:=c2) (hc:=k2) (hl:=df hl) (ht:=tw) (hb:=hb))),.old rfl rfl (qvC (hw:=w1) (hb:=qAi (ha:=c1) (hc:=k1) (hl:=df hl) (hm:=hm))),(fun h=>by cases h),fun _ _ _ _=>⟨rfl,rfl,rfl,rfl⟩,(fun h=>by cases h),(fun h=>by cases h)⟩⟩
  ·have ha':(qei qn qd !=0)=true:=by simpa using ha
   exact⟨_,_,_,_,qcH hv ht ha (by rw[qoj hw,if_pos ha]) (qcj (qqZ (hw:=w2) (hm:=qyH (ha:=c2) (he:=ha') (ht:=tw)))) (.err ha qn qd (qrh (hw:=w1) (hb:=qyC (ha:=c1) (he:=ha')))) (fun h=>by cases h) (fun _ _ ⟨h,_⟩=>ha (qcs.2 h)) (fun h=>by cases h) (fun h=>by cases h)⟩
 by_cases h5:kd=5
 ·subst h5
  by_cases hs:s=[]
  ·subst hs
   exact⟨_,_,_,_,qcH hv ht (e:=42) (by decide) (by rw[qrA hw,if_pos rfl]) (qcj (qwm (hw:=w2) (hl:=by decide) (ht:=tw))) (.err (by decide) n d (qvm (hw:=w1) (hl:=qzl (hl:=qhD tm) (he:=by decide)))) (fun h=>by cases h) (fun h=>by cases h) (fun _ _=>⟨rfl,rfl⟩) (fun h=>by cases h)⟩
  ·have hm:=qsb hv n d hs
   obtain⟨k,hk⟩:=List.getElem?_of_mem hm
   have hp:=hv.ok _ hm
   obtain⟨N,D,E,f1,f2,f3,f4,f5⟩:=qrJ hp ht
   obtain⟨N',D',g1,g2,g3,g4,g5⟩:=qmV hp ht
   have hmk:=qhy (a:=plS (ldr s n d) n d) (b:=d) (by omega)
   obtain⟨a1,a2,_⟩:=hmk.one (by omega) f1 f2 f3 f4
   obtain⟨b1,b2,_⟩:=hmk.one (by omega) g1 g2 g3 g4
   obtain rfl:=a1.symm.trans b1
   obtain rfl:=a2.symm.trans b2
   obtain⟨o,ho⟩:=qgB (tn:=n) (td:=d) hv
   have hor:=qhZ hv tm ho
   have h0:=qiO ho hs
   have hl:0<s.length:=List.length_pos_iff.2 hs
   have c1:=qaQ s
   rw[e0] at c1
   have F1:=qnc hk (qax (qaw hk)) c1 (qdE hv hk rfl)
   refine⟨⟨0,(ldr s n d).id,0,N,D,[]⟩,n,d,s,⟨hv,ht,Nat.zero_le _,(by rw[qrA hw,if_neg hs]),(fun _=>⟨rfl,rfl,rfl⟩),fun h=>(h rfl).elim,qcj (qxl (k:=k) (g:=o.map Pt.id) (hw:=w2) (hl:=by simpa using hs) (h0:=⟨by omega,by omega⟩) (hg:=by rw[List.getElem?_map,h0];rfl) (ho:=hor) (ht:=tw) (hk:=qjA hv hk rfl) (hk1:=⟨by omega,by have:=qaw hk;omega⟩) (hk2:=hk) (hq:=g5)),.old rfl rfl (qvm (hw:=w1) (hl:=qzw (hl:=qj2 hv tm hs) (hf:=F1) (hp:=f5))),(fun h=>by cases h),(fun h=>by cases h),fun _ _=>Or.inr ⟨hs,N,D,rfl,f1,f2,f3,f4⟩,(fun h=>by cases h)⟩⟩
 by_cases h6:kd=6
 ·subst h6
  obtain⟨i,j,N,D,e,hc,hz,cl⟩:=qqo (s:=s) i1 i2
  by_cases h2:s.length<2
  ·have he:e=42:=by
    rcases hc with ⟨h,_⟩ | ⟨_,h,_⟩ | ⟨_,_,_,h⟩ | ⟨_,_,h,_⟩
    ·exact (h e0).elim
    ·exact (h (qcs.2 ht)).elim
    ·exact h
    ·omega
   subst he
   obtain⟨rfl,rfl,rfl,rfl⟩:=hz (by decide)
   exact⟨_,_,_,_,qcH hv ht (e:=42) (by decide) (by rw[qrD hw,if_pos h2]) (qcj (qvW (hw:=w2) (hl:=dt (by omega)) (ht:=tw))) (.err (by decide) n d (qvq (hw:=w1) (hl:=cl))) (fun h=>by cases h) (fun h=>by cases h) (fun h=>by cases h) (fun _ _=>⟨h2,rfl⟩)⟩
  ·obtain⟨he,hi,hj,hD⟩:e=0∧i=(ptK s (qcc s n d).1).id∧j=(ptK s (qcc s n d).2).id∧DisI s n d (qcc s n d) N D:=by
    rcases hc with ⟨h,_⟩ | ⟨_,h,_⟩ | ⟨_,_,h,_⟩ | ⟨_,_,_,h⟩
    ·exact (h e0).elim
    ·exact (h (qcs.2 ht)).elim
    ·omega
    ·exact h
   subst he hi hj
   obtain⟨N',D',j1,_,rp⟩:=qz2 hv.ok ht (by have:=hv.len;omega) (by omega)
   obtain⟨rfl,rfl⟩:=DisI.uniq i3 hD j1
   exact⟨⟨0,_,_,N,D,[]⟩,n,d,s,⟨hv,ht,Nat.zero_le _,(by rw[qrD hw,if_neg h2]),(fun _=>⟨rfl,rfl,rfl⟩),fun h=>(h rfl).elim,qcj (qxk (hw:=w2) (hl:=df (by omega)) (hp:=rp) (ht:=tw)),.old rfl rfl (qvq (hw:=w1) (hl:=cl)),(fun h=>by cases h),(fun h=>by cases h),(fun h=>by cases h),fun _ _=>Or.inr ⟨by show 2≤s.length;omega,N,D,rfl,hD⟩⟩⟩
 ·exfalso
  have:wfB ⟨kd,pi,pa,pb,z,qn,qd⟩=false:=by simp[wfB,h1,h2,h3,h4,h5,h6]
  rw[this] at hw
  cases hw
end
end Go.Proofs.YtleaeldgaflmkaaGreat

namespace Go.Proofs.YtleaeldgaflmkaaGreat
set_option maxRecDepth 100000
open Go.RowKit
def qbl:List AskQ→List Value
 | []=>[]
 | a::r=>.int .u8 a.kd::iV a.pi::iV a.pa::iV a.pb::iV a.z::iV a.qn::iV a.qd::qbl r
abbrev qbu (qs:List AskQ):SV:=.row 42 7 qs.length (qbl qs)
abbrev qfd (r:Rep):List Dn:=[.v (iV r.e),.v (iV r.id),.v (iV r.ot),.v (iV r.n),.v (iV r.d),.sl 4 r.ms.length ((msV r.ms).map .v)]
theorem qhl:∀ {l:List AskQ} {k:Nat} {a:AskQ},l[k]?=some a→(qbl l)[k*7]?=some (.int .u8 a.kd)∧(qbl l)[k*7+1]?=some (iV a.pi)∧(qbl l)[k*7+2]?=some (iV a.pa)∧(qbl l)[k*7+3]?=some (iV a.pb)∧(qbl l)[k*7+4]?=some (iV a.z)∧(qbl l)[k*7+5]?=some (iV a.qn)∧(qbl l)[k*7+6]?=some (iV a.qd)
 | [],k,p,h=>by simp at h
 | q::r,0,p,h=>by simp at h;subst h;exact⟨rfl,rfl,rfl,rfl,rfl,rfl,rfl⟩
 | q::r,k+1,p,h=>by
  have:=qhl (l:=r) (k:=k) (a:=p) (by simpa using h)
  rw[show (k+1)*7=k*7+1+1+1+1+1+1+1 by omega]
  exact this
theorem qcz {l:List AskQ} {k:Nat} {a:AskQ} (h:l[k]?=some a):qes (qbl l) (0*7+k*7) [.int .u8 a.kd,iV a.pi,iV a.pa,iV a.pb,iV a.z,iV a.qn,iV a.qd]:=by
 obtain⟨h0,h1,h2,h3,h4,h5,h6⟩:=qhl h
 intro j v hj
 rw[show 0*7+k*7+j=k*7+j by omega]
 match j,hj with
 | 0,hj=>cases hj;exact h0
 | 1,hj=>cases hj;exact h1
 | 2,hj=>cases hj;exact h2
 | 3,hj=>cases hj;exact h3
 | 4,hj=>cases hj;exact h4
 | 5,hj=>cases hj;exact h5
 | 6,hj=>cases hj;exact h6
 | j+7,hj=>simp at hj
end Go.Proofs.YtleaeldgaflmkaaGreat

namespace Go.Proofs.YtleaeldgaflmkaaGreat
set_option maxRecDepth 100000
open Go.RowKit
theorem qAK (t t':TypeId) (es n:Nat) (xs:List Value):some (SV.prow t' es n xs)=some (SV.row t es n xs)∨∃ t1 es1 n1 xs1,SV.row t es n xs=.row t1 es1 n1 xs1∧∃ t2,some (SV.prow t' es n xs)=some (.prow t2 es1 n1 xs1):=Or.inr ⟨t,es,n,xs,rfl,t',rfl⟩
theorem qgg (a b:Int):(a==a&&(b==b&&true))=true:=by simp
theorem qzC {rp:Rep} (hs:Fn 34 2 [.ls 0 rp.ms.length,.ls 1 rp.ms.length] [(0,0,.row 95 4 rp.ms.length (msV rp.ms)),(1,0,.row 95 4 rp.ms.length (msV rp.ms))] (.pv (.bool true)) 0 []) :
 Fn 26 0 [.ag (qeY rp),.ag (qeY rp)] [] (.pv (.bool true)) 0 []:=
 Fz [] [.od true 0 0 5 95 (some (msV rp.ms)),.od true 1 0 5 95 (some (msV rp.ms)),.t true,.t true,.t true,.t true,.fq [0,1] [.ls 0 rp.ms.length,.ls 1 rp.ms.length] [(0,0,.row 95 4 rp.ms.length (msV rp.ms)),(1,0,.row 95 4 rp.ms.length (msV rp.ms))] (.pv (.bool true)) 0 []]
  tI (Ai (Eq.refl ((msV rp.ms).map Dn.v)) (Ai (Eq.refl ((msV rp.ms).map Dn.v)) (Ai (qcG rp.e) (Ai (qcG rp.id) (Ai (qcG rp.ot) (Ai (qgg rp.n rp.d) (Ai hs (Ai (Ca hs [0,1] 4) (Ai (Ai (qAK 95 95 4 rp.ms.length (msV rp.ms)) (Ai (qAK 95 95 4 rp.ms.length (msV rp.ms)) tI)) tI)))))))))
theorem qyQ {tn td:Int} {s:List Pt} (hs:Fn 49 2 [qas 0 s,qas 1 s] [(0,0,qad s),(1,0,qad s)] (.pv (.bool true)) 0 []) :
 Fn 24 2 [moS 0 s tn td,moS 1 s tn td] [(0,0,qad s),(1,0,qad s)] (.pv (.bool true)) 0 []:=
 Fz [] [.t true,Cf hs [0,1]]
  tI (Ai (qgg tn td) (Co hs [0,1] 4 tI))
end Go.Proofs.YtleaeldgaflmkaaGreat

namespace Go.Proofs.YtleaeldgaflmkaaGreat
set_option maxRecDepth 100000
open Go.RowKit
theorem qAw {tn td e1 e2:Int} {s:List Pt} (ha:Pure Tryz.prog 40 #[qaa tn td] (iV (e1))) (hc:Fn 44 1 [qas 0 s] [(0,0,qad s)] (.pv (iV (e2))) 0 []) (he:(e1 !=0)=true) :
 Fn 14 1 [moS 0 s tn td] [(0,0,qad s)] (.pv (iV (8))) 0 []:=
 Fz [] [.md,Rf ha,Cf hc [0],.k,.k,.t true,.t true]
  tI (Ai ha (Co hc [0] 2 (Ai he (Ai he tI))))
theorem qzM {tn td e2:Int} {s:List Pt} (ha:Pure Tryz.prog 40 #[qaa tn td] (iV (0))) (hc:Fn 44 1 [qas 0 s] [(0,0,qad s)] (.pv (iV (e2))) 0 []) (he:(e2 !=0)=true) :
 Fn 14 1 [moS 0 s tn td] [(0,0,qad s)] (.pv (iV (8))) 0 []:=
 Fz [] [.md,Rf ha,Cf hc [0],.k,.k,.k,.k,.k,.t true,.t true]
  tI (Ai ha (Co hc [0] 2 (Ai he (Ai he tI))))
theorem qzN {tn td:Int} {s:List Pt} (ha:Pure Tryz.prog 40 #[qaa tn td] (iV (0))) (hc:Fn 44 1 [qas 0 s] [(0,0,qad s)] (.pv (iV (0))) 0 []) :
 Fn 14 1 [moS 0 s tn td] [(0,0,qad s)] (.pv (iV (0))) 0 []:=
 Fz [] [.md,Rf ha,Cf hc [0],.k,.k,.k,.k,.k,.k,.k,.k,.k]
  tI (Ai ha (Co hc [0] 2 tI))
end Go.Proofs.YtleaeldgaflmkaaGreat

namespace Go.Proofs.YtleaeldgaflmkaaGreat
set_option maxRecDepth 100000
open Go.RowKit
abbrev qxX (d:Int) (n:Int) (qs:List AskQ) (s:List Pt) (s0:List Pt):HpL:=[(3,0,.pv (iV 0)),(3,1,.pv (iV 0)),(3,2,.pv (.slice none 0 0)),(5,0,.pv (iV n)),(5,1,.pv (iV d)),(5,2,.ls 4 s.length),(0,0,qad s0),(1,0,qbu qs),(4,0,qad s),(6,0,.row 38 6 0 [])]
abbrev qxP (qs:List AskQ):TmL:=[(1,.ls 1 qs.length),(2,.pp 2 0),(4,.pp 3 0),(7,.pp 5 0),(8,.ls 6 0),(9,.pv (iV (0:Int)))]
theorem qyM {n d n' d':Int} {s s' s0:List Pt} {rp:Rep} {qs:List AskQ} {aq:AskQ} (hlt:decide (((0:Nat):Int)<(qs.length:Int))=true) (hin:0≤((0:Nat):Int)∧((0:Nat):Int)<(qs.length:Int)) (hk:qs[0]?=some aq) (hd:Fn 48 1 [moS 0 s n d,.pv (qc7 aq)] [(0,0,qad s)] (.tu [mo1 1 s' n' d',.ag (qeY rp)]) 2 [(1,0,qad s')]) (hm:0+1≤1000000) (hs:iV (IntKind.i64.wrap (((0:Nat):Int)+1))=iV (((0+1:Nat):Int))) {e:Exit} {tm2:TmL} {hp2:HpL}
 (r:Rl 2 2 27 0 44 7 ([(1,.ls 1 qs.length),(2,.pp 2 0),(4,.pp 3 0),(7,.pp 5 0),(8,.ls 6 (0+1:Nat)),(9,.pv (iV ((0+1:Nat):Int)))]) ([(3,0,.pv (iV 0)),(3,1,.pv (iV 0)),(3,2,.pv (.slice none 0 0)),(5,0,.pv (iV n')),(5,1,.pv (iV d')),(5,2,.ls 4 s'.length),(0,0,qad s0),(1,0,qbu qs),(4,0,qad s'),(6,0,.drow 38 6 (0+1) ([]++qfd rp))]) e tm2 hp2):Rl 2 2 27 0 44 7 (qxP qs) (qxX d n qs s s0) e tm2 hp2:=
 RunsL.next [(4,7),(6,12)] 300 [.t true,.md,.r (qc7 aq),Cf hd [4],.md,.r (iV (((0+1:Nat):Int)))]
  (Ro (Ai hlt (Ai hin (Ai (qcz hk) (Co hd [4] 7 (Ai hm (Ai hs tI))))))) r
abbrev qxU (d:Int) (ds:List Dn) (k:Nat) (n:Int) (qs:List AskQ) (s:List Pt) (s0:List Pt):HpL:=[(3,0,.pv (iV 0)),(3,1,.pv (iV 0)),(3,2,.pv (.slice none 0 0)),(5,0,.pv (iV n)),(5,1,.pv (iV d)),(5,2,.ls 4 s.length),(0,0,qad s0),(1,0,qbu qs),(4,0,qad s),(6,0,.drow 38 6 k ds)]
theorem qx8 {n d n' d':Int} {s s' s0:List Pt} {rp:Rep} {qs:List AskQ} {aq:AskQ} {k:Nat} {ds:List Dn} (hlt:decide ((k:Int)<(qs.length:Int))=true) (hin:0≤(k:Int)∧(k:Int)<(qs.length:Int)) (hk:qs[k]?=some aq) (hd:Fn 48 1 [moS 0 s n d,.pv (qc7 aq)] [(0,0,qad s)] (.tu [mo1 1 s' n' d',.ag (qeY rp)]) 2 [(1,0,qad s')]) (hm:k+1≤1000000) (hs:iV (IntKind.i64.wrap ((k:Int)+1))=iV (((k+1:Nat):Int))) {e:Exit} {tm2:TmL} {hp2:HpL}
 (r:Rl 2 2 27 0 44 7 ([(1,.ls 1 qs.length),(2,.pp 2 0),(4,.pp 3 0),(7,.pp 5 0),(8,.ls 6 (k+1:Nat)),(9,.pv (iV ((k+1:Nat):Int)))]) ([(3,0,.pv (iV 0)),(3,1,.pv (iV 0)),(3,2,.pv (.slice none 0 0)),(5,0,.pv (iV n')),(5,1,.pv (iV d')),(5,2,.ls 4 s'.length),(0,0,qad s0),(1,0,qbu qs),(4,0,qad s'),(6,0,.drow 38 6 (k+1) (ds++qfd rp))]) e tm2 hp2):Rl 2 2 27 0 44 7 ([(1,.ls 1 qs.length),(2,.pp 2 0),(4,.pp 3 0),(7,.pp 5 0),(8,.ls 6 k),(9,.pv (iV (k:Int)))]) (qxU d ds k n qs s s0) e tm2 hp2:=
 RunsL.next [(4,7),(6,12)] 300 [.t true,.md,.r (qc7 aq),Cf hd [4],.md,Re hs]
  (Ro (Ai hlt (Ai hin (Ai (qcz hk) (Co hd [4] 7 (Ai hm (Ai hs tI))))))) r
theorem qsc {n d:Int} {s s0:List Pt} {qs:List AskQ} {k:Nat} {ds:List Dn} (hlt:decide ((k:Int)<(qs.length:Int))=false):Rl 2 2 27 0 44 7 ([(1,.ls 1 qs.length),(2,.pp 2 0),(4,.pp 3 0),(7,.pp 5 0),(8,.ls 6 k),(9,.pv (iV (k:Int)))]) (qxU d ds k n qs s s0) (.exit 0) ([(4,.pp 3 0),(7,.pp 5 0),(8,.ls 6 k)]) (qxU d ds k n qs s s0):=
 RunsL.stop [] 300 [.t false] (fun h=>by cases h)
  (Ro (Ai hlt tI))
theorem qoK {n d:Int} {s s0:List Pt} {qs:List AskQ} (hlt:decide (((0:Nat):Int)<(qs.length:Int))=false):Rl 2 2 27 0 44 7 (qxP qs) (qxX d n qs s s0) (.exit 0) ([(4,.pp 3 0),(7,.pp 5 0),(8,.ls 6 0)]) (qxX d n qs s s0):=
 RunsL.stop [] 300 [.t false] (fun h=>by cases h)
  (Ro (Ai hlt tI))
abbrev qAY (qs:List AskQ) (s0:List Pt) (td:Int) (tn:Int):HpL:=[(3,0,.pv (iV 0)),(3,1,.pv (iV 0)),(3,2,.pv (.slice none 0 0)),(5,0,.pv (iV tn)),(5,1,.pv (iV td)),(5,2,.ls 4 s0.length),(0,0,qad s0),(1,0,qbu qs),(4,0,qad s0),(6,0,.row 38 6 0 [])]
theorem qxb {tn td n d:Int} {s s0:List Pt} {qs:List AskQ} {k:Nat} {ds:List Dn} (hc:Fn 25 1 [moS 0 s0 tn td] [(0,0,qad s0)] (.pv (iV (0))) 0 []) (hl:decide ((qs.length:Int)>120)=false) (ht:Fn 21 1 [moS 0 s0 tn td] [(0,0,qad s0)] (moS 1 s0 tn td) 1 [(1,0,qad s0)]) (r0:Rl 2 2 27 0 44 7 (qxP qs) (qAY qs s0 td tn) (.exit 0) ([(4,.pp 3 0),(7,.pp 5 0),(8,.ls 6 k)]) (qxU d ds k n qs s s0)) :
 Fn 27 2 [moS 0 s0 tn td,.ls 1 qs.length] [(0,0,qad s0),(1,0,qbu qs)] (.tu [mo1 2 s n d,.one (.dv 6 k ds),.one (.pv (iV 0))]) 1 [(2,0,qad s)]:=
 Fz [(2,4)] [Cf hc [0],.k,.t false,Cf ht [0],.ln true 8 0 38 6,Lf r0,.fz true 8 0 0 6 ds]
  (qaG (qaF [(2,4)]) [(2,0,qad s)]) (Co hc [0] 4 (Ai hl (Co ht [0] 4 (Lo r0 [] (Ai (LeD.refl ds) tI)))))
theorem qtO {tn td n d:Int} {s s0:List Pt} {qs:List AskQ} (hc:Fn 25 1 [moS 0 s0 tn td] [(0,0,qad s0)] (.pv (iV (0))) 0 []) (hl:decide ((qs.length:Int)>120)=false) (ht:Fn 21 1 [moS 0 s0 tn td] [(0,0,qad s0)] (moS 1 s0 tn td) 1 [(1,0,qad s0)]) (r0:Rl 2 2 27 0 44 7 (qxP qs) (qAY qs s0 td tn) (.exit 0) ([(4,.pp 3 0),(7,.pp 5 0),(8,.ls 6 0)]) (qxX d n qs s s0)) :
 Fn 27 2 [moS 0 s0 tn td,.ls 1 qs.length] [(0,0,qad s0),(1,0,qbu qs)] (.tu [mo1 2 s n d,.one (.dv 6 0 []),.one (.pv (iV 0))]) 1 [(2,0,qad s)]:=
 Fz [(2,4)] [Cf hc [0],.k,.t false,Cf ht [0],.ln true 8 0 38 6,Lf r0,.fz true 8 0 0 6 []]
  (qaG (qaF [(2,4)]) [(2,0,qad s)]) (Co hc [0] 4 (Ai hl (Co ht [0] 4 (Lo r0 [] (Ai (LeD.refl []) tI)))))
theorem qAf {tn td e1:Int} {s0:List Pt} {qs:List AskQ} (hc:Fn 25 1 [moS 0 s0 tn td] [(0,0,qad s0)] (.pv (iV (e1))) 0 []) (he:(e1 !=0)=true) :
 Fn 27 2 [moS 0 s0 tn td,.ls 1 qs.length] [(0,0,qad s0),(1,0,qbu qs)] (.pv (.tuple #[.agg #[iV 0,iV 0,.slice none 0 0],.slice none 0 0,iV 8])) 0 []:=
 Fz [] [Cf hc [0],.t true]
  tI (Co hc [0] 4 (Ai he tI))
theorem qyw {tn td:Int} {s0:List Pt} {qs:List AskQ} (hc:Fn 25 1 [moS 0 s0 tn td] [(0,0,qad s0)] (.pv (iV (0))) 0 []) (hl:decide ((qs.length:Int)>120)=true) :
 Fn 27 2 [moS 0 s0 tn td,.ls 1 qs.length] [(0,0,qad s0),(1,0,qbu qs)] (.pv (.tuple #[.agg #[iV 0,iV 0,.slice none 0 0],.slice none 0 0,iV 4])) 0 []:=
 Fz [] [Cf hc [0],.k,.t true]
  tI (Co hc [0] 4 (Ai hl tI))
theorem qAy {tn td e1:Int} {s0:List Pt} {qs:List AskQ} (hc:Fn 14 1 [moS 0 s0 tn td] [(0,0,qad s0)] (.pv (iV (e1))) 0 []) (he:(e1 !=0)=true) :
 Fn 13 2 [moS 0 s0 tn td,.ls 1 qs.length] [(0,0,qad s0),(1,0,qbu qs)] (.pv (.tuple #[.agg #[iV 0,iV 0,.slice none 0 0],.slice none 0 0,iV e1])) 0 []:=
 Fz [] [Cf hc [0],.t true]
  tI (Co hc [0] 4 (Ai he tI))
theorem qys {tn td:Int} {s0:List Pt} {qs:List AskQ} (hc:Fn 14 1 [moS 0 s0 tn td] [(0,0,qad s0)] (.pv (iV (0))) 0 []) (hl:decide ((qs.length:Int)>120)=true) :
 Fn 13 2 [moS 0 s0 tn td,.ls 1 qs.length] [(0,0,qad s0),(1,0,qbu qs)] (.pv (.tuple #[.agg #[iV 0,iV 0,.slice none 0 0],.slice none 0 0,iV 4])) 0 []:=
 Fz [] [Cf hc [0],.k,.t true]
  tI (Co hc [0] 4 (Ai hl tI))
theorem qyr {tn td n' d':Int} {s' s0:List Pt} {qs:List AskQ} {k:Nat} {ds:List Dn} (hc:Fn 14 1 [moS 0 s0 tn td] [(0,0,qad s0)] (.pv (iV (0))) 0 []) (hl:decide ((qs.length:Int)>120)=false) (hr:Fn 42 2 [moS 0 s0 tn td,.ls 1 qs.length] [(0,0,qad s0),(1,0,qbu qs)] (.tu [mo1 2 s' n' d',.one (.dv 6 k ds)]) 1 [(2,0,qad s')]) :
 Fn 13 2 [moS 0 s0 tn td,.ls 1 qs.length] [(0,0,qad s0),(1,0,qbu qs)] (.tu [mo1 2 s' n' d',.one (.dv 6 k ds),.one (.pv (iV 0))]) 1 [(2,0,qad s')]:=
 Fz [(2,4)] [Cf hc [0],.k,.t false,Cf hr [0,1]]
  (qaG (qaF [(2,4)]) [(2,0,qad s')]) (Co hc [0] 4 (Ai hl (Co hr [0,1] 4 tI)))
end Go.Proofs.YtleaeldgaflmkaaGreat

namespace Go.Proofs.YtleaeldgaflmkaaGreat
set_option maxRecDepth 100000
open Go.RowKit
abbrev qtq (d:Int) (n:Int) (qs:List AskQ) (s:List Pt) (s0:List Pt):HpL:=[(2,0,.pv (iV n)),(2,1,.pv (iV d)),(2,2,.ls 4 s.length),(3,0,.pv (iV 0)),(3,1,.pv (iV 0)),(3,2,.pv (.slice none 0 0)),(0,0,qad s0),(1,0,qbu qs),(4,0,qad s),(5,0,.row 38 6 0 [])]
abbrev qub (qs:List AskQ):TmL:=[(2,.pp 2 0),(4,.pp 3 0),(6,.ls 5 0),(17,.ls 1 qs.length),(18,.pv (iV (qs.length:Int))),(19,.pv (iV (0:Int)))]
abbrev qxy (qs:List AskQ):TmL:=[(2,.pp 2 0),(4,.pp 3 0),(6,.ls 5 (0+1:Nat)),(17,.ls 1 qs.length),(18,.pv (iV (qs.length:Int))),(19,.pv (iV ((0+1:Nat):Int)))]
theorem qvU {n d n' d':Int} {s s' s0:List Pt} {rp:Rep} {qs:List AskQ} {aq:AskQ} (hlt:decide (((0:Nat):Int)<(qs.length:Int))=true) (hin:0≤((0:Nat):Int)∧((0:Nat):Int)<(qs.length:Int)) (hk:qs[0]?=some aq) (hd:Fn 69 1 [moS 0 s n d,.pv (qc7 aq)] [(0,0,qad s)] (.tu [mo1 1 s' n' d',.ag (qeY rp)]) 1 [(1,0,qad s')]) (he:(rp.e==0)=true) (hm:0+1≤1000000) (hs:iV (IntKind.i64.wrap (((0:Nat):Int)+1))=iV (((0+1:Nat):Int))) {e:Exit} {tm2:TmL} {hp2:HpL}
 (r:Rl 2 2 42 0 40 6 (qxy qs) ([(2,0,.pv (iV n')),(2,1,.pv (iV d')),(2,2,.ls 4 s'.length),(3,0,.pv (iV 0)),(3,1,.pv (iV 0)),(3,2,.pv (.slice none 0 0)),(0,0,qad s0),(1,0,qbu qs),(4,0,qad s'),(5,0,.drow 38 6 (0+1) ([]++qfd rp))]) e tm2 hp2):Rl 2 2 42 0 40 6 (qub qs) (qtq d n qs s s0) e tm2 hp2:=
 RunsL.next [(4,7),(5,11)] 300 [.t true,.r (qc7 aq),Cf hd [4],.t true,.r (iV (((0+1:Nat):Int)))]
  (Ro (Ai hlt (Ai hin (Ai (qcz hk) (Co hd [4] 7 (Ai he (Ai hm (Ai hs tI)))))))) r
abbrev qt1 (d:Int) (ds:List Dn) (k:Nat) (n:Int) (qs:List AskQ) (s:List Pt) (s0:List Pt):HpL:=[(2,0,.pv (iV n)),(2,1,.pv (iV d)),(2,2,.ls 4 s.length),(3,0,.pv (iV 0)),(3,1,.pv (iV 0)),(3,2,.pv (.slice none 0 0)),(0,0,qad s0),(1,0,qbu qs),(4,0,qad s),(5,0,.drow 38 6 k ds)]
abbrev qvS (k:Nat) (qs:List AskQ):TmL:=[(2,.pp 2 0),(4,.pp 3 0),(6,.ls 5 k),(17,.ls 1 qs.length),(18,.pv (iV (qs.length:Int))),(19,.pv (iV (k:Int)))]
abbrev qxT (k:Nat) (qs:List AskQ):TmL:=[(2,.pp 2 0),(4,.pp 3 0),(6,.ls 5 (k+1:Nat)),(17,.ls 1 qs.length),(18,.pv (iV (qs.length:Int))),(19,.pv (iV ((k+1:Nat):Int)))]
theorem qyj {n d n' d':Int} {s s' s0:List Pt} {rp:Rep} {qs:List AskQ} {aq:AskQ} {k:Nat} {ds:List Dn} (hlt:decide ((k:Int)<(qs.length:Int))=true) (hin:0≤(k:Int)∧(k:Int)<(qs.length:Int)) (hk:qs[k]?=some aq) (hd:Fn 69 1 [moS 0 s n d,.pv (qc7 aq)] [(0,0,qad s)] (.tu [mo1 1 s' n' d',.ag (qeY rp)]) 1 [(1,0,qad s')]) (he:(rp.e==0)=true) (hm:k+1≤1000000) (hs:iV (IntKind.i64.wrap ((k:Int)+1))=iV (((k+1:Nat):Int))) {e:Exit} {tm2:TmL} {hp2:HpL}
 (r:Rl 2 2 42 0 40 6 (qxT k qs) ([(2,0,.pv (iV n')),(2,1,.pv (iV d')),(2,2,.ls 4 s'.length),(3,0,.pv (iV 0)),(3,1,.pv (iV 0)),(3,2,.pv (.slice none 0 0)),(0,0,qad s0),(1,0,qbu qs),(4,0,qad s'),(5,0,.drow 38 6 (k+1) (ds++qfd rp))]) e tm2 hp2):Rl 2 2 42 0 40 6 (qvS k qs) (qt1 d ds k n qs s s0) e tm2 hp2:=
 RunsL.next [(4,7),(5,11)] 300 [.t true,.r (qc7 aq),Cf hd [4],.t true,Re hs]
  (Ro (Ai hlt (Ai hin (Ai (qcz hk) (Co hd [4] 7 (Ai he (Ai hm (Ai hs tI)))))))) r
theorem qvz {n d n' d':Int} {s s0:List Pt} {rp:Rep} {qs:List AskQ} {aq:AskQ} (hlt:decide (((0:Nat):Int)<(qs.length:Int))=true) (hin:0≤((0:Nat):Int)∧((0:Nat):Int)<(qs.length:Int)) (hk:qs[0]?=some aq) (hd:Fn 69 1 [moS 0 s n d,.pv (qc7 aq)] [(0,0,qad s)] (.tu [mo1 0 s n' d',.ag (qeY rp)]) 0 []) (he:(rp.e==0)=true) (hm:0+1≤1000000) (hs:iV (IntKind.i64.wrap (((0:Nat):Int)+1))=iV (((0+1:Nat):Int))) {e:Exit} {tm2:TmL} {hp2:HpL}
 (r:Rl 2 2 42 0 40 6 (qxy qs) ([(2,0,.pv (iV n')),(2,1,.pv (iV d')),(2,2,.ls 4 s.length),(3,0,.pv (iV 0)),(3,1,.pv (iV 0)),(3,2,.pv (.slice none 0 0)),(0,0,qad s0),(1,0,qbu qs),(4,0,qad s),(5,0,.drow 38 6 (0+1) ([]++qfd rp))]) e tm2 hp2):Rl 2 2 42 0 40 6 (qub qs) (qtq d n qs s s0) e tm2 hp2:=
 RunsL.next [(5,10)] 300 [.t true,.r (qc7 aq),Cf hd [4],.t true,.r (iV (((0+1:Nat):Int)))]
  (Ro (Ai hlt (Ai hin (Ai (qcz hk) (Co hd [4] 7 (Ai he (Ai hm (Ai hs tI)))))))) r
theorem qAA {n d n' d':Int} {s s0:List Pt} {rp:Rep} {qs:List AskQ} {aq:AskQ} {k:Nat} {ds:List Dn} (hlt:decide ((k:Int)<(qs.length:Int))=true) (hin:0≤(k:Int)∧(k:Int)<(qs.length:Int)) (hk:qs[k]?=some aq) (hd:Fn 69 1 [moS 0 s n d,.pv (qc7 aq)] [(0,0,qad s)] (.tu [mo1 0 s n' d',.ag (qeY rp)]) 0 []) (he:(rp.e==0)=true) (hm:k+1≤1000000) (hs:iV (IntKind.i64.wrap ((k:Int)+1))=iV (((k+1:Nat):Int))) {e:Exit} {tm2:TmL} {hp2:HpL}
 (r:Rl 2 2 42 0 40 6 (qxT k qs) ([(2,0,.pv (iV n')),(2,1,.pv (iV d')),(2,2,.ls 4 s.length),(3,0,.pv (iV 0)),(3,1,.pv (iV 0)),(3,2,.pv (.slice none 0 0)),(0,0,qad s0),(1,0,qbu qs),(4,0,qad s),(5,0,.drow 38 6 (k+1) (ds++qfd rp))]) e tm2 hp2):Rl 2 2 42 0 40 6 (qvS k qs) (qt1 d ds k n qs s s0) e tm2 hp2:=
 RunsL.next [(5,10)] 300 [.t true,.r (qc7 aq),Cf hd [4],.t true,Re hs]
  (Ro (Ai hlt (Ai hin (Ai (qcz hk) (Co hd [4] 7 (Ai he (Ai hm (Ai hs tI)))))))) r
theorem qvy {n d x y:Int} {s s0:List Pt} {rp:Rep} {qs:List AskQ} {aq:AskQ} (hlt:decide (((0:Nat):Int)<(qs.length:Int))=true) (hin:0≤((0:Nat):Int)∧((0:Nat):Int)<(qs.length:Int)) (hk:qs[0]?=some aq) (hd:Fn 69 1 [moS 0 s n d,.pv (qc7 aq)] [(0,0,qad s)] (.tu [mo1 0 s x y,.ag (qeY rp)]) 0 []) (he:(rp.e==0)=false) (hm:0+1≤1000000) (hs:iV (IntKind.i64.wrap (((0:Nat):Int)+1))=iV (((0+1:Nat):Int))) {e:Exit} {tm2:TmL} {hp2:HpL}
 (r:Rl 2 2 42 0 40 6 (qxy qs) ([(2,0,.pv (iV n)),(2,1,.pv (iV d)),(2,2,.ls 4 s.length),(3,0,.pv (iV 0)),(3,1,.pv (iV 0)),(3,2,.pv (.slice none 0 0)),(0,0,qad s0),(1,0,qbu qs),(4,0,qad s),(5,0,.drow 38 6 (0+1) ([]++qfd rp))]) e tm2 hp2):Rl 2 2 42 0 40 6 (qub qs) (qtq d n qs s s0) e tm2 hp2:=
 RunsL.next [(5,10)] 300 [.t true,.r (qc7 aq),Cf hd [4],.t false,.r (iV (((0+1:Nat):Int)))]
  (Ro (Ai hlt (Ai hin (Ai (qcz hk) (Co hd [4] 7 (Ai he (Ai hm (Ai hs tI)))))))) r
theorem qzS {n d x y:Int} {s s0:List Pt} {rp:Rep} {qs:List AskQ} {aq:AskQ} {k:Nat} {ds:List Dn} (hlt:decide ((k:Int)<(qs.length:Int))=true) (hin:0≤(k:Int)∧(k:Int)<(qs.length:Int)) (hk:qs[k]?=some aq) (hd:Fn 69 1 [moS 0 s n d,.pv (qc7 aq)] [(0,0,qad s)] (.tu [mo1 0 s x y,.ag (qeY rp)]) 0 []) (he:(rp.e==0)=false) (hm:k+1≤1000000) (hs:iV (IntKind.i64.wrap ((k:Int)+1))=iV (((k+1:Nat):Int))) {e:Exit} {tm2:TmL} {hp2:HpL}
 (r:Rl 2 2 42 0 40 6 (qxT k qs) ([(2,0,.pv (iV n)),(2,1,.pv (iV d)),(2,2,.ls 4 s.length),(3,0,.pv (iV 0)),(3,1,.pv (iV 0)),(3,2,.pv (.slice none 0 0)),(0,0,qad s0),(1,0,qbu qs),(4,0,qad s),(5,0,.drow 38 6 (k+1) (ds++qfd rp))]) e tm2 hp2):Rl 2 2 42 0 40 6 (qvS k qs) (qt1 d ds k n qs s s0) e tm2 hp2:=
 RunsL.next [(5,10)] 300 [.t true,.r (qc7 aq),Cf hd [4],.t false,Re hs]
  (Ro (Ai hlt (Ai hin (Ai (qcz hk) (Co hd [4] 7 (Ai he (Ai hm (Ai hs tI)))))))) r
theorem qxc {n d x y:Int} {s s0:List Pt} {rp:Rep} {qs:List AskQ} {aq:AskQ} (hlt:decide (((0:Nat):Int)<(qs.length:Int))=true) (hin:0≤((0:Nat):Int)∧((0:Nat):Int)<(qs.length:Int)) (hk:qs[0]?=some aq) (hd:Fn 69 1 [moS 0 s n d,.pv (qc7 aq)] [(0,0,qad s)] (.tu [.one (.pv (.agg #[iV x,iV y,.slice none 0 0])),.ag (qeY rp)]) 0 []) (he:(rp.e==0)=false) (hm:0+1≤1000000) (hs:iV (IntKind.i64.wrap (((0:Nat):Int)+1))=iV (((0+1:Nat):Int))) {e:Exit} {tm2:TmL} {hp2:HpL}
 (r:Rl 2 2 42 0 40 6 (qxy qs) ([(2,0,.pv (iV n)),(2,1,.pv (iV d)),(2,2,.ls 4 s.length),(3,0,.pv (iV 0)),(3,1,.pv (iV 0)),(3,2,.pv (.slice none 0 0)),(0,0,qad s0),(1,0,qbu qs),(4,0,qad s),(5,0,.drow 38 6 (0+1) ([]++qfd rp))]) e tm2 hp2):Rl 2 2 42 0 40 6 (qub qs) (qtq d n qs s s0) e tm2 hp2:=
 RunsL.next [(5,10)] 300 [.t true,.r (qc7 aq),Cf hd [4],.t false,.r (iV (((0+1:Nat):Int)))]
  (Ro (Ai hlt (Ai hin (Ai (qcz hk) (Co hd [4] 7 (Ai he (Ai hm (Ai hs tI)))))))) r
theorem qAC {n d x y:Int} {s s0:List Pt} {rp:Rep} {qs:List AskQ} {aq:AskQ} {k:Nat} {ds:List Dn} (hlt:decide ((k:Int)<(qs.length:Int))=true) (hin:0≤(k:Int)∧(k:Int)<(qs.length:Int)) (hk:qs[k]?=some aq) (hd:Fn 69 1 [moS 0 s n d,.pv (qc7 aq)] [(0,0,qad s)] (.tu [.one (.pv (.agg #[iV x,iV y,.slice none 0 0])),.ag (qeY rp)]) 0 []) (he:(rp.e==0)=false) (hm:k+1≤1000000) (hs:iV (IntKind.i64.wrap ((k:Int)+1))=iV (((k+1:Nat):Int))) {e:Exit} {tm2:TmL} {hp2:HpL}
 (r:Rl 2 2 42 0 40 6 (qxT k qs) ([(2,0,.pv (iV n)),(2,1,.pv (iV d)),(2,2,.ls 4 s.length),(3,0,.pv (iV 0)),(3,1,.pv (iV 0)),(3,2,.pv (.slice none 0 0)),(0,0,qad s0),(1,0,qbu qs),(4,0,qad s),(5,0,.drow 38 6 (k+1) (ds++qfd rp))]) e tm2 hp2):Rl 2 2 42 0 40 6 (qvS k qs) (qt1 d ds k n qs s s0) e tm2 hp2:=
 RunsL.next [(5,10)] 300 [.t true,.r (qc7 aq),Cf hd [4],.t false,Re hs]
  (Ro (Ai hlt (Ai hin (Ai (qcz hk) (Co hd [4] 7 (Ai he (Ai hm (Ai hs tI)))))))) r
theorem qtQ {n d:Int} {s s0:List Pt} {qs:List AskQ} {k:Nat} {ds:List Dn} (hlt:decide ((k:Int)<(qs.length:Int))=false):Rl 2 2 42 0 40 6 (qvS k qs) (qt1 d ds k n qs s s0) (.exit 0) ([(2,.pp 2 0),(4,.pp 3 0),(6,.ls 5 k)]) (qt1 d ds k n qs s s0):=
 RunsL.stop [] 300 [.t false] (fun h=>by cases h)
  (Ro (Ai hlt tI))
theorem qpR {n d:Int} {s s0:List Pt} {qs:List AskQ} (hlt:decide (((0:Nat):Int)<(qs.length:Int))=false):Rl 2 2 42 0 40 6 (qub qs) (qtq d n qs s s0) (.exit 0) ([(2,.pp 2 0),(4,.pp 3 0),(6,.ls 5 0)]) (qtq d n qs s s0):=
 RunsL.stop [] 300 [.t false] (fun h=>by cases h)
  (Ro (Ai hlt tI))
abbrev qAP (qs:List AskQ) (s0:List Pt) (td:Int) (tn:Int):HpL:=[(2,0,.pv (iV tn)),(2,1,.pv (iV td)),(2,2,.ls 4 s0.length),(3,0,.pv (iV 0)),(3,1,.pv (iV 0)),(3,2,.pv (.slice none 0 0)),(0,0,qad s0),(1,0,qbu qs),(4,0,qad s0),(5,0,.row 38 6 0 [])]
theorem qxa {tn td n d:Int} {s s0:List Pt} {qs:List AskQ} {k:Nat} {ds:List Dn} (hc:Fn 68 1 [.ls 0 s0.length] [(0,0,qad s0)] (.ls 1 s0.length) 1 [(1,0,qad s0)]) (r0:Rl 2 2 42 0 40 6 (qub qs) (qAP qs s0 td tn) (.exit 0) ([(2,.pp 2 0),(4,.pp 3 0),(6,.ls 5 k)]) (qt1 d ds k n qs s s0)) :
 Fn 42 2 [moS 0 s0 tn td,.ls 1 qs.length] [(0,0,qad s0),(1,0,qbu qs)] (.tu [mo1 2 s n d,.one (.dv 6 k ds)]) 1 [(2,0,qad s)]:=
 Fz [(2,4)] [Cf hc [0],.ln true 6 0 38 6,Lf r0,.fz true 6 0 0 6 ds]
  (qaG (qaF [(2,4)]) [(2,0,qad s)]) (Co hc [0] 4 (Lo r0 [] (Ai (LeD.refl ds) tI)))
theorem qsV {tn td n d:Int} {s s0:List Pt} {qs:List AskQ} (hc:Fn 68 1 [.ls 0 s0.length] [(0,0,qad s0)] (.ls 1 s0.length) 1 [(1,0,qad s0)]) (r0:Rl 2 2 42 0 40 6 (qub qs) (qAP qs s0 td tn) (.exit 0) ([(2,.pp 2 0),(4,.pp 3 0),(6,.ls 5 0)]) (qtq d n qs s s0)) :
 Fn 42 2 [moS 0 s0 tn td,.ls 1 qs.length] [(0,0,qad s0),(1,0,qbu qs)] (.tu [mo1 2 s n d,.one (.dv 6 0 [])]) 1 [(2,0,qad s)]:=
 Fz [(2,4)] [Cf hc [0],.ln true 6 0 38 6,Lf r0,.fz true 6 0 0 6 []]
  (qaG (qaF [(2,4)]) [(2,0,qad s)]) (Co hc [0] 4 (Lo r0 [] (Ai (LeD.refl []) tI)))
end Go.Proofs.YtleaeldgaflmkaaGreat
