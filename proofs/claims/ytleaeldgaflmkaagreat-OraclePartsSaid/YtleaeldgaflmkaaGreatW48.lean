/-
  Joined: Vq, Vr0, Vt, Vz, Vy, Vs, Vr, Vv, Vw, VA. Conditions: none.
-/
import Derived.Test.YtleaeldgaflmkaaGreatW47
import Derived.Test.YtleaeldgaflmkaaGreatW33
import Derived.Test.YtleaeldgaflmkaaGreatW38
import Derived.Test.YtleaeldgaflmkaaGreatW37
import Derived.Test.YtleaeldgaflmkaaGreatW35
import Derived.Test.YtleaeldgaflmkaaGreatW25
import Derived.Test.YtleaeldgaflmkaaGreatW45
namespace Go.Proofs.YtleaeldgaflmkaaGreat
set_option maxRecDepth 100000
open Go.RowKit
section
variable {s:List Pt} {n d:Int}
theorem qvu (hv:Val s):Fn 21 1 [moS 0 s n d] [(0,0,qad s)] (moS 1 s n d) 1 [(1,0,qad s)]:=vtw (ht:=qjB (by have:=hv.len;omega))
theorem qcS {a:AskQ} (hv:Val s) (ha:AskT n d) {e:Int} (he:e≠0) (hee:e=qiB s n d a) (hr:qpr s n d a (qeX e) n d s) (hp:Done s n d a (qeX e) n d s) (h1:a.kd=1→wfB a=true→¬ (okP a.pi a.pa a.pb=true∧(∀ p∈s,p.id≠a.pi)∧s.length<64)) (h4:a.kd=4→wfB a=true→¬ (AskT a.qn a.qd∧n*a.qd<a.qn*d))
 (h5:a.kd=5→wfB a=true→s=[]∧e=42) (h6:a.kd=6→wfB a=true→s.length<2∧e=42):Outc s n d a (qeX e) n d s where
 val:=hv
 ask:=ha
 few:=Nat.zero_le _
 ee:=hee
 keep:=fun _=>⟨rfl,rfl,rfl⟩
 err:=fun _=>⟨rfl,rfl,rfl,rfl⟩
 ref:=hr
 prg:=hp
 k1:=fun x y z u v=>(h1 x y ⟨z,u,v⟩).elim
 k4:=fun x y z u=>(h4 x y ⟨z,u⟩).elim
 k5:=fun x y=>Or.inl (h5 x y)
 k6:=fun x y=>Or.inl (h6 x y)
section
variable {pi pa pb z qn qd:Int}
open Classical in
theorem qrM (hw:wfB ⟨1,pi,pa,pb,z,qn,qd⟩=true):qiB s n d ⟨1,pi,pa,pb,z,qn,qd⟩=if ¬ okP pi pa pb=true then 8 else if ∃ p∈s,p.id=pi then 14 else if s.length=64 then 18 else 0:=by
 unfold qiB
 rw[if_neg (by rw[hw];intro h;cases h),if_pos rfl]
open Classical in
theorem qrv (hw:wfB ⟨2,pi,pa,pb,z,qn,qd⟩=true):qiB s n d ⟨2,pi,pa,pb,z,qn,qd⟩=if ∃ p∈s,p.id=z then 0 else 6:=by
 unfold qiB
 rw[if_neg (by rw[hw];intro h;cases h),if_neg (by intro h;cases h),if_pos rfl]
open Classical in
theorem qrH (hw:wfB ⟨3,pi,pa,pb,z,qn,qd⟩=true):qiB s n d ⟨3,pi,pa,pb,z,qn,qd⟩=if ¬ okP pi pa pb=true then 8 else if ∃ p∈s,p.id=pi then 0 else 6:=by
 unfold qiB
 rw[if_neg (by rw[hw];intro h;cases h),if_neg (by intro h;cases h),if_neg (by intro h;cases h),if_pos rfl]
theorem qjo (hw:wfB ⟨4,pi,pa,pb,z,qn,qd⟩=true):qiB s n d ⟨4,pi,pa,pb,z,qn,qd⟩=if qev qn qd≠0 then qev qn qd else if n*qd<qn*d then 0 else 44:=by
 unfold qiB
 rw[if_neg (by rw[hw];intro h;cases h),if_neg (by intro h;cases h),if_neg (by intro h;cases h),if_neg (by intro h;cases h),if_pos rfl]
open Classical in
theorem qr2 (hw:wfB ⟨5,pi,pa,pb,z,qn,qd⟩=true):qiB s n d ⟨5,pi,pa,pb,z,qn,qd⟩=if s=[] then 42 else 0:=by
 unfold qiB
 rw[if_neg (by rw[hw];intro h;cases h),if_neg (by intro h;cases h),if_neg (by intro h;cases h),if_neg (by intro h;cases h),if_neg (by intro h;cases h),if_pos rfl]
theorem qrK (hw:wfB ⟨6,pi,pa,pb,z,qn,qd⟩=true):qiB s n d ⟨6,pi,pa,pb,z,qn,qd⟩=if s.length<2 then 42 else 0:=by
 unfold qiB
 rw[if_neg (by rw[hw];intro h;cases h),if_neg (by intro h;cases h),if_neg (by intro h;cases h),if_neg (by intro h;cases h),if_neg (by intro h;cases h),if_neg (by intro h;cases h)]
end
theorem qiT (a:AskQ) (hv:Val s) (ht:AskT n d) (hq:I64 a.qn∧I64 a.qd):∃ r n' d' s',Outc s n d a r n' d' s':=by
 obtain⟨kd,pi,pa,pb,z,qn,qd⟩:=a
 obtain⟨w1,w2⟩:=quG ⟨kd,pi,pa,pb,z,qn,qd⟩
 have tw:=qvu (n:=n) (d:=d) hv
 obtain⟨i1,i2,i3⟩:=ht.in
 have tm:Tm n d:=⟨i1,i2,ht.ok⟩
 have e0:qcj s=0:=qbI.2 hv
 by_cases hn:¬ wfB ⟨kd,pi,pa,pb,z,qn,qd⟩=true
 ·have hw:=hn
  have hw':=Bool.not_eq_true _ |>.mp hn
  rw[hw'] at w1 w2
  exact⟨_,_,_,_,qcS hv ht (by decide) (by unfold qiB;rw[if_pos hw']) (qcl (qy4 (hw:=w2) (ht:=tw))) (qvO (qAo (hw:=w1))) (fun _ h=>(hw h).elim) (fun _ h=>(hw h).elim) (fun _ h=>(hw h).elim) (fun _ h=>(hw h).elim)⟩
 have hw:=Classical.not_not.1 hn
 rw[hw] at w1 w2
 by_cases h1:kd=1
 ·subst h1
  rcases qtA s pi pa pb with ⟨e,p1,p2,hr⟩ | ⟨k,_,g1,g2,g3,g4,g5,g6,p1,p2⟩
  ·have he:e≠0:=by rcases hr with ⟨h,_⟩ | ⟨_,_,h⟩ | ⟨_,_,_,h⟩ | ⟨_,_,_,_,h⟩<;>omega
   refine⟨_,_,_,_,qcS hv ht he (by
    rw[qrM hw]
    rcases hr with ⟨h,_⟩ | ⟨_,h,h9⟩ | ⟨_,k1,k2,h9⟩ | ⟨_,k1,k2,k3,h9⟩
    ·exact (h e0).elim
    ·rw[if_pos h];exact h9
    ·rw[if_neg (fun q=>q k1),if_pos k2];exact h9
    ·rw[if_neg (fun q=>q k1),if_neg (fun ⟨p,hp,e⟩=>k2 p hp e),if_pos k3];exact h9) (qcl (qvr (hw:=w2) (hc:=qwt (hp:=p2) (he:=by simpa using he) (ht:=tw)))) (.non he n d (qvQ (hw:=w1) (hp:=p1))) (fun _ _ ⟨a1,a2,a3⟩=>?_) (fun h=>by cases h) (fun h=>by cases h) (fun h=>by cases h)⟩
   rcases hr with ⟨h,_⟩ | ⟨_,h,_⟩ | ⟨_,_,⟨p,hp,h⟩,_⟩ | ⟨_,_,_,h,_⟩
   ·exact h e0
   ·exact h a1
   ·exact a2 p hp h
   ·omega
  ·refine⟨qeX 0,n,d,_,⟨qt2 hv g2 g1 g4 g5 g6,ht,Nat.zero_le _,(by rw[qrM hw,if_neg (fun q=>q g1),if_neg (fun ⟨p,hp,e⟩=>g3 p hp e),if_neg (by omega)]),(fun h=>(by rcases h with h | h<;>cases h)),fun h=>(h rfl).elim,qcl (qvi (hw:=w2) (hc:=qw8 (hp:=p2))),.new rfl (qxM (hw:=w1) (hp:=p1)),fun _ _ _ _ _=>⟨rfl,rfl,rfl,?_⟩,(fun h=>by cases h),(fun h=>by cases h),(fun h=>by cases h)⟩⟩
   exact (qou (p:=⟨pi,pa,pb⟩) g4 g5 g6).symm
 by_cases h2:kd=2
 ·subst h2
  rcases qql s z with ⟨e,p1,p2,hr⟩ | ⟨k,p,_,g1,g2,p1,p2⟩
  ·have he:e≠0:=by rcases hr with ⟨h,_⟩ | ⟨_,_,h⟩<;>omega
   exact⟨_,_,_,_,qcS hv ht he (by
    rw[qrv hw]
    rcases hr with ⟨h,_⟩ | ⟨_,h,h9⟩
    ·exact (h e0).elim
    ·rw[if_neg (fun ⟨p,hp,e⟩=>h p hp e)];exact h9) (qcl (qwx (hw:=w2) (hc:=qvP (hp:=p2) (he:=by simpa using he) (ht:=tw)))) (.non he n d (qxj (hw:=w1) (hp:=p1))) (fun h=>by cases h) (fun h=>by cases h) (fun h=>by cases h) (fun h=>by cases h)⟩
  ·exact⟨qeX 0,n,d,_,⟨qpl hv (qaw g1),ht,Nat.zero_le _,(by rw[qrv hw,if_pos ⟨p,List.mem_of_getElem? g1,g2⟩]),(fun h=>(by rcases h with h | h<;>cases h)),fun h=>(h rfl).elim,qcl (qwb (hw:=w2) (hc:=qxf (hp:=p2))),.new rfl (qvk (hw:=w1) (hp:=p1)),(fun h=>by cases h),(fun h=>by cases h),(fun h=>by cases h),(fun h=>by cases h)⟩⟩
 by_cases h3:kd=3
 ·subst h3
  rcases qkw s pi pa pb with ⟨e,p1,p2,hr⟩ | ⟨k,p,_,g1,g2,g3,p1,p2⟩
  ·have he:e≠0:=by rcases hr with ⟨h,_⟩ | ⟨_,_,h⟩ | ⟨_,_,_,h⟩<;>omega
   exact⟨_,_,_,_,qcS hv ht he (by
    rw[qrH hw]
    rcases hr with ⟨h,_⟩ | ⟨_,h,h9⟩ | ⟨_,k1,k2,h9⟩
    ·exact (h e0).elim
    ·rw[if_pos h];exact h9
    ·rw[if_neg (fun q=>q k1),if_neg (fun ⟨p,hp,e⟩=>k2 p hp e)];exact h9) (qcl (qwm (hw:=w2) (hc:=qxp (hp:=p2) (he:=by simpa using he) (ht:=tw)))) (.non he n d (qxm (hw:=w1) (hp:=p1))) (fun h=>by cases h) (fun h=>by cases h) (fun h=>by cases h) (fun h=>by cases h)⟩
  ·exact⟨qeX 0,n,d,_,⟨qsP hv g2 g3 g1,ht,Nat.zero_le _,(by rw[qrH hw,if_neg (fun q=>q g1),if_pos ⟨p,List.mem_of_getElem? g2,g3⟩]),(fun h=>(by rcases h with h | h<;>cases h)),fun h=>(h rfl).elim,qcl (qwG (hw:=w2) (hc:=qvG (hp:=p2))),.new rfl (qw7 (hw:=w1) (hp:=p1)),(fun h=>by cases h),(fun h=>by cases h),(fun h=>by cases h),(fun h=>by cases h)⟩⟩
 by_cases h4:kd=4
 ·subst h4
  have c1:Pure Tryz.prog 40 #[qaa qn qd] (iV (qev qn qd)):=fun w=>qcB qn qd w hq.1 hq.2
  have c2:Pure Tryz.prog 31 #[qaa qn qd] (iV (qev qn qd)):=fun w=>qe0 qn qd w hq.1 hq.2
  by_cases ha:qev qn qd=0
  ·have hT:=qbO.1 ha
   rw[ha] at c1 c2
   have k1:=qkk hq.1 hq.2 i1 i2 hT.ok ht.ok
   have k2:=qbz hq.1 hq.2 i1 i2
   by_cases hl:(qn*d-n*qd).sign≤0
   ·have hl':qn*d-n*qd≤0:=Int.sign_nonpos_iff.1 hl
    exact⟨_,_,_,_,qcS hv ht (e:=44) (by decide) (by rw[qjo hw,if_neg (fun q=>q ha),if_neg (by omega)]) (qcl (qr7 (hw:=w2) (hm:=qAm (ha:=c2) (hc:=k2) (hl:=dt hl) (ht:=tw)))) (.err (by decide) qn qd (qrU (hw:=w1) (hb:=qzl (ha:=c1) (hc:=k1) (hl:=dt hl)))) (fun h=>by cases h) (fun _ _ ⟨_,h⟩=>by simp only at h;omega) (fun h=>by cases h) (fun h=>by cases h)⟩
   ·have hl':¬ qn*d-n*qd≤0:=fun q=>hl (Int.sign_nonpos_iff.2 q)
    have hm:=qwW i1 i2 hq.1 hq.2 s (by unfold mE;rw[if_pos e0,if_pos ⟨ht.ok,hT.ok⟩,if_neg (by show ¬ n*qd-qn*d>0;omega)])
    have hb:=qhu i1 i2 hq.1 hq.2 hv
    exact⟨⟨0,0,0,0,0,qj9 s n d qn qd⟩,qn,qd,s,⟨hv,hT,(by have:=qks hv n d qn qd;show (qj9 s n d qn qd).length≤100000;omega),(by rw[qjo hw,if_neg (fun q=>q ha),if_pos (by omega)]),(fun h=>(by rcases h with h | h<;>cases h)),fun h=>(h rfl).elim,qxx (qwQ (hw:=w2) (hm:=qyM (ha:=c2) (hc:=k2) (hl:=df hl) (ht:=tw) (hb:=hb))),.old rfl rfl (qvy (hw:=w1) (hb:=qAI (ha:=c1) (hc:=k1) (hl:=df hl) (hm:=hm))),(fun h=>by cases h),fun _ _ _ _=>⟨rfl,rfl,rfl,rfl⟩,(fun h=>by cases h),(fun h=>by cases h)⟩⟩
  ·have ha':(qev qn qd !=0)=true:=by simpa using ha
   exact⟨_,_,_,_,qcS hv ht ha (by rw[qjo hw,if_pos ha]) (qcl (qr7 (hw:=w2) (hm:=qAx (ha:=c2) (he:=ha') (ht:=tw)))) (.err ha qn qd (qrU (hw:=w1) (hb:=qzf (ha:=c1) (he:=ha')))) (fun h=>by cases h) (fun _ _ ⟨h,_⟩=>ha (qbO.2 h)) (fun h=>by cases h) (fun h=>by cases h)⟩
 by_cases h5:kd=5
 ·subst h5
  by_cases hs:s=[]
  ·subst hs
   exact⟨_,_,_,_,qcS hv ht (e:=42) (by decide) (by rw[qr2 hw,if_pos rfl]) (qcl (qvR (hw:=w2) (hl:=by decide) (ht:=tw))) (.err (by decide) n d (qwn (hw:=w1) (hl:=qzm (hl:=qhG tm) (he:=by decide)))) (fun h=>by cases h) (fun h=>by cases h) (fun _ _=>⟨rfl,rfl⟩) (fun h=>by cases h)⟩
  ·have hm:=qoG hv n d hs
   obtain⟨k,hk⟩:=List.getElem?_of_mem hm
   have hp:=hv.ok _ hm
   obtain⟨N,D,E,f1,f2,f3,f4,f5⟩:=qrF hp ht
   obtain⟨N',D',g1,g2,g3,g4,g5⟩:=qoS hp ht
   have hmk:=qhS (a:=plS (ldr s n d) n d) (b:=d) (by omega)
   obtain⟨a1,a2,_⟩:=hmk.one (by omega) f1 f2 f3 f4
   obtain⟨b1,b2,_⟩:=hmk.one (by omega) g1 g2 g3 g4
   obtain rfl:=a1.symm.trans b1
   obtain rfl:=a2.symm.trans b2
   obtain⟨o,ho⟩:=qeB (tn:=n) (td:=d) hv
   have hor:=qi7 hv tm ho
   have h0:=qgG ho hs
   have hl:0<s.length:=List.length_pos_iff.2 hs
   have c1:=qaO s
   rw[e0] at c1
   have F1:=qic hk (qaA (qaw hk)) c1 (qcY hv hk rfl)
   refine⟨⟨0,(ldr s n d).id,0,N,D,[]⟩,n,d,s,⟨hv,ht,Nat.zero_le _,(by rw[qr2 hw,if_neg hs]),(fun _=>⟨rfl,rfl,rfl⟩),fun h=>(h rfl).elim,qcl (qxG (k:=k) (g:=o.map Pt.id) (hw:=w2) (hl:=by simpa using hs) (h0:=⟨by omega,by omega⟩) (hg:=by rw[List.getElem?_map,h0];rfl) (ho:=hor) (ht:=tw) (hk:=qjP hv hk rfl) (hk1:=⟨by omega,by have:=qaw hk;omega⟩) (hk2:=hk) (hq:=g5)),.old rfl rfl (qwn (hw:=w1) (hl:=qAP (hl:=qkA hv tm hs) (hf:=F1) (hp:=f5))),(fun h=>by cases h),(fun h=>by cases h),fun _ _=>Or.inr ⟨hs,N,D,rfl,f1,f2,f3,f4⟩,(fun h=>by cases h)⟩⟩
 by_cases h6:kd=6
 ·subst h6
  obtain⟨i,j,N,D,e,hc,hz,cl⟩:=qpk (s:=s) i1 i2
  by_cases h2:s.length<2
  ·have he:e=42:=by
    rcases hc with ⟨h,_⟩ | ⟨_,h,_⟩ | ⟨_,_,_,h⟩ | ⟨_,_,h,_⟩
    ·exact (h e0).elim
    ·exact (h (qbO.2 ht)).elim
    ·exact h
    ·omega
   subst he
   obtain⟨rfl,rfl,rfl,rfl⟩:=hz (by decide)
   exact⟨_,_,_,_,qcS hv ht (e:=42) (by decide) (by rw[qrK hw,if_pos h2]) (qcl (qwL (hw:=w2) (hl:=dt (by omega)) (ht:=tw))) (.err (by decide) n d (qww (hw:=w1) (hl:=cl))) (fun h=>by cases h) (fun h=>by cases h) (fun h=>by cases h) (fun _ _=>⟨h2,rfl⟩)⟩
  ·obtain⟨he,hi,hj,hD⟩:e=0∧i=(ptK s (qb6 s n d).1).id∧j=(ptK s (qb6 s n d).2).id∧DisI s n d (qb6 s n d) N D:=by
    rcases hc with ⟨h,_⟩ | ⟨_,h,_⟩ | ⟨_,_,h,_⟩ | ⟨_,_,_,h⟩
    ·exact (h e0).elim
    ·exact (h (qbO.2 ht)).elim
    ·omega
    ·exact h
   subst he hi hj
   obtain⟨N',D',j1,_,rp⟩:=qAs hv.ok ht (by have:=hv.len;omega) (by omega)
   obtain⟨rfl,rfl⟩:=DisI.uniq i3 hD j1
   exact⟨⟨0,_,_,N,D,[]⟩,n,d,s,⟨hv,ht,Nat.zero_le _,(by rw[qrK hw,if_neg h2]),(fun _=>⟨rfl,rfl,rfl⟩),fun h=>(h rfl).elim,qcl (qxB (hw:=w2) (hl:=df (by omega)) (hp:=rp) (ht:=tw)),.old rfl rfl (qww (hw:=w1) (hl:=cl)),(fun h=>by cases h),(fun h=>by cases h),(fun h=>by cases h),fun _ _=>Or.inr ⟨by show 2≤s.length;omega,N,D,rfl,hD⟩⟩⟩
 ·exfalso
  have:wfB ⟨kd,pi,pa,pb,z,qn,qd⟩=false:=by simp[wfB,h1,h2,h3,h4,h5,h6]
  rw[this] at hw
  cases hw
end
end Go.Proofs.YtleaeldgaflmkaaGreat

namespace Go.Proofs.YtleaeldgaflmkaaGreat
set_option maxRecDepth 100000
open Go.RowKit
def qbh:List AskQ→List Value
 | []=>[]
 | a::r=>.int .u8 a.kd::iV a.pi::iV a.pa::iV a.pb::iV a.z::iV a.qn::iV a.qd::qbh r
abbrev qb7 (qs:List AskQ):SV:=.row 42 7 qs.length (qbh qs)
abbrev qeU (r:Rep):List Dn:=[.v (iV r.e),.v (iV r.id),.v (iV r.ot),.v (iV r.n),.v (iV r.d),.sl 4 r.ms.length ((msV r.ms).map .v)]
theorem qtR (r:Rep):qxg (qeU r) 0 (qeU r):=fun j d h=>by rw[Nat.zero_add];exact h
theorem qhT:∀ {l:List AskQ} {k:Nat} {a:AskQ},l[k]?=some a→(qbh l)[k*7]?=some (.int .u8 a.kd)∧(qbh l)[k*7+1]?=some (iV a.pi)∧(qbh l)[k*7+2]?=some (iV a.pa)∧(qbh l)[k*7+3]?=some (iV a.pb)∧(qbh l)[k*7+4]?=some (iV a.z)∧(qbh l)[k*7+5]?=some (iV a.qn)∧(qbh l)[k*7+6]?=some (iV a.qd)
 | [],k,p,h=>by simp at h
 | q::r,0,p,h=>by simp at h;subst h;exact⟨rfl,rfl,rfl,rfl,rfl,rfl,rfl⟩
 | q::r,k+1,p,h=>by
  have:=qhT (l:=r) (k:=k) (a:=p) (by simpa using h)
  rw[show (k+1)*7=k*7+1+1+1+1+1+1+1 by omega]
  exact this
theorem qcI {l:List AskQ} {k:Nat} {a:AskQ} (h:l[k]?=some a):qd3 (qbh l) (0*7+k*7) [.int .u8 a.kd,iV a.pi,iV a.pa,iV a.pb,iV a.z,iV a.qn,iV a.qd]:=by
 obtain⟨h0,h1,h2,h3,h4,h5,h6⟩:=qhT h
 intro j v hj
 rw[show 0*7+k*7+j=k*7+j by omega]
 match j,hj with
 | 0,hj=>cases hj;exact h0
 | 1,hj=>cases hj;exact h1
 | 2,hj=>cases hj;exact h2
 | 3,hj=>cases hj;exact h3
 | 4,hj=>cases hj;exact h4
 | 5,hj=>cases hj;exact h5
 | 6,hj=>cases hj;exact h6
 | j+7,hj=>simp at hj
end Go.Proofs.YtleaeldgaflmkaaGreat

namespace Go.Proofs.YtleaeldgaflmkaaGreat
set_option maxRecDepth 100000
open Go.RowKit
theorem qyw (t t':TypeId) (es n:Nat) (xs:List Value):some (SV.prow t' es n xs)=some (SV.row t es n xs)∨∃ t1 es1 n1 xs1,SV.row t es n xs=.row t1 es1 n1 xs1∧∃ t2,some (SV.prow t' es n xs)=some (.prow t2 es1 n1 xs1):=Or.inr ⟨t,es,n,xs,rfl,t',rfl⟩
theorem qjr (a b:Int):(a==a&&(b==b&&true))=true:=by simp
theorem qz9 {rp:Rep} (hs:Fn 34 2 [.ls 0 rp.ms.length,.ls 1 rp.ms.length] [(0,0,.row 95 4 rp.ms.length (msV rp.ms)),(1,0,.row 95 4 rp.ms.length (msV rp.ms))] (.pv (.bool true)) 0 []) :
 Fn 26 0 [.ag (qb2 rp),.ag (qb2 rp)] [] (.pv (.bool true)) 0 []:=
 Fz [] [.od true 0 0 5 95 (some (msV rp.ms)),.od true 1 0 5 95 (some (msV rp.ms)),.t true,.t true,.t true,.t true,.fq [0,1] [.ls 0 rp.ms.length,.ls 1 rp.ms.length] [(0,0,.row 95 4 rp.ms.length (msV rp.ms)),(1,0,.row 95 4 rp.ms.length (msV rp.ms))] (.pv (.bool true)) 0 []]
  tI (Ai (Eq.refl ((msV rp.ms).map Dn.v)) (Ai (Eq.refl ((msV rp.ms).map Dn.v)) (Ai (qgQ rp.e) (Ai (qgQ rp.id) (Ai (qgQ rp.ot) (Ai (qjr rp.n rp.d) (Ai hs (Ai (Ca hs [0,1] 4) (Ai (Ai (qyw 95 95 4 rp.ms.length (msV rp.ms)) (Ai (qyw 95 95 4 rp.ms.length (msV rp.ms)) tI)) tI)))))))))
theorem qAO {tn td:Int} {s:List Pt} (hs:Fn 49 2 [qap 0 s,qap 1 s] [(0,0,qad s),(1,0,qad s)] (.pv (.bool true)) 0 []) :
 Fn 24 2 [moS 0 s tn td,moS 1 s tn td] [(0,0,qad s),(1,0,qad s)] (.pv (.bool true)) 0 []:=
 Fz [] [.t true,Cf hs [0,1]]
  tI (Ai (qjr tn td) (Co hs [0,1] 4 tI))
end Go.Proofs.YtleaeldgaflmkaaGreat

namespace Go.Proofs.YtleaeldgaflmkaaGreat
set_option maxRecDepth 100000
open Go.RowKit
theorem qeQ (x:Int):(x !=x)=false:=by simp
end Go.Proofs.YtleaeldgaflmkaaGreat

namespace Go.Proofs.YtleaeldgaflmkaaGreat
set_option maxRecDepth 100000
open Go.RowKit
theorem qwK {tn td n' d':Int} {s' s0:List Pt} {qs:List AskQ} {k:Nat} {ds:List Dn} (hc:Fn 14 1 [moS 0 s0 tn td] [(0,0,qad s0)] (.pv (iV (0))) 0 []) (hl:decide ((qs.length:Int)>120)=false) (hr:Fn 42 2 [moS 0 s0 tn td,.ls 1 qs.length] [(0,0,qad s0),(1,0,qb7 qs)] (.tu [mo1 2 s' n' d',.one (.dv 6 k ds)]) 1 [(2,0,qad s')]) :
 Fn 13 2 [moS 0 s0 tn td,.ls 1 qs.length] [(0,0,qad s0),(1,0,qb7 qs)] (.tu [mo1 2 s' n' d',.one (.dv 6 k ds),.one (.pv (iV 0))]) 1 [(2,0,qad s')]:=
 Fz [(2,4)] [Cf hc [0],.k,.t false,Cf hr [0,1]]
  (qaI (qaG [(2,4)]) [(2,0,qad s')]) (Co hc [0] 4 (Ai hl (Co hr [0,1] 4 tI)))
end Go.Proofs.YtleaeldgaflmkaaGreat

namespace Go.Proofs.YtleaeldgaflmkaaGreat
set_option maxRecDepth 100000
open Go.RowKit
theorem qy9 {tn td e1 e2:Int} {s:List Pt} (ha:Pure Tryz.prog 40 #[qaa tn td] (iV (e1))) (hc:Fn 44 1 [qap 0 s] [(0,0,qad s)] (.pv (iV (e2))) 0 []) (he:(e1 !=0)=true) :
 Fn 14 1 [moS 0 s tn td] [(0,0,qad s)] (.pv (iV (8))) 0 []:=
 Fz [] [.md,Rf ha,Cf hc [0],.k,.k,.t true,.t true]
  tI (Ai ha (Co hc [0] 2 (Ai he (Ai he tI))))
theorem qy2 {tn td e2:Int} {s:List Pt} (ha:Pure Tryz.prog 40 #[qaa tn td] (iV (0))) (hc:Fn 44 1 [qap 0 s] [(0,0,qad s)] (.pv (iV (e2))) 0 []) (he:(e2 !=0)=true) :
 Fn 14 1 [moS 0 s tn td] [(0,0,qad s)] (.pv (iV (8))) 0 []:=
 Fz [] [.md,Rf ha,Cf hc [0],.k,.k,.k,.k,.k,.t true,.t true]
  tI (Ai ha (Co hc [0] 2 (Ai he (Ai he tI))))
theorem qAU {tn td:Int} {s:List Pt} (ha:Pure Tryz.prog 40 #[qaa tn td] (iV (0))) (hc:Fn 44 1 [qap 0 s] [(0,0,qad s)] (.pv (iV (0))) 0 []) :
 Fn 14 1 [moS 0 s tn td] [(0,0,qad s)] (.pv (iV (0))) 0 []:=
 Fz [] [.md,Rf ha,Cf hc [0],.k,.k,.k,.k,.k,.k,.k,.k,.k]
  tI (Ai ha (Co hc [0] 2 tI))
theorem qyF {tn td n' d':Int} {s s':List Pt} {rp:Rep} {aq:AskQ} (hc:Fn 14 1 [moS 0 s tn td] [(0,0,qad s)] (.pv (iV (0))) 0 []) (hr:Fn 42 2 [moS 0 s tn td,.ls 1 1] [(0,0,qad s),(1,0,qb7 [aq])] (.tu [mo1 2 s' n' d',.one (.dv 6 1 (qeU rp))]) 1 [(2,0,qad s')]) (h0:0≤(0:Int)∧(0:Int)<(1:Int)) :
 Fn 12 1 [moS 0 s tn td,.pv (qci aq)] [(0,0,qad s)] (.tu [mo1 1 s' n' d',.ag (qb2 rp),.one (.pv (iV 0))]) 1 [(1,0,qad s')]:=
 Fz [(1,6)] [Cf hc [0],.k,.lw,Cf hr [0,5],.od true 9 0 0 38 none,.md,.dr (qb2 rp)]
  (qaI (qaG [(1,6)]) [(1,0,qad s')]) (Co hc [0] 5 (Co hr [0,5] 6 (Ai h0 (Ai (qtR rp) tI))))
end Go.Proofs.YtleaeldgaflmkaaGreat

namespace Go.Proofs.YtleaeldgaflmkaaGreat
set_option maxRecDepth 100000
open Go.RowKit
abbrev qsy (d:Int) (n:Int) (qs:List AskQ) (s:List Pt) (s0:List Pt):HpL:=[(2,0,.pv (iV n)),(2,1,.pv (iV d)),(2,2,.ls 4 s.length),(3,0,.pv (iV 0)),(3,1,.pv (iV 0)),(3,2,.pv (.slice none 0 0)),(0,0,qad s0),(1,0,qb7 qs),(4,0,qad s),(5,0,.row 38 6 0 [])]
abbrev qs1 (qs:List AskQ):TmL:=[(2,.pp 2 0),(4,.pp 3 0),(6,.ls 5 0),(17,.ls 1 qs.length),(18,.pv (iV (qs.length:Int))),(19,.pv (iV (0:Int)))]
abbrev qym (qs:List AskQ):TmL:=[(2,.pp 2 0),(4,.pp 3 0),(6,.ls 5 (0+1:Nat)),(17,.ls 1 qs.length),(18,.pv (iV (qs.length:Int))),(19,.pv (iV ((0+1:Nat):Int)))]
theorem qxe {n d n' d':Int} {s s' s0:List Pt} {rp:Rep} {qs:List AskQ} {aq:AskQ} (hlt:decide (((0:Nat):Int)<(qs.length:Int))=true) (hin:0≤((0:Nat):Int)∧((0:Nat):Int)<(qs.length:Int)) (hk:qs[0]?=some aq) (hd:Fn 69 1 [moS 0 s n d,.pv (qci aq)] [(0,0,qad s)] (.tu [mo1 1 s' n' d',.ag (qb2 rp)]) 1 [(1,0,qad s')]) (he:(rp.e==0)=true) (hm:0+1≤1000000) (hs:iV (IntKind.i64.wrap (((0:Nat):Int)+1))=iV (((0+1:Nat):Int))) {e:Exit} {tm2:TmL} {hp2:HpL}
 (r:Rl 2 2 42 0 40 6 (qym qs) ([(2,0,.pv (iV n')),(2,1,.pv (iV d')),(2,2,.ls 4 s'.length),(3,0,.pv (iV 0)),(3,1,.pv (iV 0)),(3,2,.pv (.slice none 0 0)),(0,0,qad s0),(1,0,qb7 qs),(4,0,qad s'),(5,0,.drow 38 6 (0+1) ([]++qeU rp))]) e tm2 hp2):Rl 2 2 42 0 40 6 (qs1 qs) (qsy d n qs s s0) e tm2 hp2:=
 RunsL.next [(4,7),(5,11)] 300 [.t true,.r (qci aq),Cf hd [4],.t true,.r (iV (((0+1:Nat):Int)))]
  (Ro (Ai hlt (Ai hin (Ai (qcI hk) (Co hd [4] 7 (Ai he (Ai hm (Ai hs tI)))))))) r
abbrev qtG (d:Int) (ds:List Dn) (k:Nat) (n:Int) (qs:List AskQ) (s:List Pt) (s0:List Pt):HpL:=[(2,0,.pv (iV n)),(2,1,.pv (iV d)),(2,2,.ls 4 s.length),(3,0,.pv (iV 0)),(3,1,.pv (iV 0)),(3,2,.pv (.slice none 0 0)),(0,0,qad s0),(1,0,qb7 qs),(4,0,qad s),(5,0,.drow 38 6 k ds)]
abbrev qxu (k:Nat) (qs:List AskQ):TmL:=[(2,.pp 2 0),(4,.pp 3 0),(6,.ls 5 k),(17,.ls 1 qs.length),(18,.pv (iV (qs.length:Int))),(19,.pv (iV (k:Int)))]
abbrev qyr (k:Nat) (qs:List AskQ):TmL:=[(2,.pp 2 0),(4,.pp 3 0),(6,.ls 5 (k+1:Nat)),(17,.ls 1 qs.length),(18,.pv (iV (qs.length:Int))),(19,.pv (iV ((k+1:Nat):Int)))]
theorem qzb {n d n' d':Int} {s s' s0:List Pt} {rp:Rep} {qs:List AskQ} {aq:AskQ} {k:Nat} {ds:List Dn} (hlt:decide ((k:Int)<(qs.length:Int))=true) (hin:0≤(k:Int)∧(k:Int)<(qs.length:Int)) (hk:qs[k]?=some aq) (hd:Fn 69 1 [moS 0 s n d,.pv (qci aq)] [(0,0,qad s)] (.tu [mo1 1 s' n' d',.ag (qb2 rp)]) 1 [(1,0,qad s')]) (he:(rp.e==0)=true) (hm:k+1≤1000000) (hs:iV (IntKind.i64.wrap ((k:Int)+1))=iV (((k+1:Nat):Int))) {e:Exit} {tm2:TmL} {hp2:HpL}
 (r:Rl 2 2 42 0 40 6 (qyr k qs) ([(2,0,.pv (iV n')),(2,1,.pv (iV d')),(2,2,.ls 4 s'.length),(3,0,.pv (iV 0)),(3,1,.pv (iV 0)),(3,2,.pv (.slice none 0 0)),(0,0,qad s0),(1,0,qb7 qs),(4,0,qad s'),(5,0,.drow 38 6 (k+1) (ds++qeU rp))]) e tm2 hp2):Rl 2 2 42 0 40 6 (qxu k qs) (qtG d ds k n qs s s0) e tm2 hp2:=
 RunsL.next [(4,7),(5,11)] 300 [.t true,.r (qci aq),Cf hd [4],.t true,Re hs]
  (Ro (Ai hlt (Ai hin (Ai (qcI hk) (Co hd [4] 7 (Ai he (Ai hm (Ai hs tI)))))))) r
theorem qxP {n d n' d':Int} {s s0:List Pt} {rp:Rep} {qs:List AskQ} {aq:AskQ} (hlt:decide (((0:Nat):Int)<(qs.length:Int))=true) (hin:0≤((0:Nat):Int)∧((0:Nat):Int)<(qs.length:Int)) (hk:qs[0]?=some aq) (hd:Fn 69 1 [moS 0 s n d,.pv (qci aq)] [(0,0,qad s)] (.tu [mo1 0 s n' d',.ag (qb2 rp)]) 0 []) (he:(rp.e==0)=true) (hm:0+1≤1000000) (hs:iV (IntKind.i64.wrap (((0:Nat):Int)+1))=iV (((0+1:Nat):Int))) {e:Exit} {tm2:TmL} {hp2:HpL}
 (r:Rl 2 2 42 0 40 6 (qym qs) ([(2,0,.pv (iV n')),(2,1,.pv (iV d')),(2,2,.ls 4 s.length),(3,0,.pv (iV 0)),(3,1,.pv (iV 0)),(3,2,.pv (.slice none 0 0)),(0,0,qad s0),(1,0,qb7 qs),(4,0,qad s),(5,0,.drow 38 6 (0+1) ([]++qeU rp))]) e tm2 hp2):Rl 2 2 42 0 40 6 (qs1 qs) (qsy d n qs s s0) e tm2 hp2:=
 RunsL.next [(5,10)] 300 [.t true,.r (qci aq),Cf hd [4],.t true,.r (iV (((0+1:Nat):Int)))]
  (Ro (Ai hlt (Ai hin (Ai (qcI hk) (Co hd [4] 7 (Ai he (Ai hm (Ai hs tI)))))))) r
theorem qzO {n d n' d':Int} {s s0:List Pt} {rp:Rep} {qs:List AskQ} {aq:AskQ} {k:Nat} {ds:List Dn} (hlt:decide ((k:Int)<(qs.length:Int))=true) (hin:0≤(k:Int)∧(k:Int)<(qs.length:Int)) (hk:qs[k]?=some aq) (hd:Fn 69 1 [moS 0 s n d,.pv (qci aq)] [(0,0,qad s)] (.tu [mo1 0 s n' d',.ag (qb2 rp)]) 0 []) (he:(rp.e==0)=true) (hm:k+1≤1000000) (hs:iV (IntKind.i64.wrap ((k:Int)+1))=iV (((k+1:Nat):Int))) {e:Exit} {tm2:TmL} {hp2:HpL}
 (r:Rl 2 2 42 0 40 6 (qyr k qs) ([(2,0,.pv (iV n')),(2,1,.pv (iV d')),(2,2,.ls 4 s.length),(3,0,.pv (iV 0)),(3,1,.pv (iV 0)),(3,2,.pv (.slice none 0 0)),(0,0,qad s0),(1,0,qb7 qs),(4,0,qad s),(5,0,.drow 38 6 (k+1) (ds++qeU rp))]) e tm2 hp2):Rl 2 2 42 0 40 6 (qxu k qs) (qtG d ds k n qs s s0) e tm2 hp2:=
 RunsL.next [(5,10)] 300 [.t true,.r (qci aq),Cf hd [4],.t true,Re hs]
  (Ro (Ai hlt (Ai hin (Ai (qcI hk) (Co hd [4] 7 (Ai he (Ai hm (Ai hs tI)))))))) r
theorem qxh {n d x y:Int} {s s0:List Pt} {rp:Rep} {qs:List AskQ} {aq:AskQ} (hlt:decide (((0:Nat):Int)<(qs.length:Int))=true) (hin:0≤((0:Nat):Int)∧((0:Nat):Int)<(qs.length:Int)) (hk:qs[0]?=some aq) (hd:Fn 69 1 [moS 0 s n d,.pv (qci aq)] [(0,0,qad s)] (.tu [mo1 0 s x y,.ag (qb2 rp)]) 0 []) (he:(rp.e==0)=false) (hm:0+1≤1000000) (hs:iV (IntKind.i64.wrap (((0:Nat):Int)+1))=iV (((0+1:Nat):Int))) {e:Exit} {tm2:TmL} {hp2:HpL}
 (r:Rl 2 2 42 0 40 6 (qym qs) ([(2,0,.pv (iV n)),(2,1,.pv (iV d)),(2,2,.ls 4 s.length),(3,0,.pv (iV 0)),(3,1,.pv (iV 0)),(3,2,.pv (.slice none 0 0)),(0,0,qad s0),(1,0,qb7 qs),(4,0,qad s),(5,0,.drow 38 6 (0+1) ([]++qeU rp))]) e tm2 hp2):Rl 2 2 42 0 40 6 (qs1 qs) (qsy d n qs s s0) e tm2 hp2:=
 RunsL.next [(5,10)] 300 [.t true,.r (qci aq),Cf hd [4],.t false,.r (iV (((0+1:Nat):Int)))]
  (Ro (Ai hlt (Ai hin (Ai (qcI hk) (Co hd [4] 7 (Ai he (Ai hm (Ai hs tI)))))))) r
theorem qzx {n d x y:Int} {s s0:List Pt} {rp:Rep} {qs:List AskQ} {aq:AskQ} {k:Nat} {ds:List Dn} (hlt:decide ((k:Int)<(qs.length:Int))=true) (hin:0≤(k:Int)∧(k:Int)<(qs.length:Int)) (hk:qs[k]?=some aq) (hd:Fn 69 1 [moS 0 s n d,.pv (qci aq)] [(0,0,qad s)] (.tu [mo1 0 s x y,.ag (qb2 rp)]) 0 []) (he:(rp.e==0)=false) (hm:k+1≤1000000) (hs:iV (IntKind.i64.wrap ((k:Int)+1))=iV (((k+1:Nat):Int))) {e:Exit} {tm2:TmL} {hp2:HpL}
 (r:Rl 2 2 42 0 40 6 (qyr k qs) ([(2,0,.pv (iV n)),(2,1,.pv (iV d)),(2,2,.ls 4 s.length),(3,0,.pv (iV 0)),(3,1,.pv (iV 0)),(3,2,.pv (.slice none 0 0)),(0,0,qad s0),(1,0,qb7 qs),(4,0,qad s),(5,0,.drow 38 6 (k+1) (ds++qeU rp))]) e tm2 hp2):Rl 2 2 42 0 40 6 (qxu k qs) (qtG d ds k n qs s s0) e tm2 hp2:=
 RunsL.next [(5,10)] 300 [.t true,.r (qci aq),Cf hd [4],.t false,Re hs]
  (Ro (Ai hlt (Ai hin (Ai (qcI hk) (Co hd [4] 7 (Ai he (Ai hm (Ai hs tI)))))))) r
theorem qv6 {n d x y:Int} {s s0:List Pt} {rp:Rep} {qs:List AskQ} {aq:AskQ} (hlt:decide (((0:Nat):Int)<(qs.length:Int))=true) (hin:0≤((0:Nat):Int)∧((0:Nat):Int)<(qs.length:Int)) (hk:qs[0]?=some aq) (hd:Fn 69 1 [moS 0 s n d,.pv (qci aq)] [(0,0,qad s)] (.tu [.one (.pv (.agg #[iV x,iV y,.slice none 0 0])),.ag (qb2 rp)]) 0 []) (he:(rp.e==0)=false) (hm:0+1≤1000000) (hs:iV (IntKind.i64.wrap (((0:Nat):Int)+1))=iV (((0+1:Nat):Int))) {e:Exit} {tm2:TmL} {hp2:HpL}
 (r:Rl 2 2 42 0 40 6 (qym qs) ([(2,0,.pv (iV n)),(2,1,.pv (iV d)),(2,2,.ls 4 s.length),(3,0,.pv (iV 0)),(3,1,.pv (iV 0)),(3,2,.pv (.slice none 0 0)),(0,0,qad s0),(1,0,qb7 qs),(4,0,qad s),(5,0,.drow 38 6 (0+1) ([]++qeU rp))]) e tm2 hp2):Rl 2 2 42 0 40 6 (qs1 qs) (qsy d n qs s s0) e tm2 hp2:=
 RunsL.next [(5,10)] 300 [.t true,.r (qci aq),Cf hd [4],.t false,.r (iV (((0+1:Nat):Int)))]
  (Ro (Ai hlt (Ai hin (Ai (qcI hk) (Co hd [4] 7 (Ai he (Ai hm (Ai hs tI)))))))) r
theorem qAj {n d x y:Int} {s s0:List Pt} {rp:Rep} {qs:List AskQ} {aq:AskQ} {k:Nat} {ds:List Dn} (hlt:decide ((k:Int)<(qs.length:Int))=true) (hin:0≤(k:Int)∧(k:Int)<(qs.length:Int)) (hk:qs[k]?=some aq) (hd:Fn 69 1 [moS 0 s n d,.pv (qci aq)] [(0,0,qad s)] (.tu [.one (.pv (.agg #[iV x,iV y,.slice none 0 0])),.ag (qb2 rp)]) 0 []) (he:(rp.e==0)=false) (hm:k+1≤1000000) (hs:iV (IntKind.i64.wrap ((k:Int)+1))=iV (((k+1:Nat):Int))) {e:Exit} {tm2:TmL} {hp2:HpL}
 (r:Rl 2 2 42 0 40 6 (qyr k qs) ([(2,0,.pv (iV n)),(2,1,.pv (iV d)),(2,2,.ls 4 s.length),(3,0,.pv (iV 0)),(3,1,.pv (iV 0)),(3,2,.pv (.slice none 0 0)),(0,0,qad s0),(1,0,qb7 qs),(4,0,qad s),(5,0,.drow 38 6 (k+1) (ds++qeU rp))]) e tm2 hp2):Rl 2 2 42 0 40 6 (qxu k qs) (qtG d ds k n qs s s0) e tm2 hp2:=
 RunsL.next [(5,10)] 300 [.t true,.r (qci aq),Cf hd [4],.t false,Re hs]
  (Ro (Ai hlt (Ai hin (Ai (qcI hk) (Co hd [4] 7 (Ai he (Ai hm (Ai hs tI)))))))) r
theorem qme {n d:Int} {s s0:List Pt} {qs:List AskQ} {k:Nat} {ds:List Dn} (hlt:decide ((k:Int)<(qs.length:Int))=false):Rl 2 2 42 0 40 6 (qxu k qs) (qtG d ds k n qs s s0) (.exit 0) ([(2,.pp 2 0),(4,.pp 3 0),(6,.ls 5 k)]) (qtG d ds k n qs s s0):=
 RunsL.stop [] 300 [.t false] (fun h=>by cases h)
  (Ro (Ai hlt tI))
theorem qkm {n d:Int} {s s0:List Pt} {qs:List AskQ} (hlt:decide (((0:Nat):Int)<(qs.length:Int))=false):Rl 2 2 42 0 40 6 (qs1 qs) (qsy d n qs s s0) (.exit 0) ([(2,.pp 2 0),(4,.pp 3 0),(6,.ls 5 0)]) (qsy d n qs s s0):=
 RunsL.stop [] 300 [.t false] (fun h=>by cases h)
  (Ro (Ai hlt tI))
abbrev qA4 (qs:List AskQ) (s0:List Pt) (td:Int) (tn:Int):HpL:=[(2,0,.pv (iV tn)),(2,1,.pv (iV td)),(2,2,.ls 4 s0.length),(3,0,.pv (iV 0)),(3,1,.pv (iV 0)),(3,2,.pv (.slice none 0 0)),(0,0,qad s0),(1,0,qb7 qs),(4,0,qad s0),(5,0,.row 38 6 0 [])]
theorem qrV {tn td n d:Int} {s s0:List Pt} {qs:List AskQ} {k:Nat} {ds:List Dn} (hc:Fn 68 1 [.ls 0 s0.length] [(0,0,qad s0)] (.ls 1 s0.length) 1 [(1,0,qad s0)]) (r0:Rl 2 2 42 0 40 6 (qs1 qs) (qA4 qs s0 td tn) (.exit 0) ([(2,.pp 2 0),(4,.pp 3 0),(6,.ls 5 k)]) (qtG d ds k n qs s s0)) :
 Fn 42 2 [moS 0 s0 tn td,.ls 1 qs.length] [(0,0,qad s0),(1,0,qb7 qs)] (.tu [mo1 2 s n d,.one (.dv 6 k ds)]) 1 [(2,0,qad s)]:=
 Fz [(2,4)] [Cf hc [0],.ln true 6 0 38 6,Lf r0,.fz true 6 0 0 6 ds]
  (qaI (qaG [(2,4)]) [(2,0,qad s)]) (Co hc [0] 4 (Lo r0 [] (Ai (LeD.refl ds) tI)))
theorem qnY {tn td n d:Int} {s s0:List Pt} {qs:List AskQ} (hc:Fn 68 1 [.ls 0 s0.length] [(0,0,qad s0)] (.ls 1 s0.length) 1 [(1,0,qad s0)]) (r0:Rl 2 2 42 0 40 6 (qs1 qs) (qA4 qs s0 td tn) (.exit 0) ([(2,.pp 2 0),(4,.pp 3 0),(6,.ls 5 0)]) (qsy d n qs s s0)) :
 Fn 42 2 [moS 0 s0 tn td,.ls 1 qs.length] [(0,0,qad s0),(1,0,qb7 qs)] (.tu [mo1 2 s n d,.one (.dv 6 0 [])]) 1 [(2,0,qad s)]:=
 Fz [(2,4)] [Cf hc [0],.ln true 6 0 38 6,Lf r0,.fz true 6 0 0 6 []]
  (qaI (qaG [(2,4)]) [(2,0,qad s)]) (Co hc [0] 4 (Lo r0 [] (Ai (LeD.refl []) tI)))
end Go.Proofs.YtleaeldgaflmkaaGreat

namespace Go.Proofs.YtleaeldgaflmkaaGreat
set_option maxRecDepth 100000
open Go.RowKit
def qhi (s:List Pt) (n d:Int):List AskQ→List Rep→Int→Int→List Pt→Prop
 | [],[],n',d',s'=>n'=n∧d'=d∧s'=s
 | a::qs,r::rs,n',d',s'=>∃ n1 d1 s1,Outc s n d a r n1 d1 s1∧qhi s1 n1 d1 qs rs n' d' s'
 | _,_,_,_,_=>False
def qpv (a:AskQ):Prop:=I64 a.qn∧I64 a.qd
abbrev qaz (rs:List Rep):List Dn:=rs.flatMap qeU
abbrev orT (qs:List AskQ) (k:Nat):List (Nat×SV):=[(2,.pp 2 0),(4,.pp 3 0),(6,.ls 5 k),(17,.ls 1 qs.length),(18,.pv (iV (qs.length:Int))),(19,.pv (iV (k:Int)))]
abbrev orH (s0:List Pt) (qs:List AskQ) (s:List Pt) (n d:Int) (row:SV):List (Nat×Nat×SV):=[(2,0,.pv (iV n)),(2,1,.pv (iV d)),(2,2,.ls 4 s.length),(3,0,.pv (iV 0)),(3,1,.pv (iV 0)),(3,2,.pv (.slice none 0 0)),(0,0,qad s0),(1,0,qb7 qs),(4,0,qad s),(5,0,row)]
abbrev orE (k:Nat):List (Nat×SV):=[(2,.pp 2 0),(4,.pp 3 0),(6,.ls 5 k)]
abbrev qsY (k:Nat) (ds:List Dn):SV:=.drow 38 6 k ds
section
variable {s s' s0:List Pt} {n d n' d':Int} {qs:List AskQ} {a:AskQ} {r:Rep} {k:Nat} {ds:List Dn}
theorem qjp (o:Outc s n d a r n' d' s') (hk:qs[k]?=some a) (hl:qs.length≤999999) {e:Exit} {tm2:TmL} {hp2:HpL}
 (rr:Rl 2 2 42 0 40 6 (orT qs (k+1)) (orH s0 qs s' n' d' (qsY (k+1) (ds++qeU r))) e tm2 hp2) :
 Rl 2 2 42 0 40 6 (orT qs k) (orH s0 qs s n d (qsY k ds)) e tm2 hp2:=by
 have hkl:=qaw hk
 rcases o.prg with ⟨he,h⟩ | ⟨he,hs,h⟩ | ⟨he,x,y,h⟩ | ⟨he,x,y,h⟩
 ·exact qzb (hlt:=dt (by omega)) (hin:=⟨by omega,by omega⟩) (hk:=hk) (hd:=h) (he:=by simp[he]) (hm:=by omega) (hs:=qar (by omega)) rr
 ·subst hs
  exact qzO (hlt:=dt (by omega)) (hin:=⟨by omega,by omega⟩) (hk:=hk) (hd:=h) (he:=by simp[he]) (hm:=by omega) (hs:=qar (by omega)) rr
 ·obtain⟨_,rfl,rfl,rfl⟩:=o.err he
  exact qzx (hlt:=dt (by omega)) (hin:=⟨by omega,by omega⟩) (hk:=hk) (hd:=h) (he:=by simp[he]) (hm:=by omega) (hs:=qar (by omega)) rr
 ·obtain⟨_,rfl,rfl,rfl⟩:=o.err he
  exact qAj (hlt:=dt (by omega)) (hin:=⟨by omega,by omega⟩) (hk:=hk) (hd:=h) (he:=by simp[he]) (hm:=by omega) (hs:=qar (by omega)) rr
theorem qhH (o:Outc s n d a r n' d' s') (hk:qs[0]?=some a) (hl:qs.length≤999999) {e:Exit} {tm2:TmL} {hp2:HpL}
 (rr:Rl 2 2 42 0 40 6 (orT qs 1) (orH s0 qs s' n' d' (qsY 1 (qeU r))) e tm2 hp2) :
 Rl 2 2 42 0 40 6 (orT qs 0) (orH s0 qs s n d (.row 38 6 0 [])) e tm2 hp2:=by
 have hkl:=qaw hk
 rcases o.prg with ⟨he,h⟩ | ⟨he,hs,h⟩ | ⟨he,x,y,h⟩ | ⟨he,x,y,h⟩
 ·exact qxe (hlt:=dt (by omega)) (hin:=⟨by omega,by omega⟩) (hk:=hk) (hd:=h) (he:=by simp[he]) (hm:=by omega) (hs:=qar (by omega)) rr
 ·subst hs
  exact qxP (hlt:=dt (by omega)) (hin:=⟨by omega,by omega⟩) (hk:=hk) (hd:=h) (he:=by simp[he]) (hm:=by omega) (hs:=qar (by omega)) rr
 ·obtain⟨_,rfl,rfl,rfl⟩:=o.err he
  exact qxh (hlt:=dt (by omega)) (hin:=⟨by omega,by omega⟩) (hk:=hk) (hd:=h) (he:=by simp[he]) (hm:=by omega) (hs:=qar (by omega)) rr
 ·obtain⟨_,rfl,rfl,rfl⟩:=o.err he
  exact qv6 (hlt:=dt (by omega)) (hin:=⟨by omega,by omega⟩) (hk:=hk) (hd:=h) (he:=by simp[he]) (hm:=by omega) (hs:=qar (by omega)) rr
theorem qje (hl:qs.length≤999999):∀ (rest:List AskQ) (k:Nat) (s:List Pt) (n d:Int) (ds:List Dn),qs=qs.take k++rest→k+rest.length=qs.length→Val s→AskT n d→(∀ a∈rest,qpv a)→
 ∃ rs n' d' s',qhi s n d rest rs n' d' s'∧Val s'∧AskT n' d'∧rs.length=rest.length∧
  Rl 2 2 42 0 40 6 (orT qs k) (orH s0 qs s n d (qsY k ds)) (.exit 0) (orE qs.length) (orH s0 qs s' n' d' (qsY qs.length (ds++qaz rs)))
 | [],k,s,n,d,ds,_,hk,hv,ht,_=>by
  have e:k=qs.length:=by simpa using hk
  refine⟨[],n,d,s,⟨rfl,rfl,rfl⟩,hv,ht,rfl,?_⟩
  rw[show ds++qaz []=ds from List.append_nil _]
  subst e
  exact qme (hlt:=df (by omega))
 | a::rest,k,s,n,d,ds,hq,hk,hv,ht,hn=>by
  have hkl:k<qs.length:=by rw[← hk,List.length_cons];omega
  have hka:qs[k]?=some a:=by
   rw[hq,List.getElem?_append_right (by rw[List.length_take];omega),List.length_take,Nat.min_eq_left (by omega),Nat.sub_self]
   rfl
  obtain⟨r,n1,d1,s1,o⟩:=qiT a hv ht (hn a List.mem_cons_self)
  obtain⟨rs,n',d',s',h1,h2,h3,h4,h5⟩:=qje hl rest (k+1) s1 n1 d1 (ds++qeU r) (by
   rw[List.take_add_one,hka,List.append_assoc];exact hq) (by rw[← hk,List.length_cons];omega) o.val o.ask fun b hb=>hn b (List.mem_cons_of_mem _ hb)
  refine⟨r::rs,n',d',s',⟨n1,d1,s1,o,h1⟩,h2,h3,by rw[List.length_cons,h4];rfl,qjp o hka hl ?_⟩
  rw[show ds++qaz (r::rs)=ds++qeU r++qaz rs by rw[List.append_assoc];rfl]
  exact h5
theorem que (hl:qs.length≤999999) (hv:Val s) (ht:AskT n d) (hn:∀ a∈qs,qpv a):∃ rs n' d' s',qhi s n d qs rs n' d' s'∧Val s'∧AskT n' d'∧rs.length=qs.length∧
 Fn 42 2 [moS 0 s n d,.ls 1 qs.length] [(0,0,qad s),(1,0,qb7 qs)] (.tu [mo1 2 s' n' d',.one (.dv 6 qs.length (qaz rs))]) 1 [(2,0,qad s')]:=by
 have hc:=qia (l:=s) (by have:=hv.len;omega)
 cases qs with
 | nil=>
  exact⟨[],n,d,s,⟨rfl,rfl,rfl⟩,hv,ht,rfl,qnY (hc:=hc) (r0:=qkm (hlt:=by decide))⟩
 | cons a rest=>
  obtain⟨r,n1,d1,s1,o⟩:=qiT a hv ht (hn a List.mem_cons_self)
  obtain⟨rs,n',d',s',h1,h2,h3,h4,h5⟩:=qje (s0:=s) hl rest 1 s1 n1 d1 (qeU r) rfl (by rw[List.length_cons];omega) o.val o.ask fun b hb=>hn b (List.mem_cons_of_mem _ hb)
  exact⟨r::rs,n',d',s',⟨n1,d1,s1,o,h1⟩,h2,h3,by rw[List.length_cons,h4];rfl,qrV (hc:=hc) (r0:=qhH o rfl hl h5)⟩
noncomputable def quR (s:List Pt) (n d:Int):Int:=open Classical in if qev n d=0∧qcj s=0 then 0 else 8
theorem qdR (hn:I64 n) (hd:I64 d):Fn 14 1 [moS 0 s n d] [(0,0,qad s)] (.pv (iV (quR s n d))) 0 []∧Fn 25 1 [moS 0 s n d] [(0,0,qad s)] (.pv (iV (quR s n d))) 0 []:=by
 have c1:Pure Tryz.prog 40 #[qaa n d] (iV (qev n d)):=fun w=>qcB n d w hn hd
 have c2:Pure Tryz.prog 31 #[qaa n d] (iV (qev n d)):=fun w=>qe0 n d w hn hd
 have c3:=qaO s
 have c4:=qbd s
 unfold quR
 by_cases h1:qev n d=0
 ·rw[h1] at c1 c2
  by_cases h2:qcj s=0
  ·rw[h2] at c3 c4
   rw[if_pos ⟨h1,h2⟩]
   exact⟨qAU (ha:=c1) (hc:=c3),qzC (ha:=c2) (hc:=c4)⟩
  ·rw[if_neg fun h=>h2 h.2]
   exact⟨qy2 (ha:=c1) (hc:=c3) (he:=by simpa using h2),qzK (ha:=c2) (hc:=c4) (he:=by simpa using h2)⟩
 ·rw[if_neg fun h=>h1 h.1]
  exact⟨qy9 (ha:=c1) (hc:=c3) (he:=by simpa using h1),qyV (ha:=c2) (he:=by simpa using h1)⟩
theorem qh3 (hn:I64 n) (hd:I64 d):quR s n d=0↔Val s∧AskT n d:=by
 unfold quR
 split
 ·rename_i h
  exact⟨fun _=>⟨qbI.1 h.2,qbO.1 h.1⟩,fun _=>rfl⟩
 ·rename_i h
  exact⟨fun e=>(by cases e),fun k=>(h ⟨qbO.2 k.2,qbI.2 k.1⟩).elim⟩
end
end Go.Proofs.YtleaeldgaflmkaaGreat

namespace Go.Proofs.YtleaeldgaflmkaaGreat
set_option maxRecDepth 100000
open Go.RowKit
section
variable {s s':List Pt} {n d n' d':Int} {a:AskQ}
theorem qeS (r:Rep) (h:r.ms.length≤100000):Fn 26 0 [.ag (qb2 r),.ag (qb2 r)] [] (.pv (.bool true)) 0 []:=qz9 (hs:=quz rfl h)
theorem qjZ (h:s.length≤1000000):Fn 24 2 [moS 0 s n d,moS 1 s n d] [(0,0,qad s),(1,0,qad s)] (.pv (.bool true)) 0 []:=qAO (hs:=qux h)
theorem qug:Pure Tryz.prog 41 #[] (.agg #[.slice none 0 0]):=qac (args:=[]) 200 [] (Ai rfl tI) (by kernel_rfl)
theorem qng {f:FuncId} {x v:Value} (h:Pure Tryz.prog f #[x] v):Fn f 0 [.pv x] [] (.pv v) 0 []:=by
 intro w β us hH hd hi
 match us,hi with
 | [y],⟨e,_⟩=>
  have e':y=x:=e
  subst e'
  exact (h w).mono fun e w' ⟨he,hg⟩=>⟨v,β,he,Bl.le_refl β,rfl,hH.gr_mono hg,hd⟩
theorem qpp {f:FuncId} {e:Int} (h:Pure Tryz.prog f #[qaa n d] (.tuple #[.agg #[iV n',iV d',.slice none 0 0],iV e])):Fn f 0 [.pv (qaa n d)] [] (.tu [mo1 0 [] n' d',.one (.pv (iV e))]) 1 [(0,0,qad [])]:=
 qsn (x:=.tu [.one (.pv (.agg #[iV n',iV d',.slice none 0 0])),.one (.pv (iV e))]) 34 3 (qgM (qng h) fun β v hv=>⟨[_,_],⟨rfl,rfl,tI⟩,hv⟩)
  (.tu (.cons (.un (vs:=[iV n',iV d',.slice none 0 0]) (.cons (.same _) (.cons (.same _) (.cons .nil .nil)))) (.cons (.one (.same _)) .nil)))
abbrev qBt (f:FuncId) (s:List Pt) (n d:Int) (a:AskQ) (r:Rep) (n' d':Int) (s':List Pt) (e:Int):Prop:=Fn f 1 [moS 0 s n d,.pv (qci a)] [(0,0,qad s)] (.tu [mo1 1 s' n' d',.ag (qb2 r),.one (.pv (iV e))]) 1 [(1,0,qad s')]
theorem qsF (s:List Pt):Fn 20 1 [qap 0 s] [(0,0,qad s)] (.pv (.bool true)) 0 []∨(s.length≤70∧Fn 20 1 [qap 0 s] [(0,0,qad s)] (.pv (.bool false)) 0 []):=by
 rcases qn0 s with ⟨_,h⟩ | ⟨h0,h⟩
 ·exact Or.inl h
 ·exact Or.inr ⟨by omega,h⟩
end
end Go.Proofs.YtleaeldgaflmkaaGreat

namespace Go.Proofs.YtleaeldgaflmkaaGreat
set_option maxRecDepth 100000
open Go.RowKit
theorem qdS:∀ {rs:List Rep} {k:Nat} {r:Rep},rs[k]?=some r→qxg (rs.flatMap qeU) (0*6+k*6) (qeU r)
 | [],k,r,h=>by simp at h
 | q::rs,0,r,h=>by
  simp at h;subst h
  intro j d hj
  show (qeU q++rs.flatMap qeU)[0*6+0*6+j]?=some d
  rw[show 0*6+0*6+j=j by omega,List.getElem?_append_left (List.getElem?_eq_some_iff.1 hj).1]
  exact hj
 | q::rs,k+1,r,h=>by
  have ih:=qdS (rs:=rs) (k:=k) (r:=r) (by simpa using h)
  intro j d hj
  have:=ih j d hj
  rw[show 0*6+(k+1)*6+j=(0*6+k*6+j)+1+1+1+1+1+1 by omega]
  exact this
abbrev qyn (rs:List Rep):HpL:=[(0,0,.rrow 38 6 rs.length (qaz rs)),(1,0,.rrow 38 6 rs.length (qaz rs))]
theorem qqI {rp:Rep} {rs:List Rep} {k:Nat} (hlt:decide ((k:Int)<(rs.length:Int))=true) (hin:0≤(k:Int)∧(k:Int)<(rs.length:Int)) (hk:rs[k]?=some rp) (hsm:Fn 26 0 [.ag (qb2 rp),.ag (qb2 rp)] [] (.pv (.bool true)) 0 []) (hs:iV (IntKind.i64.wrap ((k:Int)+1))=iV (((k+1:Nat):Int))) {e:Exit} {tm2:TmL} {hp2:HpL}
 (r:Rl 0 0 28 0 27 2 ([(0,.ls 0 rs.length),(1,.ls 1 rs.length),(5,.pv (iV ((k+1:Nat):Int)))]) (qyn rs) e tm2 hp2):Rl 0 0 28 0 27 2 ([(0,.ls 0 rs.length),(1,.ls 1 rs.length),(5,.pv (iV (k:Int)))]) (qyn rs) e tm2 hp2:=
 RunsL.next [] 300 [.t true,.md,.dr (qb2 rp),.dr (qb2 rp),Cf hsm [],.k,Re hs]
  (Ro (Ai hlt (Ai hin (Ai (qdS hk) (Ai hin (Ai (qdS hk) (Co hsm [] 2 (Ai hs tI)))))))) r
theorem qsu {rs:List Rep} {k:Nat} (hlt:decide ((k:Int)<(rs.length:Int))=false):Rl 0 0 28 0 27 2 ([(0,.ls 0 rs.length),(1,.ls 1 rs.length),(5,.pv (iV (k:Int)))]) (qyn rs) (.exit 0) ([]) ([]):=
 RunsL.stop [] 300 [.t false] (fun h=>by cases h)
  (Ro (Ai hlt tI))
theorem qtL {rs:List Rep} (r0:Rl 0 0 28 0 27 2 ([(0,.ls 0 rs.length),(1,.ls 1 rs.length),(5,.pv (iV ((0:Nat):Int)))]) (qyn rs) (.exit 0) ([]) ([])) :
 Fn 28 0 [.dv 6 rs.length (qaz rs),.dv 6 rs.length (qaz rs)] [] (.pv (.bool true)) 0 []:=
 Fz [] [.od true 0 0 0 38 none,.od true 1 0 0 38 none,.t false,Lf r0]
  tI (Ai (qeQ (rs.length:Int)) (Lo r0 [] tI))
end Go.Proofs.YtleaeldgaflmkaaGreat
