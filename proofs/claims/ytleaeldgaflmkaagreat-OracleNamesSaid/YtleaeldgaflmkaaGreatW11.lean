/-
  Joined: G, K, P. Conditions: none.
-/
import Derived.Test.YtleaeldgaflmkaaGreatF
import Derived.Test.YtleaeldgaflmkaaGreatW10
namespace Go.Proofs.YtleaeldgaflmkaaGreat
set_option maxRecDepth 100000
open Go.RowKit
theorem qaz {n d:Int} (h:okB n d=true):1≤d:=by simp[okB] at h;exact h.1
theorem qbs {n d:Int} (h:okB n d=true):n≠-9223372036854775808:=by simp[okB] at h;exact h.2.1
def mkQ (a b:Int):Nat:=a.natAbs/Nat.gcd a.natAbs b.natAbs
def mkP (a b:Int):Nat:=b.natAbs/Nat.gcd a.natAbs b.natAbs
def mkS (a b:Int):Bool:=!(decide (a<0)==decide (b<0))
def mkF (a b:Int):Bool:=qaJ (mkQ a b)&&qaJ (mkP a b)
def mkN (a b:Int):Int:=if b=0 then 0 else qcq (mkF a b) (sgV (mkQ a b) (mkS a b))
def mkD (a b:Int):Int:=if b=0 then 0 else qcq (mkF a b) (sgV (mkP a b) false)
def mkE (a b:Int):Int:=if b=0 then 26 else qf5 (mkF a b)
theorem qtc {a b c d e f:Int} (h:a=b) (g:c=d) (k:e=f):Ending.returned (.tuple #[.agg #[.int .i64 a,.int .i64 c],.int .i64 e])=.returned (.tuple #[.agg #[.int .i64 b,.int .i64 d],.int .i64 f]):=by rw[h,g,k]
set_option maxHeartbeats 400000 in
theorem qle (n d:Int) (w:World) (hn:I64 n) (hd:I64 d) :
 Calls Tryz.prog 87 #[.int .i64 n,.int .i64 d] w fun e w'=>e=.returned (.tuple #[.agg #[.int .i64 (mkN n d),.int .i64 (mkD n d)],.int .i64 (mkE n d)])∧Gr w w':=by
 have HN:=Lib.hid hn
 have HD:=Lib.hid hd
 have d1:=hd.1
 have d2:=hd.2
 have d3:=hn.1
 have d4:=hn.2
 clear hn hd
 by_cases h0:d=0
 ·have m1:(d==0)=true:=by simpa using h0
  have E0:=Lib.hid h0
  clear h0
  have n01:w.heap.size<w.heap.size+1+1:=by omega
  have n02:w.heap.size<w.heap.size+1+1+1:=by omega
  have n12:w.heap.size+1<w.heap.size+1+1+1:=by omega
  go_enter Tryz.func87,Tryz.ntmps87
  go_wp2
  refine bodyPost_ret (v:=.tuple #[.agg #[.int .i64 0,.int .i64 0],.int .i64 26]) (by simp[results,Tryz.results87,go_sem]) rfl ⟨qtc (by simp[mkN,E0.out]) (by simp[mkD,E0.out]) (by simp[mkE,E0.out]),?_⟩
  repeat (first | exact Gr.refl _ | apply Gr.alloc | apply Gr.drewN | apply Gr.drew | (refine Gr.setCell ?_ (by simp) _) | (refine Gr.trans ?_ (by assumption)))
 ·have m1:(d==0)=false:=by simpa using h0
  obtain⟨z1,hz1⟩:∃ z:Int,z=n.natAbs:=⟨_,rfl⟩
  obtain⟨z2,hz2⟩:∃ z:Int,z=d.natAbs:=⟨_,rfl⟩
  obtain⟨g,hg⟩:∃ g:Int,g=(Nat.gcd n.natAbs d.natAbs:Nat):=⟨_,rfl⟩
  obtain⟨q1,hq1⟩:∃ q:Int,q=(mkQ n d:Nat):=⟨_,rfl⟩
  obtain⟨q2,hq2⟩:∃ q:Int,q=(mkP n d:Nat):=⟨_,rfl⟩
  obtain⟨b,hb⟩:∃ b:Bool,b=mkS n d:=⟨_,rfl⟩
  have hg0:0<Nat.gcd n.natAbs d.natAbs:=Nat.gcd_pos_of_pos_right _ (by omega)
  have i1:=Nat.div_le_self n.natAbs (Nat.gcd n.natAbs d.natAbs)
  have i2:=Nat.div_le_self d.natAbs (Nat.gcd n.natAbs d.natAbs)
  have r1:z1/g=q1:=by rw[hz1,hg,hq1];rfl
  have r2:z2/g=q2:=by rw[hz2,hg,hq2];rfl
  have j1:mkQ n d<18446744073709551616:=by unfold mkQ;omega
  have j2:mkP n d<18446744073709551616:=by unfold mkP;omega
  have g0:1≤g:=by omega
  have z10:0≤z1:=by omega
  have z20:0≤z2:=by omega
  have z11:z1<18446744073709551616:=by omega
  have z21:z2<18446744073709551616:=by omega
  have q10:0≤q1:=by omega
  have q20:0≤q2:=by omega
  have q11:q1<18446744073709551616:=by omega
  have q21:q2<18446744073709551616:=by omega
  have rb:(decide (n<0)==decide (d<0)) = !b:=by rw[hb];simp[mkS]
  have H0:=Lib.hid h0
  have Z1:=Lib.hid hz1
  have Z2:=Lib.hid hz2
  have G:=Lib.hid hg
  have Q1:=Lib.hid hq1
  have Q2:=Lib.hid hq2
  have B:=Lib.hid hb
  have J1:=Lib.hid j1
  have J2:=Lib.hid j2
  clear hz1 hz2 hg hq1 hq2 hb hg0 i1 i2 j1 j2 h0
  cases hf:qaJ (mkQ n d)
  ·have n01:w.heap.size<w.heap.size+1+1:=by omega
   have n02:w.heap.size<w.heap.size+1+1+1:=by omega
   have n12:w.heap.size+1<w.heap.size+1+1+1:=by omega
   go_enter Tryz.func87,Tryz.ntmps87
   go_wp2_with fail
   refine (qcG n z1 _ Z1.out d3 d4).mono ?_
   rintro e w' ⟨rfl,rfl⟩
   go_wp2_with fail
   refine (qcG d z2 _ Z2.out d1 d2).mono ?_
   rintro e w' ⟨rfl,rfl⟩
   go_wp2_with fail
   refine (qdU _ _ z1 z2 g _ Z1.out Z2.out G.out (by have:=HN.out;unfold I64 at this;omega) (by have:=HD.out;unfold I64 at this;omega)).mono ?_
   rintro e w1 ⟨rfl,hgw1⟩
   have hcw1:=Gr.cells hgw1
   have hfw1:=Gr.marks hgw1
   have hzzw1:=Gr.size hgw1
   try simp at hzzw1
   have hzw10:w.heap.size<w1.heap.size:=by omega
   clear hzzw1
   go_wp2_with fail
   refine (qcG n z1 _ Z1.out d3 d4).mono ?_
   rintro e w' ⟨rfl,rfl⟩
   go_wp2_with fail
   refine (qdC (mkQ n d) q1 b _ Q1.out J1.out).mono ?_
   rintro e w' ⟨rfl,rfl⟩
   go_wp2_with fail
   refine (qcG d z2 _ Z2.out d1 d2).mono ?_
   rintro e w' ⟨rfl,rfl⟩
   go_wp2_with fail
   refine (qdC (mkP n d) q2 false _ Q2.out J2.out).mono ?_
   rintro e w' ⟨rfl,rfl⟩
   go_wp2_with fail
   refine (qea _ _ _ _).mono ?_
   rintro e w2 ⟨rfl,hgw2⟩
   have hcw2:=Gr.cells hgw2
   have hfw2:=Gr.marks hgw2
   have hzzw2:=Gr.size hgw2
   try simp at hzzw2
   have hzw20:w.heap.size<w2.heap.size:=by omega
   clear hzzw2
   go_wp2
   refine bodyPost_ret (v:=.tuple #[.agg #[.int .i64 0,.int .i64 0],.int .i64 16]) (by simp[results,Tryz.results87,go_sem,qcq,qf5, *]) rfl ⟨qtc (by simp[mkN,mkF,hf,qcq]) (by simp[mkD,mkF,hf,qcq]) (by simp[mkE,mkF,hf,qf5,H0.out]),?_⟩
   repeat (first | exact Gr.refl _ | apply Gr.alloc | apply Gr.drewN | apply Gr.drew | (refine Gr.setCell ?_ (by simp) _) | (refine Gr.trans ?_ (by assumption)))
  ·have n01:w.heap.size<w.heap.size+1+1:=by omega
   have n02:w.heap.size<w.heap.size+1+1+1:=by omega
   have n12:w.heap.size+1<w.heap.size+1+1+1:=by omega
   go_enter Tryz.func87,Tryz.ntmps87
   go_wp2_with fail
   refine (qcG n z1 _ Z1.out d3 d4).mono ?_
   rintro e w' ⟨rfl,rfl⟩
   go_wp2_with fail
   refine (qcG d z2 _ Z2.out d1 d2).mono ?_
   rintro e w' ⟨rfl,rfl⟩
   go_wp2_with fail
   refine (qdU _ _ z1 z2 g _ Z1.out Z2.out G.out (by have:=HN.out;unfold I64 at this;omega) (by have:=HD.out;unfold I64 at this;omega)).mono ?_
   rintro e w1 ⟨rfl,hgw1⟩
   have hcw1:=Gr.cells hgw1
   have hfw1:=Gr.marks hgw1
   have hzzw1:=Gr.size hgw1
   try simp at hzzw1
   have hzw10:w.heap.size<w1.heap.size:=by omega
   clear hzzw1
   go_wp2_with fail
   refine (qcG n z1 _ Z1.out d3 d4).mono ?_
   rintro e w' ⟨rfl,rfl⟩
   go_wp2_with fail
   refine (qdC (mkQ n d) q1 b _ Q1.out J1.out).mono ?_
   rintro e w' ⟨rfl,rfl⟩
   go_wp2_with fail
   refine (qcG d z2 _ Z2.out d1 d2).mono ?_
   rintro e w' ⟨rfl,rfl⟩
   go_wp2_with fail
   refine (qdC (mkP n d) q2 false _ Q2.out J2.out).mono ?_
   rintro e w' ⟨rfl,rfl⟩
   go_wp2_with fail
   refine (qea _ _ _ _).mono ?_
   rintro e w2 ⟨rfl,hgw2⟩
   have hcw2:=Gr.cells hgw2
   have hfw2:=Gr.marks hgw2
   have hzzw2:=Gr.size hgw2
   try simp at hzzw2
   have hzw20:w.heap.size<w2.heap.size:=by omega
   clear hzzw2
   go_wp2
   refine bodyPost_ret (v:=.tuple #[.agg #[.int .i64 (qcq (qaJ (mkP n d)) (sgV (mkQ n d) b)),.int .i64 (qcq (qaJ (mkP n d)) (sgV (mkP n d) false))],.int .i64 (qf5 (qaJ (mkP n d)))]) (by simp[results,Tryz.results87,go_sem, *]) rfl ⟨qtc (by simp[mkN,mkF,hf,H0.out,B.out]) (by simp[mkD,mkF,hf,H0.out]) (by simp[mkE,mkF,hf,H0.out]),?_⟩
   repeat (first | exact Gr.refl _ | apply Gr.alloc | apply Gr.drewN | apply Gr.drew | (refine Gr.setCell ?_ (by simp) _) | (refine Gr.trans ?_ (by assumption)))
end Go.Proofs.YtleaeldgaflmkaaGreat

namespace Go.Proofs.YtleaeldgaflmkaaGreat
set_option maxRecDepth 100000
open Go.RowKit
theorem qjU {x:Int} (h:qbc x):wHi (x.natAbs:Int)=((x.natAbs/18446744073709551616:Nat):Int)∧wLo (x.natAbs:Int)=((x.natAbs%18446744073709551616:Nat):Int)∧x.natAbs/18446744073709551616<18446744073709551616:=by
 unfold qbc at h;unfold wHi wLo;omega
theorem qxC (hi lo y n:Nat) (a b c z:Int) (w:World) (ha:a=hi) (hb:b=lo) (hc:c=y) (hn:n=hi*18446744073709551616+lo) (hz:z=(n%y:Nat)) (h:0<y) (hhi:hi<18446744073709551616) (hlo:lo<18446744073709551616) (hy:y<18446744073709551616) :
 Calls Tryz.prog 158 #[.int .u64 a,.int .u64 b,.int .u64 c] w fun e w'=>e=.returned (.int .u64 z)∧Gr w w':=by
 subst ha hb hc hn hz;exact qqC hi lo y w h hhi hlo hy
theorem qza (hi lo y n:Nat) (a b c q z:Int) (w:World) (ha:a=hi) (hb:b=lo) (hc:c=y) (hn:n=hi*18446744073709551616+lo) (hq:q=(n/y:Nat)) (hz:z=(n%y:Nat)) (h:hi<y) (hlo:lo<18446744073709551616) (hy:y<18446744073709551616) :
 Calls Tryz.prog 159 #[.int .u64 a,.int .u64 b,.int .u64 c] w fun e w'=>e=.returned (.tuple #[.int .u64 q,.int .u64 z])∧Gr w w':=by
 subst ha hb hc hn hq hz;exact qjf hi lo y w h hlo hy
set_option maxHeartbeats 800000 in
theorem qgy (x:Int) (d:Nat) (w:World) (h:qbc x) (hd:0<d) (hd1:d<18446744073709551616) :
 Calls Tryz.prog 140 #[.agg #[.int .u64 (wHi x),.int .u64 (wLo x)],.int .u64 d] w fun e w'=>e=.returned (.int .u64 ((x.natAbs%d:Nat):Int))∧Gr w w':=by
 obtain⟨a1,a2,a3⟩:=qjU h
 obtain⟨a,ha⟩:∃ a:Int,a=wHi (x.natAbs:Int):=⟨_,rfl⟩
 obtain⟨b,hb⟩:∃ b:Int,b=wLo (x.natAbs:Int):=⟨_,rfl⟩
 obtain⟨z,hz⟩:∃ z:Int,z=((x.natAbs%d:Nat):Int):=⟨_,rfl⟩
 obtain⟨c,hc⟩:∃ c:Int,c=d:=⟨_,rfl⟩
 have WS:Hid (∀ w,Calls Tryz.prog 157 #[.agg #[.int .u64 (wHi x),.int .u64 (wLo x)]] w fun e w'=>e=.returned (.agg #[.int .u64 a,.int .u64 b])∧Gr w w'):=Lib.hid (fun w=>by rw[ha,hb];exact qhX x w h)
 have RZ:Hid (∀ w,Calls Tryz.prog 158 #[.int .u64 a,.int .u64 b,.int .u64 c] w fun e w'=>e=.returned (.int .u64 z)∧Gr w w'):=
  Lib.hid (fun w=>qxC _ _ d x.natAbs a b c z w (ha.trans a1) (hb.trans a2) hc (by omega) hz hd a3 (by omega) hd1)
 rw[← hz,← hc]
 clear a1 a2 a3 ha hb hz hc h
 have n01:w.heap.size<w.heap.size+1+1:=by omega
 have n02:w.heap.size<w.heap.size+1+1+1:=by omega
 have n12:w.heap.size+1<w.heap.size+1+1+1:=by omega
 go_enter Tryz.func140,Tryz.ntmps140
 go_wp2_with fail
 refine (WS.out _).mono ?_
 rintro e w1 ⟨rfl,hgw1⟩
 have hc:=Gr.cells hgw1
 have hfmw1:=Gr.marks hgw1
 have hzz:=Gr.size hgw1
 try simp at hzz
 have zw1w:w.heap.size<w1.heap.size:=by omega
 have cw1w0:w1.cell? ⟨w.heap.size,0,none⟩=some (.int .u64 (wHi x)):=by rw[hc _ _ (by first | assumption | (simp;done) | (simp;omega))];first | assumption | go_simp
 have cw1w1:w1.cell? ⟨w.heap.size,1,none⟩=some (.int .u64 (wLo x)):=by rw[hc _ _ (by first | assumption | (simp;done) | (simp;omega))];first | assumption | go_simp
 clear hc hzz
 go_wp2_with fail
 refine (RZ.out _).mono ?_
 rintro e w2 ⟨rfl,hgw2⟩
 have hc:=Gr.cells hgw2
 have hfmw2:=Gr.marks hgw2
 have hzz:=Gr.size hgw2
 try simp at hzz
 have zw2w:w.heap.size<w2.heap.size:=by omega
 have zw2w1:w1.heap.size<w2.heap.size:=by omega
 have cw2w0:w2.cell? ⟨w.heap.size,0,none⟩=some (.int .u64 (wHi x)):=by rw[hc _ _ (by first | assumption | (simp;done) | (simp;omega))];first | assumption | go_simp
 have cw2w1:w2.cell? ⟨w.heap.size,1,none⟩=some (.int .u64 (wLo x)):=by rw[hc _ _ (by first | assumption | (simp;done) | (simp;omega))];first | assumption | go_simp
 have cw2w10:w2.cell? ⟨w1.heap.size,0,none⟩=some (.int .u64 a):=by rw[hc _ _ (by first | assumption | (simp;done) | (simp;omega))];first | assumption | go_simp
 have cw2w11:w2.cell? ⟨w1.heap.size,1,none⟩=some (.int .u64 b):=by rw[hc _ _ (by first | assumption | (simp;done) | (simp;omega))];first | assumption | go_simp
 clear hc hzz
 clear cw1w0 cw1w1
 go_wp2
 go_ret
 refine⟨rfl,?_⟩
 repeat (first | exact Gr.refl _ | apply Gr.alloc | apply Gr.drewN | apply Gr.drew | (refine Gr.setCell ?_ (by simp) _) | (refine Gr.trans ?_ (by assumption)))
set_option maxHeartbeats 800000 in
theorem qe3 (x:Int) (d:Nat) (w:World) (h:qbc x) (hd:0<d) (hd1:d<18446744073709551616) :
 Calls Tryz.prog 141 #[.agg #[.int .u64 (wHi x),.int .u64 (wLo x)],.int .u64 d] w fun e w'=>e=.returned (.tuple #[.int .i64 (sgV (x.natAbs/d) (decide (x<0))),.bool (qaJ (x.natAbs/d))])∧Gr w w':=by
 obtain⟨a1,a2,a3⟩:=qjU h
 obtain⟨a,ha⟩:∃ a:Int,a=wHi (x.natAbs:Int):=⟨_,rfl⟩
 obtain⟨b,hb⟩:∃ b:Int,b=wLo (x.natAbs:Int):=⟨_,rfl⟩
 obtain⟨z,hz⟩:∃ z:Int,z=((x.natAbs%d:Nat):Int):=⟨_,rfl⟩
 obtain⟨q,hq⟩:∃ q:Int,q=((x.natAbs/d:Nat):Int):=⟨_,rfl⟩
 obtain⟨c,hc⟩:∃ c:Int,c=d:=⟨_,rfl⟩
 have WS:Hid (∀ w,Calls Tryz.prog 157 #[.agg #[.int .u64 (wHi x),.int .u64 (wLo x)]] w fun e w'=>e=.returned (.agg #[.int .u64 a,.int .u64 b])∧Gr w w'):=Lib.hid (fun w=>by rw[ha,hb];exact qhX x w h)
 by_cases hh:d≤x.natAbs/18446744073709551616
 ·have e1:18446744073709551616≤x.natAbs/d:=by
   rw[Nat.le_div_iff_mul_le hd]
   have:=Nat.div_mul_le_self x.natAbs 18446744073709551616
   have t:=Nat.mul_le_mul_right 18446744073709551616 hh
   omega
  have e2:sgV (x.natAbs/d) (decide (x<0))=0:=by unfold sgV;rw[if_neg (by omega)]
  have e3:qaJ (x.natAbs/d)=false:=by simp[qaJ];omega
  have t1:c≤a:=by omega
  rw[e2,e3,← hc]
  clear a1 a2 a3 ha hb hz hq hc e1 e2 e3 hh h
  have n01:w.heap.size<w.heap.size+1+1:=by omega
  have n02:w.heap.size<w.heap.size+1+1+1:=by omega
  have n12:w.heap.size+1<w.heap.size+1+1+1:=by omega
  go_enter Tryz.func141,Tryz.ntmps141
  go_wp2_with fail
  refine (WS.out _).mono ?_
  rintro e w1 ⟨rfl,hgw1⟩
  have hc:=Gr.cells hgw1
  have hfmw1:=Gr.marks hgw1
  have hzz:=Gr.size hgw1
  try simp at hzz
  have zw1w:w.heap.size<w1.heap.size:=by omega
  have cw1w0:w1.cell? ⟨w.heap.size,0,none⟩=some (.int .u64 (wHi x)):=by rw[hc _ _ (by first | assumption | (simp;done) | (simp;omega))];first | assumption | go_simp
  have cw1w1:w1.cell? ⟨w.heap.size,1,none⟩=some (.int .u64 (wLo x)):=by rw[hc _ _ (by first | assumption | (simp;done) | (simp;omega))];first | assumption | go_simp
  clear hc hzz
  go_wp2
  go_ret2
  refine⟨rfl,?_⟩
  repeat (first | exact Gr.refl _ | apply Gr.alloc | apply Gr.drewN | apply Gr.drew | (refine Gr.setCell ?_ (by simp) _) | (refine Gr.trans ?_ (by assumption)))
 ·have DZ:Hid (∀ w,Calls Tryz.prog 159 #[.int .u64 a,.int .u64 b,.int .u64 c] w fun e w'=>e=.returned (.tuple #[.int .u64 q,.int .u64 z])∧Gr w w'):=
   Lib.hid (fun w=>qza _ _ d x.natAbs a b c q z w (ha.trans a1) (hb.trans a2) hc (by omega) hq hz (by omega) (by omega) hd1)
  have hql:x.natAbs/d<18446744073709551616:=by
   apply Nat.div_lt_of_lt_mul
   have:=Nat.mul_le_mul_right 18446744073709551616 (show x.natAbs/18446744073709551616+1≤d by omega)
   rw[Nat.add_mul] at this
   omega
  have t1:a<c:=by omega
  have hsx:decide (x.sign<0)=decide (x<0):=by simp[Int.sign_neg_iff]
  have SG:Hid (∀ w,Calls Tryz.prog 113 #[.int .u64 q,.bool (decide (x<0))] w fun e w'=>e=.returned (.tuple #[.int .i64 (sgV (x.natAbs/d) (decide (x<0))),.bool (qaJ (x.natAbs/d))])∧w=w'):=Lib.hid (fun w=>qdC _ q _ w hq hql)
  have SI:Hid (∀ w,Calls Tryz.prog 124 #[.agg #[.int .u64 (wHi x),.int .u64 (wLo x)]] w fun e w'=>e=.returned (.int .i64 x.sign)∧Gr w w'):=Lib.hid (fun w=>qeD x w h)
  rw[← hc]
  clear a1 a2 a3 ha hb hz hq hc hql hh h
  have n01:w.heap.size<w.heap.size+1+1:=by omega
  have n02:w.heap.size<w.heap.size+1+1+1:=by omega
  have n12:w.heap.size+1<w.heap.size+1+1+1:=by omega
  go_enter Tryz.func141,Tryz.ntmps141
  go_wp2_with fail
  refine (WS.out _).mono ?_
  rintro e w1 ⟨rfl,hgw1⟩
  have hc:=Gr.cells hgw1
  have hfmw1:=Gr.marks hgw1
  have hzz:=Gr.size hgw1
  try simp at hzz
  have zw1w:w.heap.size<w1.heap.size:=by omega
  have cw1w0:w1.cell? ⟨w.heap.size,0,none⟩=some (.int .u64 (wHi x)):=by rw[hc _ _ (by first | assumption | (simp;done) | (simp;omega))];first | assumption | go_simp
  have cw1w1:w1.cell? ⟨w.heap.size,1,none⟩=some (.int .u64 (wLo x)):=by rw[hc _ _ (by first | assumption | (simp;done) | (simp;omega))];first | assumption | go_simp
  clear hc hzz
  go_wp2_with fail
  refine (DZ.out _).mono ?_
  rintro e w2 ⟨rfl,hgw2⟩
  have hc:=Gr.cells hgw2
  have hfmw2:=Gr.marks hgw2
  have hzz:=Gr.size hgw2
  try simp at hzz
  have zw2w:w.heap.size<w2.heap.size:=by omega
  have zw2w1:w1.heap.size<w2.heap.size:=by omega
  have cw2w0:w2.cell? ⟨w.heap.size,0,none⟩=some (.int .u64 (wHi x)):=by rw[hc _ _ (by first | assumption | (simp;done) | (simp;omega))];first | assumption | go_simp
  have cw2w1:w2.cell? ⟨w.heap.size,1,none⟩=some (.int .u64 (wLo x)):=by rw[hc _ _ (by first | assumption | (simp;done) | (simp;omega))];first | assumption | go_simp
  have cw2w10:w2.cell? ⟨w1.heap.size,0,none⟩=some (.int .u64 a):=by rw[hc _ _ (by first | assumption | (simp;done) | (simp;omega))];first | assumption | go_simp
  have cw2w11:w2.cell? ⟨w1.heap.size,1,none⟩=some (.int .u64 b):=by rw[hc _ _ (by first | assumption | (simp;done) | (simp;omega))];first | assumption | go_simp
  clear hc hzz
  clear cw1w0 cw1w1
  go_wp2_with fail
  refine (SI.out _).mono ?_
  rintro e w3 ⟨rfl,hgw3⟩
  have hc:=Gr.cells hgw3
  have hfmw3:=Gr.marks hgw3
  have hzz:=Gr.size hgw3
  try simp at hzz
  have zw3w:w.heap.size<w3.heap.size:=by omega
  have zw3w1:w1.heap.size<w3.heap.size:=by omega
  have cw3w0:w3.cell? ⟨w.heap.size,0,none⟩=some (.int .u64 (wHi x)):=by rw[hc _ _ (by first | assumption | (simp;done) | (simp;omega))];first | assumption | go_simp
  have cw3w1:w3.cell? ⟨w.heap.size,1,none⟩=some (.int .u64 (wLo x)):=by rw[hc _ _ (by first | assumption | (simp;done) | (simp;omega))];first | assumption | go_simp
  have cw3w10:w3.cell? ⟨w1.heap.size,0,none⟩=some (.int .u64 a):=by rw[hc _ _ (by first | assumption | (simp;done) | (simp;omega))];first | assumption | go_simp
  have cw3w11:w3.cell? ⟨w1.heap.size,1,none⟩=some (.int .u64 b):=by rw[hc _ _ (by first | assumption | (simp;done) | (simp;omega))];first | assumption | go_simp
  clear hc hzz
  clear cw2w0 cw2w1 cw2w10 cw2w11
  go_wp2_with fail
  refine (SG.out _).mono ?_
  rintro e w' ⟨rfl,rfl⟩
  go_wp2
  go_ret2
  refine⟨rfl,?_⟩
  repeat (first | exact Gr.refl _ | apply Gr.alloc | apply Gr.drewN | apply Gr.drew | (refine Gr.setCell ?_ (by simp) _) | (refine Gr.trans ?_ (by assumption)))
end Go.Proofs.YtleaeldgaflmkaaGreat

namespace Go.Proofs.YtleaeldgaflmkaaGreat
set_option maxRecDepth 100000
open Go.RowKit
theorem qfu {a b c d:Int} (h1:okB a b=true) (h2:okB c d=true):qet a b c d=0:=by simp[qet,h1,ckE,h2]
def muA (a d:Int):Int:=a.tdiv (Nat.gcd a.natAbs d.natAbs:Nat)
def muB (a d:Int):Int:=d.tdiv (Nat.gcd a.natAbs d.natAbs:Nat)
def muT (a b c d:Int):Int:=muA a d*muA c b
def muU (a b c d:Int):Int:=muB c b*muB a d
def muF (a b c d:Int):Bool:=qaJ (muT a b c d).natAbs&&qaJ (muU a b c d).natAbs
def muN (a b c d:Int):Int:=qcq (muF a b c d) (sgV (muT a b c d).natAbs (decide (muT a b c d<0)))
def muD (a b c d:Int):Int:=qcq (muF a b c d) (sgV (muU a b c d).natAbs (decide (muU a b c d<0)))
theorem qi0 {a:Int} {g:Nat} (_:0<g) (h0 : -9223372036854775807≤a) (h1:a≤9223372036854775807) : -9223372036854775807≤a.tdiv g∧a.tdiv g≤9223372036854775807:=by
 have h:(a.tdiv (g:Int)).natAbs=a.natAbs/g:=by rw[Int.natAbs_tdiv];rfl
 have e:a.natAbs/g≤a.natAbs:=Nat.div_le_self _ _
 rw[← h] at e
 generalize a.tdiv (g:Int)=q at *
 omega
theorem qah {n:Int} (h0 : -9223372036854775808≤n) (h1:n≤9223372036854775807):IntKind.i64.wrap n=n:=by
 rw[IntKind.wrap_i64];omega
theorem qlM {a b:Int} (h0 : -9223372036854775807≤a) (h1:a≤9223372036854775807) (h2 : -9223372036854775807≤b) (h3:b≤9223372036854775807):qbc (a*b):=by
 have h:(a*b).natAbs≤9223372036854775807*9223372036854775807:=by rw[Int.natAbs_mul];exact Nat.mul_le_mul (by omega) (by omega)
 unfold qbc
 generalize a*b=p at *
 omega
end Go.Proofs.YtleaeldgaflmkaaGreat
