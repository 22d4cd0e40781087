/-
  Joined: G, I, C, P. Conditions: none.
-/
import Derived.Test.YtalnjplghagbpaaW2
import Derived.Laws.Externs
namespace Go.Proofs.Ytalnjplghagbpaa
set_option maxRecDepth 100000
open Go.RowKit
theorem qeV {n d:Int} (h:okB n d=true):1≤d:=by simp[okB] at h;exact h.1
theorem qjT {n d:Int} (h:okB n d=true):n≠-9223372036854775808:=by simp[okB] at h;exact h.2.1
def mkQ (a b:Int):Nat:=a.natAbs/Nat.gcd a.natAbs b.natAbs
def mkP (a b:Int):Nat:=b.natAbs/Nat.gcd a.natAbs b.natAbs
def mkS (a b:Int):Bool:=!(decide (a<0)==decide (b<0))
def mkF (a b:Int):Bool:=qcj (mkQ a b)&&qcj (mkP a b)
def mkN (a b:Int):Int:=if b=0 then 0 else qfu (mkF a b) (sgV (mkQ a b) (mkS a b))
def mkD (a b:Int):Int:=if b=0 then 0 else qfu (mkF a b) (sgV (mkP a b) false)
def mkE (a b:Int):Int:=if b=0 then 26 else qoB (mkF a b)
theorem qpe {a b c d e f:Int} (h:a=b) (g:c=d) (k:e=f):Ending.returned (.tuple #[.agg #[.int .i64 a,.int .i64 c],.int .i64 e])=.returned (.tuple #[.agg #[.int .i64 b,.int .i64 d],.int .i64 f]):=by rw[h,g,k]
set_option maxHeartbeats 400000 in
theorem qh0 (n d:Int) (w:World) (hn:I64 n) (hd:I64 d) :
 Calls Try.prog 121 #[.int .i64 n,.int .i64 d] w fun e w'=>e=.returned (.tuple #[.agg #[.int .i64 (mkN n d),.int .i64 (mkD n d)],.int .i64 (mkE n d)])∧Gr w w':=by
 have HN:=Lib.hid hn
 have HD:=Lib.hid hd
 have d1:=hd.1
 have d2:=hd.2
 have d3:=hn.1
 have d4:=hn.2
 clear hn hd
 by_cases h0:d=0
 ·have m1:(d==0)=true:=by simpa using h0
  have E0:=Lib.hid h0
  clear h0
  have n01:w.heap.size<w.heap.size+1+1:=by omega
  have n02:w.heap.size<w.heap.size+1+1+1:=by omega
  have n12:w.heap.size+1<w.heap.size+1+1+1:=by omega
  go_enter Try.func121,Try.ntmps121
  go_wp2
  refine bodyPost_ret (v:=.tuple #[.agg #[.int .i64 0,.int .i64 0],.int .i64 26]) (by simp[results,Try.results121,go_sem]) rfl ⟨qpe (by simp[mkN,E0.out]) (by simp[mkD,E0.out]) (by simp[mkE,E0.out]),?_⟩
  repeat (first | exact Gr.refl _ | apply Gr.alloc | apply Gr.drewN | apply Gr.drew | (refine Gr.setCell ?_ (by simp) _) | (refine Gr.trans ?_ (by assumption)))
 ·have m1:(d==0)=false:=by simpa using h0
  obtain⟨z1,hz1⟩:∃ z:Int,z=n.natAbs:=⟨_,rfl⟩
  obtain⟨z2,hz2⟩:∃ z:Int,z=d.natAbs:=⟨_,rfl⟩
  obtain⟨g,hg⟩:∃ g:Int,g=(Nat.gcd n.natAbs d.natAbs:Nat):=⟨_,rfl⟩
  obtain⟨q1,hq1⟩:∃ q:Int,q=(mkQ n d:Nat):=⟨_,rfl⟩
  obtain⟨q2,hq2⟩:∃ q:Int,q=(mkP n d:Nat):=⟨_,rfl⟩
  obtain⟨b,hb⟩:∃ b:Bool,b=mkS n d:=⟨_,rfl⟩
  have hg0:0<Nat.gcd n.natAbs d.natAbs:=Nat.gcd_pos_of_pos_right _ (by omega)
  have i1:=Nat.div_le_self n.natAbs (Nat.gcd n.natAbs d.natAbs)
  have i2:=Nat.div_le_self d.natAbs (Nat.gcd n.natAbs d.natAbs)
  have r1:z1/g=q1:=by rw[hz1,hg,hq1];rfl
  have r2:z2/g=q2:=by rw[hz2,hg,hq2];rfl
  have j1:mkQ n d<18446744073709551616:=by unfold mkQ;omega
  have j2:mkP n d<18446744073709551616:=by unfold mkP;omega
  have g0:1≤g:=by omega
  have z10:0≤z1:=by omega
  have z20:0≤z2:=by omega
  have z11:z1<18446744073709551616:=by omega
  have z21:z2<18446744073709551616:=by omega
  have q10:0≤q1:=by omega
  have q20:0≤q2:=by omega
  have q11:q1<18446744073709551616:=by omega
  have q21:q2<18446744073709551616:=by omega
  have rb:(decide (n<0)==decide (d<0)) = !b:=by rw[hb];simp[mkS]
  have H0:=Lib.hid h0
  have Z1:=Lib.hid hz1
  have Z2:=Lib.hid hz2
  have G:=Lib.hid hg
  have Q1:=Lib.hid hq1
  have Q2:=Lib.hid hq2
  have B:=Lib.hid hb
  have J1:=Lib.hid j1
  have J2:=Lib.hid j2
  clear hz1 hz2 hg hq1 hq2 hb hg0 i1 i2 j1 j2 h0
  cases hf:qcj (mkQ n d)
  ·have n01:w.heap.size<w.heap.size+1+1:=by omega
   have n02:w.heap.size<w.heap.size+1+1+1:=by omega
   have n12:w.heap.size+1<w.heap.size+1+1+1:=by omega
   go_enter Try.func121,Try.ntmps121
   go_wp2_with fail
   refine (qdh n z1 _ Z1.out d3 d4).mono ?_
   rintro e w' ⟨rfl,rfl⟩
   go_wp2_with fail
   refine (qdh d z2 _ Z2.out d1 d2).mono ?_
   rintro e w' ⟨rfl,rfl⟩
   go_wp2_with fail
   refine (qfq _ _ z1 z2 g _ Z1.out Z2.out G.out (by have:=HN.out;unfold I64 at this;omega) (by have:=HD.out;unfold I64 at this;omega)).mono ?_
   rintro e w1 ⟨rfl,hgw1⟩
   have hcw1:=Gr.cells hgw1
   have hfw1:=Gr.marks hgw1
   have hzzw1:=Gr.size hgw1
   try simp at hzzw1
   have hzw10:w.heap.size<w1.heap.size:=by omega
   clear hzzw1
   go_wp2_with fail
   refine (qdh n z1 _ Z1.out d3 d4).mono ?_
   rintro e w' ⟨rfl,rfl⟩
   go_wp2_with fail
   refine (qdx (mkQ n d) q1 b _ Q1.out J1.out).mono ?_
   rintro e w' ⟨rfl,rfl⟩
   go_wp2_with fail
   refine (qdh d z2 _ Z2.out d1 d2).mono ?_
   rintro e w' ⟨rfl,rfl⟩
   go_wp2_with fail
   refine (qdx (mkP n d) q2 false _ Q2.out J2.out).mono ?_
   rintro e w' ⟨rfl,rfl⟩
   go_wp2_with fail
   refine (qeq _ _ _ _).mono ?_
   rintro e w2 ⟨rfl,hgw2⟩
   have hcw2:=Gr.cells hgw2
   have hfw2:=Gr.marks hgw2
   have hzzw2:=Gr.size hgw2
   try simp at hzzw2
   have hzw20:w.heap.size<w2.heap.size:=by omega
   clear hzzw2
   go_wp2
   refine bodyPost_ret (v:=.tuple #[.agg #[.int .i64 0,.int .i64 0],.int .i64 16]) (by simp[results,Try.results121,go_sem,qfu,qoB, *]) rfl ⟨qpe (by simp[mkN,mkF,hf,qfu]) (by simp[mkD,mkF,hf,qfu]) (by simp[mkE,mkF,hf,qoB,H0.out]),?_⟩
   repeat (first | exact Gr.refl _ | apply Gr.alloc | apply Gr.drewN | apply Gr.drew | (refine Gr.setCell ?_ (by simp) _) | (refine Gr.trans ?_ (by assumption)))
  ·have n01:w.heap.size<w.heap.size+1+1:=by omega
   have n02:w.heap.size<w.heap.size+1+1+1:=by omega
   have n12:w.heap.size+1<w.heap.size+1+1+1:=by omega
   go_enter Try.func121,Try.ntmps121
   go_wp2_with fail
   refine (qdh n z1 _ Z1.out d3 d4).mono ?_
   rintro e w' ⟨rfl,rfl⟩
   go_wp2_with fail
   refine (qdh d z2 _ Z2.out d1 d2).mono ?_
   rintro e w' ⟨rfl,rfl⟩
   go_wp2_with fail
   refine (qfq _ _ z1 z2 g _ Z1.out Z2.out G.out (by have:=HN.out;unfold I64 at this;omega) (by have:=HD.out;unfold I64 at this;omega)).mono ?_
   rintro e w1 ⟨rfl,hgw1⟩
   have hcw1:=Gr.cells hgw1
   have hfw1:=Gr.marks hgw1
   have hzzw1:=Gr.size hgw1
   try simp at hzzw1
   have hzw10:w.heap.size<w1.heap.size:=by omega
   clear hzzw1
   go_wp2_with fail
   refine (qdh n z1 _ Z1.out d3 d4).mono ?_
   rintro e w' ⟨rfl,rfl⟩
   go_wp2_with fail
   refine (qdx (mkQ n d) q1 b _ Q1.out J1.out).mono ?_
   rintro e w' ⟨rfl,rfl⟩
   go_wp2_with fail
   refine (qdh d z2 _ Z2.out d1 d2).mono ?_
   rintro e w' ⟨rfl,rfl⟩
   go_wp2_with fail
   refine (qdx (mkP n d) q2 false _ Q2.out J2.out).mono ?_
   rintro e w' ⟨rfl,rfl⟩
   go_wp2_with fail
   refine (qeq _ _ _ _).mono ?_
   rintro e w2 ⟨rfl,hgw2⟩
   have hcw2:=Gr.cells hgw2
   have hfw2:=Gr.marks hgw2
   have hzzw2:=Gr.size hgw2
   try simp at hzzw2
   have hzw20:w.heap.size<w2.heap.size:=by omega
   clear hzzw2
   go_wp2
   refine bodyPost_ret (v:=.tuple #[.agg #[.int .i64 (qfu (qcj (mkP n d)) (sgV (mkQ n d) b)),.int .i64 (qfu (qcj (mkP n d)) (sgV (mkP n d) false))],.int .i64 (qoB (qcj (mkP n d)))]) (by simp[results,Try.results121,go_sem, *]) rfl ⟨qpe (by simp[mkN,mkF,hf,H0.out,B.out]) (by simp[mkD,mkF,hf,H0.out]) (by simp[mkE,mkF,hf,H0.out]),?_⟩
   repeat (first | exact Gr.refl _ | apply Gr.alloc | apply Gr.drewN | apply Gr.drew | (refine Gr.setCell ?_ (by simp) _) | (refine Gr.trans ?_ (by assumption)))
end Go.Proofs.Ytalnjplghagbpaa

namespace Go.Proofs.Ytalnjplghagbpaa
set_option maxRecDepth 100000
open Go.RowKit
structure Ext (W:World) where
 of:World
 gr:Gr W of
instance (W:World):Nonempty (Ext W):=⟨⟨W,Gr.refl W⟩⟩
def ext (W:World) (x:Ext W):World:=x.of
end Go.Proofs.Ytalnjplghagbpaa

namespace Go.Proofs.Ytalnjplghagbpaa
set_option maxRecDepth 100000
open Go.RowKit
def qhK:Array Value→Sem Value:=fun args=>do
 let (x,y,b) ← Extern.MathBitsCarry.three "Sub64" args
 pure (Extern.MathBitsCarry.pair ((x+Extern.MathBitsCarry.m64-y-b)%Extern.MathBitsCarry.m64) (if x<y+b then 1 else 0))
theorem qpB (x y b:Nat) (hb:b≤1) (w:World) :
 (qhK #[.int .u64 x,.int .u64 y,.int .u64 b]).run Try.prog w =
  .ok (.tuple #[.int .u64 (((x+18446744073709551616-y-b)%18446744073709551616:Nat):Int),.int .u64 ((if x<y+b then 1 else 0:Nat):Int)]) w:=by
 have:b=0∨b=1:=by omega
 rcases this with rfl | rfl<;>rfl
theorem qhf (x y c:Int) (hx:0≤x) (hy:0≤y) (hc0:0≤c) (hc:c≤1) (w:World) :
 (callFunc 133 #[.int .u64 x,.int .u64 y,.int .u64 c]).run Try.prog w =
  .ok (.value (.tuple #[.int .u64 ((x+y+c)%18446744073709551616),.int .u64 ((x+y+c)/18446744073709551616)])) w:=by
 rw[run_callFunc_extern Try.func133 (by kernel_rfl) (by kernel_rfl) (by kernel_rfl) (e:=add64Entry) (by kernel_rfl),run_add64 x y c hx hy hc0 hc]
 rfl
theorem qcK (y b:Int) (hy:0≤y) (hy1:y<18446744073709551616) (hb0:0≤b) (hb:b≤1) (w:World) :
 (callFunc 134 #[.int .u64 0,.int .u64 y,.int .u64 b]).run Try.prog w =
  .ok (.value (.tuple #[.int .u64 ((- y-b)%18446744073709551616),.int .u64 (if 0<y+b then 1 else 0)])) w:=by
 obtain⟨Y,rfl⟩:=Int.eq_ofNat_of_zero_le hy
 obtain⟨B,rfl⟩:=Int.eq_ofNat_of_zero_le hb0
 have key:=qpB 0 Y B (by omega) w
 rw[run_callFunc_extern Try.func134 (by kernel_rfl) (by kernel_rfl) (by kernel_rfl) (e:=qhK) (by kernel_rfl),show (Value.int .u64 0)=.int .u64 ((0:Nat):Int) from rfl,key]
 simp only[Result.andThen]
 have e1:(((0+18446744073709551616-Y-B)%18446744073709551616:Nat):Int)=(-(Y:Int)-B)%18446744073709551616:=by omega
 have e2:((if 0<Y+B then 1 else 0:Nat):Int)=if (0:Int)<Y+B then 1 else 0:=by
  by_cases h:0<Y+B
  ·rw[if_pos h,if_pos (by omega)];rfl
  ·rw[if_neg h,if_neg (by omega)];rfl
 rw[e1,e2]
def wHi (x:Int):Int:=x/18446744073709551616%18446744073709551616
def wLo (x:Int):Int:=x%18446744073709551616
theorem qft (x:Int):0≤wHi x∧wHi x<18446744073709551616:=by unfold wHi;omega
theorem qi9 (x:Int):0≤wLo x∧wLo x<18446744073709551616:=by unfold wLo;omega
theorem qqy {a b c d:Int} (h:a=b) (g:c=d):Ending.returned (.agg #[.int .u64 a,.int .u64 c])=.returned (.agg #[.int .u64 b,.int .u64 d]):=by rw[h,g]
set_option maxHeartbeats 400000 in
theorem qmw (x y:Int) (w:World) :
 Calls Try.prog 124 #[.agg #[.int .u64 (wHi x),.int .u64 (wLo x)],.agg #[.int .u64 (wHi y),.int .u64 (wLo y)]] w fun e w'=>e=.returned (.agg #[.int .u64 (wHi (x+y)),.int .u64 (wLo (x+y))])∧Gr w w':=by
 have e1:(wLo x+wLo y)%18446744073709551616=wLo (x+y):=by unfold wLo;omega
 have e2:(wHi x+wHi y+(wLo x+wLo y)/18446744073709551616)%18446744073709551616=wHi (x+y):=by unfold wLo wHi;omega
 have E1:=Lib.hid e1
 have E2:=Lib.hid e2
 clear e1 e2
 obtain⟨ha0,ha1⟩:=qft x
 obtain⟨hb0,hb1⟩:=qi9 x
 obtain⟨hc0,hc1⟩:=qft y
 obtain⟨hd0,hd1⟩:=qi9 y
 generalize wHi x=a at *
 generalize wLo x=b at *
 generalize wHi y=c at *
 generalize wLo y=d at *
 have hq0:0≤(b+d)/18446744073709551616:=by omega
 have hq1:(b+d)/18446744073709551616≤1:=by omega
 have r1:∀ w,(callFunc 133 #[.int .u64 b,.int .u64 d,.int .u64 0]).run Try.prog w=.ok (.value (.tuple #[.int .u64 ((b+d)%18446744073709551616),.int .u64 ((b+d)/18446744073709551616)])) w:=
  fun w=>by rw[qhf b d 0 hb0 hd0 (by omega) (by omega) w,Int.add_zero]
 have r2:=fun w=>qhf a c ((b+d)/18446744073709551616) ha0 hc0 hq0 hq1 w
 go_enter Try.func124,Try.ntmps124
 go_wp2
 refine bodyPost_ret (v:=.agg #[.int .u64 ((a+c+(b+d)/18446744073709551616)%18446744073709551616),.int .u64 ((b+d)%18446744073709551616)]) (by simp[results,Try.results124,go_sem]) rfl ⟨qqy E2.out E1.out,?_⟩
 exact (((Gr.refl w).alloc _ _).alloc _ _).alloc _ _
set_option maxHeartbeats 400000 in
theorem qd5 (x:Int) (w:World) :
 Calls Try.prog 125 #[.agg #[.int .u64 (wHi x),.int .u64 (wLo x)]] w fun e w'=>e=.returned (.agg #[.int .u64 (wHi (-x)),.int .u64 (wLo (-x))])∧Gr w w':=by
 have e1:(-wLo x)%18446744073709551616=wLo (-x):=by unfold wLo;omega
 have e2:wLo x=0→(-wHi x-0)%18446744073709551616=wHi (-x):=by unfold wLo wHi;omega
 have e3:0<wLo x→(-wHi x-1)%18446744073709551616=wHi (-x):=by unfold wLo wHi;omega
 have E1:=Lib.hid e1
 have E2:=Lib.hid e2
 have E3:=Lib.hid e3
 clear e1 e2 e3
 obtain⟨ha0,ha1⟩:=qft x
 obtain⟨hb0,hb1⟩:=qi9 x
 generalize wHi x=a at *
 generalize wLo x=b at *
 by_cases hb:b=0
 ·have r1:∀ w,(callFunc 134 #[.int .u64 0,.int .u64 b,.int .u64 0]).run Try.prog w=.ok (.value (.tuple #[.int .u64 ((-b)%18446744073709551616),.int .u64 0])) w:=
   fun w=>by rw[qcK b 0 hb0 hb1 (by omega) (by omega) w,if_neg (by omega),Int.sub_zero]
  obtain⟨z,hz⟩:∃ z:Int,z=if 0<a+0 then 1 else 0:=⟨_,rfl⟩
  have r2:∀ w,(callFunc 134 #[.int .u64 0,.int .u64 a,.int .u64 0]).run Try.prog w=.ok (.value (.tuple #[.int .u64 ((-a-0)%18446744073709551616),.int .u64 z])) w:=fun w=>hz▸qcK a 0 ha0 ha1 (by omega) (by omega) w
  have E4:=Lib.hid (E2.out hb)
  clear hb hz
  go_enter Try.func125,Try.ntmps125
  go_wp2
  refine bodyPost_ret (v:=.agg #[.int .u64 ((-a)%18446744073709551616),.int .u64 ((-b)%18446744073709551616)]) (by simp[results,Try.results125,go_sem]) rfl ⟨qqy (by have:=E4.out;omega) E1.out,?_⟩
  exact ((Gr.refl w).alloc _ _).alloc _ _
 ·have r1:∀ w,(callFunc 134 #[.int .u64 0,.int .u64 b,.int .u64 0]).run Try.prog w=.ok (.value (.tuple #[.int .u64 ((-b)%18446744073709551616),.int .u64 1])) w:=
   fun w=>by rw[qcK b 0 hb0 hb1 (by omega) (by omega) w,if_pos (by omega),Int.sub_zero]
  obtain⟨z,hz⟩:∃ z:Int,z=if 0<a+1 then 1 else 0:=⟨_,rfl⟩
  have r2:∀ w,(callFunc 134 #[.int .u64 0,.int .u64 a,.int .u64 1]).run Try.prog w=.ok (.value (.tuple #[.int .u64 ((-a-1)%18446744073709551616),.int .u64 z])) w:=fun w=>hz▸qcK a 1 ha0 ha1 (by omega) (by omega) w
  have E4:=Lib.hid (E3.out (by omega))
  clear hb hz
  go_enter Try.func125,Try.ntmps125
  go_wp2
  refine bodyPost_ret (v:=.agg #[.int .u64 ((-a-1)%18446744073709551616),.int .u64 ((-b)%18446744073709551616)]) (by simp[results,Try.results125,go_sem]) rfl ⟨qqy E4.out E1.out,?_⟩
  exact ((Gr.refl w).alloc _ _).alloc _ _
def sg (a b:Int):Int:=if 9223372036854775808≤a then -1 else if a=0∧b=0 then 0 else 1
theorem qsn {a b:Int} (h0:0≤a) (h1:a<18446744073709551616) (h:wrap64 a<0):sg a b = -1:=by
 unfold wrap64 at h;unfold sg;rw[if_pos (by omega)]
theorem qoK {a b:Int} (ha:a=0) (hb:(b==0)=true):sg a b=0:=by simp at hb;simp[sg,ha,hb]
theorem qnS {a b:Int} (h0:0≤a) (h1:a<18446744073709551616) (h:0≤wrap64 a) (hab:¬ (a=0∧b=0)):sg a b=1:=by
 unfold wrap64 at h;unfold sg;rw[if_neg (by omega),if_neg hab]
set_option maxHeartbeats 400000 in
theorem ql2 (a b:Int) (w:World) (ha0:0≤a) (ha1:a<18446744073709551616) :
 Calls Try.prog 126 #[.agg #[.int .u64 a,.int .u64 b]] w fun e w'=>e=.returned (.int .i64 (sg a b))∧Gr w w':=by
 go_enter Try.func126,Try.ntmps126
 go_wp2
 ·have h:wrap64 a<0:=by assumption
  go_ret
  exact⟨qaV (qsn ha0 ha1 h).symm,(Gr.refl w).alloc _ _⟩
 ·have h:a=0:=by assumption
  have g:(b==0)=true:=by assumption
  go_ret
  exact⟨qaV (qoK h g).symm,(Gr.refl w).alloc _ _⟩
 ·have h:0≤wrap64 a:=by assumption
  have g:(b==0)=false:=by assumption
  go_ret
  exact⟨qaV (qnS ha0 ha1 h (by simp at g;omega)).symm,(Gr.refl w).alloc _ _⟩
 ·have h:0≤wrap64 a:=by assumption
  have g:¬ a=0:=by assumption
  go_ret
  exact⟨qaV (qnS ha0 ha1 h (by omega)).symm,(Gr.refl w).alloc _ _⟩
def qc7 (x:Int):Prop:=-170141183460469231731687303715884105728≤x∧x<170141183460469231731687303715884105728
theorem qvI {x:Int} (h:qc7 x):sg (wHi x) (wLo x)=x.sign:=by
 unfold qc7 at h
 unfold sg
 by_cases h1:x<0
 ·rw[if_pos (by unfold wHi;omega),Int.sign_eq_neg_one_of_neg h1]
 ·by_cases h2:x=0
  ·subst h2;decide
  ·rw[if_neg (by unfold wHi;omega),if_neg (by unfold wHi wLo;omega),Int.sign_eq_one_of_pos (by omega)]
theorem ql8 (x:Int) (w:World) (h:qc7 x) :
 Calls Try.prog 126 #[.agg #[.int .u64 (wHi x),.int .u64 (wLo x)]] w fun e w'=>e=.returned (.int .i64 x.sign)∧Gr w w':=
 (ql2 _ _ w (qft x).1 (qft x).2).mono fun _ _ ⟨he,hg⟩=>⟨he.trans (qaV (qvI h)),hg⟩
theorem qgP {a b:Int} (h:decide (a<0)=decide (b<0)):((a.natAbs*b.natAbs:Nat):Int)=a*b:=by
 by_cases ha:a<0
 ·have hb:b<0:=by simpa [ha] using h
  have e1:(a.natAbs:Int) = -a:=by omega
  have e2:(b.natAbs:Int) = -b:=by omega
  rw[Int.natCast_mul,e1,e2,Int.neg_mul_neg]
 ·have hb:¬ b<0:=by simpa [ha] using h
  have e1:(a.natAbs:Int)=a:=by omega
  have e2:(b.natAbs:Int)=b:=by omega
  rw[Int.natCast_mul,e1,e2]
theorem qf6 {a b:Int} (h:¬ decide (a<0)=decide (b<0)) : -((a.natAbs*b.natAbs:Nat):Int)=a*b:=by
 by_cases ha:a<0
 ·have hb:¬ b<0:=by simpa [ha] using h
  have e1:(a.natAbs:Int) = -a:=by omega
  have e2:(b.natAbs:Int)=b:=by omega
  rw[Int.natCast_mul,e1,e2,Int.neg_mul,Int.neg_neg]
 ·have hb:b<0:=by simpa [ha] using h
  have e1:(a.natAbs:Int)=a:=by omega
  have e2:(b.natAbs:Int) = -b:=by omega
  rw[Int.natCast_mul,e1,e2,Int.mul_neg,Int.neg_neg]
set_option maxHeartbeats 400000 in
theorem qdY (a b:Int) (w:World) (ha0 : -9223372036854775808≤a) (ha1:a≤9223372036854775807) (hb0 : -9223372036854775808≤b) (hb1:b≤9223372036854775807) :
 Calls Try.prog 123 #[.int .i64 a,.int .i64 b] w fun e w'=>e=.returned (.agg #[.int .u64 (wHi (a*b)),.int .u64 (wLo (a*b))])∧Gr w w':=by
 have m0:a.natAbs*b.natAbs≤9223372036854775808*9223372036854775808:=Nat.mul_le_mul (by omega) (by omega)
 obtain⟨p,hp⟩:∃ p:Nat,p=a.natAbs*b.natAbs:=⟨_,rfl⟩
 have M1:Hid (((a.natAbs*b.natAbs/18446744073709551616:Nat):Int)=wHi (p:Int)):=by rw[← hp];rw[← hp] at m0;exact Lib.hid (by unfold wHi;omega)
 have M2:Hid (((a.natAbs*b.natAbs%18446744073709551616:Nat):Int)=wLo (p:Int)):=by rw[← hp];exact Lib.hid (by unfold wLo;omega)
 by_cases hx:decide (a<0)=decide (b<0)
 ·have e2:(p:Int)=a*b:=by rw[hp];exact qgP hx
  rw[← e2]
  have g1:(decide (a<0)==decide (b<0))=true:=by simp[hx]
  clear e2 hp m0 hx
  go_enter Try.func123,Try.ntmps123
  go_wp2_with (first | (go_at_call 86;refine (qdy _ _ (by omega) (by omega)).mono ?_;rintro e w' ⟨rfl,rfl⟩) | (go_at_call 132;refine (Try.bits_Mul64 _ _ (by omega) (by omega) _).mono ?_;rintro e w' ⟨rfl,rfl⟩;rw[M1.out,M2.out]))
  refine bodyPost_ret (v:=.agg #[.int .u64 (wHi p),.int .u64 (wLo p)]) (by simp[results,Try.results123,go_sem, *]) rfl ⟨rfl,?_⟩
  repeat (first | exact Gr.refl _ | apply Gr.alloc | apply Gr.drewN | apply Gr.drew | (refine Gr.setCell ?_ (by simp) _) | (refine Gr.trans ?_ (by assumption)))
 ·have e2 : -(p:Int)=a*b:=by rw[hp];exact qf6 hx
  rw[← e2]
  have g1:(decide (a<0)==decide (b<0))=false:=by simpa using hx
  clear e2 hp m0 hx
  have n01:w.heap.size<w.heap.size+1+1:=by omega
  have n02:w.heap.size<w.heap.size+1+1+1:=by omega
  have n12:w.heap.size+1<w.heap.size+1+1+1:=by omega
  go_enter Try.func123,Try.ntmps123
  go_wp2_with (first | (go_at_call 86;refine (qdy _ _ (by omega) (by omega)).mono ?_;rintro e w' ⟨rfl,rfl⟩) | (go_at_call 132;refine (Try.bits_Mul64 _ _ (by omega) (by omega) _).mono ?_;rintro e w' ⟨rfl,rfl⟩;rw[M1.out,M2.out]))
  refine (qd5 _ _).mono ?_
  rintro e w2 ⟨rfl,hgw2⟩
  have hcw2:=Gr.cells hgw2
  have hfw2:=Gr.marks hgw2
  have hzzw2:=Gr.size hgw2
  try simp at hzzw2
  have hzw20:w.heap.size<w2.heap.size:=by omega
  have hzw21:w.heap.size+1<w2.heap.size:=by omega
  clear hzzw2
  go_wp2
  refine bodyPost_ret (v:=.agg #[.int .u64 (wHi (-(p:Int))),.int .u64 (wLo (-(p:Int)))]) (by simp[results,Try.results123,go_sem, *]) rfl ⟨rfl,?_⟩
  repeat (first | exact Gr.refl _ | apply Gr.alloc | apply Gr.drewN | apply Gr.drew | (refine Gr.setCell ?_ (by simp) _) | (refine Gr.trans ?_ (by assumption)))
end Go.Proofs.Ytalnjplghagbpaa

namespace Go.Proofs.Ytalnjplghagbpaa
set_option maxRecDepth 100000
open Go.RowKit
theorem qgO {a b c d:Int} (h1:okB a b=true) (h2:okB c d=true):qg3 a b c d=0:=by simp[qg3,h1,ckE,h2]
theorem qan {n:Int} (h0 : -9223372036854775808≤n) (h1:n≤9223372036854775807):IntKind.i64.wrap n=n:=by
 rw[IntKind.wrap_i64];omega
end Go.Proofs.Ytalnjplghagbpaa
