/-
  Joined: C, P. Conditions: none.
-/
import Derived.Test.YtkckcgpmnipnaaaGreatW2
import Derived.Laws.Externs
import Derived.Laws.BitsAllLaws
import Derived.Laws.MathBits
import Derived.Lib.BitFns
namespace Go.Proofs.YtkckcgpmnipnaaaGreat
set_option maxRecDepth 100000
open Go.RowKit
def qkW:Array Value→Sem Value:=fun args=>do
 let (x,y,b) ← Extern.MathBitsCarry.three "Sub64" args
 pure (Extern.MathBitsCarry.pair ((x+Extern.MathBitsCarry.m64-y-b)%Extern.MathBitsCarry.m64) (if x<y+b then 1 else 0))
theorem qvF (x y b:Nat) (hb:b≤1) (w:World) :
 (qkW #[.int .u64 x,.int .u64 y,.int .u64 b]).run Tryz.prog w =
  .ok (.tuple #[.int .u64 (((x+18446744073709551616-y-b)%18446744073709551616:Nat):Int),.int .u64 ((if x<y+b then 1 else 0:Nat):Int)]) w:=by
 have:b=0∨b=1:=by omega
 rcases this with rfl | rfl<;>rfl
theorem qlj (x y c:Int) (hx:0≤x) (hy:0≤y) (hc0:0≤c) (hc:c≤1) (w:World) :
 (callFunc 296 #[.int .u64 x,.int .u64 y,.int .u64 c]).run Tryz.prog w =
  .ok (.value (.tuple #[.int .u64 ((x+y+c)%18446744073709551616),.int .u64 ((x+y+c)/18446744073709551616)])) w:=by
 rw[run_callFunc_extern Tryz.func296 (by kernel_rfl) (by kernel_rfl) (by kernel_rfl) (e:=add64Entry) (by kernel_rfl),run_add64 x y c hx hy hc0 hc];rfl
theorem qd4 (y b:Int) (hy:0≤y) (hy1:y<18446744073709551616) (hb0:0≤b) (hb:b≤1) (w:World) :
 (callFunc 297 #[.int .u64 0,.int .u64 y,.int .u64 b]).run Tryz.prog w =
  .ok (.value (.tuple #[.int .u64 ((- y-b)%18446744073709551616),.int .u64 (if 0<y+b then 1 else 0)])) w:=by
 obtain⟨Y,rfl⟩:=Int.eq_ofNat_of_zero_le hy;obtain⟨B,rfl⟩:=Int.eq_ofNat_of_zero_le hb0;have key:=qvF 0 Y B (by omega) w;rw[run_callFunc_extern Tryz.func297 (by kernel_rfl) (by kernel_rfl) (by kernel_rfl) (e:=qkW) (by kernel_rfl),show (Value.int .u64 0)=.int .u64 ((0:Nat):Int) from rfl,key];simp only[Result.andThen]
 have e1:(((0+18446744073709551616-Y-B)%18446744073709551616:Nat):Int)=(-(Y:Int)-B)%18446744073709551616:=by omega
 have e2:((if 0<Y+B then 1 else 0:Nat):Int)=if (0:Int)<Y+B then 1 else 0:=by
  by_cases h:0<Y+B
  ·rw[if_pos h,if_pos (by omega)];rfl
  ·rw[if_neg h,if_neg (by omega)];rfl
 rw[e1,e2]
def wHi (x:Int):Int:=x/18446744073709551616%18446744073709551616
def wLo (x:Int):Int:=x%18446744073709551616
theorem qiC (x:Int):0≤wHi x∧wHi x<18446744073709551616:=by unfold wHi;omega
theorem qoF (x:Int):0≤wLo x∧wLo x<18446744073709551616:=by unfold wLo;omega
theorem qxd {a b c d:Int} (h:a=b) (g:c=d):Ending.returned (.agg #[.int .u64 a,.int .u64 c])=.returned (.agg #[.int .u64 b,.int .u64 d]):=by rw[h,g]
set_option maxHeartbeats 400000 in
theorem qqn (x y:Int) (w:World) :
 Calls Tryz.prog 236 #[.agg #[.int .u64 (wHi x),.int .u64 (wLo x)],.agg #[.int .u64 (wHi y),.int .u64 (wLo y)]] w fun e w'=>e=.returned (.agg #[.int .u64 (wHi (x+y)),.int .u64 (wLo (x+y))])∧Gr w w':=by
 have e1:(wLo x+wLo y)%18446744073709551616=wLo (x+y):=by unfold wLo;omega
 have e2:(wHi x+wHi y+(wLo x+wLo y)/18446744073709551616)%18446744073709551616=wHi (x+y):=by unfold wLo wHi;omega
 have E1:=Lib.hid e1;have E2:=Lib.hid e2;clear e1 e2;obtain⟨ha0,ha1⟩:=qiC x;obtain⟨hb0,hb1⟩:=qoF x;obtain⟨hc0,hc1⟩:=qiC y;obtain⟨hd0,hd1⟩:=qoF y;generalize wHi x=a at *;generalize wLo x=b at *;generalize wHi y=c at *;generalize wLo y=d at *
 have hq0:0≤(b+d)/18446744073709551616:=by omega
 have hq1:(b+d)/18446744073709551616≤1:=by omega
 have r1:∀ w,(callFunc 296 #[.int .u64 b,.int .u64 d,.int .u64 0]).run Tryz.prog w=.ok (.value (.tuple #[.int .u64 ((b+d)%18446744073709551616),.int .u64 ((b+d)/18446744073709551616)])) w:=
  fun w=>by rw[qlj b d 0 hb0 hd0 (by omega) (by omega) w,Int.add_zero]
 have r2:=fun w=>qlj a c ((b+d)/18446744073709551616) ha0 hc0 hq0 hq1 w
 go_enter Tryz.func236,Tryz.ntmps236
 go_wp2
 refine bodyPost_ret (v:=.agg #[.int .u64 ((a+c+(b+d)/18446744073709551616)%18446744073709551616),.int .u64 ((b+d)%18446744073709551616)]) (by simp[results,Tryz.results236,go_sem]) rfl ⟨qxd E2.out E1.out,?_⟩;exact (((Gr.refl w).alloc _ _).alloc _ _).alloc _ _
set_option maxHeartbeats 400000 in
theorem qf7 (x:Int) (w:World) :
 Calls Tryz.prog 237 #[.agg #[.int .u64 (wHi x),.int .u64 (wLo x)]] w fun e w'=>e=.returned (.agg #[.int .u64 (wHi (-x)),.int .u64 (wLo (-x))])∧Gr w w':=by
 have e1:(-wLo x)%18446744073709551616=wLo (-x):=by unfold wLo;omega
 have e2:wLo x=0→(-wHi x-0)%18446744073709551616=wHi (-x):=by unfold wLo wHi;omega
 have e3:0<wLo x→(-wHi x-1)%18446744073709551616=wHi (-x):=by unfold wLo wHi;omega
 have E1:=Lib.hid e1;have E2:=Lib.hid e2;have E3:=Lib.hid e3;clear e1 e2 e3;obtain⟨ha0,ha1⟩:=qiC x;obtain⟨hb0,hb1⟩:=qoF x;generalize wHi x=a at *;generalize wLo x=b at *;by_cases hb:b=0
 ·have r1:∀ w,(callFunc 297 #[.int .u64 0,.int .u64 b,.int .u64 0]).run Tryz.prog w=.ok (.value (.tuple #[.int .u64 ((-b)%18446744073709551616),.int .u64 0])) w:=
   fun w=>by rw[qd4 b 0 hb0 hb1 (by omega) (by omega) w,if_neg (by omega),Int.sub_zero]
  obtain⟨z,hz⟩:∃ z:Int,z=if 0<a+0 then 1 else 0:=⟨_,rfl⟩
  have r2:∀ w,(callFunc 297 #[.int .u64 0,.int .u64 a,.int .u64 0]).run Tryz.prog w=.ok (.value (.tuple #[.int .u64 ((-a-0)%18446744073709551616),.int .u64 z])) w:=fun w=>hz▸qd4 a 0 ha0 ha1 (by omega) (by omega) w
  have E4:=Lib.hid (E2.out hb);clear hb hz
  go_enter Tryz.func237,Tryz.ntmps237
  go_wp2
  refine bodyPost_ret (v:=.agg #[.int .u64 ((-a)%18446744073709551616),.int .u64 ((-b)%18446744073709551616)]) (by simp[results,Tryz.results237,go_sem]) rfl ⟨qxd (by have:=E4.out;omega) E1.out,?_⟩;exact ((Gr.refl w).alloc _ _).alloc _ _
 ·have r1:∀ w,(callFunc 297 #[.int .u64 0,.int .u64 b,.int .u64 0]).run Tryz.prog w=.ok (.value (.tuple #[.int .u64 ((-b)%18446744073709551616),.int .u64 1])) w:=
   fun w=>by rw[qd4 b 0 hb0 hb1 (by omega) (by omega) w,if_pos (by omega),Int.sub_zero]
  obtain⟨z,hz⟩:∃ z:Int,z=if 0<a+1 then 1 else 0:=⟨_,rfl⟩
  have r2:∀ w,(callFunc 297 #[.int .u64 0,.int .u64 a,.int .u64 1]).run Tryz.prog w=.ok (.value (.tuple #[.int .u64 ((-a-1)%18446744073709551616),.int .u64 z])) w:=fun w=>hz▸qd4 a 1 ha0 ha1 (by omega) (by omega) w
  have E4:=Lib.hid (E3.out (by omega));clear hb hz
  go_enter Tryz.func237,Tryz.ntmps237
  go_wp2
  refine bodyPost_ret (v:=.agg #[.int .u64 ((-a-1)%18446744073709551616),.int .u64 ((-b)%18446744073709551616)]) (by simp[results,Tryz.results237,go_sem]) rfl ⟨qxd E4.out E1.out,?_⟩;exact ((Gr.refl w).alloc _ _).alloc _ _
def sg (a b:Int):Int:=if 9223372036854775808≤a then -1 else if a=0∧b=0 then 0 else 1
theorem qBk {a b:Int} (h0:0≤a) (h1:a<18446744073709551616) (h:wrap64 a<0):sg a b = -1:=by
 unfold wrap64 at h;unfold sg;rw[if_pos (by omega)]
theorem qxr {a b:Int} (ha:a=0) (hb:(b==0)=true):sg a b=0:=by simp at hb;simp[sg,ha,hb]
theorem qup {a b:Int} (h0:0≤a) (h1:a<18446744073709551616) (h:0≤wrap64 a) (hab:¬ (a=0∧b=0)):sg a b=1:=by
 unfold wrap64 at h;unfold sg;rw[if_neg (by omega),if_neg hab]
set_option maxHeartbeats 400000 in
theorem qtg (a b:Int) (w:World) (ha0:0≤a) (ha1:a<18446744073709551616) :
 Calls Tryz.prog 238 #[.agg #[.int .u64 a,.int .u64 b]] w fun e w'=>e=.returned (.int .i64 (sg a b))∧Gr w w':=by
 go_enter Tryz.func238,Tryz.ntmps238
 go_wp2
 ·have h:wrap64 a<0:=by assumption
  go_ret
  exact⟨qbc (qBk ha0 ha1 h).symm,(Gr.refl w).alloc _ _⟩
 ·have h:a=0:=by assumption
  have g:(b==0)=true:=by assumption
  go_ret
  exact⟨qbc (qxr h g).symm,(Gr.refl w).alloc _ _⟩
 ·have h:0≤wrap64 a:=by assumption
  have g:(b==0)=false:=by assumption
  go_ret
  exact⟨qbc (qup ha0 ha1 h (by simp at g;omega)).symm,(Gr.refl w).alloc _ _⟩
 ·have h:0≤wrap64 a:=by assumption
  have g:¬ a=0:=by assumption
  go_ret
  exact⟨qbc (qup ha0 ha1 h (by omega)).symm,(Gr.refl w).alloc _ _⟩
def qep (x:Int):Prop:=-170141183460469231731687303715884105728≤x∧x<170141183460469231731687303715884105728
theorem qJX {x:Int} (h:qep x):sg (wHi x) (wLo x)=x.sign:=by
 unfold qep at h;unfold sg;by_cases h1:x<0
 ·rw[if_pos (by unfold wHi;omega),Int.sign_eq_neg_one_of_neg h1]
 ·by_cases h2:x=0
  ·subst h2;decide
  ·rw[if_neg (by unfold wHi;omega),if_neg (by unfold wHi wLo;omega),Int.sign_eq_one_of_pos (by omega)]
theorem qqC (x:Int) (w:World) (h:qep x) :
 Calls Tryz.prog 238 #[.agg #[.int .u64 (wHi x),.int .u64 (wLo x)]] w fun e w'=>e=.returned (.int .i64 x.sign)∧Gr w w':=
 (qtg _ _ w (qiC x).1 (qiC x).2).mono fun _ _ ⟨he,hg⟩=>⟨he.trans (qbc (qJX h)),hg⟩
theorem qjH {a b:Int} (h:decide (a<0)=decide (b<0)):((a.natAbs*b.natAbs:Nat):Int)=a*b:=by
 by_cases ha:a<0
 ·have hb:b<0:=by simpa [ha] using h
  have e1:(a.natAbs:Int) = -a:=by omega
  have e2:(b.natAbs:Int) = -b:=by omega
  rw[Int.natCast_mul,e1,e2,Int.neg_mul_neg]
 ·have hb:¬ b<0:=by simpa [ha] using h
  have e1:(a.natAbs:Int)=a:=by omega
  have e2:(b.natAbs:Int)=b:=by omega
  rw[Int.natCast_mul,e1,e2]
theorem qiB {a b:Int} (h:¬ decide (a<0)=decide (b<0)) : -((a.natAbs*b.natAbs:Nat):Int)=a*b:=by
 by_cases ha:a<0
 ·have hb:¬ b<0:=by simpa [ha] using h
  have e1:(a.natAbs:Int) = -a:=by omega
  have e2:(b.natAbs:Int)=b:=by omega
  rw[Int.natCast_mul,e1,e2,Int.neg_mul,Int.neg_neg]
 ·have hb:b<0:=by simpa [ha] using h
  have e1:(a.natAbs:Int)=a:=by omega
  have e2:(b.natAbs:Int) = -b:=by omega
  rw[Int.natCast_mul,e1,e2,Int.mul_neg,Int.neg_neg]
set_option maxHeartbeats 400000 in
theorem qfG (a b:Int) (w:World) (ha0 : -9223372036854775808≤a) (ha1:a≤9223372036854775807) (hb0 : -9223372036854775808≤b) (hb1:b≤9223372036854775807) :
 Calls Tryz.prog 235 #[.int .i64 a,.int .i64 b] w fun e w'=>e=.returned (.agg #[.int .u64 (wHi (a*b)),.int .u64 (wLo (a*b))])∧Gr w w':=by
 have m0:a.natAbs*b.natAbs≤9223372036854775808*9223372036854775808:=Nat.mul_le_mul (by omega) (by omega);obtain⟨p,hp⟩:∃ p:Nat,p=a.natAbs*b.natAbs:=⟨_,rfl⟩
 have M1:Hid (((a.natAbs*b.natAbs/18446744073709551616:Nat):Int)=wHi (p:Int)):=by rw[← hp];rw[← hp] at m0;exact Lib.hid (by unfold wHi;omega)
 have M2:Hid (((a.natAbs*b.natAbs%18446744073709551616:Nat):Int)=wLo (p:Int)):=by rw[← hp];exact Lib.hid (by unfold wLo;omega)
 by_cases hx:decide (a<0)=decide (b<0)
 ·have e2:(p:Int)=a*b:=by rw[hp];exact qjH hx
  rw[← e2]
  have g1:(decide (a<0)==decide (b<0))=true:=by simp[hx]
  clear e2 hp m0 hx
  go_enter Tryz.func235,Tryz.ntmps235
  go_wp2_with (first | (go_at_call 169;refine (qe8 _ _ (by omega) (by omega)).mono ?_;rintro e w' ⟨rfl,rfl⟩) | (go_at_call 264;refine (Tryz.bits_Mul64 _ _ (by omega) (by omega) _).mono ?_;rintro e w' ⟨rfl,rfl⟩;rw[M1.out,M2.out]))
  refine bodyPost_ret (v:=.agg #[.int .u64 (wHi p),.int .u64 (wLo p)]) (by simp[results,Tryz.results235,go_sem, *]) rfl ⟨rfl,?_⟩
  repeat (first | exact Gr.refl _ | apply Gr.alloc | apply Gr.drewN | apply Gr.drew | (refine Gr.setCell ?_ (by simp) _) | (refine Gr.trans ?_ (by assumption)))
 ·have e2 : -(p:Int)=a*b:=by rw[hp];exact qiB hx
  rw[← e2]
  have g1:(decide (a<0)==decide (b<0))=false:=by simpa using hx
  clear e2 hp m0 hx
  have n01:w.heap.size<w.heap.size+1+1:=by omega
  have n02:w.heap.size<w.heap.size+1+1+1:=by omega
  have n12:w.heap.size+1<w.heap.size+1+1+1:=by omega
  go_enter Tryz.func235,Tryz.ntmps235
  go_wp2_with (first | (go_at_call 169;refine (qe8 _ _ (by omega) (by omega)).mono ?_;rintro e w' ⟨rfl,rfl⟩) | (go_at_call 264;refine (Tryz.bits_Mul64 _ _ (by omega) (by omega) _).mono ?_;rintro e w' ⟨rfl,rfl⟩;rw[M1.out,M2.out]))
  refine (qf7 _ _).mono ?_;rintro e w2 ⟨rfl,hgw2⟩;have hcw2:=Gr.cells hgw2;have hfw2:=Gr.marks hgw2;have hzzw2:=Gr.size hgw2
  try simp at hzzw2
  have hzw20:w.heap.size<w2.heap.size:=by omega
  have hzw21:w.heap.size+1<w2.heap.size:=by omega
  clear hzzw2
  go_wp2
  refine bodyPost_ret (v:=.agg #[.int .u64 (wHi (-(p:Int))),.int .u64 (wLo (-(p:Int)))]) (by simp[results,Tryz.results235,go_sem, *]) rfl ⟨rfl,?_⟩
  repeat (first | exact Gr.refl _ | apply Gr.alloc | apply Gr.drewN | apply Gr.drew | (refine Gr.setCell ?_ (by simp) _) | (refine Gr.trans ?_ (by assumption)))
end Go.Proofs.YtkckcgpmnipnaaaGreat

namespace Go.Proofs.YtkckcgpmnipnaaaGreat
set_option maxRecDepth 100000
open Go.RowKit
theorem qjv {a b c d:Int} (h1:okB a b=true) (h2:okB c d=true):qjm a b c d=0:=by simp[qjm,h1,ckE,h2]
theorem qas {n:Int} (h0 : -9223372036854775808≤n) (h1:n≤9223372036854775807):IntKind.i64.wrap n=n:=by
 rw[IntKind.wrap_i64];omega
end Go.Proofs.YtkckcgpmnipnaaaGreat
