/-
  Joined: C, E. Conditions: none.
-/
import Derived.Test.YtleaeldgaflmkaaGreatF
import Derived.Test.YtleaeldgaflmkaaGreatW2
import Derived.Laws.Externs
import Derived.Test.YtleaeldgaflmkaaGreatD
namespace Go.Proofs.YtleaeldgaflmkaaGreat
set_option maxRecDepth 100000
open Go.RowKit
def qjH:Array Value→Sem Value:=fun args=>do
 let (x,y,b) ← Extern.MathBitsCarry.three "Sub64" args
 pure (Extern.MathBitsCarry.pair ((x+Extern.MathBitsCarry.m64-y-b)%Extern.MathBitsCarry.m64) (if x<y+b then 1 else 0))
theorem qsD (x y b:Nat) (hb:b≤1) (w:World) :
 (qjH #[.int .u64 x,.int .u64 y,.int .u64 b]).run Tryz.prog w =
  .ok (.tuple #[.int .u64 (((x+18446744073709551616-y-b)%18446744073709551616:Nat):Int),.int .u64 ((if x<y+b then 1 else 0:Nat):Int)]) w:=by
 have:b=0∨b=1:=by omega
 rcases this with rfl | rfl<;>rfl
theorem qj7 (x y c:Int) (hx:0≤x) (hy:0≤y) (hc0:0≤c) (hc:c≤1) (w:World) :
 (callFunc 143 #[.int .u64 x,.int .u64 y,.int .u64 c]).run Tryz.prog w =
  .ok (.value (.tuple #[.int .u64 ((x+y+c)%18446744073709551616),.int .u64 ((x+y+c)/18446744073709551616)])) w:=by
 rw[run_callFunc_extern Tryz.func143 (by kernel_rfl) (by kernel_rfl) (by kernel_rfl) (e:=add64Entry) (by kernel_rfl),run_add64 x y c hx hy hc0 hc]
 rfl
theorem qdn (y b:Int) (hy:0≤y) (hy1:y<18446744073709551616) (hb0:0≤b) (hb:b≤1) (w:World) :
 (callFunc 144 #[.int .u64 0,.int .u64 y,.int .u64 b]).run Tryz.prog w =
  .ok (.value (.tuple #[.int .u64 ((- y-b)%18446744073709551616),.int .u64 (if 0<y+b then 1 else 0)])) w:=by
 obtain⟨Y,rfl⟩:=Int.eq_ofNat_of_zero_le hy
 obtain⟨B,rfl⟩:=Int.eq_ofNat_of_zero_le hb0
 have key:=qsD 0 Y B (by omega) w
 rw[run_callFunc_extern Tryz.func144 (by kernel_rfl) (by kernel_rfl) (by kernel_rfl) (e:=qjH) (by kernel_rfl),show (Value.int .u64 0)=.int .u64 ((0:Nat):Int) from rfl,key]
 simp only[Result.andThen]
 have e1:(((0+18446744073709551616-Y-B)%18446744073709551616:Nat):Int)=(-(Y:Int)-B)%18446744073709551616:=by omega
 have e2:((if 0<Y+B then 1 else 0:Nat):Int)=if (0:Int)<Y+B then 1 else 0:=by
  by_cases h:0<Y+B
  ·rw[if_pos h,if_pos (by omega)];rfl
  ·rw[if_neg h,if_neg (by omega)];rfl
 rw[e1,e2]
def wHi (x:Int):Int:=x/18446744073709551616%18446744073709551616
def wLo (x:Int):Int:=x%18446744073709551616
theorem qg6 (x:Int):0≤wHi x∧wHi x<18446744073709551616:=by unfold wHi;omega
theorem qnI (x:Int):0≤wLo x∧wLo x<18446744073709551616:=by unfold wLo;omega
theorem qsc {a b c d:Int} (h:a=b) (g:c=d):Ending.returned (.agg #[.int .u64 a,.int .u64 c])=.returned (.agg #[.int .u64 b,.int .u64 d]):=by rw[h,g]
set_option maxHeartbeats 400000 in
theorem qjy (x y:Int) (w:World) :
 Calls Tryz.prog 122 #[.agg #[.int .u64 (wHi x),.int .u64 (wLo x)],.agg #[.int .u64 (wHi y),.int .u64 (wLo y)]] w fun e w'=>e=.returned (.agg #[.int .u64 (wHi (x+y)),.int .u64 (wLo (x+y))])∧Gr w w':=by
 have e1:(wLo x+wLo y)%18446744073709551616=wLo (x+y):=by unfold wLo;omega
 have e2:(wHi x+wHi y+(wLo x+wLo y)/18446744073709551616)%18446744073709551616=wHi (x+y):=by unfold wLo wHi;omega
 have E1:=Lib.hid e1
 have E2:=Lib.hid e2
 clear e1 e2
 obtain⟨ha0,ha1⟩:=qg6 x
 obtain⟨hb0,hb1⟩:=qnI x
 obtain⟨hc0,hc1⟩:=qg6 y
 obtain⟨hd0,hd1⟩:=qnI y
 generalize wHi x=a at *
 generalize wLo x=b at *
 generalize wHi y=c at *
 generalize wLo y=d at *
 have hq0:0≤(b+d)/18446744073709551616:=by omega
 have hq1:(b+d)/18446744073709551616≤1:=by omega
 have r1:∀ w,(callFunc 143 #[.int .u64 b,.int .u64 d,.int .u64 0]).run Tryz.prog w=.ok (.value (.tuple #[.int .u64 ((b+d)%18446744073709551616),.int .u64 ((b+d)/18446744073709551616)])) w:=
  fun w=>by rw[qj7 b d 0 hb0 hd0 (by omega) (by omega) w,Int.add_zero]
 have r2:=fun w=>qj7 a c ((b+d)/18446744073709551616) ha0 hc0 hq0 hq1 w
 go_enter Tryz.func122,Tryz.ntmps122
 go_wp2
 refine bodyPost_ret (v:=.agg #[.int .u64 ((a+c+(b+d)/18446744073709551616)%18446744073709551616),.int .u64 ((b+d)%18446744073709551616)]) (by simp[results,Tryz.results122,go_sem]) rfl ⟨qsc E2.out E1.out,?_⟩
 exact (((Gr.refl w).alloc _ _).alloc _ _).alloc _ _
set_option maxHeartbeats 400000 in
theorem qde (x:Int) (w:World) :
 Calls Tryz.prog 123 #[.agg #[.int .u64 (wHi x),.int .u64 (wLo x)]] w fun e w'=>e=.returned (.agg #[.int .u64 (wHi (-x)),.int .u64 (wLo (-x))])∧Gr w w':=by
 have e1:(-wLo x)%18446744073709551616=wLo (-x):=by unfold wLo;omega
 have e2:wLo x=0→(-wHi x-0)%18446744073709551616=wHi (-x):=by unfold wLo wHi;omega
 have e3:0<wLo x→(-wHi x-1)%18446744073709551616=wHi (-x):=by unfold wLo wHi;omega
 have E1:=Lib.hid e1
 have E2:=Lib.hid e2
 have E3:=Lib.hid e3
 clear e1 e2 e3
 obtain⟨ha0,ha1⟩:=qg6 x
 obtain⟨hb0,hb1⟩:=qnI x
 generalize wHi x=a at *
 generalize wLo x=b at *
 by_cases hb:b=0
 ·have r1:∀ w,(callFunc 144 #[.int .u64 0,.int .u64 b,.int .u64 0]).run Tryz.prog w=.ok (.value (.tuple #[.int .u64 ((-b)%18446744073709551616),.int .u64 0])) w:=
   fun w=>by rw[qdn b 0 hb0 hb1 (by omega) (by omega) w,if_neg (by omega),Int.sub_zero]
  obtain⟨z,hz⟩:∃ z:Int,z=if 0<a+0 then 1 else 0:=⟨_,rfl⟩
  have r2:∀ w,(callFunc 144 #[.int .u64 0,.int .u64 a,.int .u64 0]).run Tryz.prog w=.ok (.value (.tuple #[.int .u64 ((-a-0)%18446744073709551616),.int .u64 z])) w:=fun w=>hz▸qdn a 0 ha0 ha1 (by omega) (by omega) w
  have E4:=Lib.hid (E2.out hb)
  clear hb hz
  go_enter Tryz.func123,Tryz.ntmps123
  go_wp2
  refine bodyPost_ret (v:=.agg #[.int .u64 ((-a)%18446744073709551616),.int .u64 ((-b)%18446744073709551616)]) (by simp[results,Tryz.results123,go_sem]) rfl ⟨qsc (by have:=E4.out;omega) E1.out,?_⟩
  exact ((Gr.refl w).alloc _ _).alloc _ _
 ·have r1:∀ w,(callFunc 144 #[.int .u64 0,.int .u64 b,.int .u64 0]).run Tryz.prog w=.ok (.value (.tuple #[.int .u64 ((-b)%18446744073709551616),.int .u64 1])) w:=
   fun w=>by rw[qdn b 0 hb0 hb1 (by omega) (by omega) w,if_pos (by omega),Int.sub_zero]
  obtain⟨z,hz⟩:∃ z:Int,z=if 0<a+1 then 1 else 0:=⟨_,rfl⟩
  have r2:∀ w,(callFunc 144 #[.int .u64 0,.int .u64 a,.int .u64 1]).run Tryz.prog w=.ok (.value (.tuple #[.int .u64 ((-a-1)%18446744073709551616),.int .u64 z])) w:=fun w=>hz▸qdn a 1 ha0 ha1 (by omega) (by omega) w
  have E4:=Lib.hid (E3.out (by omega))
  clear hb hz
  go_enter Tryz.func123,Tryz.ntmps123
  go_wp2
  refine bodyPost_ret (v:=.agg #[.int .u64 ((-a-1)%18446744073709551616),.int .u64 ((-b)%18446744073709551616)]) (by simp[results,Tryz.results123,go_sem]) rfl ⟨qsc E4.out E1.out,?_⟩
  exact ((Gr.refl w).alloc _ _).alloc _ _
def sg (a b:Int):Int:=if 9223372036854775808≤a then -1 else if a=0∧b=0 then 0 else 1
theorem quY {a b:Int} (h0:0≤a) (h1:a<18446744073709551616) (h:wrap64 a<0):sg a b = -1:=by
 unfold wrap64 at h;unfold sg;rw[if_pos (by omega)]
theorem qtR {a b:Int} (ha:a=0) (hb:(b==0)=true):sg a b=0:=by simp at hb;simp[sg,ha,hb]
theorem qrs {a b:Int} (h0:0≤a) (h1:a<18446744073709551616) (h:0≤wrap64 a) (hab:¬ (a=0∧b=0)):sg a b=1:=by
 unfold wrap64 at h;unfold sg;rw[if_neg (by omega),if_neg hab]
set_option maxHeartbeats 400000 in
theorem qpE (a b:Int) (w:World) (ha0:0≤a) (ha1:a<18446744073709551616) :
 Calls Tryz.prog 124 #[.agg #[.int .u64 a,.int .u64 b]] w fun e w'=>e=.returned (.int .i64 (sg a b))∧Gr w w':=by
 go_enter Tryz.func124,Tryz.ntmps124
 go_wp2
 ·have h:wrap64 a<0:=by assumption
  go_ret
  exact⟨qaX (quY ha0 ha1 h).symm,(Gr.refl w).alloc _ _⟩
 ·have h:a=0:=by assumption
  have g:(b==0)=true:=by assumption
  go_ret
  exact⟨qaX (qtR h g).symm,(Gr.refl w).alloc _ _⟩
 ·have h:0≤wrap64 a:=by assumption
  have g:(b==0)=false:=by assumption
  go_ret
  exact⟨qaX (qrs ha0 ha1 h (by simp at g;omega)).symm,(Gr.refl w).alloc _ _⟩
 ·have h:0≤wrap64 a:=by assumption
  have g:¬ a=0:=by assumption
  go_ret
  exact⟨qaX (qrs ha0 ha1 h (by omega)).symm,(Gr.refl w).alloc _ _⟩
def qbc (x:Int):Prop:=-170141183460469231731687303715884105728≤x∧x<170141183460469231731687303715884105728
theorem qAa {x:Int} (h:qbc x):sg (wHi x) (wLo x)=x.sign:=by
 unfold qbc at h
 unfold sg
 by_cases h1:x<0
 ·rw[if_pos (by unfold wHi;omega),Int.sign_eq_neg_one_of_neg h1]
 ·by_cases h2:x=0
  ·subst h2;decide
  ·rw[if_neg (by unfold wHi;omega),if_neg (by unfold wHi wLo;omega),Int.sign_eq_one_of_pos (by omega)]
theorem qeD (x:Int) (w:World) (h:qbc x) :
 Calls Tryz.prog 124 #[.agg #[.int .u64 (wHi x),.int .u64 (wLo x)]] w fun e w'=>e=.returned (.int .i64 x.sign)∧Gr w w':=
 (qpE _ _ w (qg6 x).1 (qg6 x).2).mono fun _ _ ⟨he,hg⟩=>⟨he.trans (qaX (qAa h)),hg⟩
set_option maxHeartbeats 400000 in
theorem qhX (x:Int) (w:World) (h:qbc x) :
 Calls Tryz.prog 157 #[.agg #[.int .u64 (wHi x),.int .u64 (wLo x)]] w fun e w'=>e=.returned (.agg #[.int .u64 (wHi (x.natAbs:Int)),.int .u64 (wLo (x.natAbs:Int))])∧Gr w w':=by
 by_cases hx:x<0
 ·have e2:(x.natAbs:Int) = -x:=by omega
  rw[e2]
  have e1:(decide (x.sign<0))=true:=by simp[Int.sign_eq_neg_one_of_neg hx]
  clear e2
  have n01:w.heap.size<w.heap.size+1+1:=by omega
  have n02:w.heap.size<w.heap.size+1+1+1:=by omega
  have n12:w.heap.size+1<w.heap.size+1+1+1:=by omega
  go_enter Tryz.func157,Tryz.ntmps157
  go_wp2_with fail
  refine (qeD _ _ h).mono ?_
  rintro e w1 ⟨rfl,hgw1⟩
  have hcw1:=Gr.cells hgw1
  have hfw1:=Gr.marks hgw1
  have hzzw1:=Gr.size hgw1
  try simp at hzzw1
  have hzw10:w.heap.size<w1.heap.size:=by omega
  have hzw11:w.heap.size+1<w1.heap.size:=by omega
  clear hzzw1
  go_wp2_with fail
  refine (qde _ _).mono ?_
  rintro e w2 ⟨rfl,hgw2⟩
  have hcw2:=Gr.cells hgw2
  have hfw2:=Gr.marks hgw2
  have hzzw2:=Gr.size hgw2
  try simp at hzzw2
  have hzw20:w.heap.size<w2.heap.size:=by omega
  have hzw21:w.heap.size+1<w2.heap.size:=by omega
  clear hzzw2
  go_wp2
  refine bodyPost_ret (v:=.agg #[.int .u64 (wHi (-x)),.int .u64 (wLo (-x))]) (by simp[results,Tryz.results157,go_sem, *]) rfl ⟨rfl,?_⟩
  repeat (first | exact Gr.refl _ | apply Gr.alloc | apply Gr.drewN | apply Gr.drew | (refine Gr.setCell ?_ (by simp) _) | (refine Gr.trans ?_ (by assumption)))
 ·have e2:(x.natAbs:Int)=x:=by omega
  rw[e2]
  have e1:(decide (x.sign<0))=false:=by have:¬ x.sign<0:=fun g=>hx (Int.sign_neg_iff.1 g);simpa using this
  clear e2
  have n01:w.heap.size<w.heap.size+1+1:=by omega
  have n02:w.heap.size<w.heap.size+1+1+1:=by omega
  have n12:w.heap.size+1<w.heap.size+1+1+1:=by omega
  go_enter Tryz.func157,Tryz.ntmps157
  go_wp2_with fail
  refine (qeD _ _ h).mono ?_
  rintro e w1 ⟨rfl,hgw1⟩
  have hcw1:=Gr.cells hgw1
  have hfw1:=Gr.marks hgw1
  have hzzw1:=Gr.size hgw1
  try simp at hzzw1
  have hzw10:w.heap.size<w1.heap.size:=by omega
  have hzw11:w.heap.size+1<w1.heap.size:=by omega
  clear hzzw1
  go_wp2
  refine bodyPost_ret (v:=.agg #[.int .u64 (wHi x),.int .u64 (wLo x)]) (by simp[results,Tryz.results157,go_sem, *]) rfl ⟨rfl,?_⟩
  repeat (first | exact Gr.refl _ | apply Gr.alloc | apply Gr.drewN | apply Gr.drew | (refine Gr.setCell ?_ (by simp) _) | (refine Gr.trans ?_ (by assumption)))
theorem qiY {a b:Int} (h:decide (a<0)=decide (b<0)):((a.natAbs*b.natAbs:Nat):Int)=a*b:=by
 by_cases ha:a<0
 ·have hb:b<0:=by simpa [ha] using h
  have e1:(a.natAbs:Int) = -a:=by omega
  have e2:(b.natAbs:Int) = -b:=by omega
  rw[Int.natCast_mul,e1,e2,Int.neg_mul_neg]
 ·have hb:¬ b<0:=by simpa [ha] using h
  have e1:(a.natAbs:Int)=a:=by omega
  have e2:(b.natAbs:Int)=b:=by omega
  rw[Int.natCast_mul,e1,e2]
theorem qg8 {a b:Int} (h:¬ decide (a<0)=decide (b<0)) : -((a.natAbs*b.natAbs:Nat):Int)=a*b:=by
 by_cases ha:a<0
 ·have hb:¬ b<0:=by simpa [ha] using h
  have e1:(a.natAbs:Int) = -a:=by omega
  have e2:(b.natAbs:Int)=b:=by omega
  rw[Int.natCast_mul,e1,e2,Int.neg_mul,Int.neg_neg]
 ·have hb:b<0:=by simpa [ha] using h
  have e1:(a.natAbs:Int)=a:=by omega
  have e2:(b.natAbs:Int) = -b:=by omega
  rw[Int.natCast_mul,e1,e2,Int.mul_neg,Int.neg_neg]
set_option maxHeartbeats 400000 in
theorem qbV (a b:Int) (w:World) (ha0 : -9223372036854775808≤a) (ha1:a≤9223372036854775807) (hb0 : -9223372036854775808≤b) (hb1:b≤9223372036854775807) :
 Calls Tryz.prog 121 #[.int .i64 a,.int .i64 b] w fun e w'=>e=.returned (.agg #[.int .u64 (wHi (a*b)),.int .u64 (wLo (a*b))])∧Gr w w':=by
 have m0:a.natAbs*b.natAbs≤9223372036854775808*9223372036854775808:=Nat.mul_le_mul (by omega) (by omega)
 obtain⟨p,hp⟩:∃ p:Nat,p=a.natAbs*b.natAbs:=⟨_,rfl⟩
 have M1:Hid (((a.natAbs*b.natAbs/18446744073709551616:Nat):Int)=wHi (p:Int)):=by rw[← hp];rw[← hp] at m0;exact Lib.hid (by unfold wHi;omega)
 have M2:Hid (((a.natAbs*b.natAbs%18446744073709551616:Nat):Int)=wLo (p:Int)):=by rw[← hp];exact Lib.hid (by unfold wLo;omega)
 by_cases hx:decide (a<0)=decide (b<0)
 ·have e2:(p:Int)=a*b:=by rw[hp];exact qiY hx
  rw[← e2]
  have g1:(decide (a<0)==decide (b<0))=true:=by simp[hx]
  clear e2 hp m0 hx
  go_enter Tryz.func121,Tryz.ntmps121
  go_wp2_with (first | (go_at_call 67;refine (qcR _ _ (by omega) (by omega)).mono ?_;rintro e w' ⟨rfl,rfl⟩) | (go_at_call 142;refine (Tryz.bits_Mul64 _ _ (by omega) (by omega) _).mono ?_;rintro e w' ⟨rfl,rfl⟩;rw[M1.out,M2.out]))
  refine bodyPost_ret (v:=.agg #[.int .u64 (wHi p),.int .u64 (wLo p)]) (by simp[results,Tryz.results121,go_sem, *]) rfl ⟨rfl,?_⟩
  repeat (first | exact Gr.refl _ | apply Gr.alloc | apply Gr.drewN | apply Gr.drew | (refine Gr.setCell ?_ (by simp) _) | (refine Gr.trans ?_ (by assumption)))
 ·have e2 : -(p:Int)=a*b:=by rw[hp];exact qg8 hx
  rw[← e2]
  have g1:(decide (a<0)==decide (b<0))=false:=by simpa using hx
  clear e2 hp m0 hx
  have n01:w.heap.size<w.heap.size+1+1:=by omega
  have n02:w.heap.size<w.heap.size+1+1+1:=by omega
  have n12:w.heap.size+1<w.heap.size+1+1+1:=by omega
  go_enter Tryz.func121,Tryz.ntmps121
  go_wp2_with (first | (go_at_call 67;refine (qcR _ _ (by omega) (by omega)).mono ?_;rintro e w' ⟨rfl,rfl⟩) | (go_at_call 142;refine (Tryz.bits_Mul64 _ _ (by omega) (by omega) _).mono ?_;rintro e w' ⟨rfl,rfl⟩;rw[M1.out,M2.out]))
  refine (qde _ _).mono ?_
  rintro e w2 ⟨rfl,hgw2⟩
  have hcw2:=Gr.cells hgw2
  have hfw2:=Gr.marks hgw2
  have hzzw2:=Gr.size hgw2
  try simp at hzzw2
  have hzw20:w.heap.size<w2.heap.size:=by omega
  have hzw21:w.heap.size+1<w2.heap.size:=by omega
  clear hzzw2
  go_wp2
  refine bodyPost_ret (v:=.agg #[.int .u64 (wHi (-(p:Int))),.int .u64 (wLo (-(p:Int)))]) (by simp[results,Tryz.results121,go_sem, *]) rfl ⟨rfl,?_⟩
  repeat (first | exact Gr.refl _ | apply Gr.alloc | apply Gr.drewN | apply Gr.drew | (refine Gr.setCell ?_ (by simp) _) | (refine Gr.trans ?_ (by assumption)))
end Go.Proofs.YtleaeldgaflmkaaGreat

namespace Go.Proofs.YtleaeldgaflmkaaGreat
set_option maxRecDepth 100000
open Go.RowKit
theorem qjj (Y:Nat):(Y:Int)/4294967296=((Y/4294967296:Nat):Int):=by omega
theorem qja {Y:Nat} (h:Y<18446744073709551616):bits BinOp.and IntKind.u64 (Y:Int) 4294967295=((Y%4294967296:Nat):Int):=by
 rw[and_low32 _ (by omega) (by omega)];omega
theorem qt8 (lo s:Nat):IntKind.u64.wrap ((lo:Int)*2 ^ s)=((lo*2 ^ s%18446744073709551616:Nat):Int):=by
 rw[IntKind.wrap_u64]
 have e:(lo:Int)*2 ^ s=((lo*2 ^ s:Nat):Int):=by push_cast;rfl
 rw[e]
 omega
theorem qjf (hi lo y:Nat) (w:World) (h:hi<y) (hlo:lo<18446744073709551616) (hy:y<18446744073709551616) :
 Calls Tryz.prog 159 #[.int .u64 hi,.int .u64 lo,.int .u64 y] w fun e w'=>e=.returned (.tuple #[.int .u64 (((hi*18446744073709551616+lo)/y:Nat):Int),.int .u64 (((hi*18446744073709551616+lo)%y:Nat):Int)])∧Gr w w':=by
 by_cases h0:hi=0
 ·subst h0
  have e:0*18446744073709551616+lo=lo:=by omega
  rw[e]
  exact qt6 lo y w hlo hy h
 ·obtain⟨g1,g2,g3,g4⟩:=qtg y (by omega) hy
  obtain⟨s,hs⟩:∃ s,s=64-Lib.bitLen y:=⟨_,rfl⟩
  rw[← hs] at g1 g2 g3
  have ps:0<2 ^ s:=Nat.pow_pos (by omega)
  obtain⟨Y,hY⟩:∃ Y,y*2 ^ s=Y:=⟨_,rfl⟩
  obtain⟨A,hA⟩:∃ A,hi*2 ^ s=A:=⟨_,rfl⟩
  rw[hY] at g1 g2
  have hAY:A+2 ^ s≤Y:=by
   rw[← hA,← hY]
   have:=Nat.mul_le_mul_right (2 ^ s) (show hi+1≤y by omega)
   rw[Nat.add_mul,Nat.one_mul] at this
   exact this
  have hl:lo/2 ^ (64-s)<2 ^ s:=by
   apply Nat.div_lt_of_lt_mul
   rw[← Nat.pow_add,show 64-s+s=64 by omega]
   exact hlo
  obtain⟨U,hU⟩:∃ U,U=A+lo/2 ^ (64-s):=⟨_,rfl⟩
  have hUY:U<Y:=by omega
  obtain⟨L,hL⟩:∃ L,L=lo*2 ^ s%18446744073709551616:=⟨_,rfl⟩
  obtain⟨y1,hy1⟩:∃ x,x=Y/4294967296:=⟨_,rfl⟩
  obtain⟨y0,hy0⟩:∃ x,x=Y%4294967296:=⟨_,rfl⟩
  obtain⟨l1,hl1⟩:∃ x,x=L/4294967296:=⟨_,rfl⟩
  obtain⟨l0,hl0⟩:∃ x,x=L%4294967296:=⟨_,rfl⟩
  obtain⟨q1,hq1⟩:∃ x,x=U/y1:=⟨_,rfl⟩
  obtain⟨m1,hm1⟩:∃ x,q1*y1=x:=⟨_,rfl⟩
  obtain⟨Q1,hQ1⟩:∃ x,x=(U*4294967296+l1)/Y:=⟨_,rfl⟩
  obtain⟨V,hV⟩:∃ x,x=(U*4294967296+l1)%Y:=⟨_,rfl⟩
  obtain⟨q0,hq0⟩:∃ x,x=V/y1:=⟨_,rfl⟩
  obtain⟨m0,hm0⟩:∃ x,q0*y1=x:=⟨_,rfl⟩
  obtain⟨Q0,hQ0⟩:∃ x,x=(V*4294967296+l0)/Y:=⟨_,rfl⟩
  obtain⟨R,hR⟩:∃ x,x=(V*4294967296+l0)%Y:=⟨_,rfl⟩
  have hL1:L<18446744073709551616:=by omega
  have c1:l1<4294967296:=by omega
  have c0:l0<4294967296:=by omega
  have cY:Y=y1*4294967296+y0:=by omega
  have hVY:V<Y:=hV▸Nat.mod_lt _ (by omega)
  have hRY:R<Y:=hR▸Nat.mod_lt _ (by omega)
  have k1:m1≤U:=by rw[← hm1,hq1];exact Nat.div_mul_le_self _ _
  have k0:m0≤V:=by rw[← hm0,hq0];exact Nat.div_mul_le_self _ _
  have i1:q1≤U:=hq1▸Nat.div_le_self _ _
  have i0:q0≤V:=hq0▸Nat.div_le_self _ _
  have w1:U-m1<y1:=by
   have:=Nat.div_add_mod U y1
   have t:=Nat.mod_lt U (show 0<y1 by omega)
   rw[← hq1,Nat.mul_comm,hm1] at this
   omega
  have w0:V-m0<y1:=by
   have:=Nat.div_add_mod V y1
   have t:=Nat.mod_lt V (show 0<y1 by omega)
   rw[← hq0,Nat.mul_comm,hm0] at this
   omega
  have n1:=qq0 (U:=U) (l1:=l1) (Y:=Y) hUY c1
  have n0:=qq0 (U:=V) (l1:=l0) (Y:=Y) hVY c0
  rw[← hQ1] at n1
  rw[← hQ0] at n0
  have s1:=qhq (U:=U) (l1:=l1) cY c1 (show 0<y1 by omega)
  have s0:=qhq (U:=V) (l1:=l0) cY c0 (show 0<y1 by omega)
  rw[← hQ1,← hq1] at s1
  rw[← hQ0,← hq0] at s0
  have R1:U*4294967296+l1=Q1*Y+V:=by rw[hQ1,hV,Nat.mul_comm _ Y];exact (Nat.div_add_mod _ _).symm
  have R0:V*4294967296+l0=Q0*Y+R:=by rw[hQ0,hR,Nat.mul_comm _ Y];exact (Nat.div_add_mod _ _).symm
  have fin:=qq8 (hi:=hi) (lo:=lo) (y:=y) (s:=s) (by omega) hlo g3 hY (by rw[hA];exact hU) hL hl1 hl0 hQ1 hV hQ0 hR
  have core:=qqu hi lo y s U y1 y0 l1 l0 q1 Q1 V q0 Q0 Y Y A U L y1 y0 l1 l0 q1 m1 Q1 V q0 m0 Q0 R w h hlo hy (by omega) (Lib.hid hs) g4 g3
   (Lib.hid rfl) (Lib.hid rfl) (Lib.hid rfl) (Lib.hid rfl) (Lib.hid rfl) (Lib.hid rfl) (Lib.hid rfl) (Lib.hid rfl) (Lib.hid rfl) (Lib.hid rfl) (Lib.hid rfl)
   (qq3 hY g2) (qq3 hA (by omega)) (by rw[hU];exact qvL hA g3 hlo (by omega)) (by rw[hL];exact qt8 lo s)
   (by rw[hy1];exact qjj Y) (by rw[hy0];exact qja g2) (by rw[hl1];exact qjj L) (by rw[hl0];exact qja hL1)
   (by rw[hq1];rfl) (qgc hm1 (by omega)) (by omega) (by omega) (Lib.hid (qmn R1 (by omega))) (Lib.hid (by rw[hq0];rfl)) (Lib.hid (qgc hm0 (by omega))) (by omega) (by omega)
   (Lib.hid (qmn R0 (by omega))) (by omega) (by omega) (Lib.hid cY) (by omega) (by omega) (by omega) (by omega)
   (by omega) (by omega) (by omega) (by omega) (by omega) (by omega) (by omega) (by omega) (by omega) (by omega) (by omega) (by omega)
   (Lib.hid hQ1) (Lib.hid hQ0) (by omega) (by omega) (by omega) (by omega) (by omega) (by omega)
   (Lib.hid ⟨s1,by rw[show ((U:Int)-(m1:Int)).toNat=U-m1 by omega,hm1];omega⟩) (Lib.hid ⟨s0,by rw[show ((V:Int)-(m0:Int)).toNat=V-m0 by omega,hm0];omega⟩) (by omega) (by omega)
  refine core.mono fun e w' ⟨he,hw⟩=>⟨he.trans (qbm ?_ ?_),Gr.of_eq hw⟩
  ·rw[fin.1,Int.natCast_add,Int.natCast_mul];rfl
  ·rw[fin.2,Int.natCast_ediv,Int.natCast_pow];rfl
set_option maxHeartbeats 400000 in
theorem qqC (hi lo y:Nat) (w:World) (h:0<y) (hhi:hi<18446744073709551616) (hlo:lo<18446744073709551616) (hy:y<18446744073709551616) :
 Calls Tryz.prog 158 #[.int .u64 hi,.int .u64 lo,.int .u64 y] w fun e w'=>e=.returned (.int .u64 (((hi*18446744073709551616+lo)%y:Nat):Int))∧Gr w w':=by
 obtain⟨r,hr⟩:∃ r:Nat,r=hi%y:=⟨_,rfl⟩
 have hry:r<y:=hr▸Nat.mod_lt _ h
 have e1:(hi:Int)%(y:Int)=(r:Int):=by rw[hr];rfl
 have e2:(r*18446744073709551616+lo)%y=(hi*18446744073709551616+lo)%y:=by
  rw[hr,Nat.add_mod,Nat.mod_mul_mod,← Nat.add_mod]
 obtain⟨q,hq⟩:∃ q:Int,q=(((r*18446744073709551616+lo)/y:Nat):Int):=⟨_,rfl⟩
 obtain⟨z,hz⟩:∃ z:Int,z=(((hi*18446744073709551616+lo)%y:Nat):Int):=⟨_,rfl⟩
 have dv:=fun w=>hq▸(e2▸qjf r lo y w hry hlo hy)
 rw[← hz]
 have DV:Hid (∀ w,Calls Tryz.prog 159 #[.int .u64 r,.int .u64 lo,.int .u64 y] w fun e w'=>e=.returned (.tuple #[.int .u64 q,.int .u64 z])∧Gr w w'):=Lib.hid (fun w=>hz▸dv w)
 have k0:((y:Int)==0)=false:=by simp;omega
 clear dv hq hz e2 hr
 go_enter Tryz.func158,Tryz.ntmps158
 go_wp2_with fail
 refine (DV.out _).mono ?_
 rintro e w1 ⟨rfl,hg⟩
 go_wp2
 go_ret
 exact⟨rfl,hg⟩
end Go.Proofs.YtleaeldgaflmkaaGreat
