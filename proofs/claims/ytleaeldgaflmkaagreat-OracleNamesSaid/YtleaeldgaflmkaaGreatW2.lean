/-
  Joined: A, Shelf, M, B. Conditions: none.
-/
import Derived.Test.YtleaeldgaflmkaaGreatRows
import Derived.Test.YtleaeldgaflmkaaGreatSxA
import Derived.WalkKit
import Derived.WalkSpells
import Derived.WalkLawsBesides
import Derived.Lib.Hide
import Derived.RegionTactic
import Derived.Deep.QuietTactic
import Derived.BigQuiet
import Derived.Shelf.Small.Bits
import Derived.Shelf.Strconv.Itoa0
import Derived.Shelf.Bits.Mul64
import Derived.Test.YtleaeldgaflmkaaGreatProg
import Derived.Lib.BitFns
import Derived.Laws.BitsAllLaws
import Derived.Laws.MathBits
namespace Go.Proofs.YtleaeldgaflmkaaGreat
set_option maxRecDepth 100000
open Go.RowKit
theorem qaX {k:IntKind} {a b:Int} (h:a=b):Ending.returned (.int k a)=.returned (.int k b):=by rw[h]
theorem qbm {k l:IntKind} {a b c d:Int} (h:a=b) (g:c=d):Ending.returned (.tuple #[.int k a,.int l c])=.returned (.tuple #[.int k b,.int l d]):=by rw[h,g]
theorem qoi {k:IntKind} {a b:Int} {c d:Bool} (h:a=b) (g:c=d):Ending.returned (.tuple #[.int k a,.bool c])=.returned (.tuple #[.int k b,.bool d]):=by rw[h,g]
set_option maxHeartbeats 400000 in
theorem qcR (n:Int) (w:World) (h0 : -9223372036854775808≤n) (h1:n≤9223372036854775807) :
 Calls Tryz.prog 67 #[.int .i64 n] w fun e w'=>e=.returned (.int .u64 (n.natAbs:Int))∧w=w':=by
 by_cases hn:n<0
 ·go_enter Tryz.func67,Tryz.ntmps67
  go_wp2
  go_ret
  exact⟨qaX (by simp[IntKind.wrap_u64];omega),rfl⟩
 ·go_enter Tryz.func67,Tryz.ntmps67
  go_wp2
  go_ret
  exact⟨qaX (by omega),rfl⟩
set_option maxHeartbeats 400000 in
theorem qfS (n:Int) (w:World) (h0 : -9223372036854775808≤n) (h1:n≤9223372036854775807) :
 Calls Tryz.prog 66 #[.int .i64 n] w fun e w'=>e=.returned (.int .u64 (n.natAbs:Int))∧w=w':=by
 by_cases hn:n<0
 ·go_enter Tryz.func66,Tryz.ntmps66
  go_wp2
  go_ret
  exact⟨qaX (by omega),rfl⟩
 ·go_enter Tryz.func66,Tryz.ntmps66
  go_wp2
  go_ret
  exact⟨qaX (by omega),rfl⟩
def qaJ (n:Nat):Bool:=decide (n<9223372036854775808)
def sgV (n:Nat) (b:Bool):Int:=if n<9223372036854775808 then (if b then -(n:Int) else n) else 0
set_option maxHeartbeats 400000 in
theorem qk8 (n:Nat) (b:Bool) (w:World) (h1:n<18446744073709551616) :
 Calls Tryz.prog 113 #[.int .u64 n,.bool b] w fun e w'=>e=.returned (.tuple #[.int .i64 (sgV n b),.bool (qaJ n)])∧w=w':=by
 by_cases hn:n<9223372036854775808
 ·cases b
  ·go_enter Tryz.func113,Tryz.ntmps113
   go_wp2
   go_ret2
   exact⟨qoi (by simp[sgV,hn]) (by simp[qaJ,hn]),rfl⟩
  ·go_enter Tryz.func113,Tryz.ntmps113
   go_wp2
   go_ret2
   exact⟨qoi (by simp[sgV,hn]) (by simp[qaJ,hn]),rfl⟩
 ·go_enter Tryz.func113,Tryz.ntmps113
  go_wp2
  go_ret2
  exact⟨qoi (by simp[sgV,hn]) (by simp[qaJ,hn]),rfl⟩
def qiT (a b:Nat) (w:World) (e:Ending) (w':World):Prop:=e=.returned (.int .u64 ((Nat.gcd a b:Nat):Int))∧∃ n,w'=w.drewN n
def qqT (a b:Nat) (w:World) (u v:Value) (wr:World):Prop:=∃ x y n:Nat,x<18446744073709551616∧y<18446744073709551616∧Nat.gcd x y=Nat.gcd a b∧u=.int .u64 x∧v=.int .u64 y∧wr=w.drewN n
theorem qeN {a b x n:Nat} {w:World} (H:Hid (Nat.gcd x 0=Nat.gcd a b)):qiT a b w (.returned (.int .u64 (x:Int))) (w.drewN n):=by
 have:=H.out
 rw[Nat.gcd_zero_right] at this
 exact⟨qaX (by rw[this]),n,rfl⟩
theorem qjv {a b x y:Nat} (H:Hid (Nat.gcd x y=Nat.gcd a b)):Nat.gcd y (x%y)=Nat.gcd a b:=by
 have:=H.out
 rw[← this,Nat.gcd_comm x y]
 exact (Nat.gcd_rec y x).trans (Nat.gcd_comm _ _) |>.symm
set_option maxHeartbeats 400000 in
theorem qek (a b:Nat) (w:World) (ha:a<18446744073709551616) (hb:b<18446744073709551616) :
 Calls Tryz.prog 86 #[.int .u64 a,.int .u64 b] w (qiT a b w):=by
 go_enter Tryz.func86,Tryz.ntmps86
 go_wp2
 go_loopw [0,1] (fun u v wr=>qqT a b w u v wr) (fun _ v _=>(intOf v).toNat)
 case atStart=>exact⟨a,b,0,ha,hb,rfl,rfl,rfl,rfl⟩
 case round=>
  obtain⟨x,y,n,hx,hy,hg,rfl,rfl,rfl⟩:=hrel
  have HG:=Lib.hid hg
  clear hg
  by_cases h0:y=0
  ·subst h0
   go_wp2
   go_ret
   exact qeN HG
  ·have hlt:x%y<y:=Nat.mod_lt _ (by omega)
   go_wp2
   go_quiet (fail)
   go_wp2
   go_roundw
   case rel=>exact⟨y,x%y,_,hy,by omega,qjv HG,rfl,by go_num,World.drewN_drewN ..⟩
   case measure=>simp[intOf];omega
set_option maxHeartbeats 400000 in
theorem qfw (a b:Nat) (w:World) (ha:a<18446744073709551616) (hb:b<18446744073709551616) :
 Calls Tryz.prog 65 #[.int .u64 a,.int .u64 b] w (qiT a b w):=by
 go_enter Tryz.func65,Tryz.ntmps65
 go_wp2
 go_loopw [0,1] (fun u v wr=>qqT a b w u v wr) (fun _ v _=>(intOf v).toNat)
 case atStart=>exact⟨a,b,0,ha,hb,rfl,rfl,rfl,rfl⟩
 case round=>
  obtain⟨x,y,n,hx,hy,hg,rfl,rfl,rfl⟩:=hrel
  have HG:=Lib.hid hg
  clear hg
  by_cases h0:y=0
  ·subst h0
   go_wp2
   go_ret
   exact qeN HG
  ·have hlt:x%y<y:=Nat.mod_lt _ (by omega)
   go_wp2
   go_quiet (fail)
   go_wp2
   go_roundw
   case rel=>exact⟨y,x%y,_,hy,by omega,qjv HG,rfl,by go_num,World.drewN_drewN ..⟩
   case measure=>simp[intOf];omega
theorem qkg (a b:Nat) (w:World) (ha:a<18446744073709551616) (hb:b<18446744073709551616) :
 Calls Tryz.prog 86 #[.int .u64 a,.int .u64 b] w fun e w'=>e=.returned (.int .u64 ((Nat.gcd a b:Nat):Int))∧Gr w w':=
 (qek a b w ha hb).mono fun _ _ ⟨he,_,hn⟩=>⟨he,hn▸(Gr.refl w).drewN _⟩
theorem qmr (a b:Nat) (w:World) (ha:a<18446744073709551616) (hb:b<18446744073709551616) :
 Calls Tryz.prog 65 #[.int .u64 a,.int .u64 b] w fun e w'=>e=.returned (.int .u64 ((Nat.gcd a b:Nat):Int))∧Gr w w':=
 (qfw a b w ha hb).mono fun _ _ ⟨he,_,hn⟩=>⟨he,hn▸(Gr.refl w).drewN _⟩
theorem quQ (n:Int) (w:World) (k:Nat) (h0 : -9223372036854775808≤n) (h1:n≤9223372036854775807) :
 Calls Tryz.prog 67 #[.int .i64 n] (w.drewN k) fun e w'=>e=.returned (.int .u64 (n.natAbs:Int))∧∃ m,w'=w.drewN m:=
 (qcR n _ h0 h1).mono fun _ _ ⟨he,hw⟩=>⟨he,k,hw.symm⟩
theorem qoO (n:Int) (w:World) (k:Nat) (h0 : -9223372036854775808≤n) (h1:n≤9223372036854775807) :
 Calls Tryz.prog 66 #[.int .i64 n] (w.drewN k) fun e w'=>e=.returned (.int .u64 (n.natAbs:Int))∧∃ m,w'=w.drewN m:=
 (qfS n _ h0 h1).mono fun _ _ ⟨he,hw⟩=>⟨he,k,hw.symm⟩
theorem qnU (a b:Nat) (w:World) (k:Nat) (ha:a<18446744073709551616) (hb:b<18446744073709551616) :
 Calls Tryz.prog 86 #[.int .u64 a,.int .u64 b] (w.drewN k) fun e w'=>e=.returned (.int .u64 ((Nat.gcd a b:Nat):Int))∧∃ m,w'=w.drewN m:=
 (qek a b _ ha hb).mono fun _ _ ⟨he,m,hw⟩=>⟨he,k+m,hw.trans (World.drewN_drewN ..)⟩
theorem qpS (a b:Nat) (w:World) (k:Nat) (ha:a<18446744073709551616) (hb:b<18446744073709551616) :
 Calls Tryz.prog 65 #[.int .u64 a,.int .u64 b] (w.drewN k) fun e w'=>e=.returned (.int .u64 ((Nat.gcd a b:Nat):Int))∧∃ m,w'=w.drewN m:=
 (qfw a b _ ha hb).mono fun _ _ ⟨he,m,hw⟩=>⟨he,k+m,hw.trans (World.drewN_drewN ..)⟩
end Go.Proofs.YtleaeldgaflmkaaGreat

namespace Go.Proofs
set_option maxRecDepth 100000
open Go.Shelf
def Tryz.lays134_ren:Go.Shelf.Ren:=⟨fun | 134=>167 | 129=>177 | n=>n,fun | 53=>101 | 3=>3 | 4=>4 | 46=>167 | 5=>5 | 9=>9 | n=>n,fun | n=>n⟩
theorem Tryz.lays134:Go.Proofs.Lays.n134 Tryz.prog Tryz.lays134_ren:={
 mixed:=by kernel_rfl
 f129:=Tryz.func177.trans (congrArg some (by kernel_rfl))
 f134:=Tryz.func167.trans (congrArg some (by kernel_rfl))
 t3:=Tryz.underlying3
 a3:=Tryz.isAgg3
 z3:=Tryz.sizeOf3
 v3:=Tryz.zeroValue3
 t4:=Tryz.underlying4
 a4:=Tryz.isAgg4
 z4:=Tryz.sizeOf4
 v4:=Tryz.zeroValue4
 t5:=Tryz.underlying5
 a5:=Tryz.isAgg5
 z5:=Tryz.sizeOf5
 v5:=Tryz.zeroValue5
 t9:=Tryz.underlying9
 a9:=Tryz.isAgg9
 z9:=Tryz.sizeOf9
 v9:=Tryz.zeroValue9
 t46:=Tryz.underlying167
 a46:=Tryz.isAgg167
 z46:=Tryz.sizeOf167
 v46:=Tryz.zeroValue167
 t53:=Tryz.underlying101
 a53:=Tryz.isAgg101
 z53:=Tryz.sizeOf101
 v53:=Tryz.zeroValue101 }
theorem Tryz.bits_LeadingZeros64 (x:Int) (w:World) (h0:0≤x) (h1:x≤18446744073709551615) :
 Calls Tryz.prog 167 #[.int .u64 x] w fun e w'=>e=.returned (.int .i64 (64-(Lib.bitLen x.toNat:Int)))∧w'=w:=Any.bits_LeadingZeros64 Tryz.lays134 x w h0 h1
def Tryz.lays264_ren:Go.Shelf.Ren:=⟨fun | 264=>142 | n=>n,fun | 53=>101 | 46=>167 | n=>n,fun | n=>n⟩
theorem Tryz.lays264:Go.Proofs.Lays.n264 Tryz.prog Tryz.lays264_ren:={
 mixed:=by kernel_rfl
 f264:=Tryz.func142.trans (congrArg some (by kernel_rfl))
 t46:=Tryz.underlying167
 a46:=Tryz.isAgg167
 z46:=Tryz.sizeOf167
 v46:=Tryz.zeroValue167
 t53:=Tryz.underlying101
 a53:=Tryz.isAgg101
 z53:=Tryz.sizeOf101
 v53:=Tryz.zeroValue101 }
open Go.RowKit Go.Lib in
theorem Tryz.bits_Mul64 (x y:Nat) (hx:x<18446744073709551616) (hy:y<18446744073709551616) (w:World) :
 Calls Tryz.prog 142 #[.int .u64 x,.int .u64 y] w fun e w'=>e=.returned (.tuple #[.int .u64 ((x*y/18446744073709551616:Nat):Int),.int .u64 ((x*y%18446744073709551616:Nat):Int)])∧w'=w:=Any.bits_Mul64 Tryz.lays264 x y hx hy w
end Go.Proofs

namespace Go.Proofs.YtleaeldgaflmkaaGreat
set_option maxRecDepth 100000
theorem qfB (f:Nat):Lib.bitLenAux f 0=0:=by cases f<;>simp[Lib.bitLenAux]
theorem qhL:∀ (f x:Nat),x<2 ^ f→x<2 ^ Lib.bitLenAux f x∧(x≠0→2 ^ (Lib.bitLenAux f x-1)≤x∧1≤Lib.bitLenAux f x)∧Lib.bitLenAux f x≤f:=by
 intro f
 induction f with
 | zero=>intro x h;simp[Lib.bitLenAux] at h ⊢;omega
 | succ f ih=>
  intro x h
  by_cases hx:x=0
  ·subst hx;simp[Lib.bitLenAux]
  ·obtain⟨h1,h2,h3⟩:=ih (x/2) (by rw[Nat.pow_succ] at h;omega)
   simp only[Lib.bitLenAux,if_neg hx]
   generalize hk0:Lib.bitLenAux f (x/2)=k at *
   refine⟨by rw[Nat.add_comm,Nat.pow_succ];omega,fun _=>⟨?_,by omega⟩,by omega⟩
   rw[Nat.add_sub_cancel_left]
   by_cases hk:x/2=0
   ·have:k=0:=by rw[← hk0,hk];exact qfB f
    subst this
    simp;omega
   ·obtain⟨h4,h5⟩:=h2 hk
    obtain⟨j,rfl⟩:∃ j,k=j+1:=⟨k-1,by omega⟩
    rw[Nat.add_sub_cancel] at h4
    rw[Nat.pow_succ]
    omega
theorem qop (x:Nat) (h0:0<x) (h:x<18446744073709551616):x<2 ^ Lib.bitLen x∧2 ^ (Lib.bitLen x-1)≤x∧1≤Lib.bitLen x∧Lib.bitLen x≤64:=by
 obtain⟨h1,h2,h3⟩:=qhL 64 x h
 exact⟨h1,(h2 (by omega)).1,(h2 (by omega)).2,h3⟩
theorem qtg (y:Nat) (h0:0<y) (h:y<18446744073709551616):9223372036854775808≤y*2 ^ (64-Lib.bitLen y)∧y*2 ^ (64-Lib.bitLen y)<18446744073709551616∧64-Lib.bitLen y≤63∧Lib.bitLen y≤64:=by
 obtain⟨h1,h2,h3,h4⟩:=qop y h0 h
 generalize Lib.bitLen y=b at *
 have e1:2 ^ (b-1)*2 ^ (64-b)=9223372036854775808:=by rw[← Nat.pow_add,show b-1+(64-b)=63 by omega]
 have e2:2 ^ b*2 ^ (64-b)=18446744073709551616:=by rw[← Nat.pow_add,show b+(64-b)=64 by omega]
 have p:0<2 ^ (64-b):=Nat.pow_pos (by omega)
 exact⟨e1▸Nat.mul_le_mul_right _ h2,e2▸Nat.mul_lt_mul_of_pos_right h1 p,by omega,h4⟩
theorem qvL {hi lo s A:Nat} (hA:hi*2 ^ s=A) (hs:s≤63) (hlo:lo<18446744073709551616) (hA1:A<18446744073709551616) :
 bits BinOp.or IntKind.u64 (A:Int) ((lo:Int)/2 ^ (64-s))=((A+lo/2 ^ (64-s):Nat):Int):=by
 have e:(lo:Int)/2 ^ (64-s)=((lo/2 ^ (64-s):Nat):Int):=by push_cast;rfl
 have hl:lo/2 ^ (64-s)<2 ^ s:=by
  apply Nat.div_lt_of_lt_mul
  rw[← Nat.pow_add,show 64-s+s=64 by omega]
  exact hlo
 have hl2:lo/2 ^ (64-s)≤lo:=Nat.div_le_self _ _
 rw[e,u64_or_nat _ _ hA1 (by omega)]
 congr 1
 rw[← hA,Nat.mul_comm hi,← Nat.two_pow_add_eq_or_of_lt hl]
theorem qq8 {hi lo y s Y U L l1 l0 Q1 V Q0 R:Nat} (hy:0<y) (hlo:lo<18446744073709551616) (hs:s≤63) (hY:y*2 ^ s=Y) (hU:U=hi*2 ^ s+lo/2 ^ (64-s)) (hL:L=lo*2 ^ s%18446744073709551616)
 (h1:l1=L/4294967296) (h0:l0=L%4294967296) (hq1:Q1=(U*4294967296+l1)/Y) (hv:V=(U*4294967296+l1)%Y) (hq0:Q0=(V*4294967296+l0)/Y) (hr:R=(V*4294967296+l0)%Y) :
 (hi*18446744073709551616+lo)/y=Q1*4294967296+Q0∧(hi*18446744073709551616+lo)%y=R/2 ^ s:=by
 have p:0<2 ^ s:=Nat.pow_pos (by omega)
 have pY:0<Y:=hY▸Nat.mul_pos hy p
 have e1:lo*2 ^ s=lo/2 ^ (64-s)*18446744073709551616+L:=by
  have d:lo*2 ^ s/18446744073709551616=lo/2 ^ (64-s):=by
   have:(18446744073709551616:Nat)=2 ^ (64-s)*2 ^ s:=by rw[← Nat.pow_add,show 64-s+s=64 by omega]
   rw[this,Nat.mul_div_mul_right _ _ p]
  have:=Nat.div_add_mod (lo*2 ^ s) 18446744073709551616
  rw[d,← hL] at this
  omega
 have m1:=Nat.div_add_mod (U*4294967296+l1) Y
 rw[← hq1,← hv] at m1
 have m0:=Nat.div_add_mod (V*4294967296+l0) Y
 rw[← hq0,← hr] at m0
 have rl:R<Y:=hr▸Nat.mod_lt _ pY
 have e2:(hi*18446744073709551616+lo)*2 ^ s=Y*(Q1*4294967296+Q0)+R:=by
  have a1:(hi*18446744073709551616+lo)*2 ^ s=hi*2 ^ s*18446744073709551616+lo*2 ^ s:=by rw[Nat.add_mul,Nat.mul_right_comm]
  have a2:Y*(Q1*4294967296+Q0)=Y*Q1*4294967296+Y*Q0:=by rw[Nat.mul_add,Nat.mul_assoc]
  rw[a1,e1,a2]
  generalize Y*Q1=a at *
  generalize Y*Q0=b at *
  generalize hi*2 ^ s=c at *
  generalize lo/2 ^ (64-s)=t at *
  omega
 constructor
 ·rw[← Nat.mul_div_mul_right _ _ p,hY,e2,Nat.mul_add_div pY,Nat.div_eq_of_lt rl,Nat.add_zero]
 ·have:=Nat.mul_mod_mul_right (2 ^ s) (hi*18446744073709551616+lo) y
  rw[hY,e2,Nat.mul_add_mod,Nat.mod_eq_of_lt rl] at this
  rw[this,Nat.mul_div_cancel _ p]
end Go.Proofs.YtleaeldgaflmkaaGreat

namespace Go.Proofs.YtleaeldgaflmkaaGreat
set_option maxRecDepth 100000
open Go.RowKit
def okB (n d:Int):Bool:=decide (1≤d∧n≠-9223372036854775808∧Nat.gcd n.natAbs d.natAbs=1)
def ckE (n d:Int):Int:=if okB n d=true then 0 else 8
theorem qoq {n d:Int} (h:d<1):ckE n d=8:=by simp[ckE,okB];omega
theorem qm4 {n d:Int} (h:n = -9223372036854775808):ckE n d=8:=by simp[ckE,okB,h]
theorem qnd {n d:Int} (h1:¬ d<1) (h2:¬ n = -9223372036854775808) (h:Nat.gcd n.natAbs d.natAbs=1):ckE n d=0:=by simp[ckE,okB,h,h2];omega
theorem qlX {n d:Int} (h:¬ Nat.gcd n.natAbs d.natAbs=1):ckE n d=8:=by simp[ckE,okB,h]
set_option maxHeartbeats 400000 in
theorem qbo (n d:Int) (w:World) (hn0 : -9223372036854775808≤n) (hn1:n≤9223372036854775807) (hd0 : -9223372036854775808≤d) (hd1:d≤9223372036854775807) :
 Calls Tryz.prog 61 #[.agg #[.int .i64 n,.int .i64 d]] w fun e w'=>e=.returned (.int .i64 (ckE n d))∧Gr w w':=by
 by_cases h1:d<1
 ·have g1:decide (d<1)=true:=by simpa using h1
  go_enter Tryz.func61,Tryz.ntmps61
  go_wp2_with fail
  go_quiet (fail)
  go_wp2
  go_ret
  exact⟨qaX (qoq h1).symm,((Gr.refl w).alloc _ _).drewN _⟩
 ·have g1:decide (d<1)=false:=by simpa using h1
  by_cases h2:n = -9223372036854775808
  ·have g2:(n==-9223372036854775808)=true:=by simpa using h2
   have H2:=Lib.hid h2
   clear h2
   go_enter Tryz.func61,Tryz.ntmps61
   go_wp2_with fail
   go_quiet (fail)
   go_wp2
   go_ret
   exact⟨qaX (qm4 H2.out).symm,((Gr.refl w).alloc _ _).drewN _⟩
  ·have g2:(n==-9223372036854775808)=false:=by simpa using h2
   have H2:=Lib.hid h2
   clear h2
   go_enter Tryz.func61,Tryz.ntmps61
   go_wp2_with fail
   go_quiet ((first | (go_at_call 67;exact quQ _ _ _ (by omega) (by omega)) | (go_at_call 86;exact qnU _ _ _ _ (by omega) (by omega))))
   go_wp2
   ·have h:((Nat.gcd n.natAbs d.natAbs:Nat):Int) !=1:=by assumption
    go_ret
    exact⟨qaX (qlX (by simp at h;omega)).symm,((Gr.refl w).alloc _ _).drewN _⟩
   ·have h:(((Nat.gcd n.natAbs d.natAbs:Nat):Int) !=1)=false:=by assumption
    go_ret
    exact⟨qaX (qnd (by omega) H2.out (by simp at h;omega)).symm,((Gr.refl w).alloc _ _).drewN _⟩
set_option maxHeartbeats 400000 in
theorem qaM (n d:Int) (w:World) (hn0 : -9223372036854775808≤n) (hn1:n≤9223372036854775807) (hd0 : -9223372036854775808≤d) (hd1:d≤9223372036854775807) :
 Calls Tryz.prog 39 #[.agg #[.int .i64 n,.int .i64 d]] w fun e w'=>e=.returned (.int .i64 (ckE n d))∧Gr w w':=by
 by_cases h1:d<1
 ·have g1:decide (d<1)=true:=by simpa using h1
  go_enter Tryz.func39,Tryz.ntmps39
  go_wp2_with fail
  go_quiet (fail)
  go_wp2
  go_ret
  exact⟨qaX (qoq h1).symm,((Gr.refl w).alloc _ _).drewN _⟩
 ·have g1:decide (d<1)=false:=by simpa using h1
  by_cases h2:n = -9223372036854775808
  ·have g2:(n==-9223372036854775808)=true:=by simpa using h2
   have H2:=Lib.hid h2
   clear h2
   go_enter Tryz.func39,Tryz.ntmps39
   go_wp2_with fail
   go_quiet (fail)
   go_wp2
   go_ret
   exact⟨qaX (qm4 H2.out).symm,((Gr.refl w).alloc _ _).drewN _⟩
  ·have g2:(n==-9223372036854775808)=false:=by simpa using h2
   have H2:=Lib.hid h2
   clear h2
   obtain⟨m,rfl⟩:∃ m:Nat,d=m:=⟨d.toNat,by omega⟩
   go_enter Tryz.func39,Tryz.ntmps39
   go_wp2_with fail
   go_quiet ((first | (go_at_call 66;exact qoO _ _ _ (by omega) (by omega)) | (go_at_call 65;go_simp;exact qpS _ _ _ _ (by omega) (by omega))))
   go_wp2
   ·have h:((Nat.gcd n.natAbs m:Nat):Int) !=1:=by assumption
    go_ret
    exact⟨qaX (qlX (by simp at h;simp;omega)).symm,((Gr.refl w).alloc _ _).drewN _⟩
   ·have h:(((Nat.gcd n.natAbs m:Nat):Int) !=1)=false:=by assumption
    go_ret
    exact⟨qaX (qnd (by omega) H2.out (by simp at h;simp;omega)).symm,((Gr.refl w).alloc _ _).drewN _⟩
end Go.Proofs.YtleaeldgaflmkaaGreat
