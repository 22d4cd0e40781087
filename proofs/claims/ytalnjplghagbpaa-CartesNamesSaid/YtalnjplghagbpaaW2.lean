/-
  Joined: A, Shelf, D, M, B, F. Conditions: none.
-/
import Derived.Test.YtalnjplghagbpaaRows
import Derived.Test.YtalnjplghagbpaaSxA
import Derived.WalkKit
import Derived.WalkSpells
import Derived.WalkLawsBesides
import Derived.Lib.Hide
import Derived.RegionTactic
import Derived.Deep.QuietTactic
import Derived.BigQuiet
import Derived.Shelf.Small.Bits
import Derived.Shelf.Strconv.Itoa0
import Derived.Shelf.Bits.Mul64
import Derived.Test.YtalnjplghagbpaaProg
import Derived.Lib.BitFns
import Derived.Laws.BitsAllLaws
import Derived.Laws.MathBits
import Derived.BigGuardPart
namespace Go.Proofs.Ytalnjplghagbpaa
set_option maxRecDepth 100000
open Go.RowKit
theorem qaV {k:IntKind} {a b:Int} (h:a=b):Ending.returned (.int k a)=.returned (.int k b):=by rw[h]
theorem qj7 {k:IntKind} {a b:Int} {c d:Bool} (h:a=b) (g:c=d):Ending.returned (.tuple #[.int k a,.bool c])=.returned (.tuple #[.int k b,.bool d]):=by rw[h,g]
set_option maxHeartbeats 400000 in
theorem qdy (n:Int) (w:World) (h0 : -9223372036854775808≤n) (h1:n≤9223372036854775807) :
 Calls Try.prog 86 #[.int .i64 n] w fun e w'=>e=.returned (.int .u64 (n.natAbs:Int))∧w=w':=by
 by_cases hn:n<0
 ·go_enter Try.func86,Try.ntmps86
  go_wp2
  go_ret
  exact⟨qaV (by simp[IntKind.wrap_u64];omega),rfl⟩
 ·go_enter Try.func86,Try.ntmps86
  go_wp2
  go_ret
  exact⟨qaV (by omega),rfl⟩
set_option maxHeartbeats 400000 in
theorem qel (n:Int) (w:World) (h0 : -9223372036854775808≤n) (h1:n≤9223372036854775807) :
 Calls Try.prog 101 #[.int .i64 n] w fun e w'=>e=.returned (.int .u64 (n.natAbs:Int))∧w=w':=by
 by_cases hn:n<0
 ·go_enter Try.func101,Try.ntmps101
  go_wp2
  go_ret
  exact⟨qaV (by omega),rfl⟩
 ·go_enter Try.func101,Try.ntmps101
  go_wp2
  go_ret
  exact⟨qaV (by omega),rfl⟩
def qcj (n:Nat):Bool:=decide (n<9223372036854775808)
def sgV (n:Nat) (b:Bool):Int:=if n<9223372036854775808 then (if b then -(n:Int) else n) else 0
set_option maxHeartbeats 400000 in
theorem qiT (n:Nat) (b:Bool) (w:World) (h1:n<18446744073709551616) :
 Calls Try.prog 130 #[.int .u64 n,.bool b] w fun e w'=>e=.returned (.tuple #[.int .i64 (sgV n b),.bool (qcj n)])∧w=w':=by
 by_cases hn:n<9223372036854775808
 ·cases b
  ·go_enter Try.func130,Try.ntmps130
   go_wp2
   go_ret2
   exact⟨qj7 (by simp[sgV,hn]) (by simp[qcj,hn]),rfl⟩
  ·go_enter Try.func130,Try.ntmps130
   go_wp2
   go_ret2
   exact⟨qj7 (by simp[sgV,hn]) (by simp[qcj,hn]),rfl⟩
 ·go_enter Try.func130,Try.ntmps130
  go_wp2
  go_ret2
  exact⟨qj7 (by simp[sgV,hn]) (by simp[qcj,hn]),rfl⟩
def qgu (a b:Nat) (w:World) (e:Ending) (w':World):Prop:=e=.returned (.int .u64 ((Nat.gcd a b:Nat):Int))∧∃ n,w'=w.drewN n
def qnW (a b:Nat) (w:World) (u v:Value) (wr:World):Prop:=∃ x y n:Nat,x<18446744073709551616∧y<18446744073709551616∧Nat.gcd x y=Nat.gcd a b∧u=.int .u64 x∧v=.int .u64 y∧wr=w.drewN n
theorem qd3 {a b x n:Nat} {w:World} (H:Hid (Nat.gcd x 0=Nat.gcd a b)):qgu a b w (.returned (.int .u64 (x:Int))) (w.drewN n):=by
 have:=H.out
 rw[Nat.gcd_zero_right] at this
 exact⟨qaV (by rw[this]),n,rfl⟩
theorem qhw {a b x y:Nat} (H:Hid (Nat.gcd x y=Nat.gcd a b)):Nat.gcd y (x%y)=Nat.gcd a b:=by
 have:=H.out
 rw[← this,Nat.gcd_comm x y]
 exact (Nat.gcd_rec y x).trans (Nat.gcd_comm _ _) |>.symm
set_option maxHeartbeats 400000 in
theorem qdf (a b:Nat) (w:World) (ha:a<18446744073709551616) (hb:b<18446744073709551616) :
 Calls Try.prog 85 #[.int .u64 a,.int .u64 b] w (qgu a b w):=by
 go_enter Try.func85,Try.ntmps85
 go_wp2
 go_loopw [0,1] (fun u v wr=>qnW a b w u v wr) (fun _ v _=>(intOf v).toNat)
 case atStart=>exact⟨a,b,0,ha,hb,rfl,rfl,rfl,rfl⟩
 case round=>
  obtain⟨x,y,n,hx,hy,hg,rfl,rfl,rfl⟩:=hrel
  have HG:=Lib.hid hg
  clear hg
  by_cases h0:y=0
  ·subst h0
   go_wp2
   go_ret
   exact qd3 HG
  ·have hlt:x%y<y:=Nat.mod_lt _ (by omega)
   go_wp2
   go_quiet (fail)
   go_wp2
   go_roundw
   case rel=>exact⟨y,x%y,_,hy,by omega,qhw HG,rfl,by go_num,World.drewN_drewN ..⟩
   case measure=>simp[intOf];omega
set_option maxHeartbeats 400000 in
theorem qg7 (a b:Nat) (w:World) (ha:a<18446744073709551616) (hb:b<18446744073709551616) :
 Calls Try.prog 100 #[.int .u64 a,.int .u64 b] w (qgu a b w):=by
 go_enter Try.func100,Try.ntmps100
 go_wp2
 go_loopw [0,1] (fun u v wr=>qnW a b w u v wr) (fun _ v _=>(intOf v).toNat)
 case atStart=>exact⟨a,b,0,ha,hb,rfl,rfl,rfl,rfl⟩
 case round=>
  obtain⟨x,y,n,hx,hy,hg,rfl,rfl,rfl⟩:=hrel
  have HG:=Lib.hid hg
  clear hg
  by_cases h0:y=0
  ·subst h0
   go_wp2
   go_ret
   exact qd3 HG
  ·have hlt:x%y<y:=Nat.mod_lt _ (by omega)
   go_wp2
   go_quiet (fail)
   go_wp2
   go_roundw
   case rel=>exact⟨y,x%y,_,hy,by omega,qhw HG,rfl,by go_num,World.drewN_drewN ..⟩
   case measure=>simp[intOf];omega
theorem qiB (a b:Nat) (w:World) (ha:a<18446744073709551616) (hb:b<18446744073709551616) :
 Calls Try.prog 85 #[.int .u64 a,.int .u64 b] w fun e w'=>e=.returned (.int .u64 ((Nat.gcd a b:Nat):Int))∧Gr w w':=
 (qdf a b w ha hb).mono fun _ _ ⟨he,_,hn⟩=>⟨he,hn▸(Gr.refl w).drewN _⟩
theorem qrY (n:Int) (w:World) (k:Nat) (h0 : -9223372036854775808≤n) (h1:n≤9223372036854775807) :
 Calls Try.prog 86 #[.int .i64 n] (w.drewN k) fun e w'=>e=.returned (.int .u64 (n.natAbs:Int))∧∃ m,w'=w.drewN m:=
 (qdy n _ h0 h1).mono fun _ _ ⟨he,hw⟩=>⟨he,k,hw.symm⟩
theorem qnq (n:Int) (w:World) (k:Nat) (h0 : -9223372036854775808≤n) (h1:n≤9223372036854775807) :
 Calls Try.prog 101 #[.int .i64 n] (w.drewN k) fun e w'=>e=.returned (.int .u64 (n.natAbs:Int))∧∃ m,w'=w.drewN m:=
 (qel n _ h0 h1).mono fun _ _ ⟨he,hw⟩=>⟨he,k,hw.symm⟩
theorem qkI (a b:Nat) (w:World) (k:Nat) (ha:a<18446744073709551616) (hb:b<18446744073709551616) :
 Calls Try.prog 85 #[.int .u64 a,.int .u64 b] (w.drewN k) fun e w'=>e=.returned (.int .u64 ((Nat.gcd a b:Nat):Int))∧∃ m,w'=w.drewN m:=
 (qdf a b _ ha hb).mono fun _ _ ⟨he,m,hw⟩=>⟨he,k+m,hw.trans (World.drewN_drewN ..)⟩
theorem qlO (a b:Nat) (w:World) (k:Nat) (ha:a<18446744073709551616) (hb:b<18446744073709551616) :
 Calls Try.prog 100 #[.int .u64 a,.int .u64 b] (w.drewN k) fun e w'=>e=.returned (.int .u64 ((Nat.gcd a b:Nat):Int))∧∃ m,w'=w.drewN m:=
 (qg7 a b _ ha hb).mono fun _ _ ⟨he,m,hw⟩=>⟨he,k+m,hw.trans (World.drewN_drewN ..)⟩
end Go.Proofs.Ytalnjplghagbpaa

namespace Go.Proofs
set_option maxRecDepth 100000
open Go.Shelf
def Try.lays264_ren:Go.Shelf.Ren:=⟨fun | 264=>132 | n=>n,fun | 53=>123 | 46=>145 | n=>n,fun | n=>n⟩
theorem Try.lays264:Go.Proofs.Lays.n264 Try.prog Try.lays264_ren:={
 mixed:=by kernel_rfl
 f264:=Try.func132.trans (congrArg some (by kernel_rfl))
 t46:=Try.underlying145
 a46:=Try.isAgg145
 z46:=Try.sizeOf145
 v46:=Try.zeroValue145
 t53:=Try.underlying123
 a53:=Try.isAgg123
 z53:=Try.sizeOf123
 v53:=Try.zeroValue123 }
open Go.RowKit Go.Lib in
theorem Try.bits_Mul64 (x y:Nat) (hx:x<18446744073709551616) (hy:y<18446744073709551616) (w:World) :
 Calls Try.prog 132 #[.int .u64 x,.int .u64 y] w fun e w'=>e=.returned (.tuple #[.int .u64 ((x*y/18446744073709551616:Nat):Int),.int .u64 ((x*y%18446744073709551616:Nat):Int)])∧w'=w:=Any.bits_Mul64 Try.lays264 x y hx hy w
end Go.Proofs

namespace Go.Proofs.Ytalnjplghagbpaa
set_option maxRecDepth 100000
open Go.RowKit
theorem qeO {n:Int} (h0:0≤n) (h1:n<18446744073709551616):IntKind.u64.wrap n=n:=by rw[IntKind.wrap_u64];omega
end Go.Proofs.Ytalnjplghagbpaa

namespace Go.Proofs.Ytalnjplghagbpaa
set_option maxRecDepth 100000
theorem qed (f:Nat):Lib.bitLenAux f 0=0:=by cases f<;>simp[Lib.bitLenAux]
theorem qf2:∀ (f x:Nat),x<2 ^ f→x<2 ^ Lib.bitLenAux f x∧(x≠0→2 ^ (Lib.bitLenAux f x-1)≤x∧1≤Lib.bitLenAux f x)∧Lib.bitLenAux f x≤f:=by
 intro f
 induction f with
 | zero=>intro x h;simp[Lib.bitLenAux] at h ⊢;omega
 | succ f ih=>
  intro x h
  by_cases hx:x=0
  ·subst hx;simp[Lib.bitLenAux]
  ·obtain⟨h1,h2,h3⟩:=ih (x/2) (by rw[Nat.pow_succ] at h;omega)
   simp only[Lib.bitLenAux,if_neg hx]
   generalize hk0:Lib.bitLenAux f (x/2)=k at *
   refine⟨by rw[Nat.add_comm,Nat.pow_succ];omega,fun _=>⟨?_,by omega⟩,by omega⟩
   rw[Nat.add_sub_cancel_left]
   by_cases hk:x/2=0
   ·have:k=0:=by rw[← hk0,hk];exact qed f
    subst this
    simp;omega
   ·obtain⟨h4,h5⟩:=h2 hk
    obtain⟨j,rfl⟩:∃ j,k=j+1:=⟨k-1,by omega⟩
    rw[Nat.add_sub_cancel] at h4
    rw[Nat.pow_succ]
    omega
theorem qjk (x:Nat) (h0:0<x) (h:x<18446744073709551616):x<2 ^ Lib.bitLen x∧2 ^ (Lib.bitLen x-1)≤x∧1≤Lib.bitLen x∧Lib.bitLen x≤64:=by
 obtain⟨h1,h2,h3⟩:=qf2 64 x h
 exact⟨h1,(h2 (by omega)).1,(h2 (by omega)).2,h3⟩
theorem qu0 (y:Nat) (h0:0<y) (h:y<18446744073709551616):9223372036854775808≤y*2 ^ (64-Lib.bitLen y)∧y*2 ^ (64-Lib.bitLen y)<18446744073709551616∧64-Lib.bitLen y≤63∧Lib.bitLen y≤64:=by
 obtain⟨h1,h2,h3,h4⟩:=qjk y h0 h
 generalize Lib.bitLen y=b at *
 have e1:2 ^ (b-1)*2 ^ (64-b)=9223372036854775808:=by rw[← Nat.pow_add,show b-1+(64-b)=63 by omega]
 have e2:2 ^ b*2 ^ (64-b)=18446744073709551616:=by rw[← Nat.pow_add,show b+(64-b)=64 by omega]
 have p:0<2 ^ (64-b):=Nat.pow_pos (by omega)
 exact⟨e1▸Nat.mul_le_mul_right _ h2,e2▸Nat.mul_lt_mul_of_pos_right h1 p,by omega,h4⟩
end Go.Proofs.Ytalnjplghagbpaa

namespace Go.Proofs.Ytalnjplghagbpaa
set_option maxRecDepth 100000
open Go.RowKit
def okB (n d:Int):Bool:=decide (1≤d∧n≠-9223372036854775808∧Nat.gcd n.natAbs d.natAbs=1)
def ckE (n d:Int):Int:=if okB n d=true then 0 else 8
theorem qkY {n d:Int} (h:d<1):ckE n d=8:=by simp[ckE,okB];omega
theorem qkS {n d:Int} (h:n = -9223372036854775808):ckE n d=8:=by simp[ckE,okB,h]
theorem qju {n d:Int} (h1:¬ d<1) (h2:¬ n = -9223372036854775808) (h:Nat.gcd n.natAbs d.natAbs=1):ckE n d=0:=by simp[ckE,okB,h,h2];omega
theorem qjK {n d:Int} (h:¬ Nat.gcd n.natAbs d.natAbs=1):ckE n d=8:=by simp[ckE,okB,h]
set_option maxHeartbeats 400000 in
theorem qbY (n d:Int) (w:World) (hn0 : -9223372036854775808≤n) (hn1:n≤9223372036854775807) (hd0 : -9223372036854775808≤d) (hd1:d≤9223372036854775807) :
 Calls Try.prog 48 #[.agg #[.int .i64 n,.int .i64 d]] w fun e w'=>e=.returned (.int .i64 (ckE n d))∧Gr w w':=by
 by_cases h1:d<1
 ·have g1:decide (d<1)=true:=by simpa using h1
  go_enter Try.func48,Try.ntmps48
  go_wp2_with fail
  go_quiet (fail)
  go_wp2
  go_ret
  exact⟨qaV (qkY h1).symm,((Gr.refl w).alloc _ _).drewN _⟩
 ·have g1:decide (d<1)=false:=by simpa using h1
  by_cases h2:n = -9223372036854775808
  ·have g2:(n==-9223372036854775808)=true:=by simpa using h2
   have H2:=Lib.hid h2
   clear h2
   go_enter Try.func48,Try.ntmps48
   go_wp2_with fail
   go_quiet (fail)
   go_wp2
   go_ret
   exact⟨qaV (qkS H2.out).symm,((Gr.refl w).alloc _ _).drewN _⟩
  ·have g2:(n==-9223372036854775808)=false:=by simpa using h2
   have H2:=Lib.hid h2
   clear h2
   go_enter Try.func48,Try.ntmps48
   go_wp2_with fail
   go_quiet ((first | (go_at_call 86;exact qrY _ _ _ (by omega) (by omega)) | (go_at_call 85;exact qkI _ _ _ _ (by omega) (by omega))))
   go_wp2
   ·have h:((Nat.gcd n.natAbs d.natAbs:Nat):Int) !=1:=by assumption
    go_ret
    exact⟨qaV (qjK (by simp at h;omega)).symm,((Gr.refl w).alloc _ _).drewN _⟩
   ·have h:(((Nat.gcd n.natAbs d.natAbs:Nat):Int) !=1)=false:=by assumption
    go_ret
    exact⟨qaV (qju (by omega) H2.out (by simp at h;omega)).symm,((Gr.refl w).alloc _ _).drewN _⟩
set_option maxHeartbeats 400000 in
theorem qdW (n d:Int) (w:World) (hn0 : -9223372036854775808≤n) (hn1:n≤9223372036854775807) (hd0 : -9223372036854775808≤d) (hd1:d≤9223372036854775807) :
 Calls Try.prog 76 #[.agg #[.int .i64 n,.int .i64 d]] w fun e w'=>e=.returned (.int .i64 (ckE n d))∧Gr w w':=by
 by_cases h1:d<1
 ·have g1:decide (d<1)=true:=by simpa using h1
  go_enter Try.func76,Try.ntmps76
  go_wp2_with fail
  go_quiet (fail)
  go_wp2
  go_ret
  exact⟨qaV (qkY h1).symm,((Gr.refl w).alloc _ _).drewN _⟩
 ·have g1:decide (d<1)=false:=by simpa using h1
  by_cases h2:n = -9223372036854775808
  ·have g2:(n==-9223372036854775808)=true:=by simpa using h2
   have H2:=Lib.hid h2
   clear h2
   go_enter Try.func76,Try.ntmps76
   go_wp2_with fail
   go_quiet (fail)
   go_wp2
   go_ret
   exact⟨qaV (qkS H2.out).symm,((Gr.refl w).alloc _ _).drewN _⟩
  ·have g2:(n==-9223372036854775808)=false:=by simpa using h2
   have H2:=Lib.hid h2
   clear h2
   obtain⟨m,rfl⟩:∃ m:Nat,d=m:=⟨d.toNat,by omega⟩
   go_enter Try.func76,Try.ntmps76
   go_wp2_with fail
   go_quiet ((first | (go_at_call 101;exact qnq _ _ _ (by omega) (by omega)) | (go_at_call 100;go_simp;exact qlO _ _ _ _ (by omega) (by omega))))
   go_wp2
   ·have h:((Nat.gcd n.natAbs m:Nat):Int) !=1:=by assumption
    go_ret
    exact⟨qaV (qjK (by simp at h;simp;omega)).symm,((Gr.refl w).alloc _ _).drewN _⟩
   ·have h:(((Nat.gcd n.natAbs m:Nat):Int) !=1)=false:=by assumption
    go_ret
    exact⟨qaV (qju (by omega) H2.out (by simp at h;simp;omega)).symm,((Gr.refl w).alloc _ _).drewN _⟩
end Go.Proofs.Ytalnjplghagbpaa

namespace Go.Proofs.Ytalnjplghagbpaa
set_option maxRecDepth 100000
open Go.RowKit
theorem Gr.cells {a w:World} (h:Gr a w):∀ b o,b<a.heap.size→w.cell? ⟨b,o,none⟩=a.cell? ⟨b,o,none⟩:=fun b o hb=>h.cell b o hb
theorem Gr.marks {a w:World} (h:Gr a w):∀ b o,b<a.heap.size→w.frozen? ⟨b,o,none⟩=a.frozen? ⟨b,o,none⟩:=fun b o hb=>h.2.1 ⟨b,o,none⟩ hb
theorem qdh (n z:Int) (w:World) (hz:z=n.natAbs) (h0 : -9223372036854775808≤n) (h1:n≤9223372036854775807) :
 Calls Try.prog 86 #[.int .i64 n] w fun e w'=>e=.returned (.int .u64 z)∧w=w':=hz▸qdy n w h0 h1
theorem qfq (a b:Nat) (x y g:Int) (w:World) (hx:x=a) (hy:y=b) (hg:g=(Nat.gcd a b:Nat)) (ha:a<18446744073709551616) (hb:b<18446744073709551616) :
 Calls Try.prog 85 #[.int .u64 x,.int .u64 y] w fun e w'=>e=.returned (.int .u64 g)∧Gr w w':=by subst hx hy hg;exact qiB a b w ha hb
theorem qdx (n:Nat) (x:Int) (b:Bool) (w:World) (hx:x=n) (h1:n<18446744073709551616) :
 Calls Try.prog 130 #[.int .u64 x,.bool b] w fun e w'=>e=.returned (.tuple #[.int .i64 (sgV n b),.bool (qcj n)])∧w=w':=by subst hx;exact qiT n b w h1
def qfu (b:Bool) (n:Int):Int:=if b then n else 0
def qoB (b:Bool):Int:=if b then 0 else 16
set_option maxHeartbeats 400000 in
theorem qeq (n d:Int) (b:Bool) (w:World) :
 Calls Try.prog 131 #[.int .i64 n,.int .i64 d,.bool b] w fun e w'=>e=.returned (.tuple #[.agg #[.int .i64 (qfu b n),.int .i64 (qfu b d)],.int .i64 (qoB b)])∧Gr w w':=by
 cases b
 ·go_enter Try.func131,Try.ntmps131
  go_wp2
  exact bodyPost_ret (v:=.tuple #[.agg #[.int .i64 0,.int .i64 0],.int .i64 16]) (by simp[results,Try.results131,go_sem]) rfl ⟨rfl,(Gr.refl w).alloc _ _⟩
 ·go_enter Try.func131,Try.ntmps131
  go_wp2
  exact bodyPost_ret (v:=.tuple #[.agg #[.int .i64 n,.int .i64 d],.int .i64 0]) (by simp[results,Try.results131,go_sem]) rfl ⟨rfl,(Gr.refl w).alloc _ _⟩
def qg3 (a b c d:Int):Int:=if okB a b=true then ckE c d else 8
theorem qjq {n d:Int} (h:okB n d=true):ckE n d=0:=by simp[ckE,h]
theorem qgn {n d:Int} (h:¬ okB n d=true):ckE n d=8:=by simp[ckE,h]
def I64 (n:Int):Prop:=-9223372036854775808≤n∧n≤9223372036854775807
set_option maxHeartbeats 400000 in
theorem qe2 (a b c d:Int) (w:World) (ha:I64 a) (hb:I64 b) (hc:I64 c) (hd:I64 d) :
 Calls Try.prog 122 #[.agg #[.int .i64 a,.int .i64 b],.agg #[.int .i64 c,.int .i64 d]] w fun e w'=>e=.returned (.int .i64 (qg3 a b c d))∧Gr w w':=by
 have HA:=Lib.hid ha
 have HB:=Lib.hid hb
 have HC:=Lib.hid hc
 have HD:=Lib.hid hd
 clear ha hb hc hd
 by_cases hk:okB a b=true
 ·have e0:qg3 a b c d=ckE c d:=by simp[qg3,hk]
  have e1:=qjq hk
  rw[e0]
  clear hk e0
  have n01:w.heap.size<w.heap.size+1+1:=by omega
  have n02:w.heap.size<w.heap.size+1+1+1:=by omega
  have n12:w.heap.size+1<w.heap.size+1+1+1:=by omega
  go_enter Try.func122,Try.ntmps122
  go_wp2_with fail
  refine (qbY _ _ _ HA.out.1 HA.out.2 HB.out.1 HB.out.2).mono ?_
  rintro e w1 ⟨rfl,hgw1⟩
  have hcw1:=Gr.cells hgw1
  have hfw1:=Gr.marks hgw1
  have hzzw1:=Gr.size hgw1
  try simp at hzzw1
  have hzw10:w.heap.size<w1.heap.size:=by omega
  have hzw11:w.heap.size+1<w1.heap.size:=by omega
  clear hzzw1
  go_wp2_with fail
  refine (qbY _ _ _ HC.out.1 HC.out.2 HD.out.1 HD.out.2).mono ?_
  rintro e w2 ⟨rfl,hgw2⟩
  have hcw2:=Gr.cells hgw2
  have hfw2:=Gr.marks hgw2
  have hzzw2:=Gr.size hgw2
  try simp at hzzw2
  have hzw20:w.heap.size<w2.heap.size:=by omega
  have hzw21:w.heap.size+1<w2.heap.size:=by omega
  clear hzzw2
  go_wp2
  go_ret
  refine⟨rfl,?_⟩
  repeat (first | exact Gr.refl _ | apply Gr.alloc | apply Gr.drewN | apply Gr.drew | (refine Gr.setCell ?_ (by simp) _) | (refine Gr.trans ?_ (by assumption)))
 ·have e0:qg3 a b c d=8:=by simp[qg3,hk]
  have e1:=qgn hk
  rw[e0]
  clear hk e0
  have n01:w.heap.size<w.heap.size+1+1:=by omega
  have n02:w.heap.size<w.heap.size+1+1+1:=by omega
  have n12:w.heap.size+1<w.heap.size+1+1+1:=by omega
  go_enter Try.func122,Try.ntmps122
  go_wp2_with fail
  refine (qbY _ _ _ HA.out.1 HA.out.2 HB.out.1 HB.out.2).mono ?_
  rintro e w1 ⟨rfl,hgw1⟩
  have hcw1:=Gr.cells hgw1
  have hfw1:=Gr.marks hgw1
  have hzzw1:=Gr.size hgw1
  try simp at hzzw1
  have hzw10:w.heap.size<w1.heap.size:=by omega
  have hzw11:w.heap.size+1<w1.heap.size:=by omega
  clear hzzw1
  go_wp2
  go_ret
  refine⟨rfl,?_⟩
  repeat (first | exact Gr.refl _ | apply Gr.alloc | apply Gr.drewN | apply Gr.drew | (refine Gr.setCell ?_ (by simp) _) | (refine Gr.trans ?_ (by assumption)))
end Go.Proofs.Ytalnjplghagbpaa
