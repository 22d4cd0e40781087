/-
  Joined: A, Shelf, D, B, F, G. Conditions: none.
-/
import Derived.Test.YtkckcgpmnipnaaaGreatRows
import Derived.Test.YtkckcgpmnipnaaaGreatSxA
import Derived.WalkKit
import Derived.WalkSpells
import Derived.WalkLawsBesides
import Derived.Lib.Hide
import Derived.RegionTactic
import Derived.Deep.QuietTactic
import Derived.BigQuiet
import Derived.Shelf.Small.Bits
import Derived.Shelf.Strconv.Itoa0
import Derived.Shelf.Bits.Mul64
import Derived.Test.YtkckcgpmnipnaaaGreatProg
import Derived.BigGuardPart
namespace Go.Proofs.YtkckcgpmnipnaaaGreat
set_option maxRecDepth 100000
open Go.RowKit
theorem qbc {k:IntKind} {a b:Int} (h:a=b):Ending.returned (.int k a)=.returned (.int k b):=by rw[h]
theorem qpi {k:IntKind} {a b:Int} {c d:Bool} (h:a=b) (g:c=d):Ending.returned (.tuple #[.int k a,.bool c])=.returned (.tuple #[.int k b,.bool d]):=by rw[h,g]
set_option maxHeartbeats 400000 in
theorem qe8 (n:Int) (w:World) (h0 : -9223372036854775808≤n) (h1:n≤9223372036854775807) :
 Calls Tryz.prog 169 #[.int .i64 n] w fun e w'=>e=.returned (.int .u64 (n.natAbs:Int))∧w=w':=by
 by_cases hn:n<0
 ·go_enter Tryz.func169,Tryz.ntmps169
  go_wp2
  go_ret
  exact⟨qbc (by simp[IntKind.wrap_u64];omega),rfl⟩
 ·go_enter Tryz.func169,Tryz.ntmps169
  go_wp2
  go_ret
  exact⟨qbc (by omega),rfl⟩
set_option maxHeartbeats 400000 in
theorem qgC (n:Int) (w:World) (h0 : -9223372036854775808≤n) (h1:n≤9223372036854775807) :
 Calls Tryz.prog 95 #[.int .i64 n] w fun e w'=>e=.returned (.int .u64 (n.natAbs:Int))∧w=w':=by
 by_cases hn:n<0
 ·go_enter Tryz.func95,Tryz.ntmps95
  go_wp2
  go_ret
  exact⟨qbc (by omega),rfl⟩
 ·go_enter Tryz.func95,Tryz.ntmps95
  go_wp2
  go_ret
  exact⟨qbc (by omega),rfl⟩
def qbr (n:Nat):Bool:=decide (n<9223372036854775808)
def sgV (n:Nat) (b:Bool):Int:=if n<9223372036854775808 then (if b then -(n:Int) else n) else 0
set_option maxHeartbeats 400000 in
theorem qm2 (n:Nat) (b:Bool) (w:World) (h1:n<18446744073709551616) :
 Calls Tryz.prog 329 #[.int .u64 n,.bool b] w fun e w'=>e=.returned (.tuple #[.int .i64 (sgV n b),.bool (qbr n)])∧w=w':=by
 by_cases hn:n<9223372036854775808
 ·cases b
  ·go_enter Tryz.func329,Tryz.ntmps329
   go_wp2
   go_ret2
   exact⟨qpi (by simp[sgV,hn]) (by simp[qbr,hn]),rfl⟩
  ·go_enter Tryz.func329,Tryz.ntmps329
   go_wp2
   go_ret2
   exact⟨qpi (by simp[sgV,hn]) (by simp[qbr,hn]),rfl⟩
 ·go_enter Tryz.func329,Tryz.ntmps329
  go_wp2
  go_ret2
  exact⟨qpi (by simp[sgV,hn]) (by simp[qbr,hn]),rfl⟩
def qjs (a b:Nat) (w:World) (e:Ending) (w':World):Prop:=e=.returned (.int .u64 ((Nat.gcd a b:Nat):Int))∧∃ n,w'=w.drewN n
def quv (a b:Nat) (w:World) (u v:Value) (wr:World):Prop:=∃ x y n:Nat,x<18446744073709551616∧y<18446744073709551616∧Nat.gcd x y=Nat.gcd a b∧u=.int .u64 x∧v=.int .u64 y∧wr=w.drewN n
theorem qfu {a b x n:Nat} {w:World} (H:Hid (Nat.gcd x 0=Nat.gcd a b)):qjs a b w (.returned (.int .u64 (x:Int))) (w.drewN n):=by
 have:=H.out;rw[Nat.gcd_zero_right] at this;exact⟨qbc (by rw[this]),n,rfl⟩
theorem qky {a b x y:Nat} (H:Hid (Nat.gcd x y=Nat.gcd a b)):Nat.gcd y (x%y)=Nat.gcd a b:=by
 have:=H.out;rw[← this,Nat.gcd_comm x y]
 exact (Nat.gcd_rec y x).trans (Nat.gcd_comm _ _) |>.symm
set_option maxHeartbeats 400000 in
theorem qeV (a b:Nat) (w:World) (ha:a<18446744073709551616) (hb:b<18446744073709551616) :
 Calls Tryz.prog 168 #[.int .u64 a,.int .u64 b] w (qjs a b w):=by
 go_enter Tryz.func168,Tryz.ntmps168
 go_wp2
 go_loopw [0,1] (fun u v wr=>quv a b w u v wr) (fun _ v _=>(intOf v).toNat)
 case atStart=>exact⟨a,b,0,ha,hb,rfl,rfl,rfl,rfl⟩
 case round=>
  obtain⟨x,y,n,hx,hy,hg,rfl,rfl,rfl⟩:=hrel;have HG:=Lib.hid hg;clear hg;by_cases h0:y=0
  ·subst h0
   go_wp2
   go_ret
   exact qfu HG
  ·have hlt:x%y<y:=Nat.mod_lt _ (by omega)
   go_wp2
   go_quiet (fail)
   go_wp2
   go_roundw
   case rel=>exact⟨y,x%y,_,hy,by omega,qky HG,rfl,by go_num,World.drewN_drewN ..⟩
   case measure=>simp[intOf];omega
set_option maxHeartbeats 400000 in
theorem qfs (a b:Nat) (w:World) (ha:a<18446744073709551616) (hb:b<18446744073709551616) :
 Calls Tryz.prog 94 #[.int .u64 a,.int .u64 b] w (qjs a b w):=by
 go_enter Tryz.func94,Tryz.ntmps94
 go_wp2
 go_loopw [0,1] (fun u v wr=>quv a b w u v wr) (fun _ v _=>(intOf v).toNat)
 case atStart=>exact⟨a,b,0,ha,hb,rfl,rfl,rfl,rfl⟩
 case round=>
  obtain⟨x,y,n,hx,hy,hg,rfl,rfl,rfl⟩:=hrel;have HG:=Lib.hid hg;clear hg;by_cases h0:y=0
  ·subst h0
   go_wp2
   go_ret
   exact qfu HG
  ·have hlt:x%y<y:=Nat.mod_lt _ (by omega)
   go_wp2
   go_quiet (fail)
   go_wp2
   go_roundw
   case rel=>exact⟨y,x%y,_,hy,by omega,qky HG,rfl,by go_num,World.drewN_drewN ..⟩
   case measure=>simp[intOf];omega
theorem qmJ (a b:Nat) (w:World) (ha:a<18446744073709551616) (hb:b<18446744073709551616) :
 Calls Tryz.prog 168 #[.int .u64 a,.int .u64 b] w fun e w'=>e=.returned (.int .u64 ((Nat.gcd a b:Nat):Int))∧Gr w w':=
 (qeV a b w ha hb).mono fun _ _ ⟨he,_,hn⟩=>⟨he,hn▸(Gr.refl w).drewN _⟩
theorem qnB (a b:Nat) (w:World) (ha:a<18446744073709551616) (hb:b<18446744073709551616) :
 Calls Tryz.prog 94 #[.int .u64 a,.int .u64 b] w fun e w'=>e=.returned (.int .u64 ((Nat.gcd a b:Nat):Int))∧Gr w w':=
 (qfs a b w ha hb).mono fun _ _ ⟨he,_,hn⟩=>⟨he,hn▸(Gr.refl w).drewN _⟩
theorem qzM (n:Int) (w:World) (k:Nat) (h0 : -9223372036854775808≤n) (h1:n≤9223372036854775807) :
 Calls Tryz.prog 169 #[.int .i64 n] (w.drewN k) fun e w'=>e=.returned (.int .u64 (n.natAbs:Int))∧∃ m,w'=w.drewN m:=
 (qe8 n _ h0 h1).mono fun _ _ ⟨he,hw⟩=>⟨he,k,hw.symm⟩
theorem qq3 (n:Int) (w:World) (k:Nat) (h0 : -9223372036854775808≤n) (h1:n≤9223372036854775807) :
 Calls Tryz.prog 95 #[.int .i64 n] (w.drewN k) fun e w'=>e=.returned (.int .u64 (n.natAbs:Int))∧∃ m,w'=w.drewN m:=
 (qgC n _ h0 h1).mono fun _ _ ⟨he,hw⟩=>⟨he,k,hw.symm⟩
theorem qnA (a b:Nat) (w:World) (k:Nat) (ha:a<18446744073709551616) (hb:b<18446744073709551616) :
 Calls Tryz.prog 168 #[.int .u64 a,.int .u64 b] (w.drewN k) fun e w'=>e=.returned (.int .u64 ((Nat.gcd a b:Nat):Int))∧∃ m,w'=w.drewN m:=
 (qeV a b _ ha hb).mono fun _ _ ⟨he,m,hw⟩=>⟨he,k+m,hw.trans (World.drewN_drewN ..)⟩
theorem qqK (a b:Nat) (w:World) (k:Nat) (ha:a<18446744073709551616) (hb:b<18446744073709551616) :
 Calls Tryz.prog 94 #[.int .u64 a,.int .u64 b] (w.drewN k) fun e w'=>e=.returned (.int .u64 ((Nat.gcd a b:Nat):Int))∧∃ m,w'=w.drewN m:=
 (qfs a b _ ha hb).mono fun _ _ ⟨he,m,hw⟩=>⟨he,k+m,hw.trans (World.drewN_drewN ..)⟩
end Go.Proofs.YtkckcgpmnipnaaaGreat

namespace Go.Proofs
set_option maxRecDepth 100000
open Go.Shelf
def Tryz.lays264_ren:Go.Shelf.Ren:=⟨fun | 264=>264 | n=>n,fun | 53=>143 | 46=>274 | n=>n,fun | n=>n⟩
theorem Tryz.lays264:Go.Proofs.Lays.n264 Tryz.prog Tryz.lays264_ren:={
 mixed:=by kernel_rfl
 f264:=Tryz.func264.trans (congrArg some (by kernel_rfl))
 t46:=Tryz.underlying274
 a46:=Tryz.isAgg274
 z46:=Tryz.sizeOf274
 v46:=Tryz.zeroValue274
 t53:=Tryz.underlying143
 a53:=Tryz.isAgg143
 z53:=Tryz.sizeOf143
 v53:=Tryz.zeroValue143 }
open Go.RowKit Go.Lib in
theorem Tryz.bits_Mul64 (x y:Nat) (hx:x<18446744073709551616) (hy:y<18446744073709551616) (w:World) :
 Calls Tryz.prog 264 #[.int .u64 x,.int .u64 y] w fun e w'=>e=.returned (.tuple #[.int .u64 ((x*y/18446744073709551616:Nat):Int),.int .u64 ((x*y%18446744073709551616:Nat):Int)])∧w'=w:=Any.bits_Mul64 Tryz.lays264 x y hx hy w
end Go.Proofs

namespace Go.Proofs.YtkckcgpmnipnaaaGreat
set_option maxRecDepth 100000
open Go.RowKit
theorem qef {n:Int} (h0:0≤n) (h1:n<18446744073709551616):IntKind.u64.wrap n=n:=by rw[IntKind.wrap_u64];omega
end Go.Proofs.YtkckcgpmnipnaaaGreat

namespace Go.Proofs.YtkckcgpmnipnaaaGreat
set_option maxRecDepth 100000
open Go.RowKit
def okB (n d:Int):Bool:=decide (1≤d∧n≠-9223372036854775808∧Nat.gcd n.natAbs d.natAbs=1)
def ckE (n d:Int):Int:=if okB n d=true then 0 else 8
theorem qns {n d:Int} (h:d<1):ckE n d=8:=by simp[ckE,okB];omega
theorem qn1 {n d:Int} (h:n = -9223372036854775808):ckE n d=8:=by simp[ckE,okB,h]
theorem qnI {n d:Int} (h1:¬ d<1) (h2:¬ n = -9223372036854775808) (h:Nat.gcd n.natAbs d.natAbs=1):ckE n d=0:=by simp[ckE,okB,h,h2];omega
theorem qpv {n d:Int} (h:¬ Nat.gcd n.natAbs d.natAbs=1):ckE n d=8:=by simp[ckE,okB,h]
set_option maxHeartbeats 400000 in
theorem qc4 (n d:Int) (w:World) (hn0 : -9223372036854775808≤n) (hn1:n≤9223372036854775807) (hd0 : -9223372036854775808≤d) (hd1:d≤9223372036854775807) :
 Calls Tryz.prog 101 #[.agg #[.int .i64 n,.int .i64 d]] w fun e w'=>e=.returned (.int .i64 (ckE n d))∧Gr w w':=by
 by_cases h1:d<1
 ·have g1:decide (d<1)=true:=by simpa using h1
  go_enter Tryz.func101,Tryz.ntmps101
  go_wp2_with fail
  go_quiet (fail)
  go_wp2
  go_ret
  exact⟨qbc (qns h1).symm,((Gr.refl w).alloc _ _).drewN _⟩
 ·have g1:decide (d<1)=false:=by simpa using h1
  by_cases h2:n = -9223372036854775808
  ·have g2:(n==-9223372036854775808)=true:=by simpa using h2
   have H2:=Lib.hid h2;clear h2
   go_enter Tryz.func101,Tryz.ntmps101
   go_wp2_with fail
   go_quiet (fail)
   go_wp2
   go_ret
   exact⟨qbc (qn1 H2.out).symm,((Gr.refl w).alloc _ _).drewN _⟩
  ·have g2:(n==-9223372036854775808)=false:=by simpa using h2
   have H2:=Lib.hid h2;clear h2
   go_enter Tryz.func101,Tryz.ntmps101
   go_wp2_with fail
   go_quiet ((first | (go_at_call 169;exact qzM _ _ _ (by omega) (by omega)) | (go_at_call 168;exact qnA _ _ _ _ (by omega) (by omega))))
   go_wp2
   ·have h:((Nat.gcd n.natAbs d.natAbs:Nat):Int) !=1:=by assumption
    go_ret
    exact⟨qbc (qpv (by simp at h;omega)).symm,((Gr.refl w).alloc _ _).drewN _⟩
   ·have h:(((Nat.gcd n.natAbs d.natAbs:Nat):Int) !=1)=false:=by assumption
    go_ret
    exact⟨qbc (qnI (by omega) H2.out (by simp at h;omega)).symm,((Gr.refl w).alloc _ _).drewN _⟩
set_option maxHeartbeats 400000 in
theorem qfU (n d:Int) (w:World) (hn0 : -9223372036854775808≤n) (hn1:n≤9223372036854775807) (hd0 : -9223372036854775808≤d) (hd1:d≤9223372036854775807) :
 Calls Tryz.prog 45 #[.agg #[.int .i64 n,.int .i64 d]] w fun e w'=>e=.returned (.int .i64 (ckE n d))∧Gr w w':=by
 by_cases h1:d<1
 ·have g1:decide (d<1)=true:=by simpa using h1
  go_enter Tryz.func45,Tryz.ntmps45
  go_wp2_with fail
  go_quiet (fail)
  go_wp2
  go_ret
  exact⟨qbc (qns h1).symm,((Gr.refl w).alloc _ _).drewN _⟩
 ·have g1:decide (d<1)=false:=by simpa using h1
  by_cases h2:n = -9223372036854775808
  ·have g2:(n==-9223372036854775808)=true:=by simpa using h2
   have H2:=Lib.hid h2;clear h2
   go_enter Tryz.func45,Tryz.ntmps45
   go_wp2_with fail
   go_quiet (fail)
   go_wp2
   go_ret
   exact⟨qbc (qn1 H2.out).symm,((Gr.refl w).alloc _ _).drewN _⟩
  ·have g2:(n==-9223372036854775808)=false:=by simpa using h2
   have H2:=Lib.hid h2;clear h2;obtain⟨m,rfl⟩:∃ m:Nat,d=m:=⟨d.toNat,by omega⟩
   go_enter Tryz.func45,Tryz.ntmps45
   go_wp2_with fail
   go_quiet ((first | (go_at_call 95;exact qq3 _ _ _ (by omega) (by omega)) | (go_at_call 94;go_simp;exact qqK _ _ _ _ (by omega) (by omega))))
   go_wp2
   ·have h:((Nat.gcd n.natAbs m:Nat):Int) !=1:=by assumption
    go_ret
    exact⟨qbc (qpv (by simp at h;simp;omega)).symm,((Gr.refl w).alloc _ _).drewN _⟩
   ·have h:(((Nat.gcd n.natAbs m:Nat):Int) !=1)=false:=by assumption
    go_ret
    exact⟨qbc (qnI (by omega) H2.out (by simp at h;simp;omega)).symm,((Gr.refl w).alloc _ _).drewN _⟩
end Go.Proofs.YtkckcgpmnipnaaaGreat

namespace Go.Proofs.YtkckcgpmnipnaaaGreat
set_option maxRecDepth 100000
open Go.RowKit
theorem Gr.cells {a w:World} (h:Gr a w):∀ b o,b<a.heap.size→w.cell? ⟨b,o,none⟩=a.cell? ⟨b,o,none⟩:=fun b o hb=>h.cell b o hb
theorem Gr.marks {a w:World} (h:Gr a w):∀ b o,b<a.heap.size→w.frozen? ⟨b,o,none⟩=a.frozen? ⟨b,o,none⟩:=fun b o hb=>h.2.1 ⟨b,o,none⟩ hb
theorem qeY (n z:Int) (w:World) (hz:z=n.natAbs) (h0 : -9223372036854775808≤n) (h1:n≤9223372036854775807) :
 Calls Tryz.prog 169 #[.int .i64 n] w fun e w'=>e=.returned (.int .u64 z)∧w=w':=hz▸qe8 n w h0 h1
theorem qiK (a b:Nat) (x y g:Int) (w:World) (hx:x=a) (hy:y=b) (hg:g=(Nat.gcd a b:Nat)) (ha:a<18446744073709551616) (hb:b<18446744073709551616) :
 Calls Tryz.prog 168 #[.int .u64 x,.int .u64 y] w fun e w'=>e=.returned (.int .u64 g)∧Gr w w':=by subst hx hy hg;exact qmJ a b w ha hb
theorem qfk (n:Nat) (x:Int) (b:Bool) (w:World) (hx:x=n) (h1:n<18446744073709551616) :
 Calls Tryz.prog 329 #[.int .u64 x,.bool b] w fun e w'=>e=.returned (.tuple #[.int .i64 (sgV n b),.bool (qbr n)])∧w=w':=by subst hx;exact qm2 n b w h1
def qeH (b:Bool) (n:Int):Int:=if b then n else 0
def qnk (b:Bool):Int:=if b then 0 else 16
set_option maxHeartbeats 400000 in
theorem qgt (n d:Int) (b:Bool) (w:World) :
 Calls Tryz.prog 330 #[.int .i64 n,.int .i64 d,.bool b] w fun e w'=>e=.returned (.tuple #[.agg #[.int .i64 (qeH b n),.int .i64 (qeH b d)],.int .i64 (qnk b)])∧Gr w w':=by
 cases b
 ·go_enter Tryz.func330,Tryz.ntmps330
  go_wp2
  exact bodyPost_ret (v:=.tuple #[.agg #[.int .i64 0,.int .i64 0],.int .i64 16]) (by simp[results,Tryz.results330,go_sem]) rfl ⟨rfl,(Gr.refl w).alloc _ _⟩
 ·go_enter Tryz.func330,Tryz.ntmps330
  go_wp2
  exact bodyPost_ret (v:=.tuple #[.agg #[.int .i64 n,.int .i64 d],.int .i64 0]) (by simp[results,Tryz.results330,go_sem]) rfl ⟨rfl,(Gr.refl w).alloc _ _⟩
def qjm (a b c d:Int):Int:=if okB a b=true then ckE c d else 8
theorem qpA {n d:Int} (h:okB n d=true):ckE n d=0:=by simp[ckE,h]
theorem qjp {n d:Int} (h:¬ okB n d=true):ckE n d=8:=by simp[ckE,h]
def I64 (n:Int):Prop:=-9223372036854775808≤n∧n≤9223372036854775807
set_option maxHeartbeats 400000 in
theorem qhz (a b c d:Int) (w:World) (ha:I64 a) (hb:I64 b) (hc:I64 c) (hd:I64 d) :
 Calls Tryz.prog 234 #[.agg #[.int .i64 a,.int .i64 b],.agg #[.int .i64 c,.int .i64 d]] w fun e w'=>e=.returned (.int .i64 (qjm a b c d))∧Gr w w':=by
 have HA:=Lib.hid ha;have HB:=Lib.hid hb;have HC:=Lib.hid hc;have HD:=Lib.hid hd;clear ha hb hc hd;by_cases hk:okB a b=true
 ·have e0:qjm a b c d=ckE c d:=by simp[qjm,hk]
  have e1:=qpA hk;rw[e0];clear hk e0
  have n01:w.heap.size<w.heap.size+1+1:=by omega
  have n02:w.heap.size<w.heap.size+1+1+1:=by omega
  have n12:w.heap.size+1<w.heap.size+1+1+1:=by omega
  go_enter Tryz.func234,Tryz.ntmps234
  go_wp2_with fail
  refine (qc4 _ _ _ HA.out.1 HA.out.2 HB.out.1 HB.out.2).mono ?_;rintro e w1 ⟨rfl,hgw1⟩;have hcw1:=Gr.cells hgw1;have hfw1:=Gr.marks hgw1;have hzzw1:=Gr.size hgw1
  try simp at hzzw1
  have hzw10:w.heap.size<w1.heap.size:=by omega
  have hzw11:w.heap.size+1<w1.heap.size:=by omega
  clear hzzw1
  go_wp2_with fail
  refine (qc4 _ _ _ HC.out.1 HC.out.2 HD.out.1 HD.out.2).mono ?_;rintro e w2 ⟨rfl,hgw2⟩;have hcw2:=Gr.cells hgw2;have hfw2:=Gr.marks hgw2;have hzzw2:=Gr.size hgw2
  try simp at hzzw2
  have hzw20:w.heap.size<w2.heap.size:=by omega
  have hzw21:w.heap.size+1<w2.heap.size:=by omega
  clear hzzw2
  go_wp2
  go_ret
  refine⟨rfl,?_⟩
  repeat (first | exact Gr.refl _ | apply Gr.alloc | apply Gr.drewN | apply Gr.drew | (refine Gr.setCell ?_ (by simp) _) | (refine Gr.trans ?_ (by assumption)))
 ·have e0:qjm a b c d=8:=by simp[qjm,hk]
  have e1:=qjp hk;rw[e0];clear hk e0
  have n01:w.heap.size<w.heap.size+1+1:=by omega
  have n02:w.heap.size<w.heap.size+1+1+1:=by omega
  have n12:w.heap.size+1<w.heap.size+1+1+1:=by omega
  go_enter Tryz.func234,Tryz.ntmps234
  go_wp2_with fail
  refine (qc4 _ _ _ HA.out.1 HA.out.2 HB.out.1 HB.out.2).mono ?_;rintro e w1 ⟨rfl,hgw1⟩;have hcw1:=Gr.cells hgw1;have hfw1:=Gr.marks hgw1;have hzzw1:=Gr.size hgw1
  try simp at hzzw1
  have hzw10:w.heap.size<w1.heap.size:=by omega
  have hzw11:w.heap.size+1<w1.heap.size:=by omega
  clear hzzw1
  go_wp2
  go_ret
  refine⟨rfl,?_⟩
  repeat (first | exact Gr.refl _ | apply Gr.alloc | apply Gr.drewN | apply Gr.drew | (refine Gr.setCell ?_ (by simp) _) | (refine Gr.trans ?_ (by assumption)))
end Go.Proofs.YtkckcgpmnipnaaaGreat

namespace Go.Proofs.YtkckcgpmnipnaaaGreat
set_option maxRecDepth 100000
open Go.RowKit
theorem qer {n d:Int} (h:okB n d=true):1≤d:=by simp[okB] at h;exact h.1
theorem qpG {n d:Int} (h:okB n d=true):n≠-9223372036854775808:=by simp[okB] at h;exact h.2.1
def mkQ (a b:Int):Nat:=a.natAbs/Nat.gcd a.natAbs b.natAbs
def mkP (a b:Int):Nat:=b.natAbs/Nat.gcd a.natAbs b.natAbs
def mkS (a b:Int):Bool:=!(decide (a<0)==decide (b<0))
def mkF (a b:Int):Bool:=qbr (mkQ a b)&&qbr (mkP a b)
def mkN (a b:Int):Int:=if b=0 then 0 else qeH (mkF a b) (sgV (mkQ a b) (mkS a b))
def mkD (a b:Int):Int:=if b=0 then 0 else qeH (mkF a b) (sgV (mkP a b) false)
def mkE (a b:Int):Int:=if b=0 then 26 else qnk (mkF a b)
theorem qv1 {a b c d e f:Int} (h:a=b) (g:c=d) (k:e=f):Ending.returned (.tuple #[.agg #[.int .i64 a,.int .i64 c],.int .i64 e])=.returned (.tuple #[.agg #[.int .i64 b,.int .i64 d],.int .i64 f]):=by rw[h,g,k]
set_option maxHeartbeats 400000 in
theorem qlE (n d:Int) (w:World) (hn:I64 n) (hd:I64 d) :
 Calls Tryz.prog 303 #[.int .i64 n,.int .i64 d] w fun e w'=>e=.returned (.tuple #[.agg #[.int .i64 (mkN n d),.int .i64 (mkD n d)],.int .i64 (mkE n d)])∧Gr w w':=by
 have HN:=Lib.hid hn;have HD:=Lib.hid hd;have d1:=hd.1;have d2:=hd.2;have d3:=hn.1;have d4:=hn.2;clear hn hd;by_cases h0:d=0
 ·have m1:(d==0)=true:=by simpa using h0
  have E0:=Lib.hid h0;clear h0
  have n01:w.heap.size<w.heap.size+1+1:=by omega
  have n02:w.heap.size<w.heap.size+1+1+1:=by omega
  have n12:w.heap.size+1<w.heap.size+1+1+1:=by omega
  go_enter Tryz.func303,Tryz.ntmps303
  go_wp2
  refine bodyPost_ret (v:=.tuple #[.agg #[.int .i64 0,.int .i64 0],.int .i64 26]) (by simp[results,Tryz.results303,go_sem]) rfl ⟨qv1 (by simp[mkN,E0.out]) (by simp[mkD,E0.out]) (by simp[mkE,E0.out]),?_⟩
  repeat (first | exact Gr.refl _ | apply Gr.alloc | apply Gr.drewN | apply Gr.drew | (refine Gr.setCell ?_ (by simp) _) | (refine Gr.trans ?_ (by assumption)))
 ·have m1:(d==0)=false:=by simpa using h0
  obtain⟨z1,hz1⟩:∃ z:Int,z=n.natAbs:=⟨_,rfl⟩;obtain⟨z2,hz2⟩:∃ z:Int,z=d.natAbs:=⟨_,rfl⟩;obtain⟨g,hg⟩:∃ g:Int,g=(Nat.gcd n.natAbs d.natAbs:Nat):=⟨_,rfl⟩;obtain⟨q1,hq1⟩:∃ q:Int,q=(mkQ n d:Nat):=⟨_,rfl⟩;obtain⟨q2,hq2⟩:∃ q:Int,q=(mkP n d:Nat):=⟨_,rfl⟩;obtain⟨b,hb⟩:∃ b:Bool,b=mkS n d:=⟨_,rfl⟩;have hg0:0<Nat.gcd n.natAbs d.natAbs:=Nat.gcd_pos_of_pos_right _ (by omega);have i1:=Nat.div_le_self n.natAbs (Nat.gcd n.natAbs d.natAbs);have i2:=Nat.div_le_self d.natAbs (Nat.gcd n.natAbs d.natAbs)
  have r1:z1/g=q1:=by rw[hz1,hg,hq1];rfl
  have r2:z2/g=q2:=by rw[hz2,hg,hq2];rfl
  have j1:mkQ n d<18446744073709551616:=by unfold mkQ;omega
  have j2:mkP n d<18446744073709551616:=by unfold mkP;omega
  have g0:1≤g:=by omega
  have z10:0≤z1:=by omega
  have z20:0≤z2:=by omega
  have z11:z1<18446744073709551616:=by omega
  have z21:z2<18446744073709551616:=by omega
  have q10:0≤q1:=by omega
  have q20:0≤q2:=by omega
  have q11:q1<18446744073709551616:=by omega
  have q21:q2<18446744073709551616:=by omega
  have rb:(decide (n<0)==decide (d<0)) = !b:=by rw[hb];simp[mkS]
  have H0:=Lib.hid h0;have Z1:=Lib.hid hz1;have Z2:=Lib.hid hz2;have G:=Lib.hid hg;have Q1:=Lib.hid hq1;have Q2:=Lib.hid hq2;have B:=Lib.hid hb;have J1:=Lib.hid j1;have J2:=Lib.hid j2;clear hz1 hz2 hg hq1 hq2 hb hg0 i1 i2 j1 j2 h0;cases hf:qbr (mkQ n d)
  ·have n01:w.heap.size<w.heap.size+1+1:=by omega
   have n02:w.heap.size<w.heap.size+1+1+1:=by omega
   have n12:w.heap.size+1<w.heap.size+1+1+1:=by omega
   go_enter Tryz.func303,Tryz.ntmps303
   go_wp2_with fail
   refine (qeY n z1 _ Z1.out d3 d4).mono ?_;rintro e w' ⟨rfl,rfl⟩
   go_wp2_with fail
   refine (qeY d z2 _ Z2.out d1 d2).mono ?_;rintro e w' ⟨rfl,rfl⟩
   go_wp2_with fail
   refine (qiK _ _ z1 z2 g _ Z1.out Z2.out G.out (by have:=HN.out;unfold I64 at this;omega) (by have:=HD.out;unfold I64 at this;omega)).mono ?_;rintro e w1 ⟨rfl,hgw1⟩;have hcw1:=Gr.cells hgw1;have hfw1:=Gr.marks hgw1;have hzzw1:=Gr.size hgw1
   try simp at hzzw1
   have hzw10:w.heap.size<w1.heap.size:=by omega
   clear hzzw1
   go_wp2_with fail
   refine (qeY n z1 _ Z1.out d3 d4).mono ?_;rintro e w' ⟨rfl,rfl⟩
   go_wp2_with fail
   refine (qfk (mkQ n d) q1 b _ Q1.out J1.out).mono ?_;rintro e w' ⟨rfl,rfl⟩
   go_wp2_with fail
   refine (qeY d z2 _ Z2.out d1 d2).mono ?_;rintro e w' ⟨rfl,rfl⟩
   go_wp2_with fail
   refine (qfk (mkP n d) q2 false _ Q2.out J2.out).mono ?_;rintro e w' ⟨rfl,rfl⟩
   go_wp2_with fail
   refine (qgt _ _ _ _).mono ?_;rintro e w2 ⟨rfl,hgw2⟩;have hcw2:=Gr.cells hgw2;have hfw2:=Gr.marks hgw2;have hzzw2:=Gr.size hgw2
   try simp at hzzw2
   have hzw20:w.heap.size<w2.heap.size:=by omega
   clear hzzw2
   go_wp2
   refine bodyPost_ret (v:=.tuple #[.agg #[.int .i64 0,.int .i64 0],.int .i64 16]) (by simp[results,Tryz.results303,go_sem,qeH,qnk, *]) rfl ⟨qv1 (by simp[mkN,mkF,hf,qeH]) (by simp[mkD,mkF,hf,qeH]) (by simp[mkE,mkF,hf,qnk,H0.out]),?_⟩
   repeat (first | exact Gr.refl _ | apply Gr.alloc | apply Gr.drewN | apply Gr.drew | (refine Gr.setCell ?_ (by simp) _) | (refine Gr.trans ?_ (by assumption)))
  ·have n01:w.heap.size<w.heap.size+1+1:=by omega
   have n02:w.heap.size<w.heap.size+1+1+1:=by omega
   have n12:w.heap.size+1<w.heap.size+1+1+1:=by omega
   go_enter Tryz.func303,Tryz.ntmps303
   go_wp2_with fail
   refine (qeY n z1 _ Z1.out d3 d4).mono ?_;rintro e w' ⟨rfl,rfl⟩
   go_wp2_with fail
   refine (qeY d z2 _ Z2.out d1 d2).mono ?_;rintro e w' ⟨rfl,rfl⟩
   go_wp2_with fail
   refine (qiK _ _ z1 z2 g _ Z1.out Z2.out G.out (by have:=HN.out;unfold I64 at this;omega) (by have:=HD.out;unfold I64 at this;omega)).mono ?_;rintro e w1 ⟨rfl,hgw1⟩;have hcw1:=Gr.cells hgw1;have hfw1:=Gr.marks hgw1;have hzzw1:=Gr.size hgw1
   try simp at hzzw1
   have hzw10:w.heap.size<w1.heap.size:=by omega
   clear hzzw1
   go_wp2_with fail
   refine (qeY n z1 _ Z1.out d3 d4).mono ?_;rintro e w' ⟨rfl,rfl⟩
   go_wp2_with fail
   refine (qfk (mkQ n d) q1 b _ Q1.out J1.out).mono ?_;rintro e w' ⟨rfl,rfl⟩
   go_wp2_with fail
   refine (qeY d z2 _ Z2.out d1 d2).mono ?_;rintro e w' ⟨rfl,rfl⟩
   go_wp2_with fail
   refine (qfk (mkP n d) q2 false _ Q2.out J2.out).mono ?_;rintro e w' ⟨rfl,rfl⟩
   go_wp2_with fail
   refine (qgt _ _ _ _).mono ?_;rintro e w2 ⟨rfl,hgw2⟩;have hcw2:=Gr.cells hgw2;have hfw2:=Gr.marks hgw2;have hzzw2:=Gr.size hgw2
   try simp at hzzw2
   have hzw20:w.heap.size<w2.heap.size:=by omega
   clear hzzw2
   go_wp2
   refine bodyPost_ret (v:=.tuple #[.agg #[.int .i64 (qeH (qbr (mkP n d)) (sgV (mkQ n d) b)),.int .i64 (qeH (qbr (mkP n d)) (sgV (mkP n d) false))],.int .i64 (qnk (qbr (mkP n d)))]) (by simp[results,Tryz.results303,go_sem, *]) rfl ⟨qv1 (by simp[mkN,mkF,hf,H0.out,B.out]) (by simp[mkD,mkF,hf,H0.out]) (by simp[mkE,mkF,hf,H0.out]),?_⟩
   repeat (first | exact Gr.refl _ | apply Gr.alloc | apply Gr.drewN | apply Gr.drew | (refine Gr.setCell ?_ (by simp) _) | (refine Gr.trans ?_ (by assumption)))
end Go.Proofs.YtkckcgpmnipnaaaGreat
