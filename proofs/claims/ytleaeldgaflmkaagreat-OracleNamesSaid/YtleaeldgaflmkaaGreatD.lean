/-
  math/bits.Div64 and Rem64 return the quotient and the remainder, where the upper half is less than the divisor. Conditions: none.
-/
import Derived.Test.YtleaeldgaflmkaaGreatW2
namespace Go.Proofs.YtleaeldgaflmkaaGreat
set_option maxRecDepth 100000
open Go.RowKit
theorem qc9 {n:Int} (h0:0≤n) (h1:n<18446744073709551616):IntKind.u64.wrap n=n:=by rw[IntKind.wrap_u64];omega
theorem qvc (a b:Nat) (h:a<18446744073709551616):IntKind.u64.wrap ((a:Int)/(b:Int))=((a/b:Nat):Int):=by
 have e:(a:Int)/(b:Int)=((a/b:Nat):Int):=rfl
 have g:=Nat.div_le_self a b
 rw[e]
 generalize a/b=q at *
 exact qc9 (by omega) (by omega)
theorem qq3 {y s Y:Nat} (h:y*2 ^ s=Y) (hY:Y<18446744073709551616):IntKind.u64.wrap ((y:Int)*2 ^ s)=(Y:Int):=by
 have e:(y:Int)*2 ^ s=(Y:Int):=by rw[← h];push_cast;rfl
 rw[e]
 exact qc9 (by omega) (by omega)
set_option maxHeartbeats 400000 in
theorem qt6 (lo y:Nat) (w:World) (hlo:lo<18446744073709551616) (hy:y<18446744073709551616) (h0:0<y) :
 Calls Tryz.prog 159 #[.int .u64 0,.int .u64 lo,.int .u64 y] w fun e w'=>e=.returned (.tuple #[.int .u64 ((lo/y:Nat):Int),.int .u64 ((lo%y:Nat):Int)])∧Gr w w':=by
 have k0:((y:Int)==0)=false:=by simp;omega
 have k1:((y:Int)≤0)=False:=by simp;omega
 go_enter Tryz.func159,Tryz.ntmps159
 go_wp2
 go_quiet (fail)
 go_wp2
 go_ret2
 exact⟨qbm (qvc lo y hlo) (by simp),(Gr.refl w).drewN _⟩
set_option maxHeartbeats 400000 in
theorem qwN (y s:Nat) (w:World) (h0:y<18446744073709551616) (hs:s=64-Lib.bitLen y) (hs1:Lib.bitLen y≤64) :
 Calls Tryz.prog 167 #[.int .u64 y] w fun e w'=>e=.returned (.int .i64 (s:Int))∧w=w':=
 (Tryz.bits_LeadingZeros64 _ w (by omega) (by omega)).mono fun _ _ ⟨he,hw⟩=>⟨he.trans (qaX (by simp;omega)),hw.symm⟩
theorem qq0 {U l1 Y:Nat} (hU:U<Y) (hl:l1<4294967296):(U*4294967296+l1)/Y<4294967296:=
 Nat.div_lt_of_lt_mul (by omega)
theorem qhq {U l1 Y y1 y0:Nat} (hY:Y=y1*4294967296+y0) (hl:l1<4294967296) (h1:0<y1):(U*4294967296+l1)/Y≤U/y1:=by
 rw[Nat.le_div_iff_mul_le h1]
 have h:=Nat.div_mul_le_self (U*4294967296+l1) Y
 generalize (U*4294967296+l1)/Y=Q at *
 have e:Q*Y=Q*y1*4294967296+Q*y0:=by rw[hY,Nat.mul_add,Nat.mul_assoc]
 rw[e] at h
 generalize Q*y1=a at *
 generalize Q*y0=b at *
 omega
theorem qeB {U l1 Y y1 y0 q r:Nat} (hY:Y=y1*4294967296+y0) (hq:q*y1+r=U) (h:4294967296*r+l1<q*y0):(U*4294967296+l1)/Y<q:=by
 apply Nat.div_lt_of_lt_mul
 have e:Y*q=q*y1*4294967296+q*y0:=by rw[hY,Nat.add_mul];congr 1<;>grind
 rw[e]
 generalize q*y1=a at *
 generalize q*y0=b at *
 omega
theorem qba {U l1 Y y1 y0 q r:Nat} (hY:Y=y1*4294967296+y0) (h0:0<Y) (hq:q*y1+r=U) (h:q*y0≤4294967296*r+l1):q≤(U*4294967296+l1)/Y:=by
 rw[Nat.le_div_iff_mul_le h0]
 have e:q*Y=q*y1*4294967296+q*y0:=by rw[hY,Nat.mul_add,Nat.mul_assoc]
 rw[e]
 generalize q*y1=a at *
 generalize q*y0=b at *
 omega
theorem qbG {U l1 Y y1 y0 q r:Nat} (hY:Y=y1*4294967296+y0) (hU:U<Y) (h0:y0<4294967296) (hq:q*y1+r=U) (hr:4294967296≤r):q*y0≤4294967296*r+l1:=by
 have hlt:q<4294967296:=by
  apply Nat.lt_of_not_le
  intro h
  have:=Nat.mul_le_mul_right y1 h
  generalize q*y1=a at *
  omega
 have:=Nat.mul_le_mul (Nat.le_of_lt hlt) (Nat.le_of_lt h0)
 generalize q*y0=b at *
 omega
def Inv (U y1 Q:Nat) (q r:Nat):Prop:=Q≤q∧q*y1+r=U
def qxp (U y1 Q:Nat) (u v:Value):Prop:=∃ (q r:Nat) (x z:Int),Inv U y1 Q q r∧q<18446744073709551616∧r<4294967296∧x=q∧z=r∧u=.int .u64 x∧v=.int .u64 z
theorem qgc {a b p:Nat} (h:a*b=p) (hp:p<18446744073709551616):IntKind.u64.wrap ((a:Int)*(b:Int))=(p:Int):=by
 have e:(a:Int)*(b:Int)=(p:Int):=by rw[← h];push_cast;rfl
 rw[e]
 exact qc9 (by omega) (by omega)
theorem qmn {U l Y Q V:Nat} (h:U*4294967296+l=Q*Y+V) (hV:V<18446744073709551616) :
 IntKind.u64.wrap (IntKind.u64.wrap (IntKind.u64.wrap ((U:Int)*4294967296)+(l:Int))-IntKind.u64.wrap ((Q:Int)*(Y:Int)))=(V:Int):=by
 have e:(Q:Int)*(Y:Int)=((Q*Y:Nat):Int):=by push_cast;rfl
 rw[e]
 generalize Q*Y=p at *
 simp only[IntKind.wrap_u64]
 omega
set_option maxHeartbeats 2000000 in
theorem qqu (hi lo y s u y1n y0n l1n l0n q1n Q1n v q0n Q0n Yn:Nat) (Y A U L y1 y0 l1 l0 q1 m1 Q1 V q0 m0 Q0 R:Int) (w:World) (h:hi<y) (hlo:lo<18446744073709551616) (hy:y<18446744073709551616) (h0:0<hi)
 (hs:Hid (s=64-Lib.bitLen y)) (hs1:Lib.bitLen y≤64) (hs2:s≤63)
 (n1:Hid (Y=Yn)) (n2:Hid (y1=y1n)) (n3:Hid (y0=y0n)) (n4:Hid (U=u)) (n5:Hid (V=v)) (n6:Hid (l1=l1n)) (n7:Hid (l0=l0n)) (n8:Hid (Q1=Q1n)) (n9:Hid (Q0=Q0n)) (n10:Hid (q1=q1n)) (n11:Hid (q0=q0n))
 (r1:IntKind.u64.wrap ((y:Int)*2 ^ s)=Y) (r2:IntKind.u64.wrap ((hi:Int)*2 ^ s)=A)
 (r3:bits BinOp.or IntKind.u64 A ((lo:Int)/2 ^ (64-s))=U) (r4:IntKind.u64.wrap ((lo:Int)*2 ^ s)=L)
 (r5:Y/4294967296=y1) (r6:bits BinOp.and IntKind.u64 Y 4294967295=y0)
 (r7:L/4294967296=l1) (r8:bits BinOp.and IntKind.u64 L 4294967295=l0)
 (r9:U/y1=q1) (r10:IntKind.u64.wrap (q1*y1)=m1) (hm1:m1≤U) (hm1':0≤m1)
 (R11:Hid (IntKind.u64.wrap (IntKind.u64.wrap (IntKind.u64.wrap (U*4294967296)+l1)-IntKind.u64.wrap (Q1*Y))=V))
 (R12:Hid (V/y1=q0)) (R13:Hid (IntKind.u64.wrap (q0*y1)=m0)) (hm0:m0≤V) (hm0':0≤m0)
 (R14:Hid (IntKind.u64.wrap (IntKind.u64.wrap (IntKind.u64.wrap (V*4294967296)+l0)-IntKind.u64.wrap (Q0*Y))=R))
 (hY1:9223372036854775808≤Y) (hY2:Y<18446744073709551616) (HY:Hid (Yn=y1n*4294967296+y0n)) (b1:2147483648≤y1) (b2:y1<4294967296) (b3:y0<4294967296) (b3':0≤y0)
 (b4:l1<4294967296) (b4':0≤l1) (b5:l0<4294967296) (b5':0≤l0) (b6:U<Y) (b6':0≤U) (b7:V<Y) (b7':0≤V) (b8:q1<18446744073709551616) (b8':0≤q1) (b9:q0<18446744073709551616) (b9':0≤q0)
 (HQ1:Hid (Q1n=(u*4294967296+l1n)/Yn)) (HQ0:Hid (Q0n=(v*4294967296+l0n)/Yn)) (b10:Q1<4294967296) (b10':0≤Q1) (b11:Q0<4294967296) (b11':0≤Q0) (b12:R<Y) (b12':0≤R)
 (I1:Hid (Inv u y1n Q1n q1n (U-m1).toNat)) (I0:Hid (Inv v y1n Q0n q0n (V-m0).toNat)) (b13:U-m1<4294967296) (b14:V-m0<4294967296) :
 Calls Tryz.prog 159 #[.int .u64 hi,.int .u64 lo,.int .u64 y] w fun e w'=>e=.returned (.tuple #[.int .u64 (Q1*4294967296+Q0),.int .u64 (R/2 ^ s)])∧w=w':=by
 have k0:((y:Int)==0)=false:=by simp;omega
 have k1:((hi:Int)==0)=false:=by simp;omega
 go_enter Tryz.func159,Tryz.ntmps159
 go_wp2_with ((go_at_call 167;refine (qwN _ s _ (by omega) hs.out (by omega)).mono ?_;rintro e w' ⟨rfl,rfl⟩))
 go_loop [15,16] (fun a b=>qxp u y1n Q1n a b) (fun a _=>(intOf a).toNat)
 case atStart=>exact⟨q1n,(U-m1).toNat,q1,U-m1,I1.out,by have:=n10.out;omega,by omega,n10.out,by omega,by rw[r9],rfl⟩
 case round=>
  clear r1 r2 r3 r4 r5 r6 r7 r8 r9 r10 k0 k1 hs1
  obtain⟨q,r,x,z,hinv,c1,c2,hx,hz,rfl,rfl⟩:=hrel
  have HI:=Lib.hid hinv
  clear hinv
  have x0:0≤x:=by omega
  have x1:x<18446744073709551616:=by omega
  have z0:0≤z:=by omega
  have z1:z<4294967296:=by omega
  have HX:=Lib.hid hx
  have HZ:=Lib.hid hz
  clear hx hz
  by_cases d1:x<4294967296
  ·have t1:decide ((4294967296:Int)≤x)=false:=by simp;omega
   have g1:=HX.out
   have g2:=n3.out
   obtain⟨p,hp⟩:∃ p:Nat,q*y0n=p:=⟨_,rfl⟩
   have hp1:p<18446744073709551616:=by have e:p≤4294967295*4294967296:=hp▸Nat.mul_le_mul (by omega) (by omega);omega
   obtain⟨P,hP⟩:∃ P:Int,P=(p:Int):=⟨_,rfl⟩
   have rp:IntKind.u64.wrap (x*y0)=P:=by rw[g1,g2,hP];exact qgc hp hp1
   clear g1 g2
   by_cases d2:P≤4294967296*z+l1
   ·have e1:Hid (x=Q1):=by
     have g1:=HX.out;have g2:=HZ.out;have g3:=n8.out;have g4:=n6.out;have g5:=n1.out
     have e:q=Q1n:=Nat.le_antisymm (HQ1.out▸qba HY.out (by omega) HI.out.2 (by omega)) HI.out.1
     exact Lib.hid (by omega)
    have d3:decide (4294967296*z+l1<P)=false:=by simp;omega
    clear hp hP hp1 c1 c2
    have r12:=R12.out
    have r13:=R13.out
    have f1:0≤x∧x<4294967296:=by have:=e1.out;omega
    obtain⟨X,hX⟩:∃ X:Int,X=x:=⟨_,rfl⟩
    have E1:Hid (X=Q1):=Lib.hid (hX.trans e1.out)
    have r11:IntKind.u64.wrap (IntKind.u64.wrap (IntKind.u64.wrap (U*4294967296)+l1)-IntKind.u64.wrap (X*Y))=V:=by rw[E1.out];exact R11.out
    have F1:0≤X∧X<4294967296:=by omega
    obtain⟨F2,F3⟩:=F1
    obtain⟨f2,f3⟩:=f1
    subst hX
    go_wp2
    go_loop [18,16] (fun a b=>qxp v y1n Q0n a b) (fun a _=>(intOf a).toNat)
    case atStart=>exact⟨q0n,(V-m0).toNat,q0,V-m0,I0.out,by have:=n11.out;omega,by omega,n11.out,by omega,by first | rfl | rw[r12],rfl⟩
    case round=>
     clear HI HX HZ e1 r11 r12 r13
     obtain⟨q,r,x,z,hinv,c1,c2,hx,hz,rfl,rfl⟩:=hrel
     have HI:=Lib.hid hinv
     clear hinv
     have x0:0≤x:=by omega
     have x1:x<18446744073709551616:=by omega
     have z0:0≤z:=by omega
     have z1:z<4294967296:=by omega
     have HX:=Lib.hid hx
     have HZ:=Lib.hid hz
     clear hx hz
     by_cases d1:x<4294967296
     ·have t1:decide ((4294967296:Int)≤x)=false:=by simp;omega
      have g1:=HX.out
      have g2:=n3.out
      obtain⟨p,hp⟩:∃ p:Nat,q*y0n=p:=⟨_,rfl⟩
      have hp1:p<18446744073709551616:=by have e:p≤4294967295*4294967296:=hp▸Nat.mul_le_mul (by omega) (by omega);omega
      obtain⟨P,hP⟩:∃ P:Int,P=(p:Int):=⟨_,rfl⟩
      have rp:IntKind.u64.wrap (x*y0)=P:=by rw[g1,g2,hP];exact qgc hp hp1
      clear g1 g2
      by_cases d2:P≤4294967296*z+l0
      ·have e1:Hid (x=Q0):=by
        have g1:=HX.out;have g2:=HZ.out;have g3:=n9.out;have g4:=n7.out;have g5:=n1.out
        have e:q=Q0n:=Nat.le_antisymm (HQ0.out▸qba HY.out (by omega) HI.out.2 (by omega)) HI.out.1
        exact Lib.hid (by omega)
       have d3:decide (4294967296*z+l0<P)=false:=by simp;omega
       clear hp hP hp1 c1 c2
       have e0:=Lib.hid e1.out
       have r14:IntKind.u64.wrap (IntKind.u64.wrap (IntKind.u64.wrap (V*4294967296)+l0)-IntKind.u64.wrap (x*Y))=R:=by rw[e1.out];exact R14.out
       have f1:0≤x∧x<4294967296:=by have:=e1.out;omega
       obtain⟨f2,f3⟩:=f1
       go_wp2
       go_ret2
       exact⟨qbm (by have:=e1.out;have:=E1.out;omega) rfl,rfl⟩
      ·have d3:decide (4294967296*z+l0<P)=true:=by simp;omega
       have e2:Hid (Q0n<q):=by
        have g1:=HX.out;have g2:=HZ.out;have g4:=n7.out
        exact Lib.hid (HQ0.out▸qeB HY.out HI.out.2 (by omega))
       clear hp hP hp1 c1 c2
       obtain⟨k,hk⟩:∃ k,Hid (q=k+1):=⟨q-1,by have:=e2.out;exact Lib.hid (by omega)⟩
       have i1:Hid (k*y1n+(r+y1n)=v):=by have:=HI.out.2;rw[hk.out,Nat.add_mul] at this;exact Lib.hid (by omega)
       have x2:1≤x:=by have:=HX.out;have:=hk.out;omega
       by_cases d4:z+y1<4294967296
       ·go_wp2
        go_round
        case rel=>have g1:=HX.out;have g2:=HZ.out;have g3:=n2.out;have g4:=hk.out;have g5:=e2.out;exact⟨k,r+y1n,x-1,z+y1,⟨by omega,i1.out⟩,by omega,by omega,by omega,by omega,rfl,rfl⟩
        case measure=>simp[intOf];omega
       ·have e1:Hid (x-1=Q0):=by
         have g1:=HX.out;have g2:=HZ.out;have g3:=n9.out;have g4:=n7.out;have g5:=n1.out;have g6:=n2.out;have g7:=n3.out;have g8:=hk.out;have g9:=e2.out;have g10:=n5.out
         have e:k=Q0n:=Nat.le_antisymm (HQ0.out▸qba HY.out (by omega) i1.out (qbG HY.out (by omega) (by omega) i1.out (by omega))) (by omega)
         exact Lib.hid (by omega)
        have e0:=Lib.hid e1.out
        have r14:IntKind.u64.wrap (IntKind.u64.wrap (IntKind.u64.wrap (V*4294967296)+l0)-IntKind.u64.wrap ((x-1)*Y))=R:=by rw[e1.out];exact R14.out
        have f1:0≤(x-1)∧(x-1)<4294967296:=by have:=e1.out;omega
        obtain⟨f2,f3⟩:=f1
        go_wp2
        go_ret2
        exact⟨qbm (by have:=e1.out;have:=E1.out;omega) rfl,rfl⟩
     ·have t1:decide ((4294967296:Int)≤x)=true:=by simp;omega
      have e2:Hid (Q0n<q):=by have g1:=HX.out;have g3:=n9.out;exact Lib.hid (by omega)
      clear c1 c2
      obtain⟨k,hk⟩:∃ k,Hid (q=k+1):=⟨q-1,by have:=e2.out;exact Lib.hid (by omega)⟩
      have i1:Hid (k*y1n+(r+y1n)=v):=by have:=HI.out.2;rw[hk.out,Nat.add_mul] at this;exact Lib.hid (by omega)
      have x2:1≤x:=by have:=HX.out;have:=hk.out;omega
      by_cases d4:z+y1<4294967296
      ·go_wp2
       go_round
       case rel=>have g1:=HX.out;have g2:=HZ.out;have g3:=n2.out;have g4:=hk.out;have g5:=e2.out;exact⟨k,r+y1n,x-1,z+y1,⟨by omega,i1.out⟩,by omega,by omega,by omega,by omega,rfl,rfl⟩
       case measure=>simp[intOf];omega
      ·have e1:Hid (x-1=Q0):=by
        have g1:=HX.out;have g2:=HZ.out;have g3:=n9.out;have g4:=n7.out;have g5:=n1.out;have g6:=n2.out;have g7:=n3.out;have g8:=hk.out;have g9:=e2.out;have g10:=n5.out
        have e:k=Q0n:=Nat.le_antisymm (HQ0.out▸qba HY.out (by omega) i1.out (qbG HY.out (by omega) (by omega) i1.out (by omega))) (by omega)
        exact Lib.hid (by omega)
       have e0:=Lib.hid e1.out
       have r14:IntKind.u64.wrap (IntKind.u64.wrap (IntKind.u64.wrap (V*4294967296)+l0)-IntKind.u64.wrap ((x-1)*Y))=R:=by rw[e1.out];exact R14.out
       have f1:0≤(x-1)∧(x-1)<4294967296:=by have:=e1.out;omega
       obtain⟨f2,f3⟩:=f1
       go_wp2
       go_ret2
       exact⟨qbm (by have:=e1.out;have:=E1.out;omega) rfl,rfl⟩
   ·have d3:decide (4294967296*z+l1<P)=true:=by simp;omega
    have e2:Hid (Q1n<q):=by
     have g1:=HX.out;have g2:=HZ.out;have g4:=n6.out
     exact Lib.hid (HQ1.out▸qeB HY.out HI.out.2 (by omega))
    clear hp hP hp1 c1 c2
    obtain⟨k,hk⟩:∃ k,Hid (q=k+1):=⟨q-1,by have:=e2.out;exact Lib.hid (by omega)⟩
    have i1:Hid (k*y1n+(r+y1n)=u):=by have:=HI.out.2;rw[hk.out,Nat.add_mul] at this;exact Lib.hid (by omega)
    have x2:1≤x:=by have:=HX.out;have:=hk.out;omega
    by_cases d4:z+y1<4294967296
    ·go_wp2
     go_round
     case rel=>have g1:=HX.out;have g2:=HZ.out;have g3:=n2.out;have g4:=hk.out;have g5:=e2.out;exact⟨k,r+y1n,x-1,z+y1,⟨by omega,i1.out⟩,by omega,by omega,by omega,by omega,rfl,rfl⟩
     case measure=>simp[intOf];omega
    ·have e1:Hid (x-1=Q1):=by
      have g1:=HX.out;have g2:=HZ.out;have g3:=n8.out;have g4:=n6.out;have g5:=n1.out;have g6:=n2.out;have g7:=n3.out;have g8:=hk.out;have g9:=e2.out;have g10:=n4.out
      have e:k=Q1n:=Nat.le_antisymm (HQ1.out▸qba HY.out (by omega) i1.out (qbG HY.out (by omega) (by omega) i1.out (by omega))) (by omega)
      exact Lib.hid (by omega)
     have r12:=R12.out
     have r13:=R13.out
     have f1:0≤(x-1)∧(x-1)<4294967296:=by have:=e1.out;omega
     obtain⟨X,hX⟩:∃ X:Int,X=(x-1):=⟨_,rfl⟩
     have E1:Hid (X=Q1):=Lib.hid (hX.trans e1.out)
     have r11:IntKind.u64.wrap (IntKind.u64.wrap (IntKind.u64.wrap (U*4294967296)+l1)-IntKind.u64.wrap (X*Y))=V:=by rw[E1.out];exact R11.out
     have F1:0≤X∧X<4294967296:=by omega
     obtain⟨F2,F3⟩:=F1
     obtain⟨f2,f3⟩:=f1
     have hX':=hX.symm;clear hX
     go_wp2
     go_loop [18,16] (fun a b=>qxp v y1n Q0n a b) (fun a _=>(intOf a).toNat)
     case atStart=>exact⟨q0n,(V-m0).toNat,q0,V-m0,I0.out,by have:=n11.out;omega,by omega,n11.out,by omega,by first | rfl | rw[r12],rfl⟩
     case round=>
      clear HI HX HZ e1 r11 r12 r13
      obtain⟨q,r,x,z,hinv,c1,c2,hx,hz,rfl,rfl⟩:=hrel
      have HI:=Lib.hid hinv
      clear hinv
      have x0:0≤x:=by omega
      have x1:x<18446744073709551616:=by omega
      have z0:0≤z:=by omega
      have z1:z<4294967296:=by omega
      have HX:=Lib.hid hx
      have HZ:=Lib.hid hz
      clear hx hz
      by_cases d1:x<4294967296
      ·have t1:decide ((4294967296:Int)≤x)=false:=by simp;omega
       have g1:=HX.out
       have g2:=n3.out
       obtain⟨p,hp⟩:∃ p:Nat,q*y0n=p:=⟨_,rfl⟩
       have hp1:p<18446744073709551616:=by have e:p≤4294967295*4294967296:=hp▸Nat.mul_le_mul (by omega) (by omega);omega
       obtain⟨P,hP⟩:∃ P:Int,P=(p:Int):=⟨_,rfl⟩
       have rp:IntKind.u64.wrap (x*y0)=P:=by rw[g1,g2,hP];exact qgc hp hp1
       clear g1 g2
       by_cases d2:P≤4294967296*z+l0
       ·have e1:Hid (x=Q0):=by
         have g1:=HX.out;have g2:=HZ.out;have g3:=n9.out;have g4:=n7.out;have g5:=n1.out
         have e:q=Q0n:=Nat.le_antisymm (HQ0.out▸qba HY.out (by omega) HI.out.2 (by omega)) HI.out.1
         exact Lib.hid (by omega)
        have d3:decide (4294967296*z+l0<P)=false:=by simp;omega
        clear hp hP hp1 c1 c2
        have e0:=Lib.hid e1.out
        have r14:IntKind.u64.wrap (IntKind.u64.wrap (IntKind.u64.wrap (V*4294967296)+l0)-IntKind.u64.wrap (x*Y))=R:=by rw[e1.out];exact R14.out
        have f1:0≤x∧x<4294967296:=by have:=e1.out;omega
        obtain⟨f2,f3⟩:=f1
        go_wp2
        go_ret2
        exact⟨qbm (by have:=e1.out;have:=E1.out;omega) rfl,rfl⟩
       ·have d3:decide (4294967296*z+l0<P)=true:=by simp;omega
        have e2:Hid (Q0n<q):=by
         have g1:=HX.out;have g2:=HZ.out;have g4:=n7.out
         exact Lib.hid (HQ0.out▸qeB HY.out HI.out.2 (by omega))
        clear hp hP hp1 c1 c2
        obtain⟨k,hk⟩:∃ k,Hid (q=k+1):=⟨q-1,by have:=e2.out;exact Lib.hid (by omega)⟩
        have i1:Hid (k*y1n+(r+y1n)=v):=by have:=HI.out.2;rw[hk.out,Nat.add_mul] at this;exact Lib.hid (by omega)
        have x2:1≤x:=by have:=HX.out;have:=hk.out;omega
        by_cases d4:z+y1<4294967296
        ·go_wp2
         go_round
         case rel=>have g1:=HX.out;have g2:=HZ.out;have g3:=n2.out;have g4:=hk.out;have g5:=e2.out;exact⟨k,r+y1n,x-1,z+y1,⟨by omega,i1.out⟩,by omega,by omega,by omega,by omega,rfl,rfl⟩
         case measure=>simp[intOf];omega
        ·have e1:Hid (x-1=Q0):=by
          have g1:=HX.out;have g2:=HZ.out;have g3:=n9.out;have g4:=n7.out;have g5:=n1.out;have g6:=n2.out;have g7:=n3.out;have g8:=hk.out;have g9:=e2.out;have g10:=n5.out
          have e:k=Q0n:=Nat.le_antisymm (HQ0.out▸qba HY.out (by omega) i1.out (qbG HY.out (by omega) (by omega) i1.out (by omega))) (by omega)
          exact Lib.hid (by omega)
         have e0:=Lib.hid e1.out
         have r14:IntKind.u64.wrap (IntKind.u64.wrap (IntKind.u64.wrap (V*4294967296)+l0)-IntKind.u64.wrap ((x-1)*Y))=R:=by rw[e1.out];exact R14.out
         have f1:0≤(x-1)∧(x-1)<4294967296:=by have:=e1.out;omega
         obtain⟨f2,f3⟩:=f1
         go_wp2
         go_ret2
         exact⟨qbm (by have:=e1.out;have:=E1.out;omega) rfl,rfl⟩
      ·have t1:decide ((4294967296:Int)≤x)=true:=by simp;omega
       have e2:Hid (Q0n<q):=by have g1:=HX.out;have g3:=n9.out;exact Lib.hid (by omega)
       clear c1 c2
       obtain⟨k,hk⟩:∃ k,Hid (q=k+1):=⟨q-1,by have:=e2.out;exact Lib.hid (by omega)⟩
       have i1:Hid (k*y1n+(r+y1n)=v):=by have:=HI.out.2;rw[hk.out,Nat.add_mul] at this;exact Lib.hid (by omega)
       have x2:1≤x:=by have:=HX.out;have:=hk.out;omega
       by_cases d4:z+y1<4294967296
       ·go_wp2
        go_round
        case rel=>have g1:=HX.out;have g2:=HZ.out;have g3:=n2.out;have g4:=hk.out;have g5:=e2.out;exact⟨k,r+y1n,x-1,z+y1,⟨by omega,i1.out⟩,by omega,by omega,by omega,by omega,rfl,rfl⟩
        case measure=>simp[intOf];omega
       ·have e1:Hid (x-1=Q0):=by
         have g1:=HX.out;have g2:=HZ.out;have g3:=n9.out;have g4:=n7.out;have g5:=n1.out;have g6:=n2.out;have g7:=n3.out;have g8:=hk.out;have g9:=e2.out;have g10:=n5.out
         have e:k=Q0n:=Nat.le_antisymm (HQ0.out▸qba HY.out (by omega) i1.out (qbG HY.out (by omega) (by omega) i1.out (by omega))) (by omega)
         exact Lib.hid (by omega)
        have e0:=Lib.hid e1.out
        have r14:IntKind.u64.wrap (IntKind.u64.wrap (IntKind.u64.wrap (V*4294967296)+l0)-IntKind.u64.wrap ((x-1)*Y))=R:=by rw[e1.out];exact R14.out
        have f1:0≤(x-1)∧(x-1)<4294967296:=by have:=e1.out;omega
        obtain⟨f2,f3⟩:=f1
        go_wp2
        go_ret2
        exact⟨qbm (by have:=e1.out;have:=E1.out;omega) rfl,rfl⟩
  ·have t1:decide ((4294967296:Int)≤x)=true:=by simp;omega
   have e2:Hid (Q1n<q):=by have g1:=HX.out;have g3:=n8.out;exact Lib.hid (by omega)
   clear c1 c2
   obtain⟨k,hk⟩:∃ k,Hid (q=k+1):=⟨q-1,by have:=e2.out;exact Lib.hid (by omega)⟩
   have i1:Hid (k*y1n+(r+y1n)=u):=by have:=HI.out.2;rw[hk.out,Nat.add_mul] at this;exact Lib.hid (by omega)
   have x2:1≤x:=by have:=HX.out;have:=hk.out;omega
   by_cases d4:z+y1<4294967296
   ·go_wp2
    go_round
    case rel=>have g1:=HX.out;have g2:=HZ.out;have g3:=n2.out;have g4:=hk.out;have g5:=e2.out;exact⟨k,r+y1n,x-1,z+y1,⟨by omega,i1.out⟩,by omega,by omega,by omega,by omega,rfl,rfl⟩
    case measure=>simp[intOf];omega
   ·have e1:Hid (x-1=Q1):=by
     have g1:=HX.out;have g2:=HZ.out;have g3:=n8.out;have g4:=n6.out;have g5:=n1.out;have g6:=n2.out;have g7:=n3.out;have g8:=hk.out;have g9:=e2.out;have g10:=n4.out
     have e:k=Q1n:=Nat.le_antisymm (HQ1.out▸qba HY.out (by omega) i1.out (qbG HY.out (by omega) (by omega) i1.out (by omega))) (by omega)
     exact Lib.hid (by omega)
    have r12:=R12.out
    have r13:=R13.out
    have f1:0≤(x-1)∧(x-1)<4294967296:=by have:=e1.out;omega
    obtain⟨X,hX⟩:∃ X:Int,X=(x-1):=⟨_,rfl⟩
    have E1:Hid (X=Q1):=Lib.hid (hX.trans e1.out)
    have r11:IntKind.u64.wrap (IntKind.u64.wrap (IntKind.u64.wrap (U*4294967296)+l1)-IntKind.u64.wrap (X*Y))=V:=by rw[E1.out];exact R11.out
    have F1:0≤X∧X<4294967296:=by omega
    obtain⟨F2,F3⟩:=F1
    obtain⟨f2,f3⟩:=f1
    have hX':=hX.symm;clear hX
    go_wp2
    go_loop [18,16] (fun a b=>qxp v y1n Q0n a b) (fun a _=>(intOf a).toNat)
    case atStart=>exact⟨q0n,(V-m0).toNat,q0,V-m0,I0.out,by have:=n11.out;omega,by omega,n11.out,by omega,by first | rfl | rw[r12],rfl⟩
    case round=>
     clear HI HX HZ e1 r11 r12 r13
     obtain⟨q,r,x,z,hinv,c1,c2,hx,hz,rfl,rfl⟩:=hrel
     have HI:=Lib.hid hinv
     clear hinv
     have x0:0≤x:=by omega
     have x1:x<18446744073709551616:=by omega
     have z0:0≤z:=by omega
     have z1:z<4294967296:=by omega
     have HX:=Lib.hid hx
     have HZ:=Lib.hid hz
     clear hx hz
     by_cases d1:x<4294967296
     ·have t1:decide ((4294967296:Int)≤x)=false:=by simp;omega
      have g1:=HX.out
      have g2:=n3.out
      obtain⟨p,hp⟩:∃ p:Nat,q*y0n=p:=⟨_,rfl⟩
      have hp1:p<18446744073709551616:=by have e:p≤4294967295*4294967296:=hp▸Nat.mul_le_mul (by omega) (by omega);omega
      obtain⟨P,hP⟩:∃ P:Int,P=(p:Int):=⟨_,rfl⟩
      have rp:IntKind.u64.wrap (x*y0)=P:=by rw[g1,g2,hP];exact qgc hp hp1
      clear g1 g2
      by_cases d2:P≤4294967296*z+l0
      ·have e1:Hid (x=Q0):=by
        have g1:=HX.out;have g2:=HZ.out;have g3:=n9.out;have g4:=n7.out;have g5:=n1.out
        have e:q=Q0n:=Nat.le_antisymm (HQ0.out▸qba HY.out (by omega) HI.out.2 (by omega)) HI.out.1
        exact Lib.hid (by omega)
       have d3:decide (4294967296*z+l0<P)=false:=by simp;omega
       clear hp hP hp1 c1 c2
       have e0:=Lib.hid e1.out
       have r14:IntKind.u64.wrap (IntKind.u64.wrap (IntKind.u64.wrap (V*4294967296)+l0)-IntKind.u64.wrap (x*Y))=R:=by rw[e1.out];exact R14.out
       have f1:0≤x∧x<4294967296:=by have:=e1.out;omega
       obtain⟨f2,f3⟩:=f1
       go_wp2
       go_ret2
       exact⟨qbm (by have:=e1.out;have:=E1.out;omega) rfl,rfl⟩
      ·have d3:decide (4294967296*z+l0<P)=true:=by simp;omega
       have e2:Hid (Q0n<q):=by
        have g1:=HX.out;have g2:=HZ.out;have g4:=n7.out
        exact Lib.hid (HQ0.out▸qeB HY.out HI.out.2 (by omega))
       clear hp hP hp1 c1 c2
       obtain⟨k,hk⟩:∃ k,Hid (q=k+1):=⟨q-1,by have:=e2.out;exact Lib.hid (by omega)⟩
       have i1:Hid (k*y1n+(r+y1n)=v):=by have:=HI.out.2;rw[hk.out,Nat.add_mul] at this;exact Lib.hid (by omega)
       have x2:1≤x:=by have:=HX.out;have:=hk.out;omega
       by_cases d4:z+y1<4294967296
       ·go_wp2
        go_round
        case rel=>have g1:=HX.out;have g2:=HZ.out;have g3:=n2.out;have g4:=hk.out;have g5:=e2.out;exact⟨k,r+y1n,x-1,z+y1,⟨by omega,i1.out⟩,by omega,by omega,by omega,by omega,rfl,rfl⟩
        case measure=>simp[intOf];omega
       ·have e1:Hid (x-1=Q0):=by
         have g1:=HX.out;have g2:=HZ.out;have g3:=n9.out;have g4:=n7.out;have g5:=n1.out;have g6:=n2.out;have g7:=n3.out;have g8:=hk.out;have g9:=e2.out;have g10:=n5.out
         have e:k=Q0n:=Nat.le_antisymm (HQ0.out▸qba HY.out (by omega) i1.out (qbG HY.out (by omega) (by omega) i1.out (by omega))) (by omega)
         exact Lib.hid (by omega)
        have e0:=Lib.hid e1.out
        have r14:IntKind.u64.wrap (IntKind.u64.wrap (IntKind.u64.wrap (V*4294967296)+l0)-IntKind.u64.wrap ((x-1)*Y))=R:=by rw[e1.out];exact R14.out
        have f1:0≤(x-1)∧(x-1)<4294967296:=by have:=e1.out;omega
        obtain⟨f2,f3⟩:=f1
        go_wp2
        go_ret2
        exact⟨qbm (by have:=e1.out;have:=E1.out;omega) rfl,rfl⟩
     ·have t1:decide ((4294967296:Int)≤x)=true:=by simp;omega
      have e2:Hid (Q0n<q):=by have g1:=HX.out;have g3:=n9.out;exact Lib.hid (by omega)
      clear c1 c2
      obtain⟨k,hk⟩:∃ k,Hid (q=k+1):=⟨q-1,by have:=e2.out;exact Lib.hid (by omega)⟩
      have i1:Hid (k*y1n+(r+y1n)=v):=by have:=HI.out.2;rw[hk.out,Nat.add_mul] at this;exact Lib.hid (by omega)
      have x2:1≤x:=by have:=HX.out;have:=hk.out;omega
      by_cases d4:z+y1<4294967296
      ·go_wp2
       go_round
       case rel=>have g1:=HX.out;have g2:=HZ.out;have g3:=n2.out;have g4:=hk.out;have g5:=e2.out;exact⟨k,r+y1n,x-1,z+y1,⟨by omega,i1.out⟩,by omega,by omega,by omega,by omega,rfl,rfl⟩
       case measure=>simp[intOf];omega
      ·have e1:Hid (x-1=Q0):=by
        have g1:=HX.out;have g2:=HZ.out;have g3:=n9.out;have g4:=n7.out;have g5:=n1.out;have g6:=n2.out;have g7:=n3.out;have g8:=hk.out;have g9:=e2.out;have g10:=n5.out
        have e:k=Q0n:=Nat.le_antisymm (HQ0.out▸qba HY.out (by omega) i1.out (qbG HY.out (by omega) (by omega) i1.out (by omega))) (by omega)
        exact Lib.hid (by omega)
       have e0:=Lib.hid e1.out
       have r14:IntKind.u64.wrap (IntKind.u64.wrap (IntKind.u64.wrap (V*4294967296)+l0)-IntKind.u64.wrap ((x-1)*Y))=R:=by rw[e1.out];exact R14.out
       have f1:0≤(x-1)∧(x-1)<4294967296:=by have:=e1.out;omega
       obtain⟨f2,f3⟩:=f1
       go_wp2
       go_ret2
       exact⟨qbm (by have:=e1.out;have:=E1.out;omega) rfl,rfl⟩
end Go.Proofs.YtleaeldgaflmkaaGreat
