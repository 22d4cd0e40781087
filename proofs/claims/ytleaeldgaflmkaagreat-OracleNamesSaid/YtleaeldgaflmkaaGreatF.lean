/-
  checkBoth, result, Asked, Make and Of of package ratio, and the reference's, return what plain numbers say, in whatever world. Conditions: none.
-/
import Derived.Test.YtleaeldgaflmkaaGreatW2
import Derived.BigGuardPart
namespace Go.Proofs.YtleaeldgaflmkaaGreat
set_option maxRecDepth 100000
open Go.RowKit
theorem Gr.cells {a w:World} (h:Gr a w):∀ b o,b<a.heap.size→w.cell? ⟨b,o,none⟩=a.cell? ⟨b,o,none⟩:=fun b o hb=>h.cell b o hb
theorem Gr.marks {a w:World} (h:Gr a w):∀ b o,b<a.heap.size→w.frozen? ⟨b,o,none⟩=a.frozen? ⟨b,o,none⟩:=fun b o hb=>h.2.1 ⟨b,o,none⟩ hb
theorem qcG (n z:Int) (w:World) (hz:z=n.natAbs) (h0 : -9223372036854775808≤n) (h1:n≤9223372036854775807) :
 Calls Tryz.prog 67 #[.int .i64 n] w fun e w'=>e=.returned (.int .u64 z)∧w=w':=hz▸qcR n w h0 h1
theorem qdU (a b:Nat) (x y g:Int) (w:World) (hx:x=a) (hy:y=b) (hg:g=(Nat.gcd a b:Nat)) (ha:a<18446744073709551616) (hb:b<18446744073709551616) :
 Calls Tryz.prog 86 #[.int .u64 x,.int .u64 y] w fun e w'=>e=.returned (.int .u64 g)∧Gr w w':=by subst hx hy hg;exact qkg a b w ha hb
theorem qdC (n:Nat) (x:Int) (b:Bool) (w:World) (hx:x=n) (h1:n<18446744073709551616) :
 Calls Tryz.prog 113 #[.int .u64 x,.bool b] w fun e w'=>e=.returned (.tuple #[.int .i64 (sgV n b),.bool (qaJ n)])∧w=w':=by subst hx;exact qk8 n b w h1
def qcq (b:Bool) (n:Int):Int:=if b then n else 0
def qf5 (b:Bool):Int:=if b then 0 else 16
set_option maxHeartbeats 400000 in
theorem qea (n d:Int) (b:Bool) (w:World) :
 Calls Tryz.prog 114 #[.int .i64 n,.int .i64 d,.bool b] w fun e w'=>e=.returned (.tuple #[.agg #[.int .i64 (qcq b n),.int .i64 (qcq b d)],.int .i64 (qf5 b)])∧Gr w w':=by
 cases b
 ·go_enter Tryz.func114,Tryz.ntmps114
  go_wp2
  exact bodyPost_ret (v:=.tuple #[.agg #[.int .i64 0,.int .i64 0],.int .i64 16]) (by simp[results,Tryz.results114,go_sem]) rfl ⟨rfl,(Gr.refl w).alloc _ _⟩
 ·go_enter Tryz.func114,Tryz.ntmps114
  go_wp2
  exact bodyPost_ret (v:=.tuple #[.agg #[.int .i64 n,.int .i64 d],.int .i64 0]) (by simp[results,Tryz.results114,go_sem]) rfl ⟨rfl,(Gr.refl w).alloc _ _⟩
def qet (a b c d:Int):Int:=if okB a b=true then ckE c d else 8
theorem qf6 {n d:Int} (h:okB n d=true):ckE n d=0:=by simp[ckE,h]
theorem qeO {n d:Int} (h:¬ okB n d=true):ckE n d=8:=by simp[ckE,h]
def I64 (n:Int):Prop:=-9223372036854775808≤n∧n≤9223372036854775807
set_option maxHeartbeats 400000 in
theorem qgN (a b c d:Int) (w:World) (ha:I64 a) (hb:I64 b) (hc:I64 c) (hd:I64 d) :
 Calls Tryz.prog 119 #[.agg #[.int .i64 a,.int .i64 b],.agg #[.int .i64 c,.int .i64 d]] w fun e w'=>e=.returned (.int .i64 (qet a b c d))∧Gr w w':=by
 have HA:=Lib.hid ha
 have HB:=Lib.hid hb
 have HC:=Lib.hid hc
 have HD:=Lib.hid hd
 clear ha hb hc hd
 by_cases hk:okB a b=true
 ·have e0:qet a b c d=ckE c d:=by simp[qet,hk]
  have e1:=qf6 hk
  rw[e0]
  clear hk e0
  have n01:w.heap.size<w.heap.size+1+1:=by omega
  have n02:w.heap.size<w.heap.size+1+1+1:=by omega
  have n12:w.heap.size+1<w.heap.size+1+1+1:=by omega
  go_enter Tryz.func119,Tryz.ntmps119
  go_wp2_with fail
  refine (qbo _ _ _ HA.out.1 HA.out.2 HB.out.1 HB.out.2).mono ?_
  rintro e w1 ⟨rfl,hgw1⟩
  have hcw1:=Gr.cells hgw1
  have hfw1:=Gr.marks hgw1
  have hzzw1:=Gr.size hgw1
  try simp at hzzw1
  have hzw10:w.heap.size<w1.heap.size:=by omega
  have hzw11:w.heap.size+1<w1.heap.size:=by omega
  clear hzzw1
  go_wp2_with fail
  refine (qbo _ _ _ HC.out.1 HC.out.2 HD.out.1 HD.out.2).mono ?_
  rintro e w2 ⟨rfl,hgw2⟩
  have hcw2:=Gr.cells hgw2
  have hfw2:=Gr.marks hgw2
  have hzzw2:=Gr.size hgw2
  try simp at hzzw2
  have hzw20:w.heap.size<w2.heap.size:=by omega
  have hzw21:w.heap.size+1<w2.heap.size:=by omega
  clear hzzw2
  go_wp2
  go_ret
  refine⟨rfl,?_⟩
  repeat (first | exact Gr.refl _ | apply Gr.alloc | apply Gr.drewN | apply Gr.drew | (refine Gr.setCell ?_ (by simp) _) | (refine Gr.trans ?_ (by assumption)))
 ·have e0:qet a b c d=8:=by simp[qet,hk]
  have e1:=qeO hk
  rw[e0]
  clear hk e0
  have n01:w.heap.size<w.heap.size+1+1:=by omega
  have n02:w.heap.size<w.heap.size+1+1+1:=by omega
  have n12:w.heap.size+1<w.heap.size+1+1+1:=by omega
  go_enter Tryz.func119,Tryz.ntmps119
  go_wp2_with fail
  refine (qbo _ _ _ HA.out.1 HA.out.2 HB.out.1 HB.out.2).mono ?_
  rintro e w1 ⟨rfl,hgw1⟩
  have hcw1:=Gr.cells hgw1
  have hfw1:=Gr.marks hgw1
  have hzzw1:=Gr.size hgw1
  try simp at hzzw1
  have hzw10:w.heap.size<w1.heap.size:=by omega
  have hzw11:w.heap.size+1<w1.heap.size:=by omega
  clear hzzw1
  go_wp2
  go_ret
  refine⟨rfl,?_⟩
  repeat (first | exact Gr.refl _ | apply Gr.alloc | apply Gr.drewN | apply Gr.drew | (refine Gr.setCell ?_ (by simp) _) | (refine Gr.trans ?_ (by assumption)))
set_option maxHeartbeats 400000 in
theorem qk0 (a b c d:Int) (w:World) (ha:I64 a) (hb:I64 b) (hc:I64 c) (hd:I64 d) :
 Calls Tryz.prog 63 #[.agg #[.int .i64 a,.int .i64 b],.agg #[.int .i64 c,.int .i64 d]] w fun e w'=>e=.returned (.int .i64 (qet a b c d))∧Gr w w':=by
 have HA:=Lib.hid ha
 have HB:=Lib.hid hb
 have HC:=Lib.hid hc
 have HD:=Lib.hid hd
 clear ha hb hc hd
 by_cases hk:okB a b=true
 ·have e0:qet a b c d=ckE c d:=by simp[qet,hk]
  have e1:=qf6 hk
  rw[e0]
  clear hk e0
  have n01:w.heap.size<w.heap.size+1+1:=by omega
  have n02:w.heap.size<w.heap.size+1+1+1:=by omega
  have n12:w.heap.size+1<w.heap.size+1+1+1:=by omega
  go_enter Tryz.func63,Tryz.ntmps63
  go_wp2_with fail
  refine (qaM _ _ _ HA.out.1 HA.out.2 HB.out.1 HB.out.2).mono ?_
  rintro e w1 ⟨rfl,hgw1⟩
  have hcw1:=Gr.cells hgw1
  have hfw1:=Gr.marks hgw1
  have hzzw1:=Gr.size hgw1
  try simp at hzzw1
  have hzw10:w.heap.size<w1.heap.size:=by omega
  have hzw11:w.heap.size+1<w1.heap.size:=by omega
  clear hzzw1
  go_wp2_with fail
  refine (qaM _ _ _ HC.out.1 HC.out.2 HD.out.1 HD.out.2).mono ?_
  rintro e w2 ⟨rfl,hgw2⟩
  have hcw2:=Gr.cells hgw2
  have hfw2:=Gr.marks hgw2
  have hzzw2:=Gr.size hgw2
  try simp at hzzw2
  have hzw20:w.heap.size<w2.heap.size:=by omega
  have hzw21:w.heap.size+1<w2.heap.size:=by omega
  clear hzzw2
  go_wp2
  go_ret
  refine⟨rfl,?_⟩
  repeat (first | exact Gr.refl _ | apply Gr.alloc | apply Gr.drewN | apply Gr.drew | (refine Gr.setCell ?_ (by simp) _) | (refine Gr.trans ?_ (by assumption)))
 ·have e0:qet a b c d=8:=by simp[qet,hk]
  have e1:=qeO hk
  rw[e0]
  clear hk e0
  have n01:w.heap.size<w.heap.size+1+1:=by omega
  have n02:w.heap.size<w.heap.size+1+1+1:=by omega
  have n12:w.heap.size+1<w.heap.size+1+1+1:=by omega
  go_enter Tryz.func63,Tryz.ntmps63
  go_wp2_with fail
  refine (qaM _ _ _ HA.out.1 HA.out.2 HB.out.1 HB.out.2).mono ?_
  rintro e w1 ⟨rfl,hgw1⟩
  have hcw1:=Gr.cells hgw1
  have hfw1:=Gr.marks hgw1
  have hzzw1:=Gr.size hgw1
  try simp at hzzw1
  have hzw10:w.heap.size<w1.heap.size:=by omega
  have hzw11:w.heap.size+1<w1.heap.size:=by omega
  clear hzzw1
  go_wp2_with fail
  refine (qaM _ _ _ HA.out.1 HA.out.2 HB.out.1 HB.out.2).mono ?_
  rintro e w2 ⟨rfl,hgw2⟩
  have hcw2:=Gr.cells hgw2
  have hfw2:=Gr.marks hgw2
  have hzzw2:=Gr.size hgw2
  try simp at hzzw2
  have hzw20:w.heap.size<w2.heap.size:=by omega
  have hzw21:w.heap.size+1<w2.heap.size:=by omega
  clear hzzw2
  go_wp2
  go_ret
  refine⟨rfl,?_⟩
  repeat (first | exact Gr.refl _ | apply Gr.alloc | apply Gr.drewN | apply Gr.drew | (refine Gr.setCell ?_ (by simp) _) | (refine Gr.trans ?_ (by assumption)))
def qdk (n d:Int):Int:=if okB n d=true then (if n≤1073741824∧-1073741824≤n∧d≤1024 then 0 else 2) else 8
theorem qgJ {n d:Int} (h:¬ okB n d=true):qdk n d=8:=by simp[qdk,h]
theorem qcS {n d:Int} (h:okB n d=true) (g:¬ (n≤1073741824∧-1073741824≤n∧d≤1024)):qdk n d=2:=by rw[qdk,if_pos h,if_neg g]
theorem qim {n d:Int} (h:okB n d=true) (g:n≤1073741824∧-1073741824≤n∧d≤1024):qdk n d=0:=by rw[qdk,if_pos h,if_pos g]
set_option maxHeartbeats 400000 in
theorem qb1 (n d:Int) (w:World) (hn:I64 n) (hd:I64 d) :
 Calls Tryz.prog 40 #[.agg #[.int .i64 n,.int .i64 d]] w fun e w'=>e=.returned (.int .i64 (qdk n d))∧Gr w w':=by
 have HN:=Lib.hid hn
 have HD:=Lib.hid hd
 clear hn hd
 by_cases hk:okB n d=true
 ·have e1:=qf6 hk
  have HK:=Lib.hid hk
  clear hk
  obtain⟨z,hz⟩:∃ z:Int,z=n.natAbs:=⟨_,rfl⟩
  have HZ:=Lib.hid hz
  clear hz
  by_cases h1:1073741824<z
  ·have t1:decide (1073741824<z)=true:=by simpa using h1
   rw[qcS HK.out (by have:=HZ.out;omega)]
   have n01:w.heap.size<w.heap.size+1+1:=by omega
   have n02:w.heap.size<w.heap.size+1+1+1:=by omega
   have n12:w.heap.size+1<w.heap.size+1+1+1:=by omega
   go_enter Tryz.func40,Tryz.ntmps40
   go_wp2_with fail
   refine (qbo _ _ _ HN.out.1 HN.out.2 HD.out.1 HD.out.2).mono ?_
   rintro e w1 ⟨rfl,hgw1⟩
   have hcw1:=Gr.cells hgw1
   have hfw1:=Gr.marks hgw1
   have hzzw1:=Gr.size hgw1
   try simp at hzzw1
   have hzw10:w.heap.size<w1.heap.size:=by omega
   clear hzzw1
   go_wp2_with ((go_at_call 67;refine (qcG n z _ HZ.out HN.out.1 HN.out.2).mono ?_;rintro e w' ⟨rfl,rfl⟩))
   go_ret
   refine⟨rfl,?_⟩
   repeat (first | exact Gr.refl _ | apply Gr.alloc | apply Gr.drewN | apply Gr.drew | (refine Gr.setCell ?_ (by simp) _) | (refine Gr.trans ?_ (by assumption)))
  ·have t1:decide (1073741824<z)=false:=by simpa using h1
   by_cases h2:1024<d
   ·rw[qcS HK.out (by omega)]
    have n01:w.heap.size<w.heap.size+1+1:=by omega
    have n02:w.heap.size<w.heap.size+1+1+1:=by omega
    have n12:w.heap.size+1<w.heap.size+1+1+1:=by omega
    go_enter Tryz.func40,Tryz.ntmps40
    go_wp2_with fail
    refine (qbo _ _ _ HN.out.1 HN.out.2 HD.out.1 HD.out.2).mono ?_
    rintro e w1 ⟨rfl,hgw1⟩
    have hcw1:=Gr.cells hgw1
    have hfw1:=Gr.marks hgw1
    have hzzw1:=Gr.size hgw1
    try simp at hzzw1
    have hzw10:w.heap.size<w1.heap.size:=by omega
    clear hzzw1
    go_wp2_with ((go_at_call 67;refine (qcG n z _ HZ.out HN.out.1 HN.out.2).mono ?_;rintro e w' ⟨rfl,rfl⟩))
    go_ret
    refine⟨rfl,?_⟩
    repeat (first | exact Gr.refl _ | apply Gr.alloc | apply Gr.drewN | apply Gr.drew | (refine Gr.setCell ?_ (by simp) _) | (refine Gr.trans ?_ (by assumption)))
   ·rw[qim HK.out (by have:=HZ.out;omega)]
    have n01:w.heap.size<w.heap.size+1+1:=by omega
    have n02:w.heap.size<w.heap.size+1+1+1:=by omega
    have n12:w.heap.size+1<w.heap.size+1+1+1:=by omega
    go_enter Tryz.func40,Tryz.ntmps40
    go_wp2_with fail
    refine (qbo _ _ _ HN.out.1 HN.out.2 HD.out.1 HD.out.2).mono ?_
    rintro e w1 ⟨rfl,hgw1⟩
    have hcw1:=Gr.cells hgw1
    have hfw1:=Gr.marks hgw1
    have hzzw1:=Gr.size hgw1
    try simp at hzzw1
    have hzw10:w.heap.size<w1.heap.size:=by omega
    clear hzzw1
    go_wp2_with ((go_at_call 67;refine (qcG n z _ HZ.out HN.out.1 HN.out.2).mono ?_;rintro e w' ⟨rfl,rfl⟩))
    go_ret
    refine⟨rfl,?_⟩
    repeat (first | exact Gr.refl _ | apply Gr.alloc | apply Gr.drewN | apply Gr.drew | (refine Gr.setCell ?_ (by simp) _) | (refine Gr.trans ?_ (by assumption)))
 ·have e1:=qeO hk
  rw[qgJ hk]
  clear hk
  have n01:w.heap.size<w.heap.size+1+1:=by omega
  have n02:w.heap.size<w.heap.size+1+1+1:=by omega
  have n12:w.heap.size+1<w.heap.size+1+1+1:=by omega
  go_enter Tryz.func40,Tryz.ntmps40
  go_wp2_with fail
  refine (qbo _ _ _ HN.out.1 HN.out.2 HD.out.1 HD.out.2).mono ?_
  rintro e w1 ⟨rfl,hgw1⟩
  have hcw1:=Gr.cells hgw1
  have hfw1:=Gr.marks hgw1
  have hzzw1:=Gr.size hgw1
  try simp at hzzw1
  have hzw10:w.heap.size<w1.heap.size:=by omega
  clear hzzw1
  go_wp2
  go_ret
  refine⟨rfl,?_⟩
  repeat (first | exact Gr.refl _ | apply Gr.alloc | apply Gr.drewN | apply Gr.drew | (refine Gr.setCell ?_ (by simp) _) | (refine Gr.trans ?_ (by assumption)))
set_option maxHeartbeats 400000 in
theorem qe6 (n d:Int) (w:World) (hn:I64 n) (hd:I64 d) :
 Calls Tryz.prog 31 #[.agg #[.int .i64 n,.int .i64 d]] w fun e w'=>e=.returned (.int .i64 (qdk n d))∧Gr w w':=by
 have HN:=Lib.hid hn
 have HD:=Lib.hid hd
 clear hn hd
 by_cases hk:okB n d=true
 ·have e1:=qf6 hk
  have HK:=Lib.hid hk
  clear hk
  by_cases h1:1073741824<n
  ·have t1:decide (1073741824<n)=true:=by simpa using h1
   rw[qcS HK.out (by omega)]
   have n01:w.heap.size<w.heap.size+1+1:=by omega
   have n02:w.heap.size<w.heap.size+1+1+1:=by omega
   have n12:w.heap.size+1<w.heap.size+1+1+1:=by omega
   go_enter Tryz.func31,Tryz.ntmps31
   go_wp2_with fail
   refine (qaM _ _ _ HN.out.1 HN.out.2 HD.out.1 HD.out.2).mono ?_
   rintro e w1 ⟨rfl,hgw1⟩
   have hcw1:=Gr.cells hgw1
   have hfw1:=Gr.marks hgw1
   have hzzw1:=Gr.size hgw1
   try simp at hzzw1
   have hzw10:w.heap.size<w1.heap.size:=by omega
   clear hzzw1
   go_wp2
   go_ret
   refine⟨rfl,?_⟩
   repeat (first | exact Gr.refl _ | apply Gr.alloc | apply Gr.drewN | apply Gr.drew | (refine Gr.setCell ?_ (by simp) _) | (refine Gr.trans ?_ (by assumption)))
  ·have t1:decide (1073741824<n)=false:=by simpa using h1
   by_cases h3:n < -1073741824
   ·have t3:decide (n < -1073741824)=true:=by simpa using h3
    rw[qcS HK.out (by omega)]
    have n01:w.heap.size<w.heap.size+1+1:=by omega
    have n02:w.heap.size<w.heap.size+1+1+1:=by omega
    have n12:w.heap.size+1<w.heap.size+1+1+1:=by omega
    go_enter Tryz.func31,Tryz.ntmps31
    go_wp2_with fail
    refine (qaM _ _ _ HN.out.1 HN.out.2 HD.out.1 HD.out.2).mono ?_
    rintro e w1 ⟨rfl,hgw1⟩
    have hcw1:=Gr.cells hgw1
    have hfw1:=Gr.marks hgw1
    have hzzw1:=Gr.size hgw1
    try simp at hzzw1
    have hzw10:w.heap.size<w1.heap.size:=by omega
    clear hzzw1
    go_wp2
    go_ret
    refine⟨rfl,?_⟩
    repeat (first | exact Gr.refl _ | apply Gr.alloc | apply Gr.drewN | apply Gr.drew | (refine Gr.setCell ?_ (by simp) _) | (refine Gr.trans ?_ (by assumption)))
   ·have t3:decide (n < -1073741824)=false:=by simpa using h3
    by_cases h2:1024<d
    ·rw[qcS HK.out (by omega)]
     have n01:w.heap.size<w.heap.size+1+1:=by omega
     have n02:w.heap.size<w.heap.size+1+1+1:=by omega
     have n12:w.heap.size+1<w.heap.size+1+1+1:=by omega
     go_enter Tryz.func31,Tryz.ntmps31
     go_wp2_with fail
     refine (qaM _ _ _ HN.out.1 HN.out.2 HD.out.1 HD.out.2).mono ?_
     rintro e w1 ⟨rfl,hgw1⟩
     have hcw1:=Gr.cells hgw1
     have hfw1:=Gr.marks hgw1
     have hzzw1:=Gr.size hgw1
     try simp at hzzw1
     have hzw10:w.heap.size<w1.heap.size:=by omega
     clear hzzw1
     go_wp2
     go_ret
     refine⟨rfl,?_⟩
     repeat (first | exact Gr.refl _ | apply Gr.alloc | apply Gr.drewN | apply Gr.drew | (refine Gr.setCell ?_ (by simp) _) | (refine Gr.trans ?_ (by assumption)))
    ·rw[qim HK.out (by omega)]
     have n01:w.heap.size<w.heap.size+1+1:=by omega
     have n02:w.heap.size<w.heap.size+1+1+1:=by omega
     have n12:w.heap.size+1<w.heap.size+1+1+1:=by omega
     go_enter Tryz.func31,Tryz.ntmps31
     go_wp2_with fail
     refine (qaM _ _ _ HN.out.1 HN.out.2 HD.out.1 HD.out.2).mono ?_
     rintro e w1 ⟨rfl,hgw1⟩
     have hcw1:=Gr.cells hgw1
     have hfw1:=Gr.marks hgw1
     have hzzw1:=Gr.size hgw1
     try simp at hzzw1
     have hzw10:w.heap.size<w1.heap.size:=by omega
     clear hzzw1
     go_wp2
     go_ret
     refine⟨rfl,?_⟩
     repeat (first | exact Gr.refl _ | apply Gr.alloc | apply Gr.drewN | apply Gr.drew | (refine Gr.setCell ?_ (by simp) _) | (refine Gr.trans ?_ (by assumption)))
 ·have e1:=qeO hk
  rw[qgJ hk]
  clear hk
  have n01:w.heap.size<w.heap.size+1+1:=by omega
  have n02:w.heap.size<w.heap.size+1+1+1:=by omega
  have n12:w.heap.size+1<w.heap.size+1+1+1:=by omega
  go_enter Tryz.func31,Tryz.ntmps31
  go_wp2_with fail
  refine (qaM _ _ _ HN.out.1 HN.out.2 HD.out.1 HD.out.2).mono ?_
  rintro e w1 ⟨rfl,hgw1⟩
  have hcw1:=Gr.cells hgw1
  have hfw1:=Gr.marks hgw1
  have hzzw1:=Gr.size hgw1
  try simp at hzzw1
  have hzw10:w.heap.size<w1.heap.size:=by omega
  clear hzzw1
  go_wp2_with fail
  refine (qaM _ _ _ HN.out.1 HN.out.2 HD.out.1 HD.out.2).mono ?_
  rintro e w2 ⟨rfl,hgw2⟩
  have hcw2:=Gr.cells hgw2
  have hfw2:=Gr.marks hgw2
  have hzzw2:=Gr.size hgw2
  try simp at hzzw2
  have hzw20:w.heap.size<w2.heap.size:=by omega
  clear hzzw2
  go_wp2
  go_ret
  refine⟨rfl,?_⟩
  repeat (first | exact Gr.refl _ | apply Gr.alloc | apply Gr.drewN | apply Gr.drew | (refine Gr.setCell ?_ (by simp) _) | (refine Gr.trans ?_ (by assumption)))
end Go.Proofs.YtleaeldgaflmkaaGreat
