/-
  ClockGoes holds of a package clock that does what the reference does (Prog9). Conditions: Prog9, to be shown of the code. Conditions: none.
-/
import Derived.Test.YtkjaanhddkkodaaGreatW46
import Derived.Test.YtkjaanhddkkodaaGreatW18
namespace Go.Proofs.YtkjaanhddkkodaaGreat
set_option maxRecDepth 100000
open Go.RowKit
theorem qpL (H:Prog9) {c:Ck} {s:List Pt} {tn td:Int} (htn:I64 tn) (htd:I64 td) (h1:I64 c.tn) (h2:I64 c.td) (hi:∀ y∈c.ev,EvI y) :
 Fn 5 9 [qan c,.pv (qab tn td),qaB 8 s] (qaq c++[(8,0,qam s)]) (.pv (.bool true)) 0 []:=by
 rcases qhZ s with ⟨_,hgf⟩ | ⟨hls,hgf⟩
 ·exact qBB (hgf:=hgf)
 ·have hgc:=qk4 c
  cases e:qil c
  ·rw[e] at hgc
   obtain⟨S,_,_,hs⟩:=qn0 e h1 h2 hi
   have TW:=qig S (by omega)
   have TF:=qe0 (l:=s) (by omega)
   have hs4:=qkV S (by omega)
   have hs5:=qmT (l:=s) (by omega)
   have hz:Pure Tryz.prog 23 #[qbv,qbv] (.bool true):=qt3
   have F:(∃ e1,qoS 19 c tn td e1∧qoS 33 c tn td e1)∨(∃ y p o,qyJ 19 c tn td y p o∧qyJ 33 c tn td y p o∧Fn 23 16 [qan o,qdy o] (qaq o++qbu o) (.pv (.bool true)) 0 []):=by
    by_cases h0:faE c tn td=0
    ·obtain⟨V,hd⟩:=qDQ h0
     obtain⟨y,p,o,ho⟩:=qow V hd
     obtain⟨Vo,w1,w2,_⟩:=V.failed_ok h1 h2 ho
     have w3:o.s=c.s:=by
      obtain⟨_,_,_,g,hg,rfl⟩:=ho
      exact (qm1 hg).2.2
     exact Or.inr ⟨y,p,o,(H.fail S hs htn htd).2 h0 y p o ho,(qf8 S htn htd).2 h0 y p o ho,qkV (Vo.small w1 w2) (by rw[w3];omega)⟩
    ·exact Or.inl ⟨_,(H.fail S hs htn htd).1 h0,(qf8 S htn htd).1 h0⟩
   have M:(∃ e2,qnr 20 c tn td e2∧qnr 34 c tn td e2)∨(qBr 20 c tn td∧qBr 34 c tn td∧Fn 23 16 [qan { c with tn:=tn,td:=td },qdy { c with tn:=tn,td:=td }] (qaq c++qbu c) (.pv (.bool true)) 0 []):=by
    by_cases h0:moE c tn td=0
    ·have V:=qGt h0
     have Vo:=V.move_ok h1 h2 htn htd h0
     exact Or.inr ⟨(H.move S hs htn htd).2 h0,(qhI S htn htd).2 h0,qkV (c:={ c with tn:=tn,td:=td }) (Vo.small htn htd) (show c.s.length≤1000000 by omega)⟩
    ·exact Or.inl ⟨_,(H.move S hs htn htd).1 h0,(qhI S htn htd).1 h0⟩
   have A:(∃ e3,qhy 21 c s e3∧qhy 35 c s e3)∨(∃ o,qyy 21 c s o∧qyy 35 c s o∧Fn 23 16 [qan (alC c s o),qdy (alC c s o)] (qaq (alC c s o)++qbu (alC c s o)) (.pv (.bool true)) 0 []):=by
    by_cases h0:qd4 c s=0
    ·have P:=qGd S h0
     obtain⟨r,hr⟩:=qh7 P c.l { c with d:=[] } (fun _ h=>h) P.V.v.up.nodup (qe6 P)
     obtain⟨A1,A2⟩:=(H.alter S hs s (by omega)).2 h0 r hr
     obtain⟨B1,B2⟩:=(qgF S s).2 h0 r hr
     cases r with
     | none=>exact Or.inl ⟨18,A2 rfl,B2 rfl⟩
     | some o=>exact Or.inr ⟨o,A1 o rfl,B1 o rfl,qkV ((V9.alter_ok P hr).small h1 h2) (show s.length≤1000000 by omega)⟩
    ·exact Or.inl ⟨_,(H.alter S hs s (by omega)).1 h0,(qgF S s).1 h0⟩
   rcases F with ⟨e1,hf,hg⟩ | ⟨y,p,o1,hf,hg,hs1⟩<;>rcases M with ⟨e2,hm,hn⟩ | ⟨hm,hn,hs2⟩<;>rcases A with ⟨e3,ha,hb⟩ | ⟨o3,ha,hb,hs3⟩
   ·exact qyc (hgf:=hgf) (hgc:=hgc) (htw:=TW) (htf:=TF) (hf:=hf) (hg:=hg) (hm:=hm) (hn:=hn) (ha:=ha) (hb:=hb) (hz:=hz) (hs4:=hs4) (hs5:=hs5)
   ·exact quP (hgf:=hgf) (hgc:=hgc) (htw:=TW) (htf:=TF) (hf:=hf) (hg:=hg) (hm:=hm) (hn:=hn) (ha:=ha) (hb:=hb) (hz:=hz) (hs3:=hs3) (hs4:=hs4) (hs5:=hs5)
   ·exact quz (hgf:=hgf) (hgc:=hgc) (htw:=TW) (htf:=TF) (hf:=hf) (hg:=hg) (hm:=hm) (hn:=hn) (ha:=ha) (hb:=hb) (hz:=hz) (hs2:=hs2) (hs4:=hs4) (hs5:=hs5)
   ·exact qwP (hgf:=hgf) (hgc:=hgc) (htw:=TW) (htf:=TF) (hf:=hf) (hg:=hg) (hm:=hm) (hn:=hn) (ha:=ha) (hb:=hb) (hz:=hz) (hs2:=hs2) (hs3:=hs3) (hs4:=hs4) (hs5:=hs5)
   ·exact qxj (hgf:=hgf) (hgc:=hgc) (htw:=TW) (htf:=TF) (hf:=hf) (hg:=hg) (hm:=hm) (hn:=hn) (ha:=ha) (hb:=hb) (hz:=hz) (hs1:=hs1) (hs4:=hs4) (hs5:=hs5)
   ·exact qx8 (hgf:=hgf) (hgc:=hgc) (htw:=TW) (htf:=TF) (hf:=hf) (hg:=hg) (hm:=hm) (hn:=hn) (ha:=ha) (hb:=hb) (hz:=hz) (hs1:=hs1) (hs3:=hs3) (hs4:=hs4) (hs5:=hs5)
   ·exact qxl (hgf:=hgf) (hgc:=hgc) (htw:=TW) (htf:=TF) (hf:=hf) (hg:=hg) (hm:=hm) (hn:=hn) (ha:=ha) (hb:=hb) (hz:=hz) (hs1:=hs1) (hs2:=hs2) (hs4:=hs4) (hs5:=hs5)
   ·exact quQ (hgf:=hgf) (hgc:=hgc) (htw:=TW) (htf:=TF) (hf:=hf) (hg:=hg) (hm:=hm) (hn:=hn) (ha:=ha) (hb:=hb) (hs1:=hs1) (hs2:=hs2) (hs3:=hs3) (hs4:=hs4) (hs5:=hs5)
  ·rw[e] at hgc
   exact qyZ (hgf:=hgf) (hgc:=hgc)
end Go.Proofs.YtkjaanhddkkodaaGreat
