/-
  Joined: Lu, Ba, Bb. Conditions: none.
-/
import Derived.Test.YtkjaanhddkkodaaGreatW43
import Derived.Test.YtkjaanhddkkodaaGreatW42
import Derived.Test.YtkjaanhddkkodaaGreatW18
import Derived.Test.YtkjaanhddkkodaaGreatW41
namespace Go.Proofs.YtkjaanhddkkodaaGreat
set_option maxRecDepth 100000
open Go.RowKit
abbrev qmU (f:FuncId) (s:List Pt) (tn td:Int):Prop:=Fn f 1 [qaC 0 s,.pv (qad tn td)] [(0,0,qao s)] (.tu [.ag [.pv (iV tn),.pv (iV td),.ls 1 s.length,.pv (iV 0),.ls 7 0,.ls 2 (qcA s tn td).u.length,.ls 3 (qcA s tn td).b.length,.ls 4 (qcA s tn td).fr.length,.ls 6 0,.ls 5 (qcA s tn td).wh.length,.ls 8 0],.one (.pv (iV 0))]) 8 [(8,0,qaX []),(7,0,qan []),(1,0,qao s),(2,0,zrI (qcA s tn td).u),(3,0,zrB (qcA s tn td).b),(4,0,zrI (qcA s tn td).fr),(5,0,zrI (qcA s tn td).wh),(6,0,qar [])]
theorem nw8 {f:FuncId} {s:List Pt} {tn td:Int} (h:qGw f s tn td):qmU f s tn td:=by
 have h1:=qjj 94 3 h (x':=.tu [.ag [.pv (iV tn),.pv (iV td),.ls 1 s.length,.pv (iV 0),.ls 7 0,.ls 2 (qcA s tn td).u.length,.ls 3 (qcA s tn td).b.length,.ls 4 (qcA s tn td).fr.length,.ls 6 0,.ls 5 (qcA s tn td).wh.length,.pv (.slice none 0 0)],.one (.pv (iV 0))])
  (.tu (.cons (.ag (.cons (.same _) (.cons (.same _) (.cons (.same _) (.cons (.same _) (.cons .nil (.cons (.same _) (.cons (.same _) (.cons (.same _) (.cons (.same _) (.cons (.same _) (.cons (.same _) .nil)))))))))))) (.cons (.one (.same _)) .nil)))
 exact qjj 54 3 h1 (.tu (.cons (.ag (.cons (.same _) (.cons (.same _) (.cons (.same _) (.cons (.same _) (.cons (.same _) (.cons (.same _) (.cons (.same _) (.cons (.same _) (.cons (.same _) (.cons (.same _) (.cons .nil .nil)))))))))))) (.cons (.one (.same _)) .nil)))
structure Prog9:Prop where
 new:∀ {s:List Pt} {tn td:Int},I64 tn→I64 td→(tE s tn td≠0→qou 10 s tn td (tE s tn td))∧(tE s tn td=0→qmU 10 s tn td)
 check:∀ {c:Ck},S9 c→c.s.length≤70→Fn 22 8 [qap c] (qas c) (.pv (iV (qn7 c))) 0 []
 certify:∀ {c:Ck},S9 c→c.s.length≤70→∀ a b,(cyE c a b≠0→qkT 16 c a b (cyE c a b))∧(cyE c a b=0→∀ o,qiS c a b o→qx3 16 c a b o)
 retire:∀ {c:Ck},S9 c→c.s.length≤70→∀ n,(reE c n≠0→qmJ 17 c n (reE c n))∧(reE c n=0→∀ o,qdR c n o→qy7 17 c n o)
 next:∀ {c:Ck},S9 c→c.s.length≤70→(¬ V9 c→Fn 18 8 [qap c] (qas c) (.pv (.tuple #[evZ,iV 8])) 0 [])∧(V9 c→c.ev=[]→Fn 18 8 [qap c] (qas c) (.pv (.tuple #[evZ,iV 42])) 0 [])∧(V9 c→∀ y,c.ev[0]?=some y→Fn 18 8 [qap c] (qas c) (.pv (.tuple #[qac y,iV 0])) 0 [])
 fail:∀ {c:Ck},S9 c→c.s.length≤70→∀ {tn td:Int},I64 tn→I64 td→(faE c tn td≠0→qB7 19 c tn td (faE c tn td))∧(faE c tn td=0→∀ y p o,qjQ c y p o→qGG 19 c tn td y p o)
 move:∀ {c:Ck},S9 c→c.s.length≤70→∀ {tn td:Int},I64 tn→I64 td→(moE c tn td≠0→qCC 20 c tn td (moE c tn td))∧(moE c tn td=0→qGt 20 c tn td)
 alter:∀ {c:Ck},S9 c→c.s.length≤70→∀ s:List Pt,s.length≤70→(qj5 c s≠0→qr4 21 c s (qj5 c s))∧(qj5 c s=0→∀ r,AlRun c s c.l { c with d:=[] } r→(∀ o,r=some o→qGy 21 c s o)∧(r=none→qr4 21 c s 18))
theorem qDU {c:Ck} {a b:Int} (h:cyE c a b=0):V9 c∧qcs a b=true∧(∃ q∈c.s,q.id=a)∧(∃ q∈c.s,q.id=b)∧adE c a b=0:=by
 unfold cyE at h
 split at h
 ·rename_i h1
  split at h
  ·rename_i h2
   exact⟨h1.1,h1.2,h2.1,h2.2,h⟩
  ·cases h
 ·cases h
theorem qEG {c:Ck} {n:Int} (h:reE c n=0):V9 c∧∃ p∈c.l,p.id=n:=by
 unfold reE at h
 split at h
 ·rename_i h1
  split at h
  ·rename_i h2;exact⟨h1,h2⟩
  ·cases h
 ·cases h
theorem qlj {s:List Pt} {tn td:Int} (h1:I64 tn) (h2:I64 td):S9 (qcA s tn td):=
 ⟨h1,h2,by simp,by simp,⟨by show (List.replicate 200 (0:Int)).length≤210;rw[List.length_replicate];omega,by show (List.replicate 200 false).length≤210;rw[List.length_replicate];omega,by rw[qaZ];omega,by simp,by show (List.replicate 200 (-1:Int)).length≤210;rw[List.length_replicate];omega,fun x hx=>by simp at hx⟩⟩
theorem qwp {c o:Ck} {a b:Int} (h:qiS c a b o):o.tn=c.tn∧o.td=c.td∧o.s=c.s:=by
 rcases h with ⟨_,rfl⟩ | ⟨_,_,_,_,_,_,_,rfl⟩<;>exact⟨rfl,rfl,rfl⟩
theorem qmC {c o:Ck} {n:Int} (h:qdR c n o):o.tn=c.tn∧o.td=c.td∧o.s=c.s:=by
 rcases h with ⟨_,rfl⟩ | ⟨_,_,_,_,_,_,_,_,_,_,rfl⟩<;>exact⟨rfl,rfl,rfl⟩
theorem qoq (H:Prog9) {c:Ck} {s:List Pt} {tn td:Int} (htn:I64 tn) (htd:I64 td) (h1:I64 c.tn) (h2:I64 c.td) (hi:∀ y∈c.ev,EvI y) (a b n:Int) :
 Fn 4 9 [qaC 8 s,.pv (qad tn td),qap c,.pv (qag a b),.pv (iV n)] (qas c++[(8,0,qao s)]) (.pv (.bool true)) 0 []:=by
 rcases qhp s with ⟨_,hgf⟩ | ⟨hls,hgf⟩
 ·exact qBy (hgf:=hgf)
 ·have hgc:=qk3 c
  cases e:qhG c
  ·rw[e] at hgc
   obtain⟨S,_,_,hs⟩:=qnQ e h1 h2 hi
   have TW:=qmQ S (by omega)
   have hs4:=qku S (by omega)
   have hk1:=H.check S hs
   have hk2:=qc1 S
   have N:(∃ e1,qou 10 s tn td e1∧qou 27 s tn td e1)∨(qmU 10 s tn td∧qmU 27 s tn td):=by
    by_cases h0:tE s tn td=0
    ·exact Or.inr ⟨(H.new htn htd).2 h0,nw8 ((qh5 htn htd).2 h0)⟩
    ·exact Or.inl ⟨_,(H.new htn htd).1 h0,(qh5 htn htd).1 h0⟩
   have hs1:=qku (qlj (s:=s) htn htd) (show s.length≤1000000 by omega)
   have C:(∃ e2,qkT 16 c a b e2∧qkT 28 c a b e2)∨(∃ o,qx3 16 c a b o∧qx3 28 c a b o∧Fn 23 16 [qap o,qfG o] (qas o++qbT o) (.pv (.bool true)) 0 []):=by
    by_cases h0:cyE c a b=0
    ·obtain⟨V,q1,q2,q3,q4⟩:=qDU h0
     obtain⟨o,ho⟩:=qE1 q4
     obtain⟨w1,w2,w3⟩:=qwp ho
     have So:=(V.new_ok S q1 q2 q3 q4 ho).small (by rw[w1];exact h1) (by rw[w2];exact h2)
     exact Or.inr ⟨o,(H.certify S hs a b).2 h0 o ho,(qez S a b).2 h0 o ho,qku So (by rw[w3];omega)⟩
    ·exact Or.inl ⟨_,(H.certify S hs a b).1 h0,(qez S a b).1 h0⟩
   have R:(∃ e3,qmJ 17 c n e3∧qmJ 29 c n e3)∨(∃ o,qy7 17 c n o∧qy7 29 c n o∧Fn 23 16 [qap o,qfG o] (qas o++qbT o) (.pv (.bool true)) 0 []):=by
    by_cases h0:reE c n=0
    ·obtain⟨V,_⟩:=qEG h0
     obtain⟨o,ho⟩:=qwx V n
     obtain⟨w1,w2,w3⟩:=qmC ho
     have So:=(V.gone_ok ho).small (by rw[w1];exact h1) (by rw[w2];exact h2)
     exact Or.inr ⟨o,(H.retire S hs n).2 h0 o ho,(qe7 S n).2 h0 o ho,qku So (by rw[w3];omega)⟩
    ·exact Or.inl ⟨_,(H.retire S hs n).1 h0,(qe7 S n).1 h0⟩
   have X:∃ y e4,Fn 18 8 [qap c] (qas c) (.pv (.tuple #[qac y,iV e4])) 0 []∧Fn 30 8 [qap c] (qas c) (.pv (.tuple #[qac y,iV e4])) 0 []:=by
    obtain⟨n1,n2,n3⟩:=H.next S hs
    by_cases V:V9 c
    ·cases hy:c.ev with
     | nil=>exact⟨Ev.mk 0 0 0 0 0,42,n2 V hy,qk5 S V hy⟩
     | cons y r=>
      have h0:c.ev[0]?=some y:=by rw[hy];rfl
      exact⟨y,0,n3 V y h0,ql8 S V h0⟩
    ·exact⟨Ev.mk 0 0 0 0 0,8,n1 V,qol S V⟩
   obtain⟨y,e4,hx,hy⟩:=X
   have hz:Pure Tryz.prog 23 #[qbz,qbz] (.bool true):=qun
   rcases N with ⟨e1,hn,hm⟩ | ⟨hn,hm⟩<;>rcases C with ⟨e2,hc,hd⟩ | ⟨o2,hc,hd,hs2⟩<;>rcases R with ⟨e3,hr,hq⟩ | ⟨o3,hr,hq,hs3⟩
   ·exact qxd (hgf:=hgf) (hgc:=hgc) (htw:=TW) (hn:=hn) (hm:=hm) (hc:=hc) (hd:=hd) (hr:=hr) (hq:=hq) (hx:=hx) (hy:=hy) (hz:=hz) (hk1:=hk1) (hk2:=hk2) (hs4:=hs4)
   ·exact quK (hgf:=hgf) (hgc:=hgc) (htw:=TW) (hn:=hn) (hm:=hm) (hc:=hc) (hd:=hd) (hr:=hr) (hq:=hq) (hx:=hx) (hy:=hy) (hz:=hz) (hk1:=hk1) (hk2:=hk2) (hs3:=hs3) (hs4:=hs4)
   ·exact qvP (hgf:=hgf) (hgc:=hgc) (htw:=TW) (hn:=hn) (hm:=hm) (hc:=hc) (hd:=hd) (hr:=hr) (hq:=hq) (hx:=hx) (hy:=hy) (hz:=hz) (hk1:=hk1) (hk2:=hk2) (hs2:=hs2) (hs4:=hs4)
   ·exact qvb (hgf:=hgf) (hgc:=hgc) (htw:=TW) (hn:=hn) (hm:=hm) (hc:=hc) (hd:=hd) (hr:=hr) (hq:=hq) (hx:=hx) (hy:=hy) (hz:=hz) (hk1:=hk1) (hk2:=hk2) (hs2:=hs2) (hs3:=hs3) (hs4:=hs4)
   ·exact qxw (o1:=qcA s tn td) (hgf:=hgf) (hgc:=hgc) (htw:=TW) (hn:=hn) (hm:=hm) (hc:=hc) (hd:=hd) (hr:=hr) (hq:=hq) (hx:=hx) (hy:=hy) (hz:=hz) (hk1:=hk1) (hk2:=hk2) (hs1:=hs1) (hs4:=hs4)
   ·exact qvr (o1:=qcA s tn td) (hgf:=hgf) (hgc:=hgc) (htw:=TW) (hn:=hn) (hm:=hm) (hc:=hc) (hd:=hd) (hr:=hr) (hq:=hq) (hx:=hx) (hy:=hy) (hz:=hz) (hk1:=hk1) (hk2:=hk2) (hs1:=hs1) (hs3:=hs3) (hs4:=hs4)
   ·exact qtG (o1:=qcA s tn td) (hgf:=hgf) (hgc:=hgc) (htw:=TW) (hn:=hn) (hm:=hm) (hc:=hc) (hd:=hd) (hr:=hr) (hq:=hq) (hx:=hx) (hy:=hy) (hz:=hz) (hk1:=hk1) (hk2:=hk2) (hs1:=hs1) (hs2:=hs2) (hs4:=hs4)
   ·exact qwY (o1:=qcA s tn td) (hgf:=hgf) (hgc:=hgc) (htw:=TW) (hn:=hn) (hm:=hm) (hc:=hc) (hd:=hd) (hr:=hr) (hq:=hq) (hx:=hx) (hy:=hy) (hk1:=hk1) (hk2:=hk2) (hs1:=hs1) (hs2:=hs2) (hs3:=hs3) (hs4:=hs4)
  ·rw[e] at hgc
   exact qCh (hgf:=hgf) (hgc:=hgc)
end Go.Proofs.YtkjaanhddkkodaaGreat

namespace Go.Proofs.YtkjaanhddkkodaaGreat
set_option maxRecDepth 100000
open Go.RowKit
theorem qAU {a pa pb n:Int} (n1:(!(a==a))=false) (n2:(!(n==n))=false) (h1:decide (a<n)=true) :
 Pure Tryz.prog 193 #[qae a pa pb,iV n] (iV (-1)):=
 qaf (args:=[qae a pa pb,iV n]) 300 [.k,.k,.t false,.k,.t false,.t true]
  (Ai rfl (Ai n1 (Ai n2 (Ai h1 tI)))) (by kernel_rfl)
theorem qAb {a pa pb n:Int} (n1:(!(a==a))=false) (n2:(!(n==n))=false) (h1:decide (a<n)=false) (h2:decide (a>n)=true) :
 Pure Tryz.prog 193 #[qae a pa pb,iV n] (iV (1)):=
 qaf (args:=[qae a pa pb,iV n]) 300 [.k,.k,.t false,.k,.t false,.t false,.t true]
  (Ai rfl (Ai n1 (Ai n2 (Ai h1 (Ai h2 tI))))) (by kernel_rfl)
theorem qCD {a pa pb n:Int} (n1:(!(a==a))=false) (n2:(!(n==n))=false) (h1:decide (a<n)=false) (h2:decide (a>n)=false) :
 Pure Tryz.prog 193 #[qae a pa pb,iV n] (iV (0)):=
 qaf (args:=[qae a pa pb,iV n]) 300 [.k,.k,.t false,.k,.t false,.t false,.t false]
  (Ai rfl (Ai n1 (Ai n2 (Ai h1 (Ai h2 tI))))) (by kernel_rfl)
abbrev qDq (i:Nat) (j:Nat) (l:List Pt) (n:Int):TmL:=[(0,.ls 0 l.length),(1,.pv (iV n)),(2,.pv (.func (.func 193) #[] #[])),(8,.pv (iV (l.length:Int))),(9,.pv (iV (i:Int))),(10,.pv (iV (j:Int)))]
abbrev qp0 (c:Int) (n:Int) (p:Pt):Prop:=Pure Tryz.prog 193 #[qae p.id p.a p.b,iV n] (iV (c))
theorem qBj {l:List Pt} {i j h:Nat} {p:Pt} {c n:Int} (hk:l[h]?=some p) (hin:0≤(h:Int)∧(h:Int)<(l.length:Int)) (hlt:decide ((i:Int)<(j:Int))=true) (ha:iV (IntKind.i64.wrap ((i:Int)+(j:Int)))=iV ((i:Int)+(j:Int))) (hu:Value.int .u64 (IntKind.u64.wrap ((i:Int)+(j:Int)))=.int .u64 ((i:Int)+(j:Int))) (h1:¬ (1:Int)<0) (hs:Value.int .u64 (((i:Int)+(j:Int)).fdiv (2 ^ (min (1:Int).toNat IntKind.u64.bits)))=.int .u64 (h:Int)) (hb:iV (IntKind.i64.wrap (h:Int))=iV (h:Int)) (hc:qp0 c n p) (hz:decide (c<0)=true) (hh:iV (IntKind.i64.wrap ((h:Int)+1))=iV (((h+1:Nat):Int))) {e:Exit} {tm2:TmL} {hp2:HpL}
 (r:Rl 1 1 192 0 49 1 ([(0,.ls 0 l.length),(1,.pv (iV n)),(2,.pv (.func (.func 193) #[] #[])),(8,.pv (iV (l.length:Int))),(9,.pv (iV ((h+1:Nat):Int))),(10,.pv (iV (j:Int)))]) ([(0,0,qao l)]) e tm2 hp2):Rl 1 1 192 0 49 1 (qDq i j l n) ([(0,0,qao l)]) e tm2 hp2:=
 RunsL.next [] 300 [.t true,Re ha,Re hu,.r (.int .u64 (h:Int)),Re hb,.r (ptV p),Rf hc,.t true,Re hh]
  (qab (Ai hlt (Ai ha (Ai hu (Ai h1 (Ai hs (Ai hb (Ai hin (Ai (qaR hk) (Ai hc (Ai hz (Ai hh tI))))))))))) (by kernel_rfl)) r
theorem qCj {l:List Pt} {i j h:Nat} {p:Pt} {c n:Int} (hk:l[h]?=some p) (hin:0≤(h:Int)∧(h:Int)<(l.length:Int)) (hlt:decide ((i:Int)<(j:Int))=true) (ha:iV (IntKind.i64.wrap ((i:Int)+(j:Int)))=iV ((i:Int)+(j:Int))) (hu:Value.int .u64 (IntKind.u64.wrap ((i:Int)+(j:Int)))=.int .u64 ((i:Int)+(j:Int))) (h1:¬ (1:Int)<0) (hs:Value.int .u64 (((i:Int)+(j:Int)).fdiv (2 ^ (min (1:Int).toNat IntKind.u64.bits)))=.int .u64 (h:Int)) (hb:iV (IntKind.i64.wrap (h:Int))=iV (h:Int)) (hc:qp0 c n p) (hz:decide (c<0)=false) {e:Exit} {tm2:TmL} {hp2:HpL}
 (r:Rl 1 1 192 0 49 1 ([(0,.ls 0 l.length),(1,.pv (iV n)),(2,.pv (.func (.func 193) #[] #[])),(8,.pv (iV (l.length:Int))),(9,.pv (iV (i:Int))),(10,.pv (iV (h:Int)))]) ([(0,0,qao l)]) e tm2 hp2):Rl 1 1 192 0 49 1 (qDq i j l n) ([(0,0,qao l)]) e tm2 hp2:=
 RunsL.next [] 300 [.t true,Re ha,Re hu,.r (.int .u64 (h:Int)),Re hb,.r (ptV p),Rf hc,.t false]
  (qab (Ai hlt (Ai ha (Ai hu (Ai h1 (Ai hs (Ai hb (Ai hin (Ai (qaR hk) (Ai hc (Ai hz tI)))))))))) (by kernel_rfl)) r
theorem qna {l:List Pt} {i j:Nat} {n:Int} (hge:decide ((i:Int)<(j:Int))=false):Rl 1 1 192 0 49 1 (qDq i j l n) ([(0,0,qao l)]) (.exit 0) (qDq i j l n) ([(0,0,qao l)]):=
 RunsL.stop [] 300 [.t false] (fun h=>by cases h)
  (qab (Ai hge tI) (by kernel_rfl))
abbrev qER (k:Nat) (l:List Pt) (n:Int):Prop:=Rl 1 1 192 0 49 1 ([(0,.ls 0 l.length),(1,.pv (iV n)),(2,.pv (.func (.func 193) #[] #[])),(8,.pv (iV (l.length:Int))),(9,.pv (iV ((0:Nat):Int))),(10,.pv (iV (l.length:Int)))]) ([(0,0,qao l)]) (.exit 0) ([(0,.ls 0 l.length),(1,.pv (iV n)),(2,.pv (.func (.func 193) #[] #[])),(8,.pv (iV (l.length:Int))),(9,.pv (iV (k:Int))),(10,.pv (iV (k:Int)))]) ([(0,0,qao l)])
theorem qxk {l:List Pt} {k:Nat} {n:Int} (r0:qER k l n) (hge:decide ((k:Int)<(l.length:Int))=false) :
 Fn 192 1 [.ls 0 l.length,.pv (iV (n)),.pv (.func (.func 193) #[] #[])] [(0,0,qao l)] (.pv (.tuple #[iV (k:Int),.bool false])) 0 []:=
 qaa 300 [] [Lf r0,.t false]
  tI (Lo r0 [] (Ai hge tI)) (by kernel_rfl)
theorem qw9 {l:List Pt} {k:Nat} {p:Pt} {c:Int} {n:Int} (r0:qER k l n) (hk:l[k]?=some p) (hin:0≤(k:Int)∧(k:Int)<(l.length:Int)) (hlt:decide ((k:Int)<(l.length:Int))=true) (hc:qp0 c n p) (hz:(c==0)=true) :
 Fn 192 1 [.ls 0 l.length,.pv (iV (n)),.pv (.func (.func 193) #[] #[])] [(0,0,qao l)] (.pv (.tuple #[iV (k:Int),.bool true])) 0 []:=
 qaa 300 [] [Lf r0,.t true,.r (ptV p),Rf hc,.t true]
  tI (Lo r0 [] (Ai hlt (Ai hin (Ai (qaR hk) (Ai hc (Ai hz tI)))))) (by kernel_rfl)
theorem qBv {l:List Pt} {k:Nat} {p:Pt} {c:Int} {n:Int} (r0:qER k l n) (hk:l[k]?=some p) (hin:0≤(k:Int)∧(k:Int)<(l.length:Int)) (hlt:decide ((k:Int)<(l.length:Int))=true) (hc:qp0 c n p) (hz:(c==0)=false) :
 Fn 192 1 [.ls 0 l.length,.pv (iV (n)),.pv (.func (.func 193) #[] #[])] [(0,0,qao l)] (.pv (.tuple #[iV (k:Int),.bool false])) 0 []:=
 qaa 300 [] [Lf r0,.t true,.r (ptV p),Rf hc,.t false]
  tI (Lo r0 [] (Ai hlt (Ai hin (Ai (qaR hk) (Ai hc (Ai hz tI)))))) (by kernel_rfl)
theorem qo8 {s:List Pt} {p:Pt} {k:Nat} {n:Int} (hb:Fn 192 1 [.ls 0 s.length,.pv (iV (n)),.pv (.func (.func 193) #[] #[])] [(0,0,qao s)] (.pv (.tuple #[iV (k:Int),.bool true])) 0 []) (hk:s[k]?=some p) (hin:0≤(k:Int)∧(k:Int)<(s.length:Int)) :
 Fn 147 1 [qaC 0 s,.pv (iV (n))] [(0,0,qao s)] (.pv (.tuple #[ptV p,.bool true])) 0 []:=
 qaa 300 [] [Cf hb [0],.k,.r (ptV p)]
  tI (Co hb [0] 3 (Ai hin (Ai (qaR hk) tI))) (by kernel_rfl)
theorem qAu {s:List Pt} {k:Nat} {n:Int} (hb:Fn 192 1 [.ls 0 s.length,.pv (iV (n)),.pv (.func (.func 193) #[] #[])] [(0,0,qao s)] (.pv (.tuple #[iV (k:Int),.bool false])) 0 []) :
 Fn 147 1 [qaC 0 s,.pv (iV (n))] [(0,0,qao s)] (.pv (.tuple #[ptV (Pt.mk 0 0 0),.bool false])) 0 []:=
 qaa 300 [] [Cf hb [0],.k]
  tI (Co hb [0] 3 tI) (by kernel_rfl)
theorem cfl {c:Ck} {p q:Pt} {a b tn td:Int} {w:Bool} (h1:Fn 147 1 [qaC 0 c.s,.pv (iV (b))] [(0,0,qao c.s)] (.pv (.tuple #[ptV p,.bool true])) 0 []) (h2:Fn 147 1 [qaC 0 c.s,.pv (iV (a))] [(0,0,qao c.s)] (.pv (.tuple #[ptV q,.bool true])) 0 []) (hl:Pure Tryz.prog 154 #[ptV p,ptV q,qad c.tn c.td] (.tuple #[qad tn td,.bool w,iV 0])) :
 Fn 109 8 [qap c,.pv (qag a b)] (qas c) (.pv (.tuple #[qad tn td,.bool w])) 0 []:=
 qaa 300 [] [Cf h1 [0],Cf h2 [0],Rf hl]
  tI (Co h1 [0] 11 (Co h2 [0] 12 (Ai hl tI))) (by kernel_rfl)
theorem qyQ {s:List Pt} {p q:Pt} {a b:Int} (h1:Fn 147 1 [qaC 0 s,.pv (iV (b))] [(0,0,qao s)] (.pv (.tuple #[ptV p,.bool true])) 0 []) (h2:Fn 147 1 [qaC 0 s,.pv (iV (a))] [(0,0,qao s)] (.pv (.tuple #[ptV q,.bool true])) 0 []) :
 Fn 102 1 [qaC 0 s,.pv (qag a b)] [(0,0,qao s)] (.pv (.bool true)) 0 []:=
 qaa 300 [] [Cf h1 [0],Cf h2 [0]]
  tI (Co h1 [0] 3 (Co h2 [0] 4 tI)) (by kernel_rfl)
theorem qCK {s:List Pt} {p q:Pt} {a b:Int} (h1:Fn 147 1 [qaC 0 s,.pv (iV (b))] [(0,0,qao s)] (.pv (.tuple #[ptV p,.bool true])) 0 []) (h2:Fn 147 1 [qaC 0 s,.pv (iV (a))] [(0,0,qao s)] (.pv (.tuple #[ptV q,.bool false])) 0 []) :
 Fn 102 1 [qaC 0 s,.pv (qag a b)] [(0,0,qao s)] (.pv (.bool false)) 0 []:=
 qaa 300 [] [Cf h1 [0],Cf h2 [0]]
  tI (Co h1 [0] 3 (Co h2 [0] 4 tI)) (by kernel_rfl)
theorem qDP {s:List Pt} {p q:Pt} {a b:Int} {w:Bool} (h1:Fn 147 1 [qaC 0 s,.pv (iV (b))] [(0,0,qao s)] (.pv (.tuple #[ptV p,.bool false])) 0 []) (h2:Fn 147 1 [qaC 0 s,.pv (iV (a))] [(0,0,qao s)] (.pv (.tuple #[ptV q,.bool w])) 0 []) :
 Fn 102 1 [qaC 0 s,.pv (qag a b)] [(0,0,qao s)] (.pv (.bool false)) 0 []:=
 qaa 300 [] [Cf h1 [0],Cf h2 [0]]
  tI (Co h1 [0] 3 (Co h2 [0] 4 tI)) (by kernel_rfl)
abbrev ql4 (l:List Pt) (s:List Pt):HpL:=[(2,0,.ls 0 s.length),(0,0,qao s),(1,0,qan l)]
abbrev qwE (k:Nat) (l:List Pt):TmL:=[(2,.pp 2 0),(8,.ls 1 l.length),(9,.pv (iV (l.length:Int))),(10,.pv (iV (k:Int)))]
theorem qj3 {s:List Pt} {p:Pt} {k:Nat} {l:List Pt} (hk:l[k]?=some p) (hin:0≤(k:Int)∧(k:Int)<(l.length:Int)) (hlt:decide ((k:Int)<(l.length:Int))=true) (hb:Fn 102 1 [qaC 0 s,.pv (qag p.a p.b)] [(0,0,qao s)] (.pv (.bool true)) 0 []) (hs:iV (IntKind.i64.wrap ((k:Int)+1))=iV (((k+1:Nat):Int))) {e:Exit} {tm2:TmL} {hp2:HpL}
 (r:Rl 2 2 64 0 20 4 ([(2,.pp 2 0),(8,.ls 1 l.length),(9,.pv (iV (l.length:Int))),(10,.pv (iV ((k+1:Nat):Int)))]) (ql4 l s) e tm2 hp2):Rl 2 2 64 0 20 4 (qwE k l) (ql4 l s) e tm2 hp2:=
 RunsL.next [] 300 [.t true,.r (ptV p),Cf hb [0],.k,Re hs]
  (qab (Ai hlt (Ai hin (Ai (qaR hk) (Co hb [0] 5 (Ai hs tI))))) (by kernel_rfl)) r
theorem qvL {s:List Pt} {p:Pt} {k:Nat} {l:List Pt} (hk:l[k]?=some p) (hin:0≤(k:Int)∧(k:Int)<(l.length:Int)) (hlt:decide ((k:Int)<(l.length:Int))=true) (hb:Fn 102 1 [qaC 0 s,.pv (qag p.a p.b)] [(0,0,qao s)] (.pv (.bool false)) 0 []):Rl 2 2 64 0 20 4 (qwE k l) (ql4 l s) (.ret) ([(4,.pv (iV 6))]) ([]):=
 RunsL.stop [] 300 [.t true,.r (ptV p),Cf hb [0],.k] (fun h=>by cases h)
  (qab (Ai hlt (Ai hin (Ai (qaR hk) (Co hb [0] 5 tI)))) (by kernel_rfl))
theorem qxf {s:List Pt} {k:Nat} {l:List Pt} (hge:decide ((k:Int)<(l.length:Int))=false):Rl 2 2 64 0 20 4 (qwE k l) (ql4 l s) (.exit 0) ([]) ([]):=
 RunsL.stop [] 300 [.t false] (fun h=>by cases h)
  (qab (Ai hge tI) (by kernel_rfl))
theorem qz7 {s:List Pt} {x2:Int} {l:List Pt} (r0:Rl 2 2 64 0 20 4 ([(2,.pp 2 0),(8,.ls 1 l.length),(9,.pv (iV (l.length:Int))),(10,.pv (iV ((0:Nat):Int)))]) (ql4 l s) (.ret) ([(4,.pv (iV 6))]) ([])) :
 Fn 64 2 [qaC 0 s,qaM 1 x2 l] [(0,0,qao s),(1,0,qan l)] (.pv (iV (6))) 0 []:=
 qaa 300 [] [Lf r0]
  tI (Lo r0 [] tI) (by kernel_rfl)
theorem qyZ {s:List Pt} {x2:Int} {l:List Pt} (r0:Rl 2 2 64 0 20 4 ([(2,.pp 2 0),(8,.ls 1 l.length),(9,.pv (iV (l.length:Int))),(10,.pv (iV ((0:Nat):Int)))]) (ql4 l s) (.exit 0) ([]) ([])) :
 Fn 64 2 [qaC 0 s,qaM 1 x2 l] [(0,0,qao s),(1,0,qan l)] (.pv (iV (0))) 0 []:=
 qaa 300 [] [Lf r0]
  tI (Lo r0 [] tI) (by kernel_rfl)
abbrev qEh (c:Ck) (k:Nat) (m:Nat):TmL:=[(1,.pp 8 0),(3,.ls 9 (m)),(10,.ls 1 c.l.length),(11,.pv (iV (c.l.length:Int))),(12,.pv (iV (k:Int)))]
theorem qpV {c:Ck} {p:Pt} {k m:Nat} {tn td:Int} {vs:List Value} (hk:c.l[k]?=some p) (hin:0≤(k:Int)∧(k:Int)<(c.l.length:Int)) (hlt:decide ((k:Int)<(c.l.length:Int))=true) (hf:Fn 109 8 [qap c,.pv (qag p.a p.b)] (qas c) (.pv (.tuple #[qad tn td,.bool false])) 0 []) (hs:iV (IntKind.i64.wrap ((k:Int)+1))=iV (((k+1:Nat):Int))) {e:Exit} {tm2:TmL} {hp2:HpL}
 (r:Rl 8 8 117 0 33 10 ([(1,.pp 8 0),(3,.ls 9 (m)),(10,.ls 1 c.l.length),(11,.pv (iV (c.l.length:Int))),(12,.pv (iV ((k+1:Nat):Int)))]) ((qca 8 c++[(9,0,.row 62 5 (m) (vs))])) e tm2 hp2):Rl 8 8 117 0 33 10 (qEh c k m) ((qca 8 c++[(9,0,.row 62 5 (m) (vs))])) e tm2 hp2:=
 RunsL.next [] 300 [.t true,.r (ptV p),Cf hf [0,1,2,3,4,5,6,7],Re hs]
  (qab (Ai hlt (Ai hin (Ai (qaR hk) (Co hf [0,1,2,3,4,5,6,7] 11 (Ai hs tI))))) (by kernel_rfl)) r
theorem qp8 {c:Ck} {p:Pt} {k m:Nat} {tn td:Int} {vs:List Value} (hk:c.l[k]?=some p) (hin:0≤(k:Int)∧(k:Int)<(c.l.length:Int)) (hlt:decide ((k:Int)<(c.l.length:Int))=true) (hf:Fn 109 8 [qap c,.pv (qag p.a p.b)] (qas c) (.pv (.tuple #[qad tn td,.bool true])) 0 []) (hm:m+1≤1000000) (hs:iV (IntKind.i64.wrap ((k:Int)+1))=iV (((k+1:Nat):Int))) {e:Exit} {tm2:TmL} {hp2:HpL}
 (r:Rl 8 8 117 0 33 10 ([(1,.pp 8 0),(3,.ls 9 (m+1)),(10,.ls 1 c.l.length),(11,.pv (iV (c.l.length:Int))),(12,.pv (iV ((k+1:Nat):Int)))]) ((qca 8 c++[(9,0,.row 62 5 (m+1) (vs++[iV tn,iV td,iV p.id,iV 0,iV 0]))])) e tm2 hp2):Rl 8 8 117 0 33 10 (qEh c k m) ((qca 8 c++[(9,0,.row 62 5 (m) (vs))])) e tm2 hp2:=
 RunsL.next [(9,13)] 300 [.t true,.r (ptV p),Cf hf [0,1,2,3,4,5,6,7],Re hs]
  (qab (Ai hlt (Ai hin (Ai (qaR hk) (Co hf [0,1,2,3,4,5,6,7] 11 (Ai hm (Ai hs tI)))))) (by kernel_rfl)) r
theorem qwF {c:Ck} {k m:Nat} {vs:List Value} (hge:decide ((k:Int)<(c.l.length:Int))=false):Rl 8 8 117 0 33 10 (qEh c k m) ((qca 8 c++[(9,0,.row 62 5 (m) (vs))])) (.exit 0) ([(3,.ls 9 m)]) ([(9,0,.row 62 5 m vs)]):=
 RunsL.stop [] 300 [.t false] (fun h=>by cases h)
  (qab (Ai hge tI) (by kernel_rfl))
theorem qpr {c:Ck} {m:Nat} {vs:List Value} (r0:Rl 8 8 117 0 33 10 ([(1,.pp 8 0),(3,.ls 9 (0)),(10,.ls 1 c.l.length),(11,.pv (iV (c.l.length:Int))),(12,.pv (iV ((0:Nat):Int)))]) ((qca 8 c++[(9,0,.row 62 5 (0) ([]))])) (.exit 0) ([(3,.ls 9 m)]) ([(9,0,.row 62 5 m vs)])) :
 Fn 117 8 [qap c] (qas c) (.ls 8 m) 1 [(8,0,.row 62 5 m vs)]:=
 qaa 300 [(8,9)] [.ln true 3 0 62 5,Lf r0]
  (qaF (qaP [(8,9)]) [(8,0,.row 62 5 m vs)]) (Lo r0 [] tI) (by kernel_rfl)
abbrev qqZ (c:Ck):HpL:=[(0,0,zrI c.u),(1,0,zrB c.b),(2,0,zrI c.fr),(3,0,qar c.ev),(4,0,zrI c.wh)]
theorem qCF {c:Ck} {z9:Ev} (h0:decide (0≤z9.i)=false) :
 Fn 118 5 [agA c.u c.b c.fr c.ev c.wh,.pv (qac z9)] (qqZ c) (.pv (.bool false)) 0 []:=
 qaa 300 [] [.t false]
  tI (Ai h0 tI) (by kernel_rfl)
theorem qyP {c:Ck} {z9:Ev} (h0:decide (0≤z9.i)=true) (h1:decide (z9.i<(c.wh.length:Int))=false) :
 Fn 118 5 [agA c.u c.b c.fr c.ev c.wh,.pv (qac z9)] (qqZ c) (.pv (.bool false)) 0 []:=
 qaa 300 [] [.t true,.t false]
  tI (Ai h0 (Ai h1 tI)) (by kernel_rfl)
theorem qvY {c:Ck} {n:Int} {z9:Ev} (h0:decide (0≤z9.i)=true) (h1:decide (z9.i<(c.wh.length:Int))=true) (hi1:0≤z9.i∧z9.i<(c.wh.length:Int)) (hw1:c.wh[z9.i.toNat]?=some n) (h2:decide (n≥0)=false) :
 Fn 118 5 [agA c.u c.b c.fr c.ev c.wh,.pv (qac z9)] (qqZ c) (.pv (.bool false)) 0 []:=
 qaa 300 [] [.t true,.t true,.r (iV n),.t false]
  tI (Ai h0 (Ai h1 (Ai hi1 (Ai (qbe hw1) (Ai h2 tI))))) (by kernel_rfl)
theorem qt0 {c:Ck} {n:Int} {y:Ev} {z9:Ev} (h0:decide (0≤z9.i)=true) (h1:decide (z9.i<(c.wh.length:Int))=true) (hi1:0≤z9.i∧z9.i<(c.wh.length:Int)) (hw1:c.wh[z9.i.toNat]?=some n) (h2:decide (n≥0)=true) (hi2:0≤n∧n<(c.ev.length:Int)) (hy:c.ev[n.toNat]?=some y) (h3:((y.n==z9.n&&(y.d==z9.d&&true))&&(y.k==z9.k&&((y.i==z9.i&&(y.w==z9.w&&true))&&true)))=true) :
 Fn 118 5 [agA c.u c.b c.fr c.ev c.wh,.pv (qac z9)] (qqZ c) (.pv (.bool true)) 0 []:=
 qaa 300 [] [.t true,.t true,.r (iV n),.t true,.r (iV n),.r (qac y),.t true]
  tI (Ai h0 (Ai h1 (Ai hi1 (Ai (qbe hw1) (Ai h2 (Ai hi1 (Ai (qbe hw1) (Ai hi2 (Ai (qaQ hy) (Ai h3 tI)))))))))) (by kernel_rfl)
theorem qBC {c:Ck} {n:Int} {y:Ev} {z9:Ev} (h0:decide (0≤z9.i)=true) (h1:decide (z9.i<(c.wh.length:Int))=true) (hi1:0≤z9.i∧z9.i<(c.wh.length:Int)) (hw1:c.wh[z9.i.toNat]?=some n) (h2:decide (n≥0)=true) (hi2:0≤n∧n<(c.ev.length:Int)) (hy:c.ev[n.toNat]?=some y) (h3:((y.n==z9.n&&(y.d==z9.d&&true))&&(y.k==z9.k&&((y.i==z9.i&&(y.w==z9.w&&true))&&true)))=false) :
 Fn 118 5 [agA c.u c.b c.fr c.ev c.wh,.pv (qac z9)] (qqZ c) (.pv (.bool false)) 0 []:=
 qaa 300 [] [.t true,.t true,.r (iV n),.t true,.r (iV n),.r (qac y),.t false]
  tI (Ai h0 (Ai h1 (Ai hi1 (Ai (qbe hw1) (Ai h2 (Ai hi1 (Ai (qbe hw1) (Ai hi2 (Ai (qaQ hy) (Ai h3 tI)))))))))) (by kernel_rfl)
abbrev qsb (c:Ck) (fl:List Ev):Prop:=Fn 117 8 [qap c] (qas c) (.ls 8 fl.length) 1 [(8,0,qar fl)]
theorem qGg {c:Ck} {fl:List Ev} (hfs:qsb c fl) (hn1:((c.d.length:Int) !=(fl.length:Int))=true) :
 Fn 66 8 [qap c] (qas c) (.pv (.bool false)) 0 []:=
 qaa 300 [] [Cf hfs [0,1,2,3,4,5,6,7],.t true]
  tI (Co hfs [0,1,2,3,4,5,6,7] 9 (Ai hn1 tI)) (by kernel_rfl)
theorem qFs {c:Ck} {fl:List Ev} (hfs:qsb c fl) (hn1:((c.d.length:Int) !=(fl.length:Int))=false) (hn2:((c.ev.length:Int) !=(fl.length:Int))=true) :
 Fn 66 8 [qap c] (qas c) (.pv (.bool false)) 0 []:=
 qaa 300 [] [Cf hfs [0,1,2,3,4,5,6,7],.t false,.t true]
  tI (Co hfs [0,1,2,3,4,5,6,7] 9 (Ai hn1 (Ai hn2 tI))) (by kernel_rfl)
abbrev qC3 (fl:List Ev) (k:Nat):TmL:=[(1,.pp 8 0),(23,.ls 9 fl.length),(24,.pv (iV (fl.length:Int))),(25,.pv (iV (k:Int)))]
theorem quP {c:Ck} {q:Pt} {k:Nat} {y:Ev} {fl:List Ev} (hk:fl[k]?=some y) (hin:0≤(k:Int)∧(k:Int)<(fl.length:Int)) (hq:c.d[k]?=some q) (hiq:0≤(k:Int)∧(k:Int)<(c.d.length:Int)) (hlt:decide ((k:Int)<(fl.length:Int))=true) (hne:(q.id !=y.k)=true):Rl 8 8 66 0 54 10 (qC3 fl k) ((qca 8 c++[(9,0,qar fl)])) (.ret) ([(2,.pv (.bool false))]) ([]):=
 RunsL.stop [] 300 [.t true,.r (qac y),.r (qaK q.a q.b),.r (iV q.id),.t true] (fun h=>by cases h)
  (qab (Ai hlt (Ai hin (Ai (qaQ hk) (Ai hiq (Ai (qdt hq) (Ai hiq (Ai (qcp hq) (Ai hne tI)))))))) (by kernel_rfl))
theorem qAH {c:Ck} {q:Pt} {k:Nat} {y:Ev} {fl:List Ev} (hk:fl[k]?=some y) (hin:0≤(k:Int)∧(k:Int)<(fl.length:Int)) (hq:c.d[k]?=some q) (hiq:0≤(k:Int)∧(k:Int)<(c.d.length:Int)) (hlt:decide ((k:Int)<(fl.length:Int))=true) (hne:(q.id !=y.k)=false) (hv:Fn 118 5 [agA c.u c.b c.fr c.ev c.wh,.pv (qac (Ev.mk y.n y.d y.k q.a q.b))] (qqZ c) (.pv (.bool false)) 0 []):Rl 8 8 66 0 54 10 (qC3 fl k) ((qca 8 c++[(9,0,qar fl)])) (.ret) ([(2,.pv (.bool false))]) ([]):=
 RunsL.stop [] 300 [.t true,.r (qac y),.r (qaK q.a q.b),.r (iV q.id),.t false,Cf hv [2,3,4,5,6],.k] (fun h=>by cases h)
  (qab (Ai hlt (Ai hin (Ai (qaQ hk) (Ai hiq (Ai (qdt hq) (Ai hiq (Ai (qcp hq) (Ai hne (Co hv [2,3,4,5,6] 11 tI))))))))) (by kernel_rfl))
theorem qso {c:Ck} {q:Pt} {k:Nat} {y:Ev} {fl:List Ev} (hk:fl[k]?=some y) (hin:0≤(k:Int)∧(k:Int)<(fl.length:Int)) (hq:c.d[k]?=some q) (hiq:0≤(k:Int)∧(k:Int)<(c.d.length:Int)) (hlt:decide ((k:Int)<(fl.length:Int))=true) (hne:(q.id !=y.k)=false) (hv:Fn 118 5 [agA c.u c.b c.fr c.ev c.wh,.pv (qac (Ev.mk y.n y.d y.k q.a q.b))] (qqZ c) (.pv (.bool true)) 0 []) (hs:iV (IntKind.i64.wrap ((k:Int)+1))=iV (((k+1:Nat):Int))) {e:Exit} {tm2:TmL} {hp2:HpL}
 (r:Rl 8 8 66 0 54 10 ([(1,.pp 8 0),(23,.ls 9 fl.length),(24,.pv (iV (fl.length:Int))),(25,.pv (iV ((k+1:Nat):Int)))]) ((qca 8 c++[(9,0,qar fl)])) e tm2 hp2):Rl 8 8 66 0 54 10 (qC3 fl k) ((qca 8 c++[(9,0,qar fl)])) e tm2 hp2:=
 RunsL.next [] 300 [.t true,.r (qac y),.r (qaK q.a q.b),.r (iV q.id),.t false,Cf hv [2,3,4,5,6],.k,Re hs]
  (qab (Ai hlt (Ai hin (Ai (qaQ hk) (Ai hiq (Ai (qdt hq) (Ai hiq (Ai (qcp hq) (Ai hne (Co hv [2,3,4,5,6] 11 (Ai hs tI)))))))))) (by kernel_rfl)) r
theorem qtQ {c:Ck} {k:Nat} {fl:List Ev} (hge:decide ((k:Int)<(fl.length:Int))=false):Rl 8 8 66 0 54 10 (qC3 fl k) ((qca 8 c++[(9,0,qar fl)])) (.exit 0) ([]) ([]):=
 RunsL.stop [] 300 [.t false] (fun h=>by cases h)
  (qab (Ai hge tI) (by kernel_rfl))
theorem qtH {c:Ck} {fl:List Ev} (hfs:qsb c fl) (hn1:((c.d.length:Int) !=(fl.length:Int))=false) (hn2:((c.ev.length:Int) !=(fl.length:Int))=false) (r0:Rl 8 8 66 0 54 10 ([(1,.pp 8 0),(23,.ls 9 fl.length),(24,.pv (iV (fl.length:Int))),(25,.pv (iV ((0:Nat):Int)))]) ((qca 8 c++[(9,0,qar fl)])) (.ret) ([(2,.pv (.bool false))]) ([])) :
 Fn 66 8 [qap c] (qas c) (.pv (.bool false)) 0 []:=
 qaa 300 [] [Cf hfs [0,1,2,3,4,5,6,7],.t false,.t false,Lf r0]
  tI (Co hfs [0,1,2,3,4,5,6,7] 9 (Ai hn1 (Ai hn2 (Lo r0 [] tI)))) (by kernel_rfl)
theorem qCL {c:Ck} {fl:List Ev} (hfs:qsb c fl) (hn1:((c.d.length:Int) !=(fl.length:Int))=false) (hn2:((c.ev.length:Int) !=(fl.length:Int))=false) (r0:Rl 8 8 66 0 54 10 ([(1,.pp 8 0),(23,.ls 9 fl.length),(24,.pv (iV (fl.length:Int))),(25,.pv (iV ((0:Nat):Int)))]) ((qca 8 c++[(9,0,qar fl)])) (.exit 0) ([]) ([])) :
 Fn 66 8 [qap c] (qas c) (.pv (.bool true)) 0 []:=
 qaa 300 [] [Cf hfs [0,1,2,3,4,5,6,7],.t false,.t false,Lf r0]
  tI (Co hfs [0,1,2,3,4,5,6,7] 9 (Ai hn1 (Ai hn2 (Lo r0 [] tI)))) (by kernel_rfl)
abbrev qC2 (c:Ck) (e4:Int):Prop:=Fn 115 5 [agA c.u c.b c.fr c.ev c.wh] (qqZ c) (.pv (iV (e4))) 0 []
abbrev qvn (c:Ck) (e3:Int):Prop:=Fn 88 1 [qaM 0 c.x c.l] [(0,0,qan c.l)] (.pv (iV (e3))) 0 []
theorem qEd {c:Ck} {e1 e2 e3 e4:Int} (h1:Pure Tryz.prog 49 #[qad c.tn c.td] (iV (e1))) (h2:Fn 48 1 [qaC 0 c.s] [(0,0,qao c.s)] (.pv (iV (e2))) 0 []) (h3:qvn c e3) (h4:qC2 c e4) (he:(e1 !=0)=true) :
 Fn 65 8 [qap c] (qas c) (.pv (.bool false)) 0 []:=
 qaa 300 [] [Rf h1,Cf h2 [0],Cf h3 [1],Cf h4 [2,3,4,5,6],.k,.k,.t true,.t true]
  tI (Ai h1 (Co h2 [0] 9 (Co h3 [1] 9 (Co h4 [2,3,4,5,6] 9 (Ai he (Ai he tI)))))) (by kernel_rfl)
abbrev qyf (c:Ck):Prop:=Pure Tryz.prog 49 #[qad c.tn c.td] (iV (0))
theorem qEC {c:Ck} {e2 e3 e4:Int} (h1:qyf c) (h2:Fn 48 1 [qaC 0 c.s] [(0,0,qao c.s)] (.pv (iV (e2))) 0 []) (h3:qvn c e3) (h4:qC2 c e4) (he:(e2 !=0)=true) :
 Fn 65 8 [qap c] (qas c) (.pv (.bool false)) 0 []:=
 qaa 300 [] [Rf h1,Cf h2 [0],Cf h3 [1],Cf h4 [2,3,4,5,6],.k,.k,.k,.k,.k,.t true,.t true]
  tI (Ai h1 (Co h2 [0] 9 (Co h3 [1] 9 (Co h4 [2,3,4,5,6] 9 (Ai he (Ai he tI)))))) (by kernel_rfl)
abbrev qAd (c:Ck):Prop:=Fn 48 1 [qaC 0 c.s] [(0,0,qao c.s)] (.pv (iV (0))) 0 []
theorem qEk {c:Ck} {e3 e4:Int} (h1:qyf c) (h2:qAd c) (h3:qvn c e3) (h4:qC2 c e4) (he:(e3 !=0)=true) :
 Fn 65 8 [qap c] (qas c) (.pv (.bool false)) 0 []:=
 qaa 300 [] [Rf h1,Cf h2 [0],Cf h3 [1],Cf h4 [2,3,4,5,6],.k,.k,.k,.k,.k,.k,.k,.k,.t true,.t true]
  tI (Ai h1 (Co h2 [0] 9 (Co h3 [1] 9 (Co h4 [2,3,4,5,6] 9 (Ai he (Ai he tI)))))) (by kernel_rfl)
abbrev qDu (c:Ck):Prop:=Fn 88 1 [qaM 0 c.x c.l] [(0,0,qan c.l)] (.pv (iV (0))) 0 []
theorem qFz {c:Ck} {e4:Int} (h1:qyf c) (h2:qAd c) (h3:qDu c) (h4:qC2 c e4) (he:(e4 !=0)=true) :
 Fn 65 8 [qap c] (qas c) (.pv (.bool false)) 0 []:=
 qaa 300 [] [Rf h1,Cf h2 [0],Cf h3 [1],Cf h4 [2,3,4,5,6],.k,.k,.k,.k,.k,.k,.k,.k,.k,.k,.k,.t true,.t true]
  tI (Ai h1 (Co h2 [0] 9 (Co h3 [1] 9 (Co h4 [2,3,4,5,6] 9 (Ai he (Ai he tI)))))) (by kernel_rfl)
abbrev qtY (c:Ck):Prop:=Fn 115 5 [agA c.u c.b c.fr c.ev c.wh] (qqZ c) (.pv (iV (0))) 0 []
theorem qFX {c:Ck} (h1:qyf c) (h2:qAd c) (h3:qDu c) (h4:qtY c) (h5:Fn 64 2 [qaC 0 c.s,qaM 1 c.x c.l] [(0,0,qao c.s),(1,0,qan c.l)] (.pv (iV (6))) 0 []) :
 Fn 65 8 [qap c] (qas c) (.pv (.bool false)) 0 []:=
 qaa 300 [] [Rf h1,Cf h2 [0],Cf h3 [1],Cf h4 [2,3,4,5,6],.k,.k,.k,.k,.k,.k,.k,.k,.k,.k,.k,.k,.k,.k,.k,Cf h5 [0,1],.k]
  tI (Ai h1 (Co h2 [0] 9 (Co h3 [1] 9 (Co h4 [2,3,4,5,6] 9 (Co h5 [0,1] 10 tI))))) (by kernel_rfl)
theorem qBX {c:Ck} (h1:qyf c) (h2:qAd c) (h3:qDu c) (h4:qtY c) (h5:Fn 64 2 [qaC 0 c.s,qaM 1 c.x c.l] [(0,0,qao c.s),(1,0,qan c.l)] (.pv (iV (0))) 0 []) (h6:((c.u.length:Int)==200)=true) :
 Fn 65 8 [qap c] (qas c) (.pv (.bool true)) 0 []:=
 qaa 300 [] [Rf h1,Cf h2 [0],Cf h3 [1],Cf h4 [2,3,4,5,6],.k,.k,.k,.k,.k,.k,.k,.k,.k,.k,.k,.k,.k,.k,.k,Cf h5 [0,1],.k,.t true]
  tI (Ai h1 (Co h2 [0] 9 (Co h3 [1] 9 (Co h4 [2,3,4,5,6] 9 (Co h5 [0,1] 10 (Ai h6 tI)))))) (by kernel_rfl)
theorem qEo {c:Ck} (h1:qyf c) (h2:qAd c) (h3:qDu c) (h4:qtY c) (h5:Fn 64 2 [qaC 0 c.s,qaM 1 c.x c.l] [(0,0,qao c.s),(1,0,qan c.l)] (.pv (iV (0))) 0 []) (h6:((c.u.length:Int)==200)=false) :
 Fn 65 8 [qap c] (qas c) (.pv (.bool false)) 0 []:=
 qaa 300 [] [Rf h1,Cf h2 [0],Cf h3 [1],Cf h4 [2,3,4,5,6],.k,.k,.k,.k,.k,.k,.k,.k,.k,.k,.k,.k,.k,.k,.k,Cf h5 [0,1],.k,.t false]
  tI (Ai h1 (Co h2 [0] 9 (Co h3 [1] 9 (Co h4 [2,3,4,5,6] 9 (Co h5 [0,1] 10 (Ai h6 tI)))))) (by kernel_rfl)
theorem qDL {c:Ck} (h1:Fn 65 8 [qap c] (qas c) (.pv (.bool false)) 0 []) :
 Fn 22 8 [qap c] (qas c) (.pv (iV (8))) 0 []:=
 qaa 300 [] [Cf h1 [0,1,2,3,4,5,6,7],.k]
  tI (Co h1 [0,1,2,3,4,5,6,7] 9 tI) (by kernel_rfl)
theorem qFO {c:Ck} (h1:Fn 65 8 [qap c] (qas c) (.pv (.bool true)) 0 []) (h2:Fn 66 8 [qap c] (qas c) (.pv (.bool false)) 0 []) :
 Fn 22 8 [qap c] (qas c) (.pv (iV (8))) 0 []:=
 qaa 300 [] [Cf h1 [0,1,2,3,4,5,6,7],.k,Cf h2 [0,1,2,3,4,5,6,7],.k]
  tI (Co h1 [0,1,2,3,4,5,6,7] 9 (Co h2 [0,1,2,3,4,5,6,7] 9 tI)) (by kernel_rfl)
theorem qz2 {c:Ck} (h1:Fn 65 8 [qap c] (qas c) (.pv (.bool true)) 0 []) (h2:Fn 66 8 [qap c] (qas c) (.pv (.bool true)) 0 []) :
 Fn 22 8 [qap c] (qas c) (.pv (iV (0))) 0 []:=
 qaa 300 [] [Cf h1 [0,1,2,3,4,5,6,7],.k,Cf h1 [0,1,2,3,4,5,6,7],.k]
  tI (Co h1 [0,1,2,3,4,5,6,7] 9 (Co h2 [0,1,2,3,4,5,6,7] 9 tI)) (by kernel_rfl)
end Go.Proofs.YtkjaanhddkkodaaGreat

namespace Go.Proofs.YtkjaanhddkkodaaGreat
set_option maxRecDepth 100000
open Go.RowKit
abbrev qqR (c:Ck):S1:=.ag [.pv (iV c.tn),.pv (iV c.td),.ls 0 c.s.length,.pv (iV c.x),.ls 1 c.l.length,.ls 2 c.u.length,.ls 3 c.b.length,.ls 4 c.fr.length,.ls 5 c.ev.length,.ls 6 c.wh.length,.ls 7 c.d.length]
abbrev qCV (c o:Ck) (d:List Pt):SV:=.ag [.pv (iV c.tn),.pv (iV c.td),.ls 0 c.s.length,.pv (iV c.x),.ls 1 c.l.length,.ls 8 o.u.length,.ls 9 o.b.length,.ls 10 o.fr.length,.ls 11 o.ev.length,.ls 12 o.wh.length,.ls 13 d.length]
abbrev qiw (c o:Ck) (d:List Pt):S1:=.ag [.pv (iV c.tn),.pv (iV c.td),.ls 0 c.s.length,.pv (iV c.x),.ls 1 c.l.length,.ls 8 o.u.length,.ls 9 o.b.length,.ls 10 o.fr.length,.ls 11 o.ev.length,.ls 12 o.wh.length,.ls 13 d.length]
abbrev qvp (c o:Ck):S1:=.ag [.pv (iV c.tn),.pv (iV c.td),.ls 0 c.s.length,.pv (iV c.x),.ls 1 c.l.length,.ls 8 o.u.length,.ls 9 o.b.length,.ls 10 o.fr.length,.ls 11 o.ev.length,.ls 12 o.wh.length,.ls 7 c.d.length]
theorem qpO {n:Nat} {xs:List Value} (h0:0<n) (hn:0+n≤1000000) :
 Fn 106 1 [.ls 0 n] [(0,0,.row 94 3 n xs)] (.ls 1 n) 1 [(1,0,.row 94 3 n xs)]:=
 qaJ 300 [(1,2)] [.t false]
  (qrz n) (Ai (qgH 94 3 n xs) tI) (Ai h0 (Ai hn tI)) (by kernel_rfl)
theorem qFV {ad:Addr} {c:Nat} :
 Fn 106 0 [.pv (.slice (some ad) 0 c)] [] (.ls 0 0) 1 [(0,0,.row 94 3 0 [])]:=
 qaa 300 [(0,1)] [.k]
  (qaF (qaP [(0,1)]) [(0,0,.row 94 3 0 [])]) (Ai (Nat.zero_le _:0+0≤1000000) tI) (by kernel_rfl)
theorem qv1 {c:Nat}:Pure Tryz.prog 106 #[.slice none 0 c] (.slice none 0 0):=
 qaD (args:=[.slice none 0 c]) 200 [] (Ai rfl tI) (by kernel_rfl)
theorem qsd {n:Nat} {xs:List Value} (h0:0<n) (hn:0+n≤1000000) :
 Fn 108 1 [.ls 0 n] [(0,0,.row 54 3 n xs)] (.ls 1 n) 1 [(1,0,.row 54 3 n xs)]:=
 qaJ 300 [(1,2)] [.t false]
  (qrz n) (Ai (qgH 54 3 n xs) tI) (Ai h0 (Ai hn tI)) (by kernel_rfl)
theorem qFk {ad:Addr} {c:Nat} :
 Fn 108 0 [.pv (.slice (some ad) 0 c)] [] (.ls 0 0) 1 [(0,0,.row 54 3 0 [])]:=
 qaa 300 [(0,1)] [.k]
  (qaF (qaP [(0,1)]) [(0,0,.row 54 3 0 [])]) (Ai (Nat.zero_le _:0+0≤1000000) tI) (by kernel_rfl)
theorem qtA {c:Nat}:Pure Tryz.prog 108 #[.slice none 0 c] (.slice none 0 0):=
 qaD (args:=[.slice none 0 c]) 200 [] (Ai rfl tI) (by kernel_rfl)
theorem qnZ (l:List Pt) (k:Nat) (q:Pt) (h:k≤l.length):0+k+1+(l.length-k)=(l.take k++q::l.drop k).length:=by rw[List.length_append,List.length_cons,List.length_take,List.length_drop];omega
theorem qzk (b:Nat) (l:List Pt) (k:Nat) (q:Pt) (h:k≤l.length):SV.ls b (0+k+1+(l.length-k))=(SV.ls 3 (l.take k++q::l.drop k).length).ren (qaP [(3,b)]):=by rw[qnZ l k q h];rfl
theorem qsG (l:List Pt) (k:Nat) (q:Pt) (h:k≤l.length):some (SV.row 54 3 (0+k+1+(l.length-k)) ([]++((qbr l).drop (0*3)).take (k*3)++[iV q.id,iV q.a,iV q.b]++((qbr l).drop ((0+k)*3)).take ((l.length-k)*3)))=some (qaX (l.take k++q::l.drop k)):=by
 have h1:=qiP l k
 have h2:=qjG l k
 rw[Nat.zero_add] at h1
 rw[h1,h2,qaX,qnZ l k q h,qb5,List.nil_append,List.append_assoc]
 rfl
theorem ccf {s:List Pt} (h1:Fn 100 1 [.ls 0 s.length] [(0,0,qao s)] (.ls 1 s.length) 1 [(1,0,qao s)]) :
 Fn 51 1 [qaC 0 s] [(0,0,qao s)] (.ag [.ls 1 s.length]) 1 [(1,0,qao s)]:=
 qaa 300 [(1,3)] [Cf h1 [0]]
  (qaF (qaP [(1,3)]) [(1,0,qao s)]) (Co h1 [0] 3 tI) (by kernel_rfl)
abbrev qx9 (c:Ck):HpL:=[(0,0,zrI c.u),(1,0,zrB c.b),(2,0,zrI c.fr),(3,0,qar c.ev),(4,0,zrI c.wh)]
theorem cca {c:Ck} (c0:Fn 151 1 [.ls 0 c.u.length] [(0,0,zrI c.u)] (.ls 1 c.u.length) 1 [(1,0,zrI c.u)]) (c1:Fn 152 1 [.ls 0 c.b.length] [(0,0,zrB c.b)] (.ls 1 c.b.length) 1 [(1,0,zrB c.b)]) (c2:Fn 151 1 [.ls 0 c.fr.length] [(0,0,zrI c.fr)] (.ls 1 c.fr.length) 1 [(1,0,zrI c.fr)]) (c3:Fn 153 1 [.ls 0 c.ev.length] [(0,0,qar c.ev)] (.ls 1 c.ev.length) 1 [(1,0,qar c.ev)]) (c4:Fn 151 1 [.ls 0 c.wh.length] [(0,0,zrI c.wh)] (.ls 1 c.wh.length) 1 [(1,0,zrI c.wh)]) :
 Fn 107 5 [agA c.u c.b c.fr c.ev c.wh] (qx9 c) (.ag [.ls 5 c.u.length,.ls 6 c.b.length,.ls 7 c.fr.length,.ls 8 c.ev.length,.ls 9 c.wh.length]) 5 [(5,0,zrI c.u),(6,0,zrB c.b),(7,0,zrI c.fr),(8,0,qar c.ev),(9,0,zrI c.wh)]:=
 qaa 300 [(5,7),(6,8),(7,9),(8,11),(9,12)] [.md,Cf c0 [0],Cf c1 [1],Cf c2 [2],.md,Cf c3 [3],Cf c4 [4]]
  (qaF (qaP [(5,7),(6,8),(7,9),(8,11),(9,12)]) [(5,0,zrI c.u),(6,0,zrB c.b),(7,0,zrI c.fr),(8,0,qar c.ev),(9,0,zrI c.wh)]) (Co c0 [0] 7 (Co c1 [1] 8 (Co c2 [2] 9 (Co c3 [3] 11 (Co c4 [4] 12 tI))))) (by kernel_rfl)
theorem ccl {c:Ck} (h1:Fn 51 1 [qaC 0 c.s] [(0,0,qao c.s)] (.ag [.ls 1 c.s.length]) 1 [(1,0,qao c.s)]) (h2:Fn 106 1 [.ls 0 c.l.length] [(0,0,qan c.l)] (.ls 1 c.l.length) 1 [(1,0,qan c.l)]) (h3:Fn 107 5 [agA c.u c.b c.fr c.ev c.wh] (qx9 c) (.ag [.ls 5 c.u.length,.ls 6 c.b.length,.ls 7 c.fr.length,.ls 8 c.ev.length,.ls 9 c.wh.length]) 5 [(5,0,zrI c.u),(6,0,zrB c.b),(7,0,zrI c.fr),(8,0,qar c.ev),(9,0,zrI c.wh)]) (h4:Fn 108 1 [.ls 0 c.d.length] [(0,0,qaX c.d)] (.ls 1 c.d.length) 1 [(1,0,qaX c.d)]) :
 Fn 58 8 [qap c] (qas c) (qfG c) 8 (qbT c):=
 qaa 300 [(8,10),(9,11),(10,12),(11,13),(12,14),(13,15),(14,16),(15,17)] [.md,Cf h1 [0],Cf h2 [1],Cf h3 [2,3,4,5,6],Cf h4 [7]]
  (qaF (qaP [(8,10),(9,11),(10,12),(11,13),(12,14),(13,15),(14,16),(15,17)]) (qbT c)) (Co h1 [0] 10 (Co h2 [1] 11 (Co h3 [2,3,4,5,6] 12 (Co h4 [7] 17 tI)))) (by kernel_rfl)
theorem qBL {a pa pb n:Int} (n1:(!(a==a))=false) (n2:(!(n==n))=false) (h1:decide (a<n)=true) :
 Pure Tryz.prog 156 #[qae a pa pb,iV n] (iV (-1)):=
 qaf (args:=[qae a pa pb,iV n]) 300 [.k,.k,.t false,.k,.t false,.t true]
  (Ai rfl (Ai n1 (Ai n2 (Ai h1 tI)))) (by kernel_rfl)
theorem qyp {a pa pb n:Int} (n1:(!(a==a))=false) (n2:(!(n==n))=false) (h1:decide (a<n)=false) (h2:decide (a>n)=true) :
 Pure Tryz.prog 156 #[qae a pa pb,iV n] (iV (1)):=
 qaf (args:=[qae a pa pb,iV n]) 300 [.k,.k,.t false,.k,.t false,.t false,.t true]
  (Ai rfl (Ai n1 (Ai n2 (Ai h1 (Ai h2 tI))))) (by kernel_rfl)
theorem qzC {a pa pb n:Int} (n1:(!(a==a))=false) (n2:(!(n==n))=false) (h1:decide (a<n)=false) (h2:decide (a>n)=false) :
 Pure Tryz.prog 156 #[qae a pa pb,iV n] (iV (0)):=
 qaf (args:=[qae a pa pb,iV n]) 300 [.k,.k,.t false,.k,.t false,.t false,.t false]
  (Ai rfl (Ai n1 (Ai n2 (Ai h1 (Ai h2 tI))))) (by kernel_rfl)
abbrev qCU (i:Nat) (j:Nat) (l:List Pt) (n:Int):TmL:=[(0,.ls 0 l.length),(1,.pv (iV n)),(2,.pv (.func (.func 156) #[] #[])),(8,.pv (iV (l.length:Int))),(9,.pv (iV (i:Int))),(10,.pv (iV (j:Int)))]
abbrev qC8 (c:Int) (n:Int) (p:Pt):Prop:=Pure Tryz.prog 156 #[qae p.id p.a p.b,iV n] (iV (c))
theorem qyV {l:List Pt} {i j h:Nat} {p:Pt} {c n:Int} (hk:l[h]?=some p) (hin:0≤(h:Int)∧(h:Int)<(l.length:Int)) (hlt:decide ((i:Int)<(j:Int))=true) (ha:iV (IntKind.i64.wrap ((i:Int)+(j:Int)))=iV ((i:Int)+(j:Int))) (hu:Value.int .u64 (IntKind.u64.wrap ((i:Int)+(j:Int)))=.int .u64 ((i:Int)+(j:Int))) (h1:¬ (1:Int)<0) (hs:Value.int .u64 (((i:Int)+(j:Int)).fdiv (2 ^ (min (1:Int).toNat IntKind.u64.bits)))=.int .u64 (h:Int)) (hb:iV (IntKind.i64.wrap (h:Int))=iV (h:Int)) (hc:qC8 c n p) (hz:decide (c<0)=true) (hh:iV (IntKind.i64.wrap ((h:Int)+1))=iV (((h+1:Nat):Int))) {e:Exit} {tm2:TmL} {hp2:HpL}
 (r:Rl 1 1 155 0 49 1 ([(0,.ls 0 l.length),(1,.pv (iV n)),(2,.pv (.func (.func 156) #[] #[])),(8,.pv (iV (l.length:Int))),(9,.pv (iV ((h+1:Nat):Int))),(10,.pv (iV (j:Int)))]) ([(0,0,qaX l)]) e tm2 hp2):Rl 1 1 155 0 49 1 (qCU i j l n) ([(0,0,qaX l)]) e tm2 hp2:=
 RunsL.next [] 300 [.t true,Re ha,Re hu,.r (.int .u64 (h:Int)),Re hb,.r (ptV p),Rf hc,.t true,Re hh]
  (qab (Ai hlt (Ai ha (Ai hu (Ai h1 (Ai hs (Ai hb (Ai hin (Ai (qaR hk) (Ai hc (Ai hz (Ai hh tI))))))))))) (by kernel_rfl)) r
theorem qzn {l:List Pt} {i j h:Nat} {p:Pt} {c n:Int} (hk:l[h]?=some p) (hin:0≤(h:Int)∧(h:Int)<(l.length:Int)) (hlt:decide ((i:Int)<(j:Int))=true) (ha:iV (IntKind.i64.wrap ((i:Int)+(j:Int)))=iV ((i:Int)+(j:Int))) (hu:Value.int .u64 (IntKind.u64.wrap ((i:Int)+(j:Int)))=.int .u64 ((i:Int)+(j:Int))) (h1:¬ (1:Int)<0) (hs:Value.int .u64 (((i:Int)+(j:Int)).fdiv (2 ^ (min (1:Int).toNat IntKind.u64.bits)))=.int .u64 (h:Int)) (hb:iV (IntKind.i64.wrap (h:Int))=iV (h:Int)) (hc:qC8 c n p) (hz:decide (c<0)=false) {e:Exit} {tm2:TmL} {hp2:HpL}
 (r:Rl 1 1 155 0 49 1 ([(0,.ls 0 l.length),(1,.pv (iV n)),(2,.pv (.func (.func 156) #[] #[])),(8,.pv (iV (l.length:Int))),(9,.pv (iV (i:Int))),(10,.pv (iV (h:Int)))]) ([(0,0,qaX l)]) e tm2 hp2):Rl 1 1 155 0 49 1 (qCU i j l n) ([(0,0,qaX l)]) e tm2 hp2:=
 RunsL.next [] 300 [.t true,Re ha,Re hu,.r (.int .u64 (h:Int)),Re hb,.r (ptV p),Rf hc,.t false]
  (qab (Ai hlt (Ai ha (Ai hu (Ai h1 (Ai hs (Ai hb (Ai hin (Ai (qaR hk) (Ai hc (Ai hz tI)))))))))) (by kernel_rfl)) r
theorem qom {l:List Pt} {i j:Nat} {n:Int} (hge:decide ((i:Int)<(j:Int))=false):Rl 1 1 155 0 49 1 (qCU i j l n) ([(0,0,qaX l)]) (.exit 0) (qCU i j l n) ([(0,0,qaX l)]):=
 RunsL.stop [] 300 [.t false] (fun h=>by cases h)
  (qab (Ai hge tI) (by kernel_rfl))
abbrev qDT (k:Nat) (l:List Pt) (n:Int):Prop:=Rl 1 1 155 0 49 1 ([(0,.ls 0 l.length),(1,.pv (iV n)),(2,.pv (.func (.func 156) #[] #[])),(8,.pv (iV (l.length:Int))),(9,.pv (iV ((0:Nat):Int))),(10,.pv (iV (l.length:Int)))]) ([(0,0,qaX l)]) (.exit 0) ([(0,.ls 0 l.length),(1,.pv (iV n)),(2,.pv (.func (.func 156) #[] #[])),(8,.pv (iV (l.length:Int))),(9,.pv (iV (k:Int))),(10,.pv (iV (k:Int)))]) ([(0,0,qaX l)])
theorem qu9 {l:List Pt} {k:Nat} {n:Int} (r0:qDT k l n) (hge:decide ((k:Int)<(l.length:Int))=false) :
 Fn 155 1 [.ls 0 l.length,.pv (iV (n)),.pv (.func (.func 156) #[] #[])] [(0,0,qaX l)] (.pv (.tuple #[iV (k:Int),.bool false])) 0 []:=
 qaa 300 [] [Lf r0,.t false]
  tI (Lo r0 [] (Ai hge tI)) (by kernel_rfl)
theorem qvf {l:List Pt} {k:Nat} {p:Pt} {c:Int} {n:Int} (r0:qDT k l n) (hk:l[k]?=some p) (hin:0≤(k:Int)∧(k:Int)<(l.length:Int)) (hlt:decide ((k:Int)<(l.length:Int))=true) (hc:qC8 c n p) (hz:(c==0)=true) :
 Fn 155 1 [.ls 0 l.length,.pv (iV (n)),.pv (.func (.func 156) #[] #[])] [(0,0,qaX l)] (.pv (.tuple #[iV (k:Int),.bool true])) 0 []:=
 qaa 300 [] [Lf r0,.t true,.r (ptV p),Rf hc,.t true]
  tI (Lo r0 [] (Ai hlt (Ai hin (Ai (qaR hk) (Ai hc (Ai hz tI)))))) (by kernel_rfl)
theorem qB1 {l:List Pt} {k:Nat} {p:Pt} {c:Int} {n:Int} (r0:qDT k l n) (hk:l[k]?=some p) (hin:0≤(k:Int)∧(k:Int)<(l.length:Int)) (hlt:decide ((k:Int)<(l.length:Int))=true) (hc:qC8 c n p) (hz:(c==0)=false) :
 Fn 155 1 [.ls 0 l.length,.pv (iV (n)),.pv (.func (.func 156) #[] #[])] [(0,0,qaX l)] (.pv (.tuple #[iV (k:Int),.bool false])) 0 []:=
 qaa 300 [] [Lf r0,.t true,.r (ptV p),Rf hc,.t false]
  tI (Lo r0 [] (Ai hlt (Ai hin (Ai (qaR hk) (Ai hc (Ai hz tI)))))) (by kernel_rfl)
theorem cfd {l:List Pt} {k:Nat} {w:Bool} {n:Int} (hb:Fn 155 1 [.ls 0 l.length,.pv (iV (n)),.pv (.func (.func 156) #[] #[])] [(0,0,qaX l)] (.pv (.tuple #[iV (k:Int),.bool w])) 0 []) :
 Fn 110 1 [.ls 0 l.length,.pv (iV (n))] [(0,0,qaX l)] (.pv (.tuple #[iV (k:Int),.bool w])) 0 []:=
 qaa 300 [] [Cf hb [0]]
  tI (Co hb [0] 1 tI) (by kernel_rfl)
theorem qGj {z:Int} (h0:decide (z<0)=false) (hs:iV (IntKind.i64.wrap (z-0))=iV (z)) (hg:decide (z>0)=false) :
 Fn 202 0 [.pv (.slice none 0 0),.pv (iV (z))] [] (.pv (.slice none 0 0)) 0 []:=
 qaa 300 [] [.t false,.k,Re hs,.t false]
  tI (Ai h0 (Ai hs (Ai hg tI))) (by kernel_rfl)
theorem qCv {z:Int} (h0:decide (z<0)=false) (hs:iV (IntKind.i64.wrap (z-0))=iV (z)) (hg:decide (z>0)=true) (a0:0≤z) (a1:z≤1000000) :
 Fn 202 0 [.pv (.slice none 0 0),.pv (iV (z))] [] (.ls 0 0) 1 [(0,0,qaX ([]:List Pt))]:=
 qaa 300 [(0,1)] [.t false,.k,Re hs,.t true,.w []]
  (qaF (qaP [(0,1)]) [(0,0,qaX ([]:List Pt))]) (Ai h0 (Ai hs (Ai hg (Ai a0 (Ai a1 (Ai (Int.le_refl (0:Int)) (Ai (Nat.zero_le z.toNat) tI))))))) (by kernel_rfl)
theorem qAD {l:List Pt} {k:Nat} {s1 s2:Int} (q1:iV (IntKind.i64.wrap ((0:Int)+((k:Nat):Int)))=iV (s1)) (n1:decide (s1<0)=false) (q2:iV (IntKind.i64.wrap (s1+((l.length-(k+1):Nat):Int)))=iV (s2)) (n2:decide (s2<0)=false) (hgr:Fn 202 0 [.pv (.slice none 0 0),.pv (iV (s2))] [] (.ls 0 0) 1 [(0,0,qaX ([]:List Pt))]) (a1:0+k≤1000000) (a2:0+k+(l.length-(k+1))≤1000000) (hkl1:k+1≤l.length) :
 Fn 162 2 [.ps 1 0 2 2] [(1,0,.lq 0 3 0 k),(1,1,.lq 0 3 (0+(k+1)) (l.length-(k+1))),(0,0,qaX l)] (.ls 2 (l.take k++l.drop (k+1)).length) 1 [(2,0,qaX (l.take k++l.drop (k+1)))]:=
 qaJ 300 [(2,4)] [.k,.r (iV (s1)),.t false,.k,.k,.r (iV (s2)),.t false,.k,.k,Cf hgr [],.k,.k,.k,.k,.k]
  (qkG 4 l k hkl1) (Ai (qgW l k hkl1) tI) (Ai q1 (Ai n1 (Ai q2 (Ai n2 (Co hgr [] 2 (Ai a1 (Ai a2 tI))))))) (by kernel_rfl)
theorem qza {l:List Pt} {k:Nat} {s1 s2:Int} (q1:iV (IntKind.i64.wrap ((0:Int)+((k:Nat):Int)))=iV (s1)) (n1:decide (s1<0)=false) (q2:iV (IntKind.i64.wrap (s1+((l.length-(k+1):Nat):Int)))=iV (s2)) (n2:decide (s2<0)=false) (hgr:Fn 202 0 [.pv (.slice none 0 0),.pv (iV (s2))] [] (.pv (.slice none 0 0)) 0 []) (a1:0+k≤1000000) (a2:0+k+(l.length-(k+1))≤1000000) (hkl1:k+1≤l.length) :
 Fn 162 2 [.ps 1 0 2 2] [(1,0,.lq 0 3 0 k),(1,1,.lq 0 3 (0+(k+1)) (l.length-(k+1))),(0,0,qaX l)] (.ls 2 (l.take k++l.drop (k+1)).length) 1 [(2,0,qaX (l.take k++l.drop (k+1)))]:=
 qaJ 300 [(2,3)] [.k,.r (iV (s1)),.t false,.k,.k,.r (iV (s2)),.t false,.k,.k,Cf hgr [],.k,.k,.k,.k,.k]
  (qkG 3 l k hkl1) (Ai (qgW l k hkl1) tI) (Ai q1 (Ai n1 (Ai q2 (Ai n2 (Co hgr [] 2 (Ai a1 (Ai a2 tI))))))) (by kernel_rfl)
theorem qG9 {l:List Pt} {n hi hw:Int} {k:Nat} {s1 s2 s3:Int} (q1:iV (IntKind.i64.wrap ((0:Int)+((k:Nat):Int)))=iV (s1)) (n1:decide (s1<0)=false) (q2:iV (IntKind.i64.wrap (s1+((1:Nat):Int)))=iV (s2)) (n2:decide (s2<0)=false) (q3:iV (IntKind.i64.wrap (s2+((l.length-k:Nat):Int)))=iV (s3)) (n3:decide (s3<0)=false) (hgr:Fn 202 0 [.pv (.slice none 0 0),.pv (iV (s3))] [] (.ls 0 0) 1 [(0,0,qaX ([]:List Pt))]) (a1:0+k≤1000000) (a2:0+k+1≤1000000) (a3:0+k+1+(l.length-k)≤1000000) (hkl:k≤l.length) :
 Fn 162 3 [.ps 2 0 3 3] [(2,0,.lq 0 3 0 k),(2,1,.ps 1 0 1 1),(2,2,.lq 0 3 (0+k) (l.length-k)),(1,0,.pv (iV n)),(1,1,.pv (iV hi)),(1,2,.pv (iV hw)),(0,0,qaX l)] (.ls 3 (l.take k++(Pt.mk n hi hw)::l.drop k).length) 1 [(3,0,qaX (l.take k++(Pt.mk n hi hw)::l.drop k))]:=
 qaJ 300 [(3,6)] [.k,.r (iV (s1)),.t false,.k,.k,.r (iV (s2)),.t false,.k,.k,.r (iV (s3)),.t false,.k,.k,Cf hgr [],.k,.k,.k,.k,.k,.k,.k]
  (qzk 6 l k (Pt.mk n hi hw) hkl) (Ai (qsG l k (Pt.mk n hi hw) hkl) tI) (Ai q1 (Ai n1 (Ai q2 (Ai n2 (Ai q3 (Ai n3 (Co hgr [] 3 (Ai a1 (Ai a2 (Ai a3 tI)))))))))) (by kernel_rfl)
theorem qEs {c:Ck} {k:Nat} {n:Int} (hfd:Fn 110 1 [.ls 0 c.d.length,.pv (iV (n))] [(0,0,qaX c.d)] (.pv (.tuple #[iV (k:Int),.bool false])) 0 []) :
 Fn 113 8 [qap c,.pv (iV (n))] (qas c) (qap c) 0 []:=
 qaa 300 [] [Cf hfd [7],.k]
  tI (Co hfd [7] 10 tI) (by kernel_rfl)
abbrev qFS (o:Ck):HpL:=[(5,0,zrI o.u),(6,0,zrB o.b),(7,0,zrI o.fr),(8,0,qar o.ev),(9,0,zrI o.wh)]
theorem qyL {c o:Ck} {q:Pt} {k:Nat} {n:Int} {y:Ev} (hfd:Fn 110 1 [.ls 0 c.d.length,.pv (iV (n))] [(0,0,qaX c.d)] (.pv (.tuple #[iV (k:Int),.bool true])) 0 []) (hq:c.d[k]?=some q) (hiq:0≤(k:Int)∧(k:Int)<(c.d.length:Int)) (hr:Fn 163 5 [agA c.u c.b c.fr c.ev c.wh,.pv (qaK q.a q.b)] (qx9 c) (.tu [.ag [.ls 5 o.u.length,.ls 6 o.b.length,.ls 7 o.fr.length,.ls 8 o.ev.length,.ls 9 o.wh.length],.one (.pv (qac y)),.one (.pv (iV 0))]) 5 (qFS o)) (hkl:k≤c.d.length) (hkl1:k+1≤c.d.length) (hk1:iV (IntKind.i64.wrap ((k:Int)+1))=iV (((k+1:Nat):Int))) (hcut:Fn 162 2 [.ps 1 0 2 2] [(1,0,.lq 0 3 0 k),(1,1,.lq 0 3 (0+(k+1)) (c.d.length-(k+1))),(0,0,qaX c.d)] (.ls 2 (c.d.take k++c.d.drop (k+1)).length) 1 [(2,0,qaX (c.d.take k++c.d.drop (k+1)))]) :
 Fn 113 8 [qap c,.pv (iV (n))] (qas c) (qCV c o (c.d.take k++c.d.drop (k+1))) 6 [(8,0,zrI o.u),(9,0,zrB o.b),(10,0,zrI o.fr),(11,0,qar o.ev),(12,0,zrI o.wh),(13,0,qaX (c.d.take k++c.d.drop (k+1)))]:=
 qaa 300 [(8,10),(9,11),(10,12),(11,13),(12,14),(13,16)] [Cf hfd [7],.k,.md,.r (qaK q.a q.b),Cf hr [2,3,4,5,6],.md,.k,Re hk1,.k,Cf hcut [7,15]]
  (qaF (qaP [(8,10),(9,11),(10,12),(11,13),(12,14),(13,16)]) [(8,0,zrI o.u),(9,0,zrB o.b),(10,0,zrI o.fr),(11,0,qar o.ev),(12,0,zrI o.wh),(13,0,qaX (c.d.take k++c.d.drop (k+1)))]) (Co hfd [7] 10 (Ai hiq (Ai (qdt hq) (Co hr [2,3,4,5,6] 10 (Ai tI (Ai (Int.natCast_nonneg k) (Ai (Nat.zero_le k) (Ai hkl (Ai hk1 (Ai (Int.natCast_nonneg (k+1)) (Ai tI (Ai hkl1 (Ai (Nat.le_refl c.d.length) (Co hcut [7,15] 16 tI)))))))))))))) (by kernel_rfl)
theorem qzX {c:Ck} {n tn td e:Int} (hp:Fn 161 5 [agA c.u c.b c.fr c.ev c.wh,.pv (qad tn td),.pv (iV (n))] (qx9 c) (.pv (.tuple #[.agg #[.slice none 0 0,.slice none 0 0,.slice none 0 0,.slice none 0 0,.slice none 0 0],qaK 0 0,iV e])) 0 []) (he:(e !=0)=true) :
 Fn 112 8 [qap c,.pv (qad tn td),.pv (iV (n))] (qas c) (.pv (.tuple #[qbz,iV e])) 0 []:=
 qaa 300 [] [Cf hp [2,3,4,5,6],.t true]
  tI (Co hp [2,3,4,5,6] 11 (Ai he tI)) (by kernel_rfl)
theorem qDx {c o:Ck} {k:Nat} {n tn td:Int} {hi hw:Int} (hp:Fn 161 5 [agA c.u c.b c.fr c.ev c.wh,.pv (qad tn td),.pv (iV (n))] (qx9 c) (.tu [.ag [.ls 5 o.u.length,.ls 6 o.b.length,.ls 7 o.fr.length,.ls 8 o.ev.length,.ls 9 o.wh.length],.one (.pv (qaK hi hw)),.one (.pv (iV 0))]) 5 (qFS o)) (hfd:Fn 110 1 [.ls 0 c.d.length,.pv (iV (n))] [(0,0,qaX c.d)] (.pv (.tuple #[iV (k:Int),.bool false])) 0 []) (hkl:k≤c.d.length) (hins:Fn 162 3 [.ps 2 0 3 3] [(2,0,.lq 0 3 0 k),(2,1,.ps 1 0 1 1),(2,2,.lq 0 3 (0+k) (c.d.length-k)),(1,0,.pv (iV n)),(1,1,.pv (iV hi)),(1,2,.pv (iV hw)),(0,0,qaX c.d)] (.ls 3 (c.d.take k++(Pt.mk n hi hw)::c.d.drop k).length) 1 [(3,0,qaX (c.d.take k++(Pt.mk n hi hw)::c.d.drop k))]) :
 Fn 112 8 [qap c,.pv (qad tn td),.pv (iV (n))] (qas c) (.tu [qiw c o (c.d.take k++(Pt.mk n hi hw)::c.d.drop k),.one (.pv (iV 0))]) 6 [(8,0,zrI o.u),(9,0,zrB o.b),(10,0,zrI o.fr),(11,0,qar o.ev),(12,0,zrI o.wh),(13,0,qaX (c.d.take k++(Pt.mk n hi hw)::c.d.drop k))]:=
 qaa 300 [(8,11),(9,12),(10,13),(11,14),(12,15),(13,20)] [Cf hp [2,3,4,5,6],.k,Cf hfd [7],.md,.k,.k,Cf hins [7,18,19]]
  (qaF (qaP [(8,11),(9,12),(10,13),(11,14),(12,15),(13,20)]) [(8,0,zrI o.u),(9,0,zrB o.b),(10,0,zrI o.fr),(11,0,qar o.ev),(12,0,zrI o.wh),(13,0,qaX (c.d.take k++(Pt.mk n hi hw)::c.d.drop k))]) (Co hp [2,3,4,5,6] 11 (Co hfd [7] 18 (Ai tI (Ai (Int.natCast_nonneg k) (Ai (Nat.zero_le k) (Ai hkl (Ai (Int.natCast_nonneg k) (Ai tI (Ai hkl (Ai (Nat.le_refl c.d.length) (Co hins [7,18,19] 20 tI))))))))))) (by kernel_rfl)
abbrev qEb (c:Ck) (p:Pt) (td:Int) (tn:Int):Prop:=Fn 109 8 [qap c,.pv (qag p.a p.b)] (qas c) (.pv (.tuple #[qad tn td,.bool true])) 0 []
theorem qCb {c o:Ck} {p q:Pt} {k:Nat} {tn td:Int} (hf:qEb c p td tn) (hfd:Fn 110 1 [.ls 0 c.d.length,.pv (iV (p.id))] [(0,0,qaX c.d)] (.pv (.tuple #[iV (k:Int),.bool true])) 0 []) (hq:c.d[k]?=some q) (hiq:0≤(k:Int)∧(k:Int)<(c.d.length:Int)) (hr:Fn 111 5 [agA c.u c.b c.fr c.ev c.wh,.pv (qaK q.a q.b),.pv (qad tn td)] (qx9 c) (.tu [.ag [.ls 5 o.u.length,.ls 6 o.b.length,.ls 7 o.fr.length,.ls 8 o.ev.length,.ls 9 o.wh.length],.one (.pv (iV 0))]) 5 (qFS o)) :
 Fn 59 8 [qap c,.pv (ptV p)] (qas c) (.tu [qvp c o,.one (.pv (iV 0))]) 5 [(8,0,zrI o.u),(9,0,zrB o.b),(10,0,zrI o.fr),(11,0,qar o.ev),(12,0,zrI o.wh)]:=
 qaa 300 [(8,12),(9,13),(10,14),(11,15),(12,16)] [Cf hf [0,1,2,3,4,5,6,7],Cf hfd [7],.md,.r (qaK q.a q.b),Cf hr [2,3,4,5,6]]
  (qaF (qaP [(8,12),(9,13),(10,14),(11,15),(12,16)]) [(8,0,zrI o.u),(9,0,zrB o.b),(10,0,zrI o.fr),(11,0,qar o.ev),(12,0,zrI o.wh)]) (Co hf [0,1,2,3,4,5,6,7] 11 (Co hfd [7] 12 (Ai hiq (Ai (qdt hq) (Co hr [2,3,4,5,6] 12 tI))))) (by kernel_rfl)
abbrev qxW (l2:List Pt) (o:Ck):HpL:=[(8,0,zrI o.u),(9,0,zrB o.b),(10,0,zrI o.fr),(11,0,qar o.ev),(12,0,zrI o.wh),(13,0,qaX l2)]
theorem qwO {c o:Ck} {p:Pt} {k:Nat} {tn td:Int} {l2:List Pt} (hf:qEb c p td tn) (hfd:Fn 110 1 [.ls 0 c.d.length,.pv (iV (p.id))] [(0,0,qaX c.d)] (.pv (.tuple #[iV (k:Int),.bool false])) 0 []) (hp:Fn 112 8 [qap c,.pv (qad tn td),.pv (iV (p.id))] (qas c) (.tu [qiw c o l2,.one (.pv (iV 0))]) 6 (qxW l2 o)) :
 Fn 59 8 [qap c,.pv (ptV p)] (qas c) (.tu [qiw c o l2,.one (.pv (iV 0))]) 6 (qxW l2 o):=
 qaa 300 [(8,12),(9,13),(10,14),(11,15),(12,16),(13,17)] [Cf hf [0,1,2,3,4,5,6,7],Cf hfd [7],Cf hp [0,1,2,3,4,5,6,7]]
  (qaF (qaP [(8,12),(9,13),(10,14),(11,15),(12,16),(13,17)]) (qxW l2 o)) (Co hf [0,1,2,3,4,5,6,7] 11 (Co hfd [7] 12 (Co hp [0,1,2,3,4,5,6,7] 12 tI))) (by kernel_rfl)
theorem qw4 {c:Ck} {p:Pt} {k:Nat} {tn td e:Int} (hf:qEb c p td tn) (hfd:Fn 110 1 [.ls 0 c.d.length,.pv (iV (p.id))] [(0,0,qaX c.d)] (.pv (.tuple #[iV (k:Int),.bool false])) 0 []) (hp:Fn 112 8 [qap c,.pv (qad tn td),.pv (iV (p.id))] (qas c) (.pv (.tuple #[qbz,iV e])) 0 []) :
 Fn 59 8 [qap c,.pv (ptV p)] (qas c) (.pv (.tuple #[qbz,iV e])) 0 []:=
 qaa 300 [] [Cf hf [0,1,2,3,4,5,6,7],Cf hfd [7],Cf hp [0,1,2,3,4,5,6,7]]
  tI (Co hf [0,1,2,3,4,5,6,7] 11 (Co hfd [7] 12 (Co hp [0,1,2,3,4,5,6,7] 12 tI))) (by kernel_rfl)
theorem quE {c o:Ck} {p:Pt} {k:Nat} {tn td:Int} {w:Bool} {l2:List Pt} (hf:Fn 109 8 [qap c,.pv (qag p.a p.b)] (qas c) (.pv (.tuple #[qad tn td,.bool false])) 0 []) (hfd:Fn 110 1 [.ls 0 c.d.length,.pv (iV (p.id))] [(0,0,qaX c.d)] (.pv (.tuple #[iV (k:Int),.bool w])) 0 []) (hel:Fn 113 8 [qap c,.pv (iV (p.id))] (qas c) (qCV c o l2) 6 (qxW l2 o)) :
 Fn 59 8 [qap c,.pv (ptV p)] (qas c) (.tu [qiw c o l2,.one (.pv (iV 0))]) 6 (qxW l2 o):=
 qaa 300 [(8,12),(9,13),(10,14),(11,15),(12,16),(13,17)] [Cf hf [0,1,2,3,4,5,6,7],Cf hfd [7],Cf hel [0,1,2,3,4,5,6,7]]
  (qaF (qaP [(8,12),(9,13),(10,14),(11,15),(12,16),(13,17)]) (qxW l2 o)) (Co hf [0,1,2,3,4,5,6,7] 11 (Co hfd [7] 12 (Co hel [0,1,2,3,4,5,6,7] 12 tI))) (by kernel_rfl)
theorem qv4 {c:Ck} {p:Pt} {k:Nat} {tn td:Int} {w:Bool} (hf:Fn 109 8 [qap c,.pv (qag p.a p.b)] (qas c) (.pv (.tuple #[qad tn td,.bool false])) 0 []) (hfd:Fn 110 1 [.ls 0 c.d.length,.pv (iV (p.id))] [(0,0,qaX c.d)] (.pv (.tuple #[iV (k:Int),.bool w])) 0 []) (hel:Fn 113 8 [qap c,.pv (iV (p.id))] (qas c) (qap c) 0 []) :
 Fn 59 8 [qap c,.pv (ptV p)] (qas c) (.tu [qqR c,.one (.pv (iV 0))]) 0 []:=
 qaa 300 [] [Cf hf [0,1,2,3,4,5,6,7],Cf hfd [7],Cf hel [0,1,2,3,4,5,6,7]]
  tI (Co hf [0,1,2,3,4,5,6,7] 11 (Co hfd [7] 12 (Co hel [0,1,2,3,4,5,6,7] 12 tI))) (by kernel_rfl)
theorem qAs {c:Ck} {n e:Int} (hrm:Fn 114 1 [qaM 0 c.x c.l,.pv (iV (n))] [(0,0,qan c.l)] (.pv (.tuple #[.agg #[iV 0,.slice none 0 0],qag 0 0,iV e])) 0 []) (he:(e !=0)=true) :
 Fn 60 8 [qap c,.pv (iV (n))] (qas c) (.pv (.tuple #[qbz,qag 0 0,iV e])) 0 []:=
 qaa 300 [] [Cf hrm [1],.t true]
  tI (Co hrm [1] 11 (Ai he tI)) (by kernel_rfl)
abbrev qGz (a:Int) (b:Int) (c:Ck) (l2:List Pt) (n:Int):Prop:=Fn 114 1 [qaM 0 c.x c.l,.pv (iV (n))] [(0,0,qan c.l)] (.tu [.ag [.pv (iV c.x),.ls 1 l2.length],.one (.pv (qag a b)),.one (.pv (iV 0))]) 1 [(1,0,qan l2)]
theorem qEe {c:Ck} {n a b:Int} {l2:List Pt} (hrm:qGz a b c l2 n) (hcl:Fn 58 8 [qap c] (qas c) (qfG c) 8 (qbT c)) (hel:Fn 113 8 [qap c,.pv (iV (n))] (qas c) (qap c) 0 []) :
 Fn 60 8 [qap c,.pv (iV (n))] (qas c) (.tu [qeY { c with l:=l2 },.one (.pv (qag a b)),.one (.pv (iV 0))]) 8 (qbT ({ c with l:=l2 }:Ck)):=
 qaa 300 [(8,14),(9,11),(10,16),(11,17),(12,18),(13,19),(14,20),(15,21)] [Cf hrm [1],.k,Cf hcl [0,1,2,3,4,5,6,7],Cf hel [14,15,16,17,18,19,20,21]]
  (qaF (qaP [(8,14),(9,11),(10,16),(11,17),(12,18),(13,19),(14,20),(15,21)]) (qbT ({ c with l:=l2 }:Ck))) (Co hrm [1] 11 (Co hcl [0,1,2,3,4,5,6,7] 14 (Co hel [14,15,16,17,18,19,20,21] 22 tI))) (by kernel_rfl)
theorem qzc {c o:Ck} {n a b:Int} {l l2:List Pt} (hrm:qGz a b c l2 n) (hcl:Fn 58 8 [qap c] (qas c) (qfG c) 8 (qbT c)) (hel:Fn 113 8 [qap c,.pv (iV (n))] (qas c) (qCV c o l) 6 [(8,0,zrI o.u),(9,0,zrB o.b),(10,0,zrI o.fr),(11,0,qar o.ev),(12,0,zrI o.wh),(13,0,qaX l)]) :
 Fn 60 8 [qap c,.pv (iV (n))] (qas c) (.tu [qeY { c with l:=l2,u:=o.u,b:=o.b,fr:=o.fr,ev:=o.ev,wh:=o.wh,d:=l },.one (.pv (qag a b)),.one (.pv (iV 0))]) 8 (qbT ({ c with l:=l2,u:=o.u,b:=o.b,fr:=o.fr,ev:=o.ev,wh:=o.wh,d:=l }:Ck)):=
 qaa 300 [(8,14),(9,11),(10,22),(11,23),(12,24),(13,25),(14,26),(15,27)] [Cf hrm [1],.k,Cf hcl [0,1,2,3,4,5,6,7],Cf hel [14,15,16,17,18,19,20,21]]
  (qaF (qaP [(8,14),(9,11),(10,22),(11,23),(12,24),(13,25),(14,26),(15,27)]) (qbT ({ c with l:=l2,u:=o.u,b:=o.b,fr:=o.fr,ev:=o.ev,wh:=o.wh,d:=l }:Ck))) (Co hrm [1] 11 (Co hcl [0,1,2,3,4,5,6,7] 14 (Co hel [14,15,16,17,18,19,20,21] 22 tI))) (by kernel_rfl)
end Go.Proofs.YtkjaanhddkkodaaGreat
