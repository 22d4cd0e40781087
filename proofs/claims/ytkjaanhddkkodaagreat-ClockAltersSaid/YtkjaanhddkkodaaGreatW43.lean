/-
  Joined: Lr, Lu, Lw, Lx, Ba, Bb. Conditions: none.
-/
import Derived.Test.YtkjaanhddkkodaaGreatW42
import Derived.Test.YtkjaanhddkkodaaGreatW18
import Derived.Test.YtkjaanhddkkodaaGreatW41
import Derived.Test.YtkjaanhddkkodaaGreatW40
namespace Go.Proofs.YtkjaanhddkkodaaGreat
set_option maxRecDepth 100000
open Go.RowKit
def qes (c:Ck):Bool:=decide (40<c.l.length)||(decide (40<c.d.length)||(decide (¬ (c.s.length≤16∨64≤c.s.length∧c.s.length≤70))||qhJ c.u c.b c.fr c.ev c.wh))
theorem qf8 (c:Ck):Fn 26 8 [qap c] (qat c) (.pv (.bool (qes c))) 0 []:=by
 unfold qes
 by_cases h1:40<c.l.length
 ·rw[dt h1]
  exact qDR (g1:=dt (by omega))
 ·rw[df h1,Bool.false_or]
  by_cases h2:40<c.d.length
  ·rw[dt h2]
   exact qCa (g1:=df (by omega)) (g2:=dt (by omega))
  ·rw[df h2,Bool.false_or]
   rcases qhr c.s with ⟨h3,hG⟩ | ⟨h3,hG⟩
   ·rw[dt h3]
    exact qCr (g1:=df (by omega)) (g2:=df (by omega)) (hf:=hG)
   ·rw[df fun h=>h h3,Bool.false_or]
    have hA:=qlC (u:=c.u) (b:=c.b) (fr:=c.fr) (ev:=c.ev) (wh:=c.wh)
    cases e:qhJ c.u c.b c.fr c.ev c.wh
    ·rw[e] at hA
     exact qyn (g1:=df (by omega)) (g2:=df (by omega)) (hf:=hG) (hg:=hA)
    ·rw[e] at hA
     exact qCf (g1:=df (by omega)) (g2:=df (by omega)) (hf:=hG) (hg:=hA)
theorem qhT {c:Ck} (h:qes c=false) (h1:I64 c.tn) (h2:I64 c.td) (hi:∀ y∈c.ev,EvI y):S9 c∧c.l.length≤40∧c.d.length≤40∧c.s.length≤70:=by
 unfold qes at h
 rw[Bool.or_eq_false_iff,Bool.or_eq_false_iff,Bool.or_eq_false_iff] at h
 obtain⟨a1,a2,a3,a4⟩:=h
 have b1:=of_decide_eq_false a1
 have b2:=of_decide_eq_false a2
 have b3:c.s.length≤16∨64≤c.s.length∧c.s.length≤70:=Classical.byContradiction fun h=>by
  rw[dt h] at a3
  cases a3
 unfold qhJ at a4
 rw[Bool.or_eq_false_iff,Bool.or_eq_false_iff] at a4
 obtain⟨g1,g2,g3⟩:=a4
 have g2:=of_decide_eq_false g2
 have g3:=of_decide_eq_false g3
 obtain⟨k1,k2,k3⟩:=qlR g1
 exact⟨⟨h1,h2,by omega,by omega,⟨k1,k2,k3,by omega,by omega,hi⟩⟩,by omega,by omega,by omega⟩
end Go.Proofs.YtkjaanhddkkodaaGreat

namespace Go.Proofs.YtkjaanhddkkodaaGreat
set_option maxRecDepth 100000
open Go.RowKit
abbrev qyJ (f:FuncId) (s:List Pt) (tn td:Int):Prop:=Fn f 1 [qaB 0 s,.pv (qaa tn td)] [(0,0,qal s)] (.tu [.ag [.pv (iV tn),.pv (iV td),.ls 1 s.length,.pv (iV 0),.ls 7 0,.ls 2 (qdS s tn td).u.length,.ls 3 (qdS s tn td).b.length,.ls 4 (qdS s tn td).fr.length,.ls 6 0,.ls 5 (qdS s tn td).wh.length,.ls 8 0],.one (.pv (iV 0))]) 8 [(8,0,qaS []),(7,0,qam []),(1,0,qal s),(2,0,zrI (qdS s tn td).u),(3,0,zrB (qdS s tn td).b),(4,0,zrI (qdS s tn td).fr),(5,0,zrI (qdS s tn td).wh),(6,0,qas [])]
structure Prog9:Prop where
 new:∀ {s:List Pt} {tn td:Int},I64 tn→I64 td→(tE s tn td≠0→qzc 10 s tn td (tE s tn td))∧(tE s tn td=0→qyJ 10 s tn td)
 check:∀ {c:Ck},S9 c→c.s.length≤70→Fn 22 8 [qap c] (qat c) (.pv (iV (qne c))) 0 []
 certify:∀ {c:Ck},S9 c→c.s.length≤70→∀ a b,(cyE c a b≠0→qAO 16 c a b (cyE c a b))∧(cyE c a b=0→∀ o,qhI c a b o→qE5 16 c a b o)
 retire:∀ {c:Ck},S9 c→c.s.length≤70→∀ n,(reE c n≠0→qvS 17 c n (reE c n))∧(reE c n=0→∀ o,qeQ c n o→qBS 17 c n o)
 next:∀ {c:Ck},S9 c→c.s.length≤70→(¬ V9 c→Fn 18 8 [qap c] (qat c) (.pv (.tuple #[evZ,iV 8])) 0 [])∧(V9 c→c.ev=[]→Fn 18 8 [qap c] (qat c) (.pv (.tuple #[evZ,iV 42])) 0 [])∧(V9 c→∀ y,c.ev[0]?=some y→Fn 18 8 [qap c] (qat c) (.pv (.tuple #[qab y,iV 0])) 0 [])
 fail:∀ {c:Ck},S9 c→c.s.length≤70→∀ {tn td:Int},I64 tn→I64 td→(faE c tn td≠0→qx7 19 c tn td (faE c tn td))∧(faE c tn td=0→∀ y p o,qeF c y p o→qE7 19 c tn td y p o)
 move:∀ {c:Ck},S9 c→c.s.length≤70→∀ {tn td:Int},I64 tn→I64 td→(moE c tn td≠0→qxe 20 c tn td (moE c tn td))∧(moE c tn td=0→qFo 20 c tn td)
 alter:∀ {c:Ck},S9 c→c.s.length≤70→∀ s:List Pt,s.length≤70→(qgc c s≠0→qpL 21 c s (qgc c s))∧(qgc c s=0→∀ r,AlRun c s c.l { c with d:=[] } r→(∀ o,r=some o→qFm 21 c s o)∧(r=none→qpL 21 c s 18))
theorem qD9 {c:Ck} {a b:Int} (h:cyE c a b=0):V9 c∧qce a b=true∧(∃ q∈c.s,q.id=a)∧(∃ q∈c.s,q.id=b)∧adE c a b=0:=by
 unfold cyE at h
 split at h
 ·rename_i h1
  split at h
  ·rename_i h2
   exact⟨h1.1,h1.2,h2.1,h2.2,h⟩
  ·cases h
 ·cases h
theorem qtN {c o:Ck} {a b:Int} (h:qhI c a b o):o.tn=c.tn∧o.td=c.td∧o.s=c.s:=by
 rcases h with ⟨_,rfl⟩ | ⟨_,_,_,_,_,_,_,rfl⟩<;>exact⟨rfl,rfl,rfl⟩
theorem qnD {c o:Ck} {n:Int} (h:qeQ c n o):o.tn=c.tn∧o.td=c.td∧o.s=c.s:=by
 rcases h with ⟨_,rfl⟩ | ⟨_,_,_,_,_,_,_,_,_,_,rfl⟩<;>exact⟨rfl,rfl,rfl⟩
end Go.Proofs.YtkjaanhddkkodaaGreat

namespace Go.Proofs.YtkjaanhddkkodaaGreat
set_option maxRecDepth 100000
open Go.RowKit
theorem qz5 {c:Ck} (hg:Fn 26 8 [qap c] (qat c) (.pv (.bool true)) 0 []) :
 Fn 37 8 [qap c] (qat c) (.pv (.bool false)) 0 []:=
 Fz [] [Cf hg [0,1,2,3,4,5,6,7],.k]
  tI (Co hg [0,1,2,3,4,5,6,7] 9 tI)
theorem qBa {c:Ck} {e:Int} (hg:Fn 26 8 [qap c] (qat c) (.pv (.bool false)) 0 []) (hc:Fn 31 8 [qap c] (qat c) (.pv (iV (e))) 0 []) (he:(e==0)=true) :
 Fn 37 8 [qap c] (qat c) (.pv (.bool true)) 0 []:=
 Fz [] [Cf hg [0,1,2,3,4,5,6,7],.k,Cf hc [0,1,2,3,4,5,6,7],.t true]
  tI (Co hg [0,1,2,3,4,5,6,7] 9 (Co hc [0,1,2,3,4,5,6,7] 9 (Ai he tI)))
theorem qur {c:Ck} {e:Int} (hg:Fn 26 8 [qap c] (qat c) (.pv (.bool false)) 0 []) (hc:Fn 31 8 [qap c] (qat c) (.pv (iV (e))) 0 []) (he:(e==0)=false) :
 Fn 37 8 [qap c] (qat c) (.pv (.bool false)) 0 []:=
 Fz [] [Cf hg [0,1,2,3,4,5,6,7],.k,Cf hc [0,1,2,3,4,5,6,7],.t false]
  tI (Co hg [0,1,2,3,4,5,6,7] 9 (Co hc [0,1,2,3,4,5,6,7] 9 (Ai he tI)))
end Go.Proofs.YtkjaanhddkkodaaGreat

namespace Go.Proofs.YtkjaanhddkkodaaGreat
set_option maxRecDepth 100000
open Go.RowKit
theorem qq8 {c:Ck} (S:S9 c) (V:V9 c) (h:qes c=false):Fn 37 8 [qap c] (qat c) (.pv (.bool true)) 0 []:=by
 have hg:=qf8 c
 have hc:=qdx S
 rw[h] at hg
 rw[qbM V] at hc
 exact qBa (hg:=hg) (hc:=hc) (he:=by decide)
theorem qtg {c:Ck} (h1:I64 c.tn) (h2:I64 c.td) (hi:∀ y∈c.ev,EvI y) (h:¬ (qes c=false∧V9 c)):Fn 37 8 [qap c] (qat c) (.pv (.bool false)) 0 []:=by
 have hg:=qf8 c
 cases e:qes c
 ·rw[e] at hg
  have hc:=qdx (qhT e h1 h2 hi).1
  rw[qbP fun V=>h ⟨e,V⟩] at hc
  exact qur (hg:=hg) (hc:=hc) (he:=by decide)
 ·rw[e] at hg
  exact qz5 (hg:=hg)
theorem qix {x:Int} {l:List Pt} (h:V8 x l) {k:Nat} {p:Pt} (hk:l[k]?=some p):(qaC l p.id).length=l.length-1:=by
 have hl:=qaj hk
 rw[qaC,qc3 h.up hk]
 simp
 omega
end Go.Proofs.YtkjaanhddkkodaaGreat

namespace Go.Proofs.YtkjaanhddkkodaaGreat
set_option maxRecDepth 100000
open Go.RowKit
theorem qxs {a pa pb n:Int} (n1:(!(a==a))=false) (n2:(!(n==n))=false) (h1:decide (a<n)=true) :
 Pure Tryz.prog 193 #[qac a pa pb,iV n] (iV (-1)):=
 qad (args:=[qac a pa pb,iV n]) 300 [.k,.k,.t false,.k,.t false,.t true]
  (Ai rfl (Ai n1 (Ai n2 (Ai h1 tI)))) (by kernel_rfl)
theorem qxN {a pa pb n:Int} (n1:(!(a==a))=false) (n2:(!(n==n))=false) (h1:decide (a<n)=false) (h2:decide (a>n)=true) :
 Pure Tryz.prog 193 #[qac a pa pb,iV n] (iV (1)):=
 qad (args:=[qac a pa pb,iV n]) 300 [.k,.k,.t false,.k,.t false,.t false,.t true]
  (Ai rfl (Ai n1 (Ai n2 (Ai h1 (Ai h2 tI))))) (by kernel_rfl)
theorem qzo {a pa pb n:Int} (n1:(!(a==a))=false) (n2:(!(n==n))=false) (h1:decide (a<n)=false) (h2:decide (a>n)=false) :
 Pure Tryz.prog 193 #[qac a pa pb,iV n] (iV (0)):=
 qad (args:=[qac a pa pb,iV n]) 300 [.k,.k,.t false,.k,.t false,.t false,.t false]
  (Ai rfl (Ai n1 (Ai n2 (Ai h1 (Ai h2 tI))))) (by kernel_rfl)
abbrev qBY (i:Nat) (j:Nat) (l:List Pt) (n:Int):TmL:=[(0,.ls 0 l.length),(1,.pv (iV n)),(2,.pv (.func (.func 193) #[] #[])),(8,.pv (iV (l.length:Int))),(9,.pv (iV (i:Int))),(10,.pv (iV (j:Int)))]
abbrev qrg (c:Int) (n:Int) (p:Pt):Prop:=Pure Tryz.prog 193 #[qac p.id p.a p.b,iV n] (iV (c))
theorem qyK {l:List Pt} {i j h:Nat} {p:Pt} {c n:Int} (hk:l[h]?=some p) (hin:0≤(h:Int)∧(h:Int)<(l.length:Int)) (hlt:decide ((i:Int)<(j:Int))=true) (ha:iV (IntKind.i64.wrap ((i:Int)+(j:Int)))=iV ((i:Int)+(j:Int))) (hu:Value.int .u64 (IntKind.u64.wrap ((i:Int)+(j:Int)))=.int .u64 ((i:Int)+(j:Int))) (h1:¬ (1:Int)<0) (hs:Value.int .u64 (((i:Int)+(j:Int)).fdiv (2 ^ (min (1:Int).toNat IntKind.u64.bits)))=.int .u64 (h:Int)) (hb:iV (IntKind.i64.wrap (h:Int))=iV (h:Int)) (hc:qrg c n p) (hz:decide (c<0)=true) (hh:iV (IntKind.i64.wrap ((h:Int)+1))=iV (((h+1:Nat):Int))) {e:Exit} {tm2:TmL} {hp2:HpL}
 (r:Rl 1 1 192 0 49 1 ([(0,.ls 0 l.length),(1,.pv (iV n)),(2,.pv (.func (.func 193) #[] #[])),(8,.pv (iV (l.length:Int))),(9,.pv (iV ((h+1:Nat):Int))),(10,.pv (iV (j:Int)))]) ([(0,0,qal l)]) e tm2 hp2):Rl 1 1 192 0 49 1 (qBY i j l n) ([(0,0,qal l)]) e tm2 hp2:=
 RunsL.next [] 300 [.t true,Re ha,Re hu,.r (.int .u64 (h:Int)),Re hb,.r (ptV p),Rf hc,.t true,Re hh]
  (Ro (Ai hlt (Ai ha (Ai hu (Ai h1 (Ai hs (Ai hb (Ai hin (Ai (qaO hk) (Ai hc (Ai hz (Ai hh tI)))))))))))) r
theorem qz6 {l:List Pt} {i j h:Nat} {p:Pt} {c n:Int} (hk:l[h]?=some p) (hin:0≤(h:Int)∧(h:Int)<(l.length:Int)) (hlt:decide ((i:Int)<(j:Int))=true) (ha:iV (IntKind.i64.wrap ((i:Int)+(j:Int)))=iV ((i:Int)+(j:Int))) (hu:Value.int .u64 (IntKind.u64.wrap ((i:Int)+(j:Int)))=.int .u64 ((i:Int)+(j:Int))) (h1:¬ (1:Int)<0) (hs:Value.int .u64 (((i:Int)+(j:Int)).fdiv (2 ^ (min (1:Int).toNat IntKind.u64.bits)))=.int .u64 (h:Int)) (hb:iV (IntKind.i64.wrap (h:Int))=iV (h:Int)) (hc:qrg c n p) (hz:decide (c<0)=false) {e:Exit} {tm2:TmL} {hp2:HpL}
 (r:Rl 1 1 192 0 49 1 ([(0,.ls 0 l.length),(1,.pv (iV n)),(2,.pv (.func (.func 193) #[] #[])),(8,.pv (iV (l.length:Int))),(9,.pv (iV (i:Int))),(10,.pv (iV (h:Int)))]) ([(0,0,qal l)]) e tm2 hp2):Rl 1 1 192 0 49 1 (qBY i j l n) ([(0,0,qal l)]) e tm2 hp2:=
 RunsL.next [] 300 [.t true,Re ha,Re hu,.r (.int .u64 (h:Int)),Re hb,.r (ptV p),Rf hc,.t false]
  (Ro (Ai hlt (Ai ha (Ai hu (Ai h1 (Ai hs (Ai hb (Ai hin (Ai (qaO hk) (Ai hc (Ai hz tI))))))))))) r
theorem qmP {l:List Pt} {i j:Nat} {n:Int} (hge:decide ((i:Int)<(j:Int))=false):Rl 1 1 192 0 49 1 (qBY i j l n) ([(0,0,qal l)]) (.exit 0) (qBY i j l n) ([(0,0,qal l)]):=
 RunsL.stop [] 300 [.t false] (fun h=>by cases h)
  (Ro (Ai hge tI))
abbrev qDz (k:Nat) (l:List Pt) (n:Int):Prop:=Rl 1 1 192 0 49 1 ([(0,.ls 0 l.length),(1,.pv (iV n)),(2,.pv (.func (.func 193) #[] #[])),(8,.pv (iV (l.length:Int))),(9,.pv (iV ((0:Nat):Int))),(10,.pv (iV (l.length:Int)))]) ([(0,0,qal l)]) (.exit 0) ([(0,.ls 0 l.length),(1,.pv (iV n)),(2,.pv (.func (.func 193) #[] #[])),(8,.pv (iV (l.length:Int))),(9,.pv (iV (k:Int))),(10,.pv (iV (k:Int)))]) ([(0,0,qal l)])
theorem qwg {l:List Pt} {k:Nat} {n:Int} (r0:qDz k l n) (hge:decide ((k:Int)<(l.length:Int))=false) :
 Fn 192 1 [.ls 0 l.length,.pv (iV (n)),.pv (.func (.func 193) #[] #[])] [(0,0,qal l)] (.pv (.tuple #[iV (k:Int),.bool false])) 0 []:=
 Fz [] [Lf r0,.t false]
  tI (Lo r0 [] (Ai hge tI))
theorem qtR {l:List Pt} {k:Nat} {p:Pt} {c:Int} {n:Int} (r0:qDz k l n) (hk:l[k]?=some p) (hin:0≤(k:Int)∧(k:Int)<(l.length:Int)) (hlt:decide ((k:Int)<(l.length:Int))=true) (hc:qrg c n p) (hz:(c==0)=true) :
 Fn 192 1 [.ls 0 l.length,.pv (iV (n)),.pv (.func (.func 193) #[] #[])] [(0,0,qal l)] (.pv (.tuple #[iV (k:Int),.bool true])) 0 []:=
 Fz [] [Lf r0,.t true,.r (ptV p),Rf hc,.t true]
  tI (Lo r0 [] (Ai hlt (Ai hin (Ai (qaO hk) (Ai hc (Ai hz tI))))))
theorem qxB {l:List Pt} {k:Nat} {p:Pt} {c:Int} {n:Int} (r0:qDz k l n) (hk:l[k]?=some p) (hin:0≤(k:Int)∧(k:Int)<(l.length:Int)) (hlt:decide ((k:Int)<(l.length:Int))=true) (hc:qrg c n p) (hz:(c==0)=false) :
 Fn 192 1 [.ls 0 l.length,.pv (iV (n)),.pv (.func (.func 193) #[] #[])] [(0,0,qal l)] (.pv (.tuple #[iV (k:Int),.bool false])) 0 []:=
 Fz [] [Lf r0,.t true,.r (ptV p),Rf hc,.t false]
  tI (Lo r0 [] (Ai hlt (Ai hin (Ai (qaO hk) (Ai hc (Ai hz tI))))))
theorem qm2 {s:List Pt} {p:Pt} {k:Nat} {n:Int} (hb:Fn 192 1 [.ls 0 s.length,.pv (iV (n)),.pv (.func (.func 193) #[] #[])] [(0,0,qal s)] (.pv (.tuple #[iV (k:Int),.bool true])) 0 []) (hk:s[k]?=some p) (hin:0≤(k:Int)∧(k:Int)<(s.length:Int)) :
 Fn 147 1 [qaB 0 s,.pv (iV (n))] [(0,0,qal s)] (.pv (.tuple #[ptV p,.bool true])) 0 []:=
 Fz [] [Cf hb [0],.k,.r (ptV p)]
  tI (Co hb [0] 3 (Ai hin (Ai (qaO hk) tI)))
theorem qxo {s:List Pt} {k:Nat} {n:Int} (hb:Fn 192 1 [.ls 0 s.length,.pv (iV (n)),.pv (.func (.func 193) #[] #[])] [(0,0,qal s)] (.pv (.tuple #[iV (k:Int),.bool false])) 0 []) :
 Fn 147 1 [qaB 0 s,.pv (iV (n))] [(0,0,qal s)] (.pv (.tuple #[ptV (Pt.mk 0 0 0),.bool false])) 0 []:=
 Fz [] [Cf hb [0],.k]
  tI (Co hb [0] 3 tI)
theorem cfl {c:Ck} {p q:Pt} {a b tn td:Int} {w:Bool} (h1:Fn 147 1 [qaB 0 c.s,.pv (iV (b))] [(0,0,qal c.s)] (.pv (.tuple #[ptV p,.bool true])) 0 []) (h2:Fn 147 1 [qaB 0 c.s,.pv (iV (a))] [(0,0,qal c.s)] (.pv (.tuple #[ptV q,.bool true])) 0 []) (hl:Pure Tryz.prog 154 #[ptV p,ptV q,qaa c.tn c.td] (.tuple #[qaa tn td,.bool w,iV 0])) :
 Fn 109 8 [qap c,.pv (qag a b)] (qat c) (.pv (.tuple #[qaa tn td,.bool w])) 0 []:=
 Fz [] [Cf h1 [0],Cf h2 [0],Rf hl]
  tI (Co h1 [0] 11 (Co h2 [0] 12 (Ai hl tI)))
theorem qBq {s:List Pt} {p q:Pt} {a b:Int} (h1:Fn 147 1 [qaB 0 s,.pv (iV (b))] [(0,0,qal s)] (.pv (.tuple #[ptV p,.bool true])) 0 []) (h2:Fn 147 1 [qaB 0 s,.pv (iV (a))] [(0,0,qal s)] (.pv (.tuple #[ptV q,.bool true])) 0 []) :
 Fn 102 1 [qaB 0 s,.pv (qag a b)] [(0,0,qal s)] (.pv (.bool true)) 0 []:=
 Fz [] [Cf h1 [0],Cf h2 [0]]
  tI (Co h1 [0] 3 (Co h2 [0] 4 tI))
theorem qxL {s:List Pt} {p q:Pt} {a b:Int} (h1:Fn 147 1 [qaB 0 s,.pv (iV (b))] [(0,0,qal s)] (.pv (.tuple #[ptV p,.bool true])) 0 []) (h2:Fn 147 1 [qaB 0 s,.pv (iV (a))] [(0,0,qal s)] (.pv (.tuple #[ptV q,.bool false])) 0 []) :
 Fn 102 1 [qaB 0 s,.pv (qag a b)] [(0,0,qal s)] (.pv (.bool false)) 0 []:=
 Fz [] [Cf h1 [0],Cf h2 [0]]
  tI (Co h1 [0] 3 (Co h2 [0] 4 tI))
theorem qD8 {s:List Pt} {p q:Pt} {a b:Int} {w:Bool} (h1:Fn 147 1 [qaB 0 s,.pv (iV (b))] [(0,0,qal s)] (.pv (.tuple #[ptV p,.bool false])) 0 []) (h2:Fn 147 1 [qaB 0 s,.pv (iV (a))] [(0,0,qal s)] (.pv (.tuple #[ptV q,.bool w])) 0 []) :
 Fn 102 1 [qaB 0 s,.pv (qag a b)] [(0,0,qal s)] (.pv (.bool false)) 0 []:=
 Fz [] [Cf h1 [0],Cf h2 [0]]
  tI (Co h1 [0] 3 (Co h2 [0] 4 tI))
abbrev qkN (l:List Pt) (s:List Pt):HpL:=[(2,0,.ls 0 s.length),(0,0,qal s),(1,0,qam l)]
abbrev qsM (k:Nat) (l:List Pt):TmL:=[(2,.pp 2 0),(8,.ls 1 l.length),(9,.pv (iV (l.length:Int))),(10,.pv (iV (k:Int)))]
theorem qjr {s:List Pt} {p:Pt} {k:Nat} {l:List Pt} (hk:l[k]?=some p) (hin:0≤(k:Int)∧(k:Int)<(l.length:Int)) (hlt:decide ((k:Int)<(l.length:Int))=true) (hb:Fn 102 1 [qaB 0 s,.pv (qag p.a p.b)] [(0,0,qal s)] (.pv (.bool true)) 0 []) (hs:iV (IntKind.i64.wrap ((k:Int)+1))=iV (((k+1:Nat):Int))) {e:Exit} {tm2:TmL} {hp2:HpL}
 (r:Rl 2 2 64 0 20 4 ([(2,.pp 2 0),(8,.ls 1 l.length),(9,.pv (iV (l.length:Int))),(10,.pv (iV ((k+1:Nat):Int)))]) (qkN l s) e tm2 hp2):Rl 2 2 64 0 20 4 (qsM k l) (qkN l s) e tm2 hp2:=
 RunsL.next [] 300 [.t true,.r (ptV p),Cf hb [0],.k,Re hs]
  (Ro (Ai hlt (Ai hin (Ai (qaO hk) (Co hb [0] 5 (Ai hs tI)))))) r
theorem qwO {s:List Pt} {p:Pt} {k:Nat} {l:List Pt} (hk:l[k]?=some p) (hin:0≤(k:Int)∧(k:Int)<(l.length:Int)) (hlt:decide ((k:Int)<(l.length:Int))=true) (hb:Fn 102 1 [qaB 0 s,.pv (qag p.a p.b)] [(0,0,qal s)] (.pv (.bool false)) 0 []):Rl 2 2 64 0 20 4 (qsM k l) (qkN l s) (.ret) ([(4,.pv (iV 6))]) ([]):=
 RunsL.stop [] 300 [.t true,.r (ptV p),Cf hb [0],.k] (fun h=>by cases h)
  (Ro (Ai hlt (Ai hin (Ai (qaO hk) (Co hb [0] 5 tI)))))
theorem qwo {s:List Pt} {k:Nat} {l:List Pt} (hge:decide ((k:Int)<(l.length:Int))=false):Rl 2 2 64 0 20 4 (qsM k l) (qkN l s) (.exit 0) ([]) ([]):=
 RunsL.stop [] 300 [.t false] (fun h=>by cases h)
  (Ro (Ai hge tI))
theorem qyZ {s:List Pt} {x2:Int} {l:List Pt} (r0:Rl 2 2 64 0 20 4 ([(2,.pp 2 0),(8,.ls 1 l.length),(9,.pv (iV (l.length:Int))),(10,.pv (iV ((0:Nat):Int)))]) (qkN l s) (.ret) ([(4,.pv (iV 6))]) ([])) :
 Fn 64 2 [qaB 0 s,qaL 1 x2 l] [(0,0,qal s),(1,0,qam l)] (.pv (iV (6))) 0 []:=
 Fz [] [Lf r0]
  tI (Lo r0 [] tI)
theorem qAL {s:List Pt} {x2:Int} {l:List Pt} (r0:Rl 2 2 64 0 20 4 ([(2,.pp 2 0),(8,.ls 1 l.length),(9,.pv (iV (l.length:Int))),(10,.pv (iV ((0:Nat):Int)))]) (qkN l s) (.exit 0) ([]) ([])) :
 Fn 64 2 [qaB 0 s,qaL 1 x2 l] [(0,0,qal s),(1,0,qam l)] (.pv (iV (0))) 0 []:=
 Fz [] [Lf r0]
  tI (Lo r0 [] tI)
abbrev qEu (c:Ck) (k:Nat) (m:Nat):TmL:=[(1,.pp 8 0),(3,.ls 9 (m)),(10,.ls 1 c.l.length),(11,.pv (iV (c.l.length:Int))),(12,.pv (iV (k:Int)))]
theorem qqV {c:Ck} {p:Pt} {k m:Nat} {tn td:Int} {vs:List Value} (hk:c.l[k]?=some p) (hin:0≤(k:Int)∧(k:Int)<(c.l.length:Int)) (hlt:decide ((k:Int)<(c.l.length:Int))=true) (hf:Fn 109 8 [qap c,.pv (qag p.a p.b)] (qat c) (.pv (.tuple #[qaa tn td,.bool false])) 0 []) (hs:iV (IntKind.i64.wrap ((k:Int)+1))=iV (((k+1:Nat):Int))) {e:Exit} {tm2:TmL} {hp2:HpL}
 (r:Rl 8 8 117 0 33 10 ([(1,.pp 8 0),(3,.ls 9 (m)),(10,.ls 1 c.l.length),(11,.pv (iV (c.l.length:Int))),(12,.pv (iV ((k+1:Nat):Int)))]) ((qbI 8 c++[(9,0,.row 62 5 (m) (vs))])) e tm2 hp2):Rl 8 8 117 0 33 10 (qEu c k m) ((qbI 8 c++[(9,0,.row 62 5 (m) (vs))])) e tm2 hp2:=
 RunsL.next [] 300 [.t true,.r (ptV p),Cf hf [0,1,2,3,4,5,6,7],Re hs]
  (Ro (Ai hlt (Ai hin (Ai (qaO hk) (Co hf [0,1,2,3,4,5,6,7] 11 (Ai hs tI)))))) r
theorem qqn {c:Ck} {p:Pt} {k m:Nat} {tn td:Int} {vs:List Value} (hk:c.l[k]?=some p) (hin:0≤(k:Int)∧(k:Int)<(c.l.length:Int)) (hlt:decide ((k:Int)<(c.l.length:Int))=true) (hf:Fn 109 8 [qap c,.pv (qag p.a p.b)] (qat c) (.pv (.tuple #[qaa tn td,.bool true])) 0 []) (hm:m+1≤1000000) (hs:iV (IntKind.i64.wrap ((k:Int)+1))=iV (((k+1:Nat):Int))) {e:Exit} {tm2:TmL} {hp2:HpL}
 (r:Rl 8 8 117 0 33 10 ([(1,.pp 8 0),(3,.ls 9 (m+1)),(10,.ls 1 c.l.length),(11,.pv (iV (c.l.length:Int))),(12,.pv (iV ((k+1:Nat):Int)))]) ((qbI 8 c++[(9,0,.row 62 5 (m+1) (vs++[iV tn,iV td,iV p.id,iV 0,iV 0]))])) e tm2 hp2):Rl 8 8 117 0 33 10 (qEu c k m) ((qbI 8 c++[(9,0,.row 62 5 (m) (vs))])) e tm2 hp2:=
 RunsL.next [(9,13)] 300 [.t true,.r (ptV p),Cf hf [0,1,2,3,4,5,6,7],Re hs]
  (Ro (Ai hlt (Ai hin (Ai (qaO hk) (Co hf [0,1,2,3,4,5,6,7] 11 (Ai hm (Ai hs tI))))))) r
theorem qvH {c:Ck} {k m:Nat} {vs:List Value} (hge:decide ((k:Int)<(c.l.length:Int))=false):Rl 8 8 117 0 33 10 (qEu c k m) ((qbI 8 c++[(9,0,.row 62 5 (m) (vs))])) (.exit 0) ([(3,.ls 9 m)]) ([(9,0,.row 62 5 m vs)]):=
 RunsL.stop [] 300 [.t false] (fun h=>by cases h)
  (Ro (Ai hge tI))
theorem qqb {c:Ck} {m:Nat} {vs:List Value} (r0:Rl 8 8 117 0 33 10 ([(1,.pp 8 0),(3,.ls 9 (0)),(10,.ls 1 c.l.length),(11,.pv (iV (c.l.length:Int))),(12,.pv (iV ((0:Nat):Int)))]) ((qbI 8 c++[(9,0,.row 62 5 (0) ([]))])) (.exit 0) ([(3,.ls 9 m)]) ([(9,0,.row 62 5 m vs)])) :
 Fn 117 8 [qap c] (qat c) (.ls 8 m) 1 [(8,0,.row 62 5 m vs)]:=
 Fz [(8,9)] [.ln true 3 0 62 5,Lf r0]
  (qaI (qaM [(8,9)]) [(8,0,.row 62 5 m vs)]) (Lo r0 [] tI)
abbrev qqD (c:Ck):HpL:=[(0,0,zrI c.u),(1,0,zrB c.b),(2,0,zrI c.fr),(3,0,qas c.ev),(4,0,zrI c.wh)]
theorem qzT {c:Ck} {z9:Ev} (h0:decide (0≤z9.i)=false) :
 Fn 118 5 [agA c.u c.b c.fr c.ev c.wh,.pv (qab z9)] (qqD c) (.pv (.bool false)) 0 []:=
 Fz [] [.t false]
  tI (Ai h0 tI)
theorem qx1 {c:Ck} {z9:Ev} (h0:decide (0≤z9.i)=true) (h1:decide (z9.i<(c.wh.length:Int))=false) :
 Fn 118 5 [agA c.u c.b c.fr c.ev c.wh,.pv (qab z9)] (qqD c) (.pv (.bool false)) 0 []:=
 Fz [] [.t true,.t false]
  tI (Ai h0 (Ai h1 tI))
theorem qvD {c:Ck} {n:Int} {z9:Ev} (h0:decide (0≤z9.i)=true) (h1:decide (z9.i<(c.wh.length:Int))=true) (hi1:0≤z9.i∧z9.i<(c.wh.length:Int)) (hw1:c.wh[z9.i.toNat]?=some n) (h2:decide (n≥0)=false) :
 Fn 118 5 [agA c.u c.b c.fr c.ev c.wh,.pv (qab z9)] (qqD c) (.pv (.bool false)) 0 []:=
 Fz [] [.t true,.t true,.r (iV n),.t false]
  tI (Ai h0 (Ai h1 (Ai hi1 (Ai (qbb hw1) (Ai h2 tI)))))
theorem qtG {c:Ck} {n:Int} {y:Ev} {z9:Ev} (h0:decide (0≤z9.i)=true) (h1:decide (z9.i<(c.wh.length:Int))=true) (hi1:0≤z9.i∧z9.i<(c.wh.length:Int)) (hw1:c.wh[z9.i.toNat]?=some n) (h2:decide (n≥0)=true) (hi2:0≤n∧n<(c.ev.length:Int)) (hy:c.ev[n.toNat]?=some y) (h3:((y.n==z9.n&&(y.d==z9.d&&true))&&(y.k==z9.k&&((y.i==z9.i&&(y.w==z9.w&&true))&&true)))=true) :
 Fn 118 5 [agA c.u c.b c.fr c.ev c.wh,.pv (qab z9)] (qqD c) (.pv (.bool true)) 0 []:=
 Fz [] [.t true,.t true,.r (iV n),.t true,.r (iV n),.r (qab y),.t true]
  tI (Ai h0 (Ai h1 (Ai hi1 (Ai (qbb hw1) (Ai h2 (Ai hi1 (Ai (qbb hw1) (Ai hi2 (Ai (qbe hy) (Ai h3 tI))))))))))
theorem qyp {c:Ck} {n:Int} {y:Ev} {z9:Ev} (h0:decide (0≤z9.i)=true) (h1:decide (z9.i<(c.wh.length:Int))=true) (hi1:0≤z9.i∧z9.i<(c.wh.length:Int)) (hw1:c.wh[z9.i.toNat]?=some n) (h2:decide (n≥0)=true) (hi2:0≤n∧n<(c.ev.length:Int)) (hy:c.ev[n.toNat]?=some y) (h3:((y.n==z9.n&&(y.d==z9.d&&true))&&(y.k==z9.k&&((y.i==z9.i&&(y.w==z9.w&&true))&&true)))=false) :
 Fn 118 5 [agA c.u c.b c.fr c.ev c.wh,.pv (qab z9)] (qqD c) (.pv (.bool false)) 0 []:=
 Fz [] [.t true,.t true,.r (iV n),.t true,.r (iV n),.r (qab y),.t false]
  tI (Ai h0 (Ai h1 (Ai hi1 (Ai (qbb hw1) (Ai h2 (Ai hi1 (Ai (qbb hw1) (Ai hi2 (Ai (qbe hy) (Ai h3 tI))))))))))
abbrev qq7 (c:Ck) (fl:List Ev):Prop:=Fn 117 8 [qap c] (qat c) (.ls 8 fl.length) 1 [(8,0,qas fl)]
theorem qEO {c:Ck} {fl:List Ev} (hfs:qq7 c fl) (hn1:((c.d.length:Int) !=(fl.length:Int))=true) :
 Fn 66 8 [qap c] (qat c) (.pv (.bool false)) 0 []:=
 Fz [] [Cf hfs [0,1,2,3,4,5,6,7],.t true]
  tI (Co hfs [0,1,2,3,4,5,6,7] 9 (Ai hn1 tI))
theorem qCG {c:Ck} {fl:List Ev} (hfs:qq7 c fl) (hn1:((c.d.length:Int) !=(fl.length:Int))=false) (hn2:((c.ev.length:Int) !=(fl.length:Int))=true) :
 Fn 66 8 [qap c] (qat c) (.pv (.bool false)) 0 []:=
 Fz [] [Cf hfs [0,1,2,3,4,5,6,7],.t false,.t true]
  tI (Co hfs [0,1,2,3,4,5,6,7] 9 (Ai hn1 (Ai hn2 tI)))
abbrev qBB (fl:List Ev) (k:Nat):TmL:=[(1,.pp 8 0),(23,.ls 9 fl.length),(24,.pv (iV (fl.length:Int))),(25,.pv (iV (k:Int)))]
theorem quu {c:Ck} {q:Pt} {k:Nat} {y:Ev} {fl:List Ev} (hk:fl[k]?=some y) (hin:0≤(k:Int)∧(k:Int)<(fl.length:Int)) (hq:c.d[k]?=some q) (hiq:0≤(k:Int)∧(k:Int)<(c.d.length:Int)) (hlt:decide ((k:Int)<(fl.length:Int))=true) (hne:(q.id !=y.k)=true):Rl 8 8 66 0 54 10 (qBB fl k) ((qbI 8 c++[(9,0,qas fl)])) (.ret) ([(2,.pv (.bool false))]) ([]):=
 RunsL.stop [] 300 [.t true,.r (qab y),.r (qaJ q.a q.b),.r (iV q.id),.t true] (fun h=>by cases h)
  (Ro (Ai hlt (Ai hin (Ai (qbe hk) (Ai hiq (Ai (qdr hq) (Ai hiq (Ai (qcK hq) (Ai hne tI)))))))))
theorem qAI {c:Ck} {q:Pt} {k:Nat} {y:Ev} {fl:List Ev} (hk:fl[k]?=some y) (hin:0≤(k:Int)∧(k:Int)<(fl.length:Int)) (hq:c.d[k]?=some q) (hiq:0≤(k:Int)∧(k:Int)<(c.d.length:Int)) (hlt:decide ((k:Int)<(fl.length:Int))=true) (hne:(q.id !=y.k)=false) (hv:Fn 118 5 [agA c.u c.b c.fr c.ev c.wh,.pv (qab (Ev.mk y.n y.d y.k q.a q.b))] (qqD c) (.pv (.bool false)) 0 []):Rl 8 8 66 0 54 10 (qBB fl k) ((qbI 8 c++[(9,0,qas fl)])) (.ret) ([(2,.pv (.bool false))]) ([]):=
 RunsL.stop [] 300 [.t true,.r (qab y),.r (qaJ q.a q.b),.r (iV q.id),.t false,Cf hv [2,3,4,5,6],.k] (fun h=>by cases h)
  (Ro (Ai hlt (Ai hin (Ai (qbe hk) (Ai hiq (Ai (qdr hq) (Ai hiq (Ai (qcK hq) (Ai hne (Co hv [2,3,4,5,6] 11 tI))))))))))
theorem qrt {c:Ck} {q:Pt} {k:Nat} {y:Ev} {fl:List Ev} (hk:fl[k]?=some y) (hin:0≤(k:Int)∧(k:Int)<(fl.length:Int)) (hq:c.d[k]?=some q) (hiq:0≤(k:Int)∧(k:Int)<(c.d.length:Int)) (hlt:decide ((k:Int)<(fl.length:Int))=true) (hne:(q.id !=y.k)=false) (hv:Fn 118 5 [agA c.u c.b c.fr c.ev c.wh,.pv (qab (Ev.mk y.n y.d y.k q.a q.b))] (qqD c) (.pv (.bool true)) 0 []) (hs:iV (IntKind.i64.wrap ((k:Int)+1))=iV (((k+1:Nat):Int))) {e:Exit} {tm2:TmL} {hp2:HpL}
 (r:Rl 8 8 66 0 54 10 ([(1,.pp 8 0),(23,.ls 9 fl.length),(24,.pv (iV (fl.length:Int))),(25,.pv (iV ((k+1:Nat):Int)))]) ((qbI 8 c++[(9,0,qas fl)])) e tm2 hp2):Rl 8 8 66 0 54 10 (qBB fl k) ((qbI 8 c++[(9,0,qas fl)])) e tm2 hp2:=
 RunsL.next [] 300 [.t true,.r (qab y),.r (qaJ q.a q.b),.r (iV q.id),.t false,Cf hv [2,3,4,5,6],.k,Re hs]
  (Ro (Ai hlt (Ai hin (Ai (qbe hk) (Ai hiq (Ai (qdr hq) (Ai hiq (Ai (qcK hq) (Ai hne (Co hv [2,3,4,5,6] 11 (Ai hs tI))))))))))) r
theorem qtA {c:Ck} {k:Nat} {fl:List Ev} (hge:decide ((k:Int)<(fl.length:Int))=false):Rl 8 8 66 0 54 10 (qBB fl k) ((qbI 8 c++[(9,0,qas fl)])) (.exit 0) ([]) ([]):=
 RunsL.stop [] 300 [.t false] (fun h=>by cases h)
  (Ro (Ai hge tI))
theorem qus {c:Ck} {fl:List Ev} (hfs:qq7 c fl) (hn1:((c.d.length:Int) !=(fl.length:Int))=false) (hn2:((c.ev.length:Int) !=(fl.length:Int))=false) (r0:Rl 8 8 66 0 54 10 ([(1,.pp 8 0),(23,.ls 9 fl.length),(24,.pv (iV (fl.length:Int))),(25,.pv (iV ((0:Nat):Int)))]) ((qbI 8 c++[(9,0,qas fl)])) (.ret) ([(2,.pv (.bool false))]) ([])) :
 Fn 66 8 [qap c] (qat c) (.pv (.bool false)) 0 []:=
 Fz [] [Cf hfs [0,1,2,3,4,5,6,7],.t false,.t false,Lf r0]
  tI (Co hfs [0,1,2,3,4,5,6,7] 9 (Ai hn1 (Ai hn2 (Lo r0 [] tI))))
theorem qz0 {c:Ck} {fl:List Ev} (hfs:qq7 c fl) (hn1:((c.d.length:Int) !=(fl.length:Int))=false) (hn2:((c.ev.length:Int) !=(fl.length:Int))=false) (r0:Rl 8 8 66 0 54 10 ([(1,.pp 8 0),(23,.ls 9 fl.length),(24,.pv (iV (fl.length:Int))),(25,.pv (iV ((0:Nat):Int)))]) ((qbI 8 c++[(9,0,qas fl)])) (.exit 0) ([]) ([])) :
 Fn 66 8 [qap c] (qat c) (.pv (.bool true)) 0 []:=
 Fz [] [Cf hfs [0,1,2,3,4,5,6,7],.t false,.t false,Lf r0]
  tI (Co hfs [0,1,2,3,4,5,6,7] 9 (Ai hn1 (Ai hn2 (Lo r0 [] tI))))
abbrev qBO (c:Ck) (e4:Int):Prop:=Fn 115 5 [agA c.u c.b c.fr c.ev c.wh] (qqD c) (.pv (iV (e4))) 0 []
abbrev quR (c:Ck) (e3:Int):Prop:=Fn 88 1 [qaL 0 c.x c.l] [(0,0,qam c.l)] (.pv (iV (e3))) 0 []
theorem qEB {c:Ck} {e1 e2 e3 e4:Int} (h1:Pure Tryz.prog 49 #[qaa c.tn c.td] (iV (e1))) (h2:Fn 48 1 [qaB 0 c.s] [(0,0,qal c.s)] (.pv (iV (e2))) 0 []) (h3:quR c e3) (h4:qBO c e4) (he:(e1 !=0)=true) :
 Fn 65 8 [qap c] (qat c) (.pv (.bool false)) 0 []:=
 Fz [] [Rf h1,Cf h2 [0],Cf h3 [1],Cf h4 [2,3,4,5,6],.k,.k,.t true,.t true]
  tI (Ai h1 (Co h2 [0] 9 (Co h3 [1] 9 (Co h4 [2,3,4,5,6] 9 (Ai he (Ai he tI))))))
abbrev qwR (c:Ck):Prop:=Pure Tryz.prog 49 #[qaa c.tn c.td] (iV (0))
theorem qCt {c:Ck} {e2 e3 e4:Int} (h1:qwR c) (h2:Fn 48 1 [qaB 0 c.s] [(0,0,qal c.s)] (.pv (iV (e2))) 0 []) (h3:quR c e3) (h4:qBO c e4) (he:(e2 !=0)=true) :
 Fn 65 8 [qap c] (qat c) (.pv (.bool false)) 0 []:=
 Fz [] [Rf h1,Cf h2 [0],Cf h3 [1],Cf h4 [2,3,4,5,6],.k,.k,.k,.k,.k,.t true,.t true]
  tI (Ai h1 (Co h2 [0] 9 (Co h3 [1] 9 (Co h4 [2,3,4,5,6] 9 (Ai he (Ai he tI))))))
abbrev qA4 (c:Ck):Prop:=Fn 48 1 [qaB 0 c.s] [(0,0,qal c.s)] (.pv (iV (0))) 0 []
theorem qDi {c:Ck} {e3 e4:Int} (h1:qwR c) (h2:qA4 c) (h3:quR c e3) (h4:qBO c e4) (he:(e3 !=0)=true) :
 Fn 65 8 [qap c] (qat c) (.pv (.bool false)) 0 []:=
 Fz [] [Rf h1,Cf h2 [0],Cf h3 [1],Cf h4 [2,3,4,5,6],.k,.k,.k,.k,.k,.k,.k,.k,.t true,.t true]
  tI (Ai h1 (Co h2 [0] 9 (Co h3 [1] 9 (Co h4 [2,3,4,5,6] 9 (Ai he (Ai he tI))))))
abbrev qBE (c:Ck):Prop:=Fn 88 1 [qaL 0 c.x c.l] [(0,0,qam c.l)] (.pv (iV (0))) 0 []
theorem qCp {c:Ck} {e4:Int} (h1:qwR c) (h2:qA4 c) (h3:qBE c) (h4:qBO c e4) (he:(e4 !=0)=true) :
 Fn 65 8 [qap c] (qat c) (.pv (.bool false)) 0 []:=
 Fz [] [Rf h1,Cf h2 [0],Cf h3 [1],Cf h4 [2,3,4,5,6],.k,.k,.k,.k,.k,.k,.k,.k,.k,.k,.k,.t true,.t true]
  tI (Ai h1 (Co h2 [0] 9 (Co h3 [1] 9 (Co h4 [2,3,4,5,6] 9 (Ai he (Ai he tI))))))
abbrev quc (c:Ck):Prop:=Fn 115 5 [agA c.u c.b c.fr c.ev c.wh] (qqD c) (.pv (iV (0))) 0 []
theorem qCs {c:Ck} (h1:qwR c) (h2:qA4 c) (h3:qBE c) (h4:quc c) (h5:Fn 64 2 [qaB 0 c.s,qaL 1 c.x c.l] [(0,0,qal c.s),(1,0,qam c.l)] (.pv (iV (6))) 0 []) :
 Fn 65 8 [qap c] (qat c) (.pv (.bool false)) 0 []:=
 Fz [] [Rf h1,Cf h2 [0],Cf h3 [1],Cf h4 [2,3,4,5,6],.k,.k,.k,.k,.k,.k,.k,.k,.k,.k,.k,.k,.k,.k,.k,Cf h5 [0,1],.k]
  tI (Ai h1 (Co h2 [0] 9 (Co h3 [1] 9 (Co h4 [2,3,4,5,6] 9 (Co h5 [0,1] 10 tI)))))
theorem qAG {c:Ck} (h1:qwR c) (h2:qA4 c) (h3:qBE c) (h4:quc c) (h5:Fn 64 2 [qaB 0 c.s,qaL 1 c.x c.l] [(0,0,qal c.s),(1,0,qam c.l)] (.pv (iV (0))) 0 []) (h6:((c.u.length:Int)==200)=true) :
 Fn 65 8 [qap c] (qat c) (.pv (.bool true)) 0 []:=
 Fz [] [Rf h1,Cf h2 [0],Cf h3 [1],Cf h4 [2,3,4,5,6],.k,.k,.k,.k,.k,.k,.k,.k,.k,.k,.k,.k,.k,.k,.k,Cf h5 [0,1],.k,.t true]
  tI (Ai h1 (Co h2 [0] 9 (Co h3 [1] 9 (Co h4 [2,3,4,5,6] 9 (Co h5 [0,1] 10 (Ai h6 tI))))))
theorem qCP {c:Ck} (h1:qwR c) (h2:qA4 c) (h3:qBE c) (h4:quc c) (h5:Fn 64 2 [qaB 0 c.s,qaL 1 c.x c.l] [(0,0,qal c.s),(1,0,qam c.l)] (.pv (iV (0))) 0 []) (h6:((c.u.length:Int)==200)=false) :
 Fn 65 8 [qap c] (qat c) (.pv (.bool false)) 0 []:=
 Fz [] [Rf h1,Cf h2 [0],Cf h3 [1],Cf h4 [2,3,4,5,6],.k,.k,.k,.k,.k,.k,.k,.k,.k,.k,.k,.k,.k,.k,.k,Cf h5 [0,1],.k,.t false]
  tI (Ai h1 (Co h2 [0] 9 (Co h3 [1] 9 (Co h4 [2,3,4,5,6] 9 (Co h5 [0,1] 10 (Ai h6 tI))))))
theorem qC4 {c:Ck} (h1:Fn 65 8 [qap c] (qat c) (.pv (.bool false)) 0 []) :
 Fn 22 8 [qap c] (qat c) (.pv (iV (8))) 0 []:=
 Fz [] [Cf h1 [0,1,2,3,4,5,6,7],.k]
  tI (Co h1 [0,1,2,3,4,5,6,7] 9 tI)
theorem qEf {c:Ck} (h1:Fn 65 8 [qap c] (qat c) (.pv (.bool true)) 0 []) (h2:Fn 66 8 [qap c] (qat c) (.pv (.bool false)) 0 []) :
 Fn 22 8 [qap c] (qat c) (.pv (iV (8))) 0 []:=
 Fz [] [Cf h1 [0,1,2,3,4,5,6,7],.k,Cf h2 [0,1,2,3,4,5,6,7],.k]
  tI (Co h1 [0,1,2,3,4,5,6,7] 9 (Co h2 [0,1,2,3,4,5,6,7] 9 tI))
theorem qxu {c:Ck} (h1:Fn 65 8 [qap c] (qat c) (.pv (.bool true)) 0 []) (h2:Fn 66 8 [qap c] (qat c) (.pv (.bool true)) 0 []) :
 Fn 22 8 [qap c] (qat c) (.pv (iV (0))) 0 []:=
 Fz [] [Cf h1 [0,1,2,3,4,5,6,7],.k,Cf h1 [0,1,2,3,4,5,6,7],.k]
  tI (Co h1 [0,1,2,3,4,5,6,7] 9 (Co h2 [0,1,2,3,4,5,6,7] 9 tI))
end Go.Proofs.YtkjaanhddkkodaaGreat

namespace Go.Proofs.YtkjaanhddkkodaaGreat
set_option maxRecDepth 100000
open Go.RowKit
abbrev qq5 (c:Ck):S1:=.ag [.pv (iV c.tn),.pv (iV c.td),.ls 0 c.s.length,.pv (iV c.x),.ls 1 c.l.length,.ls 2 c.u.length,.ls 3 c.b.length,.ls 4 c.fr.length,.ls 5 c.ev.length,.ls 6 c.wh.length,.ls 7 c.d.length]
abbrev qB7 (c o:Ck) (d:List Pt):SV:=.ag [.pv (iV c.tn),.pv (iV c.td),.ls 0 c.s.length,.pv (iV c.x),.ls 1 c.l.length,.ls 8 o.u.length,.ls 9 o.b.length,.ls 10 o.fr.length,.ls 11 o.ev.length,.ls 12 o.wh.length,.ls 13 d.length]
abbrev qhk (c o:Ck) (d:List Pt):S1:=.ag [.pv (iV c.tn),.pv (iV c.td),.ls 0 c.s.length,.pv (iV c.x),.ls 1 c.l.length,.ls 8 o.u.length,.ls 9 o.b.length,.ls 10 o.fr.length,.ls 11 o.ev.length,.ls 12 o.wh.length,.ls 13 d.length]
abbrev qu9 (c o:Ck):S1:=.ag [.pv (iV c.tn),.pv (iV c.td),.ls 0 c.s.length,.pv (iV c.x),.ls 1 c.l.length,.ls 8 o.u.length,.ls 9 o.b.length,.ls 10 o.fr.length,.ls 11 o.ev.length,.ls 12 o.wh.length,.ls 7 c.d.length]
theorem qp0 {n:Nat} {xs:List Value} (h0:0<n) (hn:0+n≤1000000) :
 Fn 106 1 [.ls 0 n] [(0,0,.row 94 3 n xs)] (.ls 1 n) 1 [(1,0,.row 94 3 n xs)]:=
 Fx [(1,2)] [.t false]
  (qrK n) (Ai (qgW 94 3 n xs) tI) (Ai h0 (Ai hn tI))
theorem qC6 {ad:Addr} {c:Nat} :
 Fn 106 0 [.pv (.slice (some ad) 0 c)] [] (.ls 0 0) 1 [(0,0,.row 94 3 0 [])]:=
 Fz [(0,1)] [.k]
  (qaI (qaM [(0,1)]) [(0,0,.row 94 3 0 [])]) (Ai (Nat.zero_le _:0+0≤1000000) tI)
theorem qv9 {c:Nat}:Pure Tryz.prog 106 #[.slice none 0 c] (.slice none 0 0):=
 qaz (args:=[.slice none 0 c]) 200 [] (Ai rfl tI) (by kernel_rfl)
theorem qqa {n:Nat} {xs:List Value} (h0:0<n) (hn:0+n≤1000000) :
 Fn 108 1 [.ls 0 n] [(0,0,.row 54 3 n xs)] (.ls 1 n) 1 [(1,0,.row 54 3 n xs)]:=
 Fx [(1,2)] [.t false]
  (qrK n) (Ai (qgW 54 3 n xs) tI) (Ai h0 (Ai hn tI))
theorem qD4 {ad:Addr} {c:Nat} :
 Fn 108 0 [.pv (.slice (some ad) 0 c)] [] (.ls 0 0) 1 [(0,0,.row 54 3 0 [])]:=
 Fz [(0,1)] [.k]
  (qaI (qaM [(0,1)]) [(0,0,.row 54 3 0 [])]) (Ai (Nat.zero_le _:0+0≤1000000) tI)
theorem qvL {c:Nat}:Pure Tryz.prog 108 #[.slice none 0 c] (.slice none 0 0):=
 qaz (args:=[.slice none 0 c]) 200 [] (Ai rfl tI) (by kernel_rfl)
theorem qmi (l:List Pt) (k:Nat) (q:Pt) (h:k≤l.length):0+k+1+(l.length-k)=(l.take k++q::l.drop k).length:=by rw[List.length_append,List.length_cons,List.length_take,List.length_drop];omega
theorem qxA (b:Nat) (l:List Pt) (k:Nat) (q:Pt) (h:k≤l.length):SV.ls b (0+k+1+(l.length-k))=(SV.ls 3 (l.take k++q::l.drop k).length).ren (qaM [(3,b)]):=by rw[qmi l k q h];rfl
theorem qpE (l:List Pt) (k:Nat) (q:Pt) (h:k≤l.length):some (SV.row 54 3 (0+k+1+(l.length-k)) ([]++((qbm l).drop (0*3)).take (k*3)++[iV q.id,iV q.a,iV q.b]++((qbm l).drop ((0+k)*3)).take ((l.length-k)*3)))=some (qaS (l.take k++q::l.drop k)):=by
 have h1:=qiN l k
 have h2:=qjf l k
 rw[Nat.zero_add] at h1
 rw[h1,h2,qaS,qmi l k q h,qbU,List.nil_append,List.append_assoc]
 rfl
theorem ccf {s:List Pt} (h1:Fn 100 1 [.ls 0 s.length] [(0,0,qal s)] (.ls 1 s.length) 1 [(1,0,qal s)]) :
 Fn 51 1 [qaB 0 s] [(0,0,qal s)] (.ag [.ls 1 s.length]) 1 [(1,0,qal s)]:=
 Fz [(1,3)] [Cf h1 [0]]
  (qaI (qaM [(1,3)]) [(1,0,qal s)]) (Co h1 [0] 3 tI)
abbrev qxa (c:Ck):HpL:=[(0,0,zrI c.u),(1,0,zrB c.b),(2,0,zrI c.fr),(3,0,qas c.ev),(4,0,zrI c.wh)]
theorem cca {c:Ck} (c0:Fn 151 1 [.ls 0 c.u.length] [(0,0,zrI c.u)] (.ls 1 c.u.length) 1 [(1,0,zrI c.u)]) (c1:Fn 152 1 [.ls 0 c.b.length] [(0,0,zrB c.b)] (.ls 1 c.b.length) 1 [(1,0,zrB c.b)]) (c2:Fn 151 1 [.ls 0 c.fr.length] [(0,0,zrI c.fr)] (.ls 1 c.fr.length) 1 [(1,0,zrI c.fr)]) (c3:Fn 153 1 [.ls 0 c.ev.length] [(0,0,qas c.ev)] (.ls 1 c.ev.length) 1 [(1,0,qas c.ev)]) (c4:Fn 151 1 [.ls 0 c.wh.length] [(0,0,zrI c.wh)] (.ls 1 c.wh.length) 1 [(1,0,zrI c.wh)]) :
 Fn 107 5 [agA c.u c.b c.fr c.ev c.wh] (qxa c) (.ag [.ls 5 c.u.length,.ls 6 c.b.length,.ls 7 c.fr.length,.ls 8 c.ev.length,.ls 9 c.wh.length]) 5 [(5,0,zrI c.u),(6,0,zrB c.b),(7,0,zrI c.fr),(8,0,qas c.ev),(9,0,zrI c.wh)]:=
 Fz [(5,7),(6,8),(7,9),(8,11),(9,12)] [.md,Cf c0 [0],Cf c1 [1],Cf c2 [2],.md,Cf c3 [3],Cf c4 [4]]
  (qaI (qaM [(5,7),(6,8),(7,9),(8,11),(9,12)]) [(5,0,zrI c.u),(6,0,zrB c.b),(7,0,zrI c.fr),(8,0,qas c.ev),(9,0,zrI c.wh)]) (Co c0 [0] 7 (Co c1 [1] 8 (Co c2 [2] 9 (Co c3 [3] 11 (Co c4 [4] 12 tI)))))
theorem ccl {c:Ck} (h1:Fn 51 1 [qaB 0 c.s] [(0,0,qal c.s)] (.ag [.ls 1 c.s.length]) 1 [(1,0,qal c.s)]) (h2:Fn 106 1 [.ls 0 c.l.length] [(0,0,qam c.l)] (.ls 1 c.l.length) 1 [(1,0,qam c.l)]) (h3:Fn 107 5 [agA c.u c.b c.fr c.ev c.wh] (qxa c) (.ag [.ls 5 c.u.length,.ls 6 c.b.length,.ls 7 c.fr.length,.ls 8 c.ev.length,.ls 9 c.wh.length]) 5 [(5,0,zrI c.u),(6,0,zrB c.b),(7,0,zrI c.fr),(8,0,qas c.ev),(9,0,zrI c.wh)]) (h4:Fn 108 1 [.ls 0 c.d.length] [(0,0,qaS c.d)] (.ls 1 c.d.length) 1 [(1,0,qaS c.d)]) :
 Fn 58 8 [qap c] (qat c) (qyl c) 8 (qdu c):=
 Fz [(8,10),(9,11),(10,12),(11,13),(12,14),(13,15),(14,16),(15,17)] [.md,Cf h1 [0],Cf h2 [1],Cf h3 [2,3,4,5,6],Cf h4 [7]]
  (qaI (qaM [(8,10),(9,11),(10,12),(11,13),(12,14),(13,15),(14,16),(15,17)]) (qdu c)) (Co h1 [0] 10 (Co h2 [1] 11 (Co h3 [2,3,4,5,6] 12 (Co h4 [7] 17 tI))))
theorem qzw {a pa pb n:Int} (n1:(!(a==a))=false) (n2:(!(n==n))=false) (h1:decide (a<n)=true) :
 Pure Tryz.prog 156 #[qac a pa pb,iV n] (iV (-1)):=
 qad (args:=[qac a pa pb,iV n]) 300 [.k,.k,.t false,.k,.t false,.t true]
  (Ai rfl (Ai n1 (Ai n2 (Ai h1 tI)))) (by kernel_rfl)
theorem qy1 {a pa pb n:Int} (n1:(!(a==a))=false) (n2:(!(n==n))=false) (h1:decide (a<n)=false) (h2:decide (a>n)=true) :
 Pure Tryz.prog 156 #[qac a pa pb,iV n] (iV (1)):=
 qad (args:=[qac a pa pb,iV n]) 300 [.k,.k,.t false,.k,.t false,.t false,.t true]
  (Ai rfl (Ai n1 (Ai n2 (Ai h1 (Ai h2 tI))))) (by kernel_rfl)
theorem qxD {a pa pb n:Int} (n1:(!(a==a))=false) (n2:(!(n==n))=false) (h1:decide (a<n)=false) (h2:decide (a>n)=false) :
 Pure Tryz.prog 156 #[qac a pa pb,iV n] (iV (0)):=
 qad (args:=[qac a pa pb,iV n]) 300 [.k,.k,.t false,.k,.t false,.t false,.t false]
  (Ai rfl (Ai n1 (Ai n2 (Ai h1 (Ai h2 tI))))) (by kernel_rfl)
abbrev qBx (i:Nat) (j:Nat) (l:List Pt) (n:Int):TmL:=[(0,.ls 0 l.length),(1,.pv (iV n)),(2,.pv (.func (.func 156) #[] #[])),(8,.pv (iV (l.length:Int))),(9,.pv (iV (i:Int))),(10,.pv (iV (j:Int)))]
abbrev qBA (c:Int) (n:Int) (p:Pt):Prop:=Pure Tryz.prog 156 #[qac p.id p.a p.b,iV n] (iV (c))
theorem qyo {l:List Pt} {i j h:Nat} {p:Pt} {c n:Int} (hk:l[h]?=some p) (hin:0≤(h:Int)∧(h:Int)<(l.length:Int)) (hlt:decide ((i:Int)<(j:Int))=true) (ha:iV (IntKind.i64.wrap ((i:Int)+(j:Int)))=iV ((i:Int)+(j:Int))) (hu:Value.int .u64 (IntKind.u64.wrap ((i:Int)+(j:Int)))=.int .u64 ((i:Int)+(j:Int))) (h1:¬ (1:Int)<0) (hs:Value.int .u64 (((i:Int)+(j:Int)).fdiv (2 ^ (min (1:Int).toNat IntKind.u64.bits)))=.int .u64 (h:Int)) (hb:iV (IntKind.i64.wrap (h:Int))=iV (h:Int)) (hc:qBA c n p) (hz:decide (c<0)=true) (hh:iV (IntKind.i64.wrap ((h:Int)+1))=iV (((h+1:Nat):Int))) {e:Exit} {tm2:TmL} {hp2:HpL}
 (r:Rl 1 1 155 0 49 1 ([(0,.ls 0 l.length),(1,.pv (iV n)),(2,.pv (.func (.func 156) #[] #[])),(8,.pv (iV (l.length:Int))),(9,.pv (iV ((h+1:Nat):Int))),(10,.pv (iV (j:Int)))]) ([(0,0,qaS l)]) e tm2 hp2):Rl 1 1 155 0 49 1 (qBx i j l n) ([(0,0,qaS l)]) e tm2 hp2:=
 RunsL.next [] 300 [.t true,Re ha,Re hu,.r (.int .u64 (h:Int)),Re hb,.r (ptV p),Rf hc,.t true,Re hh]
  (Ro (Ai hlt (Ai ha (Ai hu (Ai h1 (Ai hs (Ai hb (Ai hin (Ai (qaO hk) (Ai hc (Ai hz (Ai hh tI)))))))))))) r
theorem qxv {l:List Pt} {i j h:Nat} {p:Pt} {c n:Int} (hk:l[h]?=some p) (hin:0≤(h:Int)∧(h:Int)<(l.length:Int)) (hlt:decide ((i:Int)<(j:Int))=true) (ha:iV (IntKind.i64.wrap ((i:Int)+(j:Int)))=iV ((i:Int)+(j:Int))) (hu:Value.int .u64 (IntKind.u64.wrap ((i:Int)+(j:Int)))=.int .u64 ((i:Int)+(j:Int))) (h1:¬ (1:Int)<0) (hs:Value.int .u64 (((i:Int)+(j:Int)).fdiv (2 ^ (min (1:Int).toNat IntKind.u64.bits)))=.int .u64 (h:Int)) (hb:iV (IntKind.i64.wrap (h:Int))=iV (h:Int)) (hc:qBA c n p) (hz:decide (c<0)=false) {e:Exit} {tm2:TmL} {hp2:HpL}
 (r:Rl 1 1 155 0 49 1 ([(0,.ls 0 l.length),(1,.pv (iV n)),(2,.pv (.func (.func 156) #[] #[])),(8,.pv (iV (l.length:Int))),(9,.pv (iV (i:Int))),(10,.pv (iV (h:Int)))]) ([(0,0,qaS l)]) e tm2 hp2):Rl 1 1 155 0 49 1 (qBx i j l n) ([(0,0,qaS l)]) e tm2 hp2:=
 RunsL.next [] 300 [.t true,Re ha,Re hu,.r (.int .u64 (h:Int)),Re hb,.r (ptV p),Rf hc,.t false]
  (Ro (Ai hlt (Ai ha (Ai hu (Ai h1 (Ai hs (Ai hb (Ai hin (Ai (qaO hk) (Ai hc (Ai hz tI))))))))))) r
theorem qoc {l:List Pt} {i j:Nat} {n:Int} (hge:decide ((i:Int)<(j:Int))=false):Rl 1 1 155 0 49 1 (qBx i j l n) ([(0,0,qaS l)]) (.exit 0) (qBx i j l n) ([(0,0,qaS l)]):=
 RunsL.stop [] 300 [.t false] (fun h=>by cases h)
  (Ro (Ai hge tI))
abbrev qCy (k:Nat) (l:List Pt) (n:Int):Prop:=Rl 1 1 155 0 49 1 ([(0,.ls 0 l.length),(1,.pv (iV n)),(2,.pv (.func (.func 156) #[] #[])),(8,.pv (iV (l.length:Int))),(9,.pv (iV ((0:Nat):Int))),(10,.pv (iV (l.length:Int)))]) ([(0,0,qaS l)]) (.exit 0) ([(0,.ls 0 l.length),(1,.pv (iV n)),(2,.pv (.func (.func 156) #[] #[])),(8,.pv (iV (l.length:Int))),(9,.pv (iV (k:Int))),(10,.pv (iV (k:Int)))]) ([(0,0,qaS l)])
theorem qva {l:List Pt} {k:Nat} {n:Int} (r0:qCy k l n) (hge:decide ((k:Int)<(l.length:Int))=false) :
 Fn 155 1 [.ls 0 l.length,.pv (iV (n)),.pv (.func (.func 156) #[] #[])] [(0,0,qaS l)] (.pv (.tuple #[iV (k:Int),.bool false])) 0 []:=
 Fz [] [Lf r0,.t false]
  tI (Lo r0 [] (Ai hge tI))
theorem qut {l:List Pt} {k:Nat} {p:Pt} {c:Int} {n:Int} (r0:qCy k l n) (hk:l[k]?=some p) (hin:0≤(k:Int)∧(k:Int)<(l.length:Int)) (hlt:decide ((k:Int)<(l.length:Int))=true) (hc:qBA c n p) (hz:(c==0)=true) :
 Fn 155 1 [.ls 0 l.length,.pv (iV (n)),.pv (.func (.func 156) #[] #[])] [(0,0,qaS l)] (.pv (.tuple #[iV (k:Int),.bool true])) 0 []:=
 Fz [] [Lf r0,.t true,.r (ptV p),Rf hc,.t true]
  tI (Lo r0 [] (Ai hlt (Ai hin (Ai (qaO hk) (Ai hc (Ai hz tI))))))
theorem qxm {l:List Pt} {k:Nat} {p:Pt} {c:Int} {n:Int} (r0:qCy k l n) (hk:l[k]?=some p) (hin:0≤(k:Int)∧(k:Int)<(l.length:Int)) (hlt:decide ((k:Int)<(l.length:Int))=true) (hc:qBA c n p) (hz:(c==0)=false) :
 Fn 155 1 [.ls 0 l.length,.pv (iV (n)),.pv (.func (.func 156) #[] #[])] [(0,0,qaS l)] (.pv (.tuple #[iV (k:Int),.bool false])) 0 []:=
 Fz [] [Lf r0,.t true,.r (ptV p),Rf hc,.t false]
  tI (Lo r0 [] (Ai hlt (Ai hin (Ai (qaO hk) (Ai hc (Ai hz tI))))))
theorem cfd {l:List Pt} {k:Nat} {w:Bool} {n:Int} (hb:Fn 155 1 [.ls 0 l.length,.pv (iV (n)),.pv (.func (.func 156) #[] #[])] [(0,0,qaS l)] (.pv (.tuple #[iV (k:Int),.bool w])) 0 []) :
 Fn 110 1 [.ls 0 l.length,.pv (iV (n))] [(0,0,qaS l)] (.pv (.tuple #[iV (k:Int),.bool w])) 0 []:=
 Fz [] [Cf hb [0]]
  tI (Co hb [0] 1 tI)
theorem qEd {z:Int} (h0:decide (z<0)=false) (hs:iV (IntKind.i64.wrap (z-0))=iV (z)) (hg:decide (z>0)=false) :
 Fn 202 0 [.pv (.slice none 0 0),.pv (iV (z))] [] (.pv (.slice none 0 0)) 0 []:=
 Fz [] [.t false,.k,Re hs,.t false]
  tI (Ai h0 (Ai hs (Ai hg tI)))
theorem qyr {z:Int} (h0:decide (z<0)=false) (hs:iV (IntKind.i64.wrap (z-0))=iV (z)) (hg:decide (z>0)=true) (a0:0≤z) (a1:z≤1000000) :
 Fn 202 0 [.pv (.slice none 0 0),.pv (iV (z))] [] (.ls 0 0) 1 [(0,0,qaS ([]:List Pt))]:=
 Fz [(0,1)] [.t false,.k,Re hs,.t true,.w []]
  (qaI (qaM [(0,1)]) [(0,0,qaS ([]:List Pt))]) (Ai h0 (Ai hs (Ai hg (Ai a0 (Ai a1 (Ai (Int.le_refl (0:Int)) (Ai (Nat.zero_le z.toNat) tI)))))))
theorem qzi {l:List Pt} {k:Nat} {s1 s2:Int} (q1:iV (IntKind.i64.wrap ((0:Int)+((k:Nat):Int)))=iV (s1)) (n1:decide (s1<0)=false) (q2:iV (IntKind.i64.wrap (s1+((l.length-(k+1):Nat):Int)))=iV (s2)) (n2:decide (s2<0)=false) (hgr:Fn 202 0 [.pv (.slice none 0 0),.pv (iV (s2))] [] (.ls 0 0) 1 [(0,0,qaS ([]:List Pt))]) (a1:0+k≤1000000) (a2:0+k+(l.length-(k+1))≤1000000) (hkl1:k+1≤l.length) :
 Fn 162 2 [.ps 1 0 2 2] [(1,0,.lq 0 3 0 k),(1,1,.lq 0 3 (0+(k+1)) (l.length-(k+1))),(0,0,qaS l)] (.ls 2 (l.take k++l.drop (k+1)).length) 1 [(2,0,qaS (l.take k++l.drop (k+1)))]:=
 Fx [(2,4)] [.k,.r (iV (s1)),.t false,.k,.k,.r (iV (s2)),.t false,.k,.k,Cf hgr [],.k,.k,.k,.k,.k]
  (qjW 4 l k hkl1) (Ai (qkf l k hkl1) tI) (Ai q1 (Ai n1 (Ai q2 (Ai n2 (Co hgr [] 2 (Ai a1 (Ai a2 tI)))))))
theorem qxy {l:List Pt} {k:Nat} {s1 s2:Int} (q1:iV (IntKind.i64.wrap ((0:Int)+((k:Nat):Int)))=iV (s1)) (n1:decide (s1<0)=false) (q2:iV (IntKind.i64.wrap (s1+((l.length-(k+1):Nat):Int)))=iV (s2)) (n2:decide (s2<0)=false) (hgr:Fn 202 0 [.pv (.slice none 0 0),.pv (iV (s2))] [] (.pv (.slice none 0 0)) 0 []) (a1:0+k≤1000000) (a2:0+k+(l.length-(k+1))≤1000000) (hkl1:k+1≤l.length) :
 Fn 162 2 [.ps 1 0 2 2] [(1,0,.lq 0 3 0 k),(1,1,.lq 0 3 (0+(k+1)) (l.length-(k+1))),(0,0,qaS l)] (.ls 2 (l.take k++l.drop (k+1)).length) 1 [(2,0,qaS (l.take k++l.drop (k+1)))]:=
 Fx [(2,3)] [.k,.r (iV (s1)),.t false,.k,.k,.r (iV (s2)),.t false,.k,.k,Cf hgr [],.k,.k,.k,.k,.k]
  (qjW 3 l k hkl1) (Ai (qkf l k hkl1) tI) (Ai q1 (Ai n1 (Ai q2 (Ai n2 (Co hgr [] 2 (Ai a1 (Ai a2 tI)))))))
theorem qFy {l:List Pt} {n hi hw:Int} {k:Nat} {s1 s2 s3:Int} (q1:iV (IntKind.i64.wrap ((0:Int)+((k:Nat):Int)))=iV (s1)) (n1:decide (s1<0)=false) (q2:iV (IntKind.i64.wrap (s1+((1:Nat):Int)))=iV (s2)) (n2:decide (s2<0)=false) (q3:iV (IntKind.i64.wrap (s2+((l.length-k:Nat):Int)))=iV (s3)) (n3:decide (s3<0)=false) (hgr:Fn 202 0 [.pv (.slice none 0 0),.pv (iV (s3))] [] (.ls 0 0) 1 [(0,0,qaS ([]:List Pt))]) (a1:0+k≤1000000) (a2:0+k+1≤1000000) (a3:0+k+1+(l.length-k)≤1000000) (hkl:k≤l.length) :
 Fn 162 3 [.ps 2 0 3 3] [(2,0,.lq 0 3 0 k),(2,1,.ps 1 0 1 1),(2,2,.lq 0 3 (0+k) (l.length-k)),(1,0,.pv (iV n)),(1,1,.pv (iV hi)),(1,2,.pv (iV hw)),(0,0,qaS l)] (.ls 3 (l.take k++(Pt.mk n hi hw)::l.drop k).length) 1 [(3,0,qaS (l.take k++(Pt.mk n hi hw)::l.drop k))]:=
 Fx [(3,6)] [.k,.r (iV (s1)),.t false,.k,.k,.r (iV (s2)),.t false,.k,.k,.r (iV (s3)),.t false,.k,.k,Cf hgr [],.k,.k,.k,.k,.k,.k,.k]
  (qxA 6 l k (Pt.mk n hi hw) hkl) (Ai (qpE l k (Pt.mk n hi hw) hkl) tI) (Ai q1 (Ai n1 (Ai q2 (Ai n2 (Ai q3 (Ai n3 (Co hgr [] 3 (Ai a1 (Ai a2 (Ai a3 tI))))))))))
theorem qCN {c:Ck} {k:Nat} {n:Int} (hfd:Fn 110 1 [.ls 0 c.d.length,.pv (iV (n))] [(0,0,qaS c.d)] (.pv (.tuple #[iV (k:Int),.bool false])) 0 []) :
 Fn 113 8 [qap c,.pv (iV (n))] (qat c) (qap c) 0 []:=
 Fz [] [Cf hfd [7],.k]
  tI (Co hfd [7] 10 tI)
abbrev qCO (o:Ck):HpL:=[(5,0,zrI o.u),(6,0,zrB o.b),(7,0,zrI o.fr),(8,0,qas o.ev),(9,0,zrI o.wh)]
theorem qzF {c o:Ck} {q:Pt} {k:Nat} {n:Int} {y:Ev} (hfd:Fn 110 1 [.ls 0 c.d.length,.pv (iV (n))] [(0,0,qaS c.d)] (.pv (.tuple #[iV (k:Int),.bool true])) 0 []) (hq:c.d[k]?=some q) (hiq:0≤(k:Int)∧(k:Int)<(c.d.length:Int)) (hr:Fn 163 5 [agA c.u c.b c.fr c.ev c.wh,.pv (qaJ q.a q.b)] (qxa c) (.tu [.ag [.ls 5 o.u.length,.ls 6 o.b.length,.ls 7 o.fr.length,.ls 8 o.ev.length,.ls 9 o.wh.length],.one (.pv (qab y)),.one (.pv (iV 0))]) 5 (qCO o)) (hkl:k≤c.d.length) (hkl1:k+1≤c.d.length) (hk1:iV (IntKind.i64.wrap ((k:Int)+1))=iV (((k+1:Nat):Int))) (hcut:Fn 162 2 [.ps 1 0 2 2] [(1,0,.lq 0 3 0 k),(1,1,.lq 0 3 (0+(k+1)) (c.d.length-(k+1))),(0,0,qaS c.d)] (.ls 2 (c.d.take k++c.d.drop (k+1)).length) 1 [(2,0,qaS (c.d.take k++c.d.drop (k+1)))]) :
 Fn 113 8 [qap c,.pv (iV (n))] (qat c) (qB7 c o (c.d.take k++c.d.drop (k+1))) 6 [(8,0,zrI o.u),(9,0,zrB o.b),(10,0,zrI o.fr),(11,0,qas o.ev),(12,0,zrI o.wh),(13,0,qaS (c.d.take k++c.d.drop (k+1)))]:=
 Fz [(8,10),(9,11),(10,12),(11,13),(12,14),(13,16)] [Cf hfd [7],.k,.md,.r (qaJ q.a q.b),Cf hr [2,3,4,5,6],.md,.k,Re hk1,.k,Cf hcut [7,15]]
  (qaI (qaM [(8,10),(9,11),(10,12),(11,13),(12,14),(13,16)]) [(8,0,zrI o.u),(9,0,zrB o.b),(10,0,zrI o.fr),(11,0,qas o.ev),(12,0,zrI o.wh),(13,0,qaS (c.d.take k++c.d.drop (k+1)))]) (Co hfd [7] 10 (Ai hiq (Ai (qdr hq) (Co hr [2,3,4,5,6] 10 (Ai tI (Ai (Int.natCast_nonneg k) (Ai (Nat.zero_le k) (Ai hkl (Ai hk1 (Ai (Int.natCast_nonneg (k+1)) (Ai tI (Ai hkl1 (Ai (Nat.le_refl c.d.length) (Co hcut [7,15] 16 tI))))))))))))))
theorem qBu {c:Ck} {n tn td e:Int} (hp:Fn 161 5 [agA c.u c.b c.fr c.ev c.wh,.pv (qaa tn td),.pv (iV (n))] (qxa c) (.pv (.tuple #[.agg #[.slice none 0 0,.slice none 0 0,.slice none 0 0,.slice none 0 0,.slice none 0 0],qaJ 0 0,iV e])) 0 []) (he:(e !=0)=true) :
 Fn 112 8 [qap c,.pv (qaa tn td),.pv (iV (n))] (qat c) (.pv (.tuple #[qcA,iV e])) 0 []:=
 Fz [] [Cf hp [2,3,4,5,6],.t true]
  tI (Co hp [2,3,4,5,6] 11 (Ai he tI))
theorem qEr {c o:Ck} {k:Nat} {n tn td:Int} {hi hw:Int} (hp:Fn 161 5 [agA c.u c.b c.fr c.ev c.wh,.pv (qaa tn td),.pv (iV (n))] (qxa c) (.tu [.ag [.ls 5 o.u.length,.ls 6 o.b.length,.ls 7 o.fr.length,.ls 8 o.ev.length,.ls 9 o.wh.length],.one (.pv (qaJ hi hw)),.one (.pv (iV 0))]) 5 (qCO o)) (hfd:Fn 110 1 [.ls 0 c.d.length,.pv (iV (n))] [(0,0,qaS c.d)] (.pv (.tuple #[iV (k:Int),.bool false])) 0 []) (hkl:k≤c.d.length) (hins:Fn 162 3 [.ps 2 0 3 3] [(2,0,.lq 0 3 0 k),(2,1,.ps 1 0 1 1),(2,2,.lq 0 3 (0+k) (c.d.length-k)),(1,0,.pv (iV n)),(1,1,.pv (iV hi)),(1,2,.pv (iV hw)),(0,0,qaS c.d)] (.ls 3 (c.d.take k++(Pt.mk n hi hw)::c.d.drop k).length) 1 [(3,0,qaS (c.d.take k++(Pt.mk n hi hw)::c.d.drop k))]) :
 Fn 112 8 [qap c,.pv (qaa tn td),.pv (iV (n))] (qat c) (.tu [qhk c o (c.d.take k++(Pt.mk n hi hw)::c.d.drop k),.one (.pv (iV 0))]) 6 [(8,0,zrI o.u),(9,0,zrB o.b),(10,0,zrI o.fr),(11,0,qas o.ev),(12,0,zrI o.wh),(13,0,qaS (c.d.take k++(Pt.mk n hi hw)::c.d.drop k))]:=
 Fz [(8,11),(9,12),(10,13),(11,14),(12,15),(13,20)] [Cf hp [2,3,4,5,6],.k,Cf hfd [7],.md,.k,.k,Cf hins [7,18,19]]
  (qaI (qaM [(8,11),(9,12),(10,13),(11,14),(12,15),(13,20)]) [(8,0,zrI o.u),(9,0,zrB o.b),(10,0,zrI o.fr),(11,0,qas o.ev),(12,0,zrI o.wh),(13,0,qaS (c.d.take k++(Pt.mk n hi hw)::c.d.drop k))]) (Co hp [2,3,4,5,6] 11 (Co hfd [7] 18 (Ai tI (Ai (Int.natCast_nonneg k) (Ai (Nat.zero_le k) (Ai hkl (Ai (Int.natCast_nonneg k) (Ai tI (Ai hkl (Ai (Nat.le_refl c.d.length) (Co hins [7,18,19] 20 tI)))))))))))
abbrev qEV (c:Ck) (p:Pt) (td:Int) (tn:Int):Prop:=Fn 109 8 [qap c,.pv (qag p.a p.b)] (qat c) (.pv (.tuple #[qaa tn td,.bool true])) 0 []
theorem qAS {c o:Ck} {p q:Pt} {k:Nat} {tn td:Int} (hf:qEV c p td tn) (hfd:Fn 110 1 [.ls 0 c.d.length,.pv (iV (p.id))] [(0,0,qaS c.d)] (.pv (.tuple #[iV (k:Int),.bool true])) 0 []) (hq:c.d[k]?=some q) (hiq:0≤(k:Int)∧(k:Int)<(c.d.length:Int)) (hr:Fn 111 5 [agA c.u c.b c.fr c.ev c.wh,.pv (qaJ q.a q.b),.pv (qaa tn td)] (qxa c) (.tu [.ag [.ls 5 o.u.length,.ls 6 o.b.length,.ls 7 o.fr.length,.ls 8 o.ev.length,.ls 9 o.wh.length],.one (.pv (iV 0))]) 5 (qCO o)) :
 Fn 59 8 [qap c,.pv (ptV p)] (qat c) (.tu [qu9 c o,.one (.pv (iV 0))]) 5 [(8,0,zrI o.u),(9,0,zrB o.b),(10,0,zrI o.fr),(11,0,qas o.ev),(12,0,zrI o.wh)]:=
 Fz [(8,12),(9,13),(10,14),(11,15),(12,16)] [Cf hf [0,1,2,3,4,5,6,7],Cf hfd [7],.md,.r (qaJ q.a q.b),Cf hr [2,3,4,5,6]]
  (qaI (qaM [(8,12),(9,13),(10,14),(11,15),(12,16)]) [(8,0,zrI o.u),(9,0,zrB o.b),(10,0,zrI o.fr),(11,0,qas o.ev),(12,0,zrI o.wh)]) (Co hf [0,1,2,3,4,5,6,7] 11 (Co hfd [7] 12 (Ai hiq (Ai (qdr hq) (Co hr [2,3,4,5,6] 12 tI)))))
abbrev qw1 (l2:List Pt) (o:Ck):HpL:=[(8,0,zrI o.u),(9,0,zrB o.b),(10,0,zrI o.fr),(11,0,qas o.ev),(12,0,zrI o.wh),(13,0,qaS l2)]
theorem qwB {c o:Ck} {p:Pt} {k:Nat} {tn td:Int} {l2:List Pt} (hf:qEV c p td tn) (hfd:Fn 110 1 [.ls 0 c.d.length,.pv (iV (p.id))] [(0,0,qaS c.d)] (.pv (.tuple #[iV (k:Int),.bool false])) 0 []) (hp:Fn 112 8 [qap c,.pv (qaa tn td),.pv (iV (p.id))] (qat c) (.tu [qhk c o l2,.one (.pv (iV 0))]) 6 (qw1 l2 o)) :
 Fn 59 8 [qap c,.pv (ptV p)] (qat c) (.tu [qhk c o l2,.one (.pv (iV 0))]) 6 (qw1 l2 o):=
 Fz [(8,12),(9,13),(10,14),(11,15),(12,16),(13,17)] [Cf hf [0,1,2,3,4,5,6,7],Cf hfd [7],Cf hp [0,1,2,3,4,5,6,7]]
  (qaI (qaM [(8,12),(9,13),(10,14),(11,15),(12,16),(13,17)]) (qw1 l2 o)) (Co hf [0,1,2,3,4,5,6,7] 11 (Co hfd [7] 12 (Co hp [0,1,2,3,4,5,6,7] 12 tI)))
theorem qu5 {c:Ck} {p:Pt} {k:Nat} {tn td e:Int} (hf:qEV c p td tn) (hfd:Fn 110 1 [.ls 0 c.d.length,.pv (iV (p.id))] [(0,0,qaS c.d)] (.pv (.tuple #[iV (k:Int),.bool false])) 0 []) (hp:Fn 112 8 [qap c,.pv (qaa tn td),.pv (iV (p.id))] (qat c) (.pv (.tuple #[qcA,iV e])) 0 []) :
 Fn 59 8 [qap c,.pv (ptV p)] (qat c) (.pv (.tuple #[qcA,iV e])) 0 []:=
 Fz [] [Cf hf [0,1,2,3,4,5,6,7],Cf hfd [7],Cf hp [0,1,2,3,4,5,6,7]]
  tI (Co hf [0,1,2,3,4,5,6,7] 11 (Co hfd [7] 12 (Co hp [0,1,2,3,4,5,6,7] 12 tI)))
theorem qvx {c o:Ck} {p:Pt} {k:Nat} {tn td:Int} {w:Bool} {l2:List Pt} (hf:Fn 109 8 [qap c,.pv (qag p.a p.b)] (qat c) (.pv (.tuple #[qaa tn td,.bool false])) 0 []) (hfd:Fn 110 1 [.ls 0 c.d.length,.pv (iV (p.id))] [(0,0,qaS c.d)] (.pv (.tuple #[iV (k:Int),.bool w])) 0 []) (hel:Fn 113 8 [qap c,.pv (iV (p.id))] (qat c) (qB7 c o l2) 6 (qw1 l2 o)) :
 Fn 59 8 [qap c,.pv (ptV p)] (qat c) (.tu [qhk c o l2,.one (.pv (iV 0))]) 6 (qw1 l2 o):=
 Fz [(8,12),(9,13),(10,14),(11,15),(12,16),(13,17)] [Cf hf [0,1,2,3,4,5,6,7],Cf hfd [7],Cf hel [0,1,2,3,4,5,6,7]]
  (qaI (qaM [(8,12),(9,13),(10,14),(11,15),(12,16),(13,17)]) (qw1 l2 o)) (Co hf [0,1,2,3,4,5,6,7] 11 (Co hfd [7] 12 (Co hel [0,1,2,3,4,5,6,7] 12 tI)))
theorem qsV {c:Ck} {p:Pt} {k:Nat} {tn td:Int} {w:Bool} (hf:Fn 109 8 [qap c,.pv (qag p.a p.b)] (qat c) (.pv (.tuple #[qaa tn td,.bool false])) 0 []) (hfd:Fn 110 1 [.ls 0 c.d.length,.pv (iV (p.id))] [(0,0,qaS c.d)] (.pv (.tuple #[iV (k:Int),.bool w])) 0 []) (hel:Fn 113 8 [qap c,.pv (iV (p.id))] (qat c) (qap c) 0 []) :
 Fn 59 8 [qap c,.pv (ptV p)] (qat c) (.tu [qq5 c,.one (.pv (iV 0))]) 0 []:=
 Fz [] [Cf hf [0,1,2,3,4,5,6,7],Cf hfd [7],Cf hel [0,1,2,3,4,5,6,7]]
  tI (Co hf [0,1,2,3,4,5,6,7] 11 (Co hfd [7] 12 (Co hel [0,1,2,3,4,5,6,7] 12 tI)))
theorem qzY {c:Ck} {n e:Int} (hrm:Fn 114 1 [qaL 0 c.x c.l,.pv (iV (n))] [(0,0,qam c.l)] (.pv (.tuple #[.agg #[iV 0,.slice none 0 0],qag 0 0,iV e])) 0 []) (he:(e !=0)=true) :
 Fn 60 8 [qap c,.pv (iV (n))] (qat c) (.pv (.tuple #[qcA,qag 0 0,iV e])) 0 []:=
 Fz [] [Cf hrm [1],.t true]
  tI (Co hrm [1] 11 (Ai he tI))
abbrev qFk (a:Int) (b:Int) (c:Ck) (l2:List Pt) (n:Int):Prop:=Fn 114 1 [qaL 0 c.x c.l,.pv (iV (n))] [(0,0,qam c.l)] (.tu [.ag [.pv (iV c.x),.ls 1 l2.length],.one (.pv (qag a b)),.one (.pv (iV 0))]) 1 [(1,0,qam l2)]
theorem qD6 {c:Ck} {n a b:Int} {l2:List Pt} (hrm:qFk a b c l2 n) (hcl:Fn 58 8 [qap c] (qat c) (qyl c) 8 (qdu c)) (hel:Fn 113 8 [qap c,.pv (iV (n))] (qat c) (qap c) 0 []) :
 Fn 60 8 [qap c,.pv (iV (n))] (qat c) (.tu [qhC { c with l:=l2 },.one (.pv (qag a b)),.one (.pv (iV 0))]) 8 (qdu ({ c with l:=l2 }:Ck)):=
 Fz [(8,14),(9,11),(10,16),(11,17),(12,18),(13,19),(14,20),(15,21)] [Cf hrm [1],.k,Cf hcl [0,1,2,3,4,5,6,7],Cf hel [14,15,16,17,18,19,20,21]]
  (qaI (qaM [(8,14),(9,11),(10,16),(11,17),(12,18),(13,19),(14,20),(15,21)]) (qdu ({ c with l:=l2 }:Ck))) (Co hrm [1] 11 (Co hcl [0,1,2,3,4,5,6,7] 14 (Co hel [14,15,16,17,18,19,20,21] 22 tI)))
theorem qA0 {c o:Ck} {n a b:Int} {l l2:List Pt} (hrm:qFk a b c l2 n) (hcl:Fn 58 8 [qap c] (qat c) (qyl c) 8 (qdu c)) (hel:Fn 113 8 [qap c,.pv (iV (n))] (qat c) (qB7 c o l) 6 [(8,0,zrI o.u),(9,0,zrB o.b),(10,0,zrI o.fr),(11,0,qas o.ev),(12,0,zrI o.wh),(13,0,qaS l)]) :
 Fn 60 8 [qap c,.pv (iV (n))] (qat c) (.tu [qhC { c with l:=l2,u:=o.u,b:=o.b,fr:=o.fr,ev:=o.ev,wh:=o.wh,d:=l },.one (.pv (qag a b)),.one (.pv (iV 0))]) 8 (qdu ({ c with l:=l2,u:=o.u,b:=o.b,fr:=o.fr,ev:=o.ev,wh:=o.wh,d:=l }:Ck)):=
 Fz [(8,14),(9,11),(10,22),(11,23),(12,24),(13,25),(14,26),(15,27)] [Cf hrm [1],.k,Cf hcl [0,1,2,3,4,5,6,7],Cf hel [14,15,16,17,18,19,20,21]]
  (qaI (qaM [(8,14),(9,11),(10,22),(11,23),(12,24),(13,25),(14,26),(15,27)]) (qdu ({ c with l:=l2,u:=o.u,b:=o.b,fr:=o.fr,ev:=o.ev,wh:=o.wh,d:=l }:Ck))) (Co hrm [1] 11 (Co hcl [0,1,2,3,4,5,6,7] 14 (Co hel [14,15,16,17,18,19,20,21] 22 tI)))
end Go.Proofs.YtkjaanhddkkodaaGreat
