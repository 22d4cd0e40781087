/-
  Joined: Lm, Lh, Li, Lj. Conditions: none.
-/
import Derived.Test.YtkjaanhddkkodaaGreatW39
import Derived.Test.YtkjaanhddkkodaaGreatW31
import Derived.Test.YtkjaanhddkkodaaGreatW24
import Derived.Test.YtkjaanhddkkodaaGreatW18
namespace Go.Proofs.YtkjaanhddkkodaaGreat
set_option maxRecDepth 100000
open Go.ChangeShapes Go.WideShapes Go.ChangeAt Go.RowKit Go.Joins Go.Deep
theorem qyG:Tryz.prog.cellsOf 54=3:=by kernel_rfl
theorem qu4:Tryz.prog.cellsOf 37=1:=by kernel_rfl
theorem qw5:Tryz.prog.cellsOf 26=1:=by kernel_rfl
theorem qzk:Tryz.prog.cellsOf 24=1:=by kernel_rfl
theorem qoI:Tryz.prog.cellsOf 39=11:=by kernel_rfl
theorem qsB:Tryz.prog.readableRec 39=true:=by kernel_rfl
theorem qzG:39<Tryz.prog.types.size:=of_decide_eq_true (by kernel_rfl)
section
variable {H:Type} {enc:TypeId×Value→H} {W:World} {base:Nat} {spare:Nat→Bool} {held:Bool}
theorem qhn {P:Program} {t:TypeId} {f0 f1 f2 f3 f4:Field} {fuel:Nat} {cs:List Value} {x:DataW H×List MemPlace} (ht:P.underlying t=some (.struct #[f0,f1,f2,f3,f4])) (h:DataW.trod enc P W base spare held fuel t cs=some x) :
 ∃ y0 y1 y2 y3 y4 n,cs.length=P.cellsOf t∧DataW.trod enc P W base spare held n f0.type ((cs.drop f0.offset).take (P.cellsOf f0.type))=some y0∧DataW.trod enc P W base spare held n f1.type ((cs.drop f1.offset).take (P.cellsOf f1.type))=some y1∧
  DataW.trod enc P W base spare held n f2.type ((cs.drop f2.offset).take (P.cellsOf f2.type))=some y2∧DataW.trod enc P W base spare held n f3.type ((cs.drop f3.offset).take (P.cellsOf f3.type))=some y3∧DataW.trod enc P W base spare held n f4.type ((cs.drop f4.offset).take (P.cellsOf f4.type))=some y4:=by
 obtain⟨xs,n,_,rfl,hl,hlen,hf⟩:=DataW.trod_struct ht h
 match xs,hlen with
 | [y0,y1,y2,y3,y4],_=>exact⟨y0,y1,y2,y3,y4,n,hl,by simpa using hf 0 f0 rfl,by simpa using hf 1 f1 rfl,by simpa using hf 2 f2 rfl,by simpa using hf 3 f3 rfl,by simpa using hf 4 f4 rfl⟩
theorem qmc {fuel:Nat} {cs:List Value} {x:DataW H×List MemPlace} (h:DataW.trod enc Tryz.prog W base spare held fuel 37 cs=some x) :
 ∃ (u:Value) (l:List Pt),cs=[u]∧Rd W 3 u l.length (qbt l):=by
 rcases open_slice Tryz.underlying37 h with ⟨rfl,_⟩ | ⟨a,len,cap,m,n,D,Pl,rfl,_,hlc,_,hm,_,hi⟩
 ·exact⟨_,[],rfl,⟨rfl,none,0,rfl,Nat.le_refl _,fun j v hv=>by simp[qbt] at hv⟩⟩
 have hlm:len≤m:=by rw[hm];split<;>omega
 have each:∀ i,i<len→∃ p:Pt,W.cell? (a.add (i*3))=some (iV p.id)∧W.cell? (a.add (i*3+1))=some (iV p.a)∧W.cell? (a.add (i*3+2))=some (iV p.b):=by
  intro i hil
  obtain⟨cs',hc,ht⟩:=hi i (by omega)
  rw[qyG] at hc
  obtain⟨y0,y1,n',_,hlen,t0,t1⟩:=trod_struct2 Tryz.underlying54 ht
  obtain⟨z0,z1,n2,_,hlen2,s0,s1⟩:=trod_struct2 Tryz.underlying52 t1
  obtain⟨_,hcl,hat⟩:=World.cells?_some hc
  match cs',hcl with
  | [c0,c1,c2],_=>
   obtain⟨pi,e0,_,w0⟩:=DataW.trod_int Tryz.underlying3 t0
   obtain⟨pa,e1,_,w1⟩:=DataW.trod_int Tryz.underlying3 s0
   obtain⟨pb,e2,_,w2⟩:=DataW.trod_int Tryz.underlying3 s1
   simp[qwK,qzx] at e0 e1 e2
   refine⟨⟨pi,pa,pb⟩,?_,?_,?_⟩
   ·have:=hat 0 (by omega);rw[add_add] at this;simpa [e0] using this
   ·have:=hat 1 (by omega);rw[add_add] at this;simpa [e1] using this
   ·have:=hat 2 (by omega);rw[add_add] at this;simpa [e2] using this
 haveI:Inhabited Pt:=⟨⟨0,0,0⟩⟩
 obtain⟨f,hf⟩:=choose_lt (α:=Pt) each
 refine⟨_,(List.range len).map f,rfl,⟨qa7 _,some a,cap,by simp,by simpa using hlc,fun j v hv=>?_⟩⟩
 obtain⟨hk,he⟩:=qnp f len j v hv
 obtain⟨c0,c1,c2⟩:=hf _ hk
 have hcell:W.cell? (a.add j)=some v:=by
  have h3:j%3=0∨j%3=1∨j%3=2:=by omega
  have e:j=j/3*3+j%3:=by omega
  rcases h3 with e3 | e3 | e3<;>rw[e3] at he e<;>rw[e]<;>simp at he<;>subst he
  ·exact c0
  ·exact c1
  ·exact c2
 obtain⟨b,off,spot⟩:=a
 have hs:spot=none:=by simpa [Addr.add] using World.cell?_spot (hf 0 (by omega)).1
 subst hs
 exact⟨b,off,rfl,by rw[← Go.WideShapes.add_plain];exact hcell⟩
abbrev ckR (c:Ck):List (TypeId×Nat×Nat×List Value):=[(57,3,c.s.length,qbt c.s),(94,3,c.l.length,qbt c.l),(3,1,c.u.length,ziV c.u),(4,1,c.b.length,zbV c.b),(3,1,c.fr.length,ziV c.fr),(62,5,c.ev.length,qaK c.ev),(3,1,c.wh.length,ziV c.wh),(54,3,c.d.length,qbt c.d)]
theorem qk3 {r:Reach} {b0:Nat} {v:Value} {d:DataW H} {p:List MemPlace} (hv:Value.okWide Tryz.prog W r b0 39 v) (h:DataW.Trod enc Tryz.prog W base spare held 39 v d p) :
 ∃ (c:Ck) (u0 u1 u2 u3 u4 u5 u6 u7:Value),v=.agg #[iV c.tn,iV c.td,u0,iV c.x,u1,u2,u3,u4,u5,u6,u7]∧ZIns W [u0,u1,u2,u3,u4,u5,u6,u7] (ckR c)∧I64 c.tn∧I64 c.td∧∀ y∈c.ev,EvI y:=by
 obtain⟨cs,rfl,hsz⟩:=okWide_struct Tryz.underlying39 hv
 obtain⟨fuel,hf⟩:=h
 obtain⟨y0,y1,y2,y3,y4,n,hlen,h0,h1,h2,h3,h4⟩:=qhn Tryz.underlying39 hf
 obtain⟨z0,z1,n1,_,_,a0,a1⟩:=trod_struct2 Tryz.underlying23 h0
 obtain⟨tn,e0,_,w0⟩:=DataW.trod_int Tryz.underlying2 a0
 obtain⟨td,e1,_,w1⟩:=DataW.trod_int Tryz.underlying2 a1
 obtain⟨z2,n2,_,_,b0⟩:=trod_struct1 Tryz.underlying26 h1
 obtain⟨u0,s,c0,r0,_⟩:=qpU b0
 obtain⟨z3,z4,n3,_,_,d0,d1⟩:=trod_struct2 Tryz.underlying29 h2
 obtain⟨x,e2,_,_⟩:=DataW.trod_int Tryz.underlying3 d0
 obtain⟨u1,l,c1,r1⟩:=qnl d1
 obtain⟨z5,z6,z7,n4,_,_,k0,k1,k2⟩:=trod_struct3 Tryz.underlying36 h3
 obtain⟨x0,x1,x2,n5,_,_,g0,g1,g2⟩:=trod_struct3 Tryz.underlying33 k0
 obtain⟨u2,lu,c2,r2,_⟩:=qdZ g0
 obtain⟨u3,lb,c3,r3⟩:=qiV g1
 obtain⟨u4,lf,c4,r4,_⟩:=qdZ g2
 obtain⟨u5,le,c5,r5,w5⟩:=qpX k1
 obtain⟨u6,lw,c6,r6,_⟩:=qdZ k2
 obtain⟨u7,ld,c7,r7⟩:=qmc h4
 refine⟨⟨tn,td,s,x,l,lu,lb,lf,le,lw,ld⟩,u0,u1,u2,u3,u4,u5,u6,u7,?_,.cons r0 (qgK s) (.cons r1 (qgK l) (.cons r2 (qjO lu) (.cons r3 (qAJ lb) (.cons r4 (qjO lf) (.cons r5 (ql7 le) (.cons r6 (qjO lw) (.cons r7 (qgK ld) .nil))))))),qBs w0,qBs w1,w5⟩
 rw[qw5,qzk] at c0
 rw[qvd,qjT] at c1
 rw[qwK,qjT] at e2
 rw[qr4,qwJ] at e0 e1
 rw[qC9] at c2 c4 c6
 rw[qDc] at c3
 rw[qDB] at c5
 rw[qDs] at c2 c3 c4
 rw[qCs] at c2 c3 c4 c5 c6
 rw[qu4] at c7
 have hs:cs.size=11:=hsz.trans qoI
 obtain⟨L⟩:=cs
 match L,hs with
 | [v0,v1,v2,v3,v4,v5,v6,v7,v8,v9,v10],_=>
  simp[Value.cells] at c0 c1 c2 c3 c4 c5 c6 c7 e0 e1 e2
  rw[c0,c1,c2,c3,c4,c5,c6,c7,e0,e1,e2]
end
theorem qpO {W:World} {c:Ck} {u0 u1 u2 u3 u4 u5 u6 u7:Value} {us:List Value} (h:ZIns W [u0,u1,u2,u3,u4,u5,u6,u7] (ckR c)):SV.is (qmv (u0::u1::u2::u3::u4::u5::u6::u7::us)) (qap c) (.agg #[iV c.tn,iV c.td,u0,iV c.x,u1,u2,u3,u4,u5,u6,u7]):=by
 match h with
 | .cons h0 _ (.cons h1 _ (.cons h2 _ (.cons h3 _ (.cons h4 _ (.cons h5 _ (.cons h6 _ (.cons h7 _ .nil)))))))=>
 exact⟨[iV c.tn,iV c.td,u0,iV c.x,u1,u2,u3,u4,u5,u6,u7],⟨rfl,rfl,⟨rfl,h0.zsl⟩,rfl,⟨rfl,h1.zsl⟩,⟨rfl,h2.zsl⟩,⟨rfl,h3.zsl⟩,⟨rfl,h4.zsl⟩,⟨rfl,h5.zsl⟩,⟨rfl,h6.zsl⟩,⟨rfl,h7.zsl⟩,tI⟩,rfl⟩
theorem ZIns.snoc {W:World} {us:List Value} {rs:List (TypeId×Nat×Nat×List Value)} (h:ZIns W us rs) {u:Value} {e:TypeId} {es n:Nat} {xs:List Value} (h1:Rd W es u n xs) (h2:∀ v∈xs,v.oneCell'=true):ZIns W (us++[u]) (rs++[(e,es,n,xs)]):=by
 induction h with
 | nil=>exact .cons h1 h2 .nil
 | cons a b _ ih=>exact .cons a b ih
theorem qlU {W:World} {c:Ck} {u0 u1 u2 u3 u4 u5 u6 u7:Value} {f:FuncId} {vs:List Value} (h:Fn f 8 (qap c::vs.map .pv) (qaq c) (.pv (.bool true)) 0 []) (hr:ZIns W [u0,u1,u2,u3,u4,u5,u6,u7] (ckR c)) :
 Calls Tryz.prog f (.agg #[iV c.tn,iV c.td,u0,iV c.x,u1,u2,u3,u4,u5,u6,u7]::vs).toArray W fun e W'=>e=.returned (.bool true)∧Gr W W':=
 qrc (rs:=ckR c) (us:=[u0,u1,u2,u3,u4,u5,u6,u7]) h hr ⟨qpO hr,SV.isl_v vs⟩
end Go.Proofs.YtkjaanhddkkodaaGreat

namespace Go.Proofs.YtkjaanhddkkodaaGreat
set_option maxRecDepth 100000
open Go.RowKit
theorem qsf {s:List Pt} {n d:Int} {c:Pt} (hn:I64 n) (hd:I64 d) (ht:okB n d=true) (hs:Val s) (hc:qcc c.a c.b=true) (ha:∃ q∈s,q.id=c.a) (hb:∃ q∈s,q.id=c.b) :
 Fn 39 1 [qaI 0 s,.pv (qag c.a c.b),.pv (qaa n d)] [(0,0,qak s)] (.pv (.tuple #[qaa (qae s n d c).1 (qae s n d c).2.1,.bool (qae s n d c).2.2])) 0 []:=by
 have F:=(qbw hn hd ht hs hc ha hb).f
 obtain⟨q,hq,ea⟩:=ha
 obtain⟨p,hp,eb⟩:=hb
 have e1:qda s c.a=q:=by rw[← ea];exact qcr hs hq
 have e2:qda s c.b=p:=by rw[← eb];exact qcr hs hp
 rw[e1,e2] at F
 obtain⟨j,hj,rfl⟩:=List.getElem_of_mem hq
 obtain⟨i,hi,rfl⟩:=List.getElem_of_mem hp
 exact wn9 (hg:=List.getElem?_eq_getElem hi) (hq:=List.getElem?_eq_getElem hj) (hi:=qan hi) (hj:=qan hj) (ha:=qml hs (List.getElem?_eq_getElem hi) eb) (hb:=qml hs (List.getElem?_eq_getElem hj) ea) (hl:=F)
structure DueOk (c:Ck) (p q:Pt) (y:Ev):Prop where
 id:q.id=p.id
 lv:Live c.u c.b q.a q.b
 at_:∃ j:Nat,c.wh[q.a.toNat]?=some (j:Int)∧c.ev[j]?=some y
 k:y.k=p.id
 n:y.n=(qae c.s c.tn c.td p).1
 d:y.d=(qae c.s c.tn c.td p).2.1
def DueF (c:Ck):List Pt→List Pt→Prop
 | [],d=>d=[]
 | p::l,d=>if (qae c.s c.tn c.td p).2.2=true then ∃ q r,d=q::r∧(∃ y,DueOk c p q y)∧DueF c l r else DueF c l d
structure V9 (c:Ck):Prop where
 t:okB c.tn c.td=true
 s:Val c.s
 v:V8 c.x c.l
 k:qcM c.l c.s
 a:VA c.u c.b c.fr c.ev c.wh
 w:c.wh.length=200
 e:c.ev.length=c.d.length
 f:DueF c c.l c.d
structure S9 (c:Ck):Prop where
 tn:I64 c.tn
 td:I64 c.td
 l:c.l.length≤210
 d:c.d.length≤210
 a:ASm c.u c.b c.fr c.ev c.wh
noncomputable def qop (c:Ck):Int:=open Classical in if V9 c then 0 else 8
theorem qdP {α:Type} {l:List α} {k:Nat} {p:α} (h:l[k]?=some p):l.drop k=p::l.drop (k+1):=by
 obtain⟨h1,h2⟩:=List.getElem?_eq_some_iff.1 h
 rw[← h2]
 exact List.drop_eq_getElem_cons h1
abbrev qAj (j k:Nat):List (Nat×SV):=[(1,.pp 8 0),(3,.pv (iV (j:Int))),(4,.pv (iV (k:Int)))]
abbrev qEX (j:Nat):List (Nat×SV):=[(1,.pp 8 0),(3,.pv (iV (j:Int)))]
theorem qpL {c:Ck} (S:S9 c) (ht:okB c.tn c.td=true) (hs:Val c.s) (hv:V8 c.x c.l) (hk:qcM c.l c.s) (ha:VA c.u c.b c.fr c.ev c.wh):∀ (n k j:Nat),k+n=c.l.length→j≤c.d.length→
 (DueF c (c.l.drop k) (c.d.drop j)∧Rl 8 8 31 0 133 9 (qAj j k) (qbr 8 c) (.exit 0) (qEX c.d.length) (qbr 8 c))∨
 (¬ DueF c (c.l.drop k) (c.d.drop j)∧Rl 8 8 31 0 133 9 (qAj j k) (qbr 8 c) .ret [(2,.pv (iV 8))] [])∨
 (¬ DueF c (c.l.drop k) (c.d.drop j)∧∃ m:Nat,m≠c.d.length∧Rl 8 8 31 0 133 9 (qAj j k) (qbr 8 c) (.exit 0) (qEX m) (qbr 8 c)):=by
 intro n
 induction n with
 | zero=>
  intro k j hkn hj
  have r:=qv7 (c:=c) (k:=k) (j:=j) (df (by omega))
  rw[List.drop_eq_nil_of_le (show c.l.length≤k by omega)]
  by_cases e:j=c.d.length
  ·subst e
   exact Or.inl ⟨List.drop_length,r⟩
  ·refine Or.inr (Or.inr ⟨fun h=>?_,j,e,r⟩)
   have h':c.d.drop j=[]:=h
   have:=List.drop_eq_nil_iff.1 h'
   omega
 | succ n ih=>
  intro k j hkn hj
  have hlk:k<c.l.length:=by omega
  obtain⟨p,hp⟩:=qah hlk
  have hmem:=List.mem_of_getElem? hp
  have W:=qsf S.tn S.td ht hs (hv.ok p hmem) (hk p hmem).1 (hk p hmem).2
  have hl:=S.l
  have hd':=S.d
  have hdr:=qdP hp
  have lk:decide ((k:Int)<(c.l.length:Int))=true:=dt (by omega)
  rw[hdr]
  cases hf:(qae c.s c.tn c.td p).2.2
  ·rw[hf] at W
   have e:DueF c (p::c.l.drop (k+1)) (c.d.drop j)=DueF c (c.l.drop (k+1)) (c.d.drop j):=by
    show (if (qae c.s c.tn c.td p).2.2=true then _ else _)=_
    rw[if_neg (by rw[hf];decide)]
   rw[e]
   have st:=fun {ex:Exit} {tm2:List (Nat×SV)} {hp2:List (Nat×Nat×SV)} (r:Rl 8 8 31 0 133 9 (qAj j (k+1)) (qbr 8 c) ex tm2 hp2)=>qo4 (c:=c) (j:=j) (hk:=hp) (hin:=qan hlk) (hlt:=lk) (hw:=W) (hs:=qat (by omega)) (r:=r)
   rcases ih (k+1) j (by omega) hj with ⟨h1,r⟩ | ⟨h1,r⟩ | ⟨h1,m,h2,r⟩
   ·exact Or.inl ⟨h1,st r⟩
   ·exact Or.inr (Or.inl ⟨h1,st r⟩)
   ·exact Or.inr (Or.inr ⟨h1,m,h2,st r⟩)
  ·rw[hf] at W
   have e:DueF c (p::c.l.drop (k+1)) (c.d.drop j)=(∃ q r,c.d.drop j=q::r∧(∃ y,DueOk c p q y)∧DueF c (c.l.drop (k+1)) r):=by
    show (if (qae c.s c.tn c.td p).2.2=true then _ else _)=_
    rw[if_pos hf]
   rw[e]
   by_cases hjd:j<c.d.length
   ·obtain⟨q,hq⟩:=qah hjd
    have hdq:=qdP hq
    rw[hdq]
    have nj:decide ((j:Int)≥(c.d.length:Int))=false:=df (by omega)
    have bad:(¬ ∃ y,DueOk c p q y)→¬ ∃ q' r,q::c.d.drop (j+1)=q'::r∧(∃ y,DueOk c p q' y)∧DueF c (c.l.drop (k+1)) r:=by
     rintro h ⟨q',r,e1,e2,_⟩
     cases e1
     exact h e2
    by_cases hid:q.id=p.id
    ·have nid:(q.id !=p.id)=false:=by simp[hid]
     by_cases hlv:Live c.u c.b q.a q.b
     ·obtain⟨w,y,hw1,hy,_,_⟩:=VA.find ha hlv
      have F:=qly ha hlv hw1 hy
      have uq:∀ y',DueOk c p q y'→y'=y:=by
       rintro y' ⟨_,_,⟨w',h1,h2⟩,_,_,_⟩
       rw[hw1] at h1
       have e1:(w:Int)=(w':Int):=Option.some.inj h1
       have e2:w=w':=by omega
       subst e2
       rw[hy] at h2
       exact (Option.some.inj h2).symm
      by_cases hyk:y.k=p.id
      ·have nk:(y.k !=p.id)=false:=by simp[hyk]
       by_cases ht2:y.n=(qae c.s c.tn c.td p).1∧y.d=(qae c.s c.tn c.td p).2.1
       ·have nt:(!(y.n==(qae c.s c.tn c.td p).1&&(y.d==(qae c.s c.tn c.td p).2.1&&true)))=false:=by simp[ht2.1,ht2.2]
        have ok:∃ y,DueOk c p q y:=⟨y,hid,hlv,⟨w,hw1,hy⟩,hyk,ht2.1,ht2.2⟩
        have e2:(∃ q' r,q::c.d.drop (j+1)=q'::r∧(∃ y,DueOk c p q' y)∧DueF c (c.l.drop (k+1)) r)↔DueF c (c.l.drop (k+1)) (c.d.drop (j+1)):=by
         constructor
         ·rintro⟨q',r,e1,_,e3⟩
          cases e1
          exact e3
         ·exact fun h=>⟨q,_,rfl,ok,h⟩
        rw[e2]
        have st:=fun {ex:Exit} {tm2:List (Nat×SV)} {hp2:List (Nat×Nat×SV)} (r:Rl 8 8 31 0 133 9 (qAj (j+1) (k+1)) (qbr 8 c) ex tm2 hp2)=>qo3 (c:=c) (j:=j) (hk:=hp) (hin:=qan hlk) (hlt:=lk) (hw:=W) (hj:=nj) (hq:=hq) (hiq:=qan hjd) (hne:=nid) (hf:=F) (hk2:=nk) (ht2:=nt) (hs2:=qat (by omega)) (hs:=qat (by omega)) (r:=r)
        rcases ih (k+1) (j+1) (by omega) (by omega) with ⟨h1,r⟩ | ⟨h1,r⟩ | ⟨h1,m,h2,r⟩
        ·exact Or.inl ⟨h1,st r⟩
        ·exact Or.inr (Or.inl ⟨h1,st r⟩)
        ·exact Or.inr (Or.inr ⟨h1,m,h2,st r⟩)
       ·have nt:(!(y.n==(qae c.s c.tn c.td p).1&&(y.d==(qae c.s c.tn c.td p).2.1&&true)))=true:=by
         rw[Bool.not_eq_true',Bool.and_true,Bool.and_eq_false_iff]
         by_cases h1:y.n=(qae c.s c.tn c.td p).1
         ·exact Or.inr (by simpa using fun h2=>ht2 ⟨h1,h2⟩)
         ·exact Or.inl (by simpa using h1)
        refine Or.inr (Or.inl ⟨bad ?_,qp1 (c:=c) (hk:=hp) (hin:=qan hlk) (hlt:=lk) (hw:=W) (hj:=nj) (hq:=hq) (hiq:=qan hjd) (hne:=nid) (hf:=F) (hk2:=nk) (ht2:=nt)⟩)
        rintro⟨y',h⟩
        have:=uq y' h
        subst this
        exact ht2 ⟨h.n,h.d⟩
      ·refine Or.inr (Or.inl ⟨bad ?_,qmu (c:=c) (hk:=hp) (hin:=qan hlk) (hlt:=lk) (hw:=W) (hj:=nj) (hq:=hq) (hiq:=qan hjd) (hne:=nid) (hf:=F) (hk2:=by simpa using hyk)⟩)
       rintro⟨y',h⟩
       have:=uq y' h
       subst this
       exact hyk h.k
     ·have F:=qkq ha hlv
      refine Or.inr (Or.inl ⟨bad (fun ⟨y,h⟩=>hlv h.lv),qp2 (c:=c) (y:=Ev.mk 0 0 0 0 0) (e:=6) (hk:=hp) (hin:=qan hlk) (hlt:=lk) (hw:=W) (hj:=nj) (hq:=hq) (hiq:=qan hjd) (hne:=nid) (hf:=F) (he:=by decide)⟩)
    ·exact Or.inr (Or.inl ⟨bad (fun ⟨y,h⟩=>hid h.id),qtI (c:=c) (hk:=hp) (hin:=qan hlk) (hlt:=lk) (hw:=W) (hj:=nj) (hq:=hq) (hiq:=qan hjd) (hne:=by simpa using hid)⟩)
   ·have e3:c.d.drop j=[]:=List.drop_eq_nil_of_le (by omega)
    rw[e3]
    refine Or.inr (Or.inl ⟨?_,qtk (c:=c) (hk:=hp) (hin:=qan hlk) (hlt:=lk) (hw:=W) (hj:=dt (by omega))⟩)
    rintro⟨q,r,e4,_⟩
    cases e4
theorem qdK {c:Ck} (S:S9 c):Fn 31 8 [qap c] (qaq c) (.pv (iV (qop c))) 0 []:=by
 have bad:(¬ V9 c)→qop c=8:=fun h=>by unfold qop;rw[if_neg h]
 have h2:=qkB c.s
 have h3:=ql1 c.x c.l
 by_cases ht:okB c.tn c.td=true
 ·have h1:=qdL S.tn S.td ht
  by_cases hs:Val c.s
  ·rw[qcU.2 hs] at h2
   by_cases hv:V8 c.x c.l
   ·rw[qdt hv] at h3
    have h4:=qzj c.x S.l hs
    by_cases hk:qcM c.l c.s
    ·rw[qd1.2 hk] at h4
     by_cases ha:VA c.u c.b c.fr c.ev c.wh
     ·have h5:=qd0 ha
      by_cases hw:c.wh.length=200
      ·by_cases he:c.ev.length=c.d.length
       ·have w:((c.wh.length:Int) !=200)=false:=by simp[hw]
        have d0:((c.ev.length:Int) !=(c.d.length:Int))=false:=by simp[he]
        rcases qpL S ht hs hv hk ha c.l.length 0 0 (Nat.zero_add _) (Nat.zero_le _) with ⟨hf,r⟩ | ⟨hf,r⟩ | ⟨hf,m,hm,r⟩
        ·have e0:qop c=0:=by unfold qop;rw[if_pos ⟨ht,hs,hv,hk,ha,hw,he,hf⟩]
         rw[e0]
         exact qxA (j:=c.d.length) (h1:=h1) (h2:=h2) (h3:=h3) (h4:=h4) (h5:=h5) (h6:=w) (h7:=d0) (r0:=r) (hd:=by simp)
        ·rw[bad fun v=>hf v.f]
         exact quB (h1:=h1) (h2:=h2) (h3:=h3) (h4:=h4) (h5:=h5) (h6:=w) (h7:=d0) (r0:=r)
        ·rw[bad fun v=>hf v.f]
         exact qox (j:=m) (h1:=h1) (h2:=h2) (h3:=h3) (h4:=h4) (h5:=h5) (h6:=w) (h7:=d0) (r0:=r) (hd:=by simp;omega)
       ·rw[bad fun v=>he v.e]
        exact qCF (h1:=h1) (h2:=h2) (h3:=h3) (h4:=h4) (h5:=h5) (h6:=by simp[hw]) (h7:=by simp;omega)
      ·rw[bad fun v=>hw v.w]
       exact qBS (h1:=h1) (h2:=h2) (h3:=h3) (h4:=h4) (h5:=h5) (h6:=by simp;omega)
     ·rw[bad fun v=>ha v.a]
      exact qCL (h1:=h1) (h2:=h2) (h3:=h3) (h4:=h4) (h5:=qil S.a ha)
    ·rw[bad fun v=>hk v.k]
     rw[qha hk] at h4
     exact qDh (h1:=h1) (h2:=h2) (h3:=h3) (h4:=h4)
   ·rw[bad fun v=>hv v.v]
    rw[qbv hv] at h3
    exact qCi (h1:=h1) (h2:=h2) (h3:=h3)
  ·rw[bad fun v=>hs v.s]
   exact qB7 (h1:=h1) (h2:=h2) (hne:=by
    have:qfx c.s≠0:=fun e=>hs (qcU.1 e)
    simpa using this)
 ·rw[bad fun v=>ht v.t]
  exact qBF (h1:=qea S.tn S.td ht)
end Go.Proofs.YtkjaanhddkkodaaGreat

namespace Go.Proofs.YtkjaanhddkkodaaGreat
set_option maxRecDepth 100000
open Go.RowKit
noncomputable abbrev qaQ (c:Ck) (p:Pt):Bool:=(qae c.s c.tn c.td p).2.2
theorem DueF.ids {c:Ck}:∀ {l d:List Pt},DueF c l d→d.map Pt.id=(l.filter (qaQ c)).map Pt.id
 | [],d,h=>by
  have e:d=[]:=h
  subst e;rfl
 | p::l,d,h=>by
  cases hf:qaQ c p
  ·have h':DueF c l d:=by
    have:(if (qae c.s c.tn c.td p).2.2=true then _ else _):=h
    rwa [if_neg (by rw[show (qae c.s c.tn c.td p).2.2=false from hf];decide)] at this
   rw[List.filter_cons_of_neg (by rw[hf];decide)]
   exact DueF.ids h'
  ·have h':∃ q r,d=q::r∧(∃ y,DueOk c p q y)∧DueF c l r:=by
    have:(if (qae c.s c.tn c.td p).2.2=true then _ else _):=h
    rwa [if_pos hf] at this
   obtain⟨q,r,rfl,⟨y,hy⟩,hr⟩:=h'
   rw[List.filter_cons_of_pos hf,List.map_cons,List.map_cons,DueF.ids hr,hy.id]
theorem DueF.some {c:Ck}:∀ {l d:List Pt},DueF c l d→∀ q∈d,∃ p∈l,qaQ c p=true∧∃ y,DueOk c p q y
 | [],d,h,q,hq=>by
  have e:d=[]:=h
  subst e;cases hq
 | p::l,d,h,q,hq=>by
  cases hf:qaQ c p
  ·have h':DueF c l d:=by
    have:(if (qae c.s c.tn c.td p).2.2=true then _ else _):=h
    rwa [if_neg (by rw[show (qae c.s c.tn c.td p).2.2=false from hf];decide)] at this
   obtain⟨p',hp',h2⟩:=DueF.some h' q hq
   exact⟨p',List.mem_cons_of_mem _ hp',h2⟩
  ·have h':∃ q r,d=q::r∧(∃ y,DueOk c p q y)∧DueF c l r:=by
    have:(if (qae c.s c.tn c.td p).2.2=true then _ else _):=h
    rwa [if_pos hf] at this
   obtain⟨q',r,rfl,hy,hr⟩:=h'
   rcases List.mem_cons.1 hq with rfl | hq
   ·exact⟨p,List.mem_cons_self,hf,hy⟩
   ·obtain⟨p',hp',h2⟩:=DueF.some hr q hq
    exact⟨p',List.mem_cons_of_mem _ hp',h2⟩
theorem DueF.all {c:Ck} {l:List Pt}:∀ {d:List Pt},DueF c l d→∀ p∈l,qaQ c p=true→∃ q∈d,∃ y,DueOk c p q y:=by
 induction l with
 | nil=>intro d _ p hp _;cases hp
 | cons p' l ih=>
  intro d h p hp hf
  cases hf':qaQ c p'
  ·have h':DueF c l d:=by
    have:(if (qae c.s c.tn c.td p').2.2=true then _ else _):=h
    rwa [if_neg (by rw[show (qae c.s c.tn c.td p').2.2=false from hf'];decide)] at this
   rcases List.mem_cons.1 hp with e | hp
   ·rw[e,hf'] at hf;cases hf
   ·exact ih h' p hp hf
  ·have h':∃ q r,d=q::r∧(∃ y,DueOk c p' q y)∧DueF c l r:=by
    have:(if (qae c.s c.tn c.td p').2.2=true then _ else _):=h
    rwa [if_pos hf'] at this
   obtain⟨q,r,hd,hy,hr⟩:=h'
   rw[hd]
   rcases List.mem_cons.1 hp with e | hp
   ·rw[e];exact⟨q,List.mem_cons_self,hy⟩
   ·obtain⟨q',hq',h2⟩:=ih hr p hp hf
    exact⟨q',List.mem_cons_of_mem _ hq',h2⟩
theorem Up.nodup {l:List Pt} (h:Up l):(l.map Pt.id).Nodup:=by
 have hlt:∀ (i j:Nat) (p q:Pt),i<j→l[i]?=some p→l[j]?=some q→p.id<q.id:=fun i j p q hij hp hq=>h.mono hij hp hq
 rw[List.nodup_iff_pairwise_ne,List.pairwise_iff_getElem]
 intro i j hi hj hij
 rw[List.getElem_map,List.getElem_map]
 have hi':i<l.length:=by simpa using hi
 have hj':j<l.length:=by simpa using hj
 have:=hlt i j _ _ hij (List.getElem?_eq_getElem hi') (List.getElem?_eq_getElem hj')
 omega
theorem V9.due_nodup {c:Ck} (h:V9 c):(c.d.map Pt.id).Nodup:=by
 rw[h.f.ids]
 exact h.v.up.nodup.sublist (List.Sublist.map _ List.filter_sublist)
theorem V9.ev {c:Ck} (h:V9 c) {j:Nat} {y:Ev} (hy:c.ev[j]?=some y):∃ p∈c.l,qaQ c p=true∧∃ q∈c.d,DueOk c p q y:=by
 let J:List Nat:=c.d.map fun q=>((c.wh[q.a.toNat]?).getD 0).toNat
 let g:Nat→Int:=fun j=>((c.ev[j]?).map Ev.k).getD 0
 have at_:∀ q∈c.d,∃ p∈c.l,qaQ c p=true∧∃ y,DueOk c p q y∧c.ev[((c.wh[q.a.toNat]?).getD 0).toNat]?=some y:=by
  intro q hq
  obtain⟨p,hp,hf,y,hd⟩:=h.f.some q hq
  obtain⟨w,h1,h2⟩:=hd.at_
  refine⟨p,hp,hf,y,hd,?_⟩
  rw[h1]
  exact h2
 have e1:J.map g=c.d.map Pt.id:=by
  rw[List.map_map]
  apply List.map_congr_left
  intro q hq
  obtain⟨p,_,_,y,hd,h2⟩:=at_ q hq
  show ((c.ev[((c.wh[q.a.toNat]?).getD 0).toNat]?).map Ev.k).getD 0=q.id
  rw[h2]
  exact hd.k.trans hd.id.symm
 have nd:J.Nodup:=by
  have:=h.due_nodup
  rw[← e1] at this
  exact List.Pairwise.of_map g (fun a b hne e=>hne (congrArg g e)) this
 have lt:∀ x∈J,x<c.ev.length:=by
  intro x hx
  obtain⟨q,hq,rfl⟩:=List.mem_map.1 hx
  obtain⟨_,_,_,y,_,h2⟩:=at_ q hq
  exact qaj h2
 have hj:j∈J:=qfQ nd lt (by show (c.d.map _).length=_;rw[List.length_map,h.e]) (qaj hy)
 obtain⟨q,hq,ej⟩:=List.mem_map.1 hj
 obtain⟨p,hp,hf,y',hd,h2⟩:=at_ q hq
 rw[ej,hy] at h2
 have e2:y=y':=Option.some.inj h2
 subst e2
 exact⟨p,hp,hf,q,hq,hd⟩
theorem V9.ev_id {c:Ck} (h:V9 c) {y:Ev} (hy:y∈c.ev):∃ p∈c.l,y.k=p.id:=by
 obtain⟨j,hj⟩:=List.getElem?_of_mem hy
 obtain⟨p,hp,_,q,_,hd⟩:=h.ev hj
 exact⟨p,hp,hd.k⟩
theorem V9.new {c:Ck} (h:V9 c):cnE c.ev c.x=0:=by
 have:=h.v.nx
 unfold cnE
 rw[if_pos (by omega),if_neg]
 rintro⟨m,hm,e⟩
 obtain⟨p,hp,e2⟩:=h.ev_id hm
 have:=h.v.hi p hp
 omega
end Go.Proofs.YtkjaanhddkkodaaGreat

namespace Go.Proofs.YtkjaanhddkkodaaGreat
set_option maxRecDepth 100000
open Go.RowKit
noncomputable def qdo (c:Ck) (tn td:Int):Int:=open Classical in if V9 c∧okB tn td=true then (if tn*c.td<c.tn*td then 44 else 0) else 8
theorem qbM {c:Ck} (h:V9 c):qop c=0:=by unfold qop;rw[if_pos h]
theorem qby {c:Ck} (h:¬ V9 c):qop c=8:=by unfold qop;rw[if_neg h]
theorem qlE {c:Ck} (S:S9 c) {tn td:Int} (htn:I64 tn) (htd:I64 td):Fn 38 8 [qap c,.pv (qaa tn td)] (qaq c) (.pv (iV (qdo c tn td))) 0 []:=by
 have hc:=qdK S
 by_cases hv:V9 c
 ·rw[qbM hv] at hc
  by_cases ht:okB tn td=true
  ·have hm:=qb7 htn htd S.tn S.td
   have hsg:(tn*c.td-c.tn*td).sign<0↔tn*c.td<c.tn*td:=by
    rcases Int.lt_trichotomy (tn*c.td-c.tn*td) 0 with h | h | h
    ·rw[Int.sign_eq_neg_one_of_neg h];omega
    ·rw[h];simp;omega
    ·rw[Int.sign_eq_one_of_pos h];omega
   by_cases hp:tn*c.td<c.tn*td
   ·have e:qdo c tn td=44:=by unfold qdo;rw[if_pos ⟨hv,ht⟩,if_pos hp]
    rw[e]
    exact qqg (hc:=hc) (ht:=qdL htn htd ht) (hm:=hm) (hn:=dt (hsg.2 hp))
   ·have e:qdo c tn td=0:=by unfold qdo;rw[if_pos ⟨hv,ht⟩,if_neg hp]
    rw[e]
    exact qAS (hc:=hc) (ht:=qdL htn htd ht) (hm:=hm) (hn:=df fun h=>hp (hsg.1 h))
  ·have e:qdo c tn td=8:=by unfold qdo;rw[if_neg fun h=>ht h.2]
   rw[e]
   exact qqL (hc:=hc) (ht:=qea htn htd ht)
 ·rw[qby hv] at hc
  have e:qdo c tn td=8:=by unfold qdo;rw[if_neg fun h=>hv h.1]
  rw[e]
  exact qvA (hc:=hc)
def qie (c:Ck) (tn td:Int):Bool:=match c.ev[0]? with
 | some y=>decide (y.n*td≤tn*y.d)
 | none=>false
abbrev qFg (c:Ck) (a b:Int):Ck:={ c with x:=c.x+1,l:=c.l++[⟨c.x,a,b⟩] }
abbrev qzQ (c:Ck) (a b n d:Int) (u2:List Int) (b2:List Bool) (f2:List Int) (hi hw:Int):Ck:={ c with x:=c.x+1,l:=c.l++[⟨c.x,a,b⟩],u:=u2,b:=b2,fr:=f2,ev:=(qa6 c.ev c.wh ⟨n,d,c.x,hi,hw⟩).1,wh:=(qa6 c.ev c.wh ⟨n,d,c.x,hi,hw⟩).2,d:=c.d++[⟨c.x,hi,hw⟩] }
def qhl (c:Ck) (a b:Int) (o:Ck):Prop:=(qaQ c ⟨c.x,a,b⟩=false∧o=qFg c a b)∨(qaQ c ⟨c.x,a,b⟩=true∧∃ u2 b2 f2 hi hw,qbE c.u c.b c.fr=some (u2,b2,f2,hi,hw)∧o=qzQ c a b (qae c.s c.tn c.td ⟨c.x,a,b⟩).1 (qae c.s c.tn c.td ⟨c.x,a,b⟩).2.1 u2 b2 f2 hi hw)
noncomputable def adE (c:Ck) (a b:Int):Int:=open Classical in if qft c.l a b=true then 14 else if c.l.length=200∨c.x=1000000 then 18 else if qaQ c ⟨c.x,a,b⟩=true∧qbE c.u c.b c.fr=none then 18 else 0
noncomputable def cyE (c:Ck) (a b:Int):Int:=open Classical in if V9 c∧qcc a b=true then (if (∃ q∈c.s,q.id=a)∧(∃ q∈c.s,q.id=b) then adE c a b else 6) else 8
abbrev qAF (f:FuncId) (c:Ck) (a b e:Int):Prop:=Fn f 8 [qap c,.pv (qag a b)] (qaq c) (.pv (.tuple #[qcC,iV 0,iV e])) 0 []
abbrev qE1 (f:FuncId) (c:Ck) (a b:Int) (o:Ck):Prop:=Fn f 8 [qap c,.pv (qag a b)] (qaq c) (.tu [qgY o,.one (.pv (iV c.x)),.one (.pv (iV 0))]) 8 (qdu o)
theorem qEb {c:Ck} {a b:Int} (h:adE c a b=0):∃ o,qhl c a b o:=by
 cases hf:qaQ c ⟨c.x,a,b⟩
 ·exact⟨_,Or.inl ⟨hf,rfl⟩⟩
 ·cases ht:qbE c.u c.b c.fr with
  | none=>
   exfalso
   unfold adE at h
   rw[if_pos (show qaQ c ⟨c.x,a,b⟩=true∧qbE c.u c.b c.fr=none from ⟨hf,ht⟩)] at h
   split at h
   ·cases h
   ·split at h<;>cases h
  | some z=>
   obtain⟨u2,b2,f2,hi,hw⟩:=z
   exact⟨_,Or.inr ⟨hf,u2,b2,f2,hi,hw,ht,rfl⟩⟩
end Go.Proofs.YtkjaanhddkkodaaGreat
