/-
  Joined: Mb, Mg, Mi, Mj, Mn, Mq, Ga. Conditions: none.
-/
import Derived.Test.YtgbmdijodlfcaaaMa
import Derived.Test.YtgbmdijodlfcaaaW24
import Derived.Test.YtgbmdijodlfcaaaW21
import Derived.Test.YtgbmdijodlfcaaaMc
import Derived.Test.YtgbmdijodlfcaaaSxU
import Derived.Test.YtgbmdijodlfcaaaW22
namespace Go.Proofs.Ytgbmdijodlfcaaa
set_option maxRecDepth 100000
open Go.RowKit
section
variable {y:Nat} {M B:Nat→Prop} {J:Nat→(Nat→Prop)→World→Prop} {W:World} {rb:Nat} {u:Value} {l:List Pt}
structure PInv (M:Nat→Prop) (J:Nat→(Nat→Prop)→World→Prop) (W:World) (rb:Nat) (u:Value) (l:List Pt) (rem:List (Array Value)) (β:Bl) (a:Act) (w:World) (k:Nat) (T:Nat→Prop):Prop where
 df:a.defers=[]
 b1:β 1=some rb
 g0:β.g 0=some u
 kp:Keep (fun b=>b<W.heap.size∧¬ M b) W w
 j:J k T w
 gro:Gro M W T w
 pre:∃ pre,qox l=pre++rem∧pre.length=k
theorem PInv.on {rem:List (Array Value)} {β γ:Bl} {a a':Act} {w w':World} {k:Nat} {T:Nat→Prop} (h:PInv M J W rb u l rem β a w k T) (hJ:∀ k T w w',J k T w→Keep (fun b=>b<W.heap.size∨T b) w w'→J k T w') (hd:a'.defers=a.defers) (h1:γ 1=β 1) (h0:γ.g 0=β.g 0) (hg:Gr w w'):PInv M J W rb u l rem γ a' w' k T:=
 ⟨hd.trans h.df,h1.trans h.b1,h0.trans h.g0,h.kp.trans (Keep.of_gr hg _),hJ _ _ _ _ h.j (Keep.of_gr hg _),h.gro.on (Nat.le_refl _) hg.size,h.pre⟩
end
end Go.Proofs.Ytgbmdijodlfcaaa

namespace Go.Proofs.Ytgbmdijodlfcaaa
set_option maxRecDepth 100000
open Go.RowKit
section
variable (l:List Pt) (fn fd tn td:Int)
end
theorem qiS {t:TypeId} {n:Nat} (h:(Try.prog.info? t).map (fun i=>i.size)=some n):∃ i,Try.prog.info? t=some i∧i.size=n:=by
 cases hi:Try.prog.info? t with
 | none=>rw[hi] at h;cases h
 | some i=>rw[hi] at h;exact⟨i,rfl,by simpa using h⟩
theorem qaP {W0:World} {lo:Nat} {β:Bl} {hp:List (Nat×Nat×SV)} {w:World} (H:HRel W0 lo β hp w) {b o:Nat} {s:SV} (h:qab hp b o=some s) (hs:s.isRow=false):∃ r,β b=some r:=by
 obtain⟨r,u,h1,_⟩:=H.cells b o s h hs
 exact⟨r,h1⟩
end Go.Proofs.Ytgbmdijodlfcaaa

namespace Go.Proofs.Ytgbmdijodlfcaaa
set_option maxRecDepth 100000
open Go.RowKit
def z0:Mt:=⟨0,0,0,0⟩
section
variable (av:Value) (go:FuncId) (m b:Mt)
end
end Go.Proofs.Ytgbmdijodlfcaaa

namespace Go.Proofs.Ytgbmdijodlfcaaa
set_option maxRecDepth 100000
open Go.RowKit
structure MCel (w:World) (r:Nat) (m:Mt):Prop where
 c0:Cel w r 0 (iV m.n)
 c1:Cel w r 1 (iV m.d)
 c2:Cel w r 2 (iV m.i)
 c3:Cel w r 3 (iV m.j)
theorem MCel.keep {S:Nat→Prop} {w w':World} {r:Nat} {m:Mt} (h:MCel w r m) (k:Keep S w w') (hs:S r):MCel w' r m:=⟨h.c0.keep k hs,h.c1.keep k hs,h.c2.keep k hs,h.c3.keep k hs⟩
theorem MCel.gr {w w':World} {r:Nat} {m:Mt} (h:MCel w r m) (k:Gr w w'):MCel w' r m:=h.keep (Keep.of_gr k (fun _=>True)) trivial
theorem MCel.lt {w:World} {r:Nat} {m:Mt} (h:MCel w r m):r<w.heap.size:=h.c0.lt
theorem MCel.us {w:World} {r:Nat} {m:Mt} (h:MCel w r m):∀ j u,[iV m.n,iV m.d,iV m.i,iV m.j][j]?=some u→Cel w r (0+j) u:=fun j u hj=>by
 match j,hj with
 | 0,hj=>cases hj;exact h.c0
 | 1,hj=>cases hj;exact h.c1
 | 2,hj=>cases hj;exact h.c2
 | 3,hj=>cases hj;exact h.c3
 | j+4,hj=>simp at hj
theorem MCel.set {w:World} {r:Nat} {b:Mt} (h:MCel w r b) (m:Mt):MCel (w.setCells r 0 [iV m.n,iV m.d,iV m.i,iV m.j]) r m:=by
 have key:∀ j v,[iV m.n,iV m.d,iV m.i,iV m.j][j]?=some v→Cel (w.setCells r 0 [iV m.n,iV m.d,iV m.i,iV m.j]) r (0+j) v:=
  fun j v hj=>qgG (us:=[iV b.n,iV b.d,iV b.i,iV b.j]) h.us (by simp) hj
 exact⟨key 0 _ rfl,key 1 _ rfl,key 2 _ rfl,key 3 _ rfl⟩
section
variable {w6:World} {df:List Deferred} {rb rf r1:Nat} {b:Mt} {fd s0 s1 s2:Bool} {a:Act} {w:World} {Q:Exit→Act→World→Prop} {K:Act→World→Prop}
end
end Go.Proofs.Ytgbmdijodlfcaaa

namespace Go.Proofs.Ytgbmdijodlfcaaa
set_option maxRecDepth 100000
open Go.RowKit
structure MSpec (p q:Pt) (m:Mt):Prop where
 n:I64 m.n
 d:I64 m.d
 ok:okB m.n m.d=true
 eq:m.n*(p.b-q.b)=(q.a-p.a)*m.d
 i:m.i=p.id
 j:m.j=q.id
 run:Pure Try.prog 89 #[ptV p,ptV q] (qac m.n m.d)
noncomputable def fM (x:Pt×Pt):Option Mt:=open Classical in if x.1.b=x.2.b then none else if h:∃ m,MSpec x.1 x.2 m then some h.choose else none
end Go.Proofs.Ytgbmdijodlfcaaa

namespace Go.Proofs.Ytgbmdijodlfcaaa
set_option maxRecDepth 100000
open Go.RowKit
theorem qpy (x:Int):(x<0∧x.sign = -1)∨(x=0∧x.sign=0)∨(0<x∧x.sign=1):=by
 rcases Int.lt_trichotomy x 0 with h | h | h
 ·exact Or.inl ⟨h,Int.sign_eq_neg_one_of_neg h⟩
 ·exact Or.inr (Or.inl ⟨h,by rw[h];rfl⟩)
 ·exact Or.inr (Or.inr ⟨h,Int.sign_eq_one_of_pos h⟩)
end Go.Proofs.Ytgbmdijodlfcaaa

namespace Go.Proofs.Ytgbmdijodlfcaaa
set_option maxRecDepth 100000
open Go.RowKit
abbrev qfV:Value:=.slice none 0 0
section
variable (g:FuncId) (cap:Array Value) (u:Value) (m:Mt)
end
theorem qlK {P:Program} {r:Option Nat} {o:Oper} {x y:Operand} {t tx e:TypeId} {a:Act} {w:World} {i:TypeInfo} {z v s:Value} {base n m:Nat} {xs news:List Value} {next:Act→World→Prop} {Q:Exit→Act→World→Prop}
 (ho:o.op=.call { callee:=.builtin .append,args:=#[x,y],argTypes:=#[t,tx] }) (hx:a.eval x=v) (hy:a.eval y=s) (ht:P.underlying t=some (.slice e)) (hi:P.info? e=some i) (hz:i.zero=some z) (hzs:z.cells.size=i.size)
 (hown:w.ownsRow base e i.size v n xs) (hb:base≤w.heap.size) (hs:Src P i.size tx s m news w) (hby:i.bytes≤100000000) (hn:n+m≤1000000)
 (h:∀ u w' row,qmB u (n+m)→Upd w w' row→(row=none∨row=v.ownBlock)→w'.ownsRow base e i.size u (n+m) (xs++news)→(∀ k,u.ownBlock=some k→row=some k∨w.heap.size≤k)→next (a.put o.dst u) w'):o.wpIn (FW r) 0 P a w next Q:=by
 obtain⟨u,w',row,hr,h1,h2,h3,h4,h5⟩:=qiY (P:=P) (ty:=o.type) ht hi hz hzs hown hb hs hby hn
 refine⟨fun _ _=>trivial,?_⟩
 rw[Oper.semAt_eq _ _ _ (by simp[ho])]
 have he:(execOp a.eval o).run P w=.ok (.value u) w':=by
  unfold execOp
  simp only[ho,resolve,invoke,builtin,Sem.run_bind,Sem.run_pure,Result.andThen_ok,List.map_toArray,List.map_cons,List.map_nil,hx,hy,hr]
 rw[he,Oper.uponIn_value]
 exact h u w' row h1 h2 h3 h4 h5
theorem Keep.upd {w w':World} {row:Option Nat} (h:Upd w w' row):Keep (fun b=>some b≠row) w w':=⟨h.g.os,h.g.tape,h.g.output,h.g.size,h.dr,fun k hk hs=>h.g.block k hk hs⟩
theorem qai {w w':World} {base:Nat} {e:TypeId} {es n:Nat} {u:Value} {xs:List Value} (h:w.ownsRow base e es u n xs) {S:Nat→Prop} (k:Keep S w w') (hs:∀ b,u.ownBlock=some b→S b):w'.ownsRow base e es u n xs:=
 qaR h fun j hj=>k.block j (h.lt j hj).2 (hs j hj)
theorem qed {u:Value} {n:Nat} (h:qmB u n):u.oneCell'=true:=by obtain⟨a,c,rfl⟩:=h;rfl
end Go.Proofs.Ytgbmdijodlfcaaa
