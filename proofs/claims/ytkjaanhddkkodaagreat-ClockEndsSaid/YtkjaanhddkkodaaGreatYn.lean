/-
  What the reference's Less, Great and Check return, for any agenda. Conditions: none.
-/
import Derived.Test.YtkjaanhddkkodaaGreatW36
import Derived.Test.YtkjaanhddkkodaaGreatW18
namespace Go.Proofs.YtkjaanhddkkodaaGreat
set_option maxRecDepth 100000
open Go.RowKit
theorem qs9 {a b:Int}:decide ((a-b).sign<0)=decide (a<b):=by
 by_cases h:a<b
 ·rw[decide_eq_true h,decide_eq_true (by rw[Int.sign_eq_neg_one_of_neg (by omega)];omega)]
 ·rw[decide_eq_false h]
  apply decide_eq_false
  rcases Int.lt_trichotomy (a-b) 0 with g | g | g
  ·omega
  ·rw[g];decide
  ·rw[Int.sign_eq_one_of_pos g];omega
theorem qvA {a b:Int}:((a-b).sign==0)=decide (a=b):=by
 by_cases h:a=b
 ·subst h;simp
 ·rw[decide_eq_false h]
  have:(a-b).sign≠0:=fun e=>h (by have:=Int.sign_eq_zero_iff_zero.1 e;omega)
  simpa using this
theorem qlr {x y:Ev} (hx:EvI x) (hy:EvI y):Pure Tryz.prog 131 #[qab x,qab y] (.bool (ltE x y)):=by
 have hc:=qbi hx.1 hx.2 hy.1 hy.2
 have e1:=qs9 (a:=x.n*y.d) (b:=y.n*x.d)
 have e2:=qvA (a:=x.n*y.d) (b:=y.n*x.d)
 by_cases h1:x.n*y.d<y.n*x.d
 ·have:ltE x y=true:=by simp[ltE,h1]
  rw[this]
  exact qB5 hc (by rw[e1];exact decide_eq_true h1)
 ·by_cases h2:x.n*y.d=y.n*x.d
  ·have:ltE x y=decide (x.k<y.k):=by simp[ltE,h2]
   rw[this]
   cases h3:decide (x.k<y.k)
   ·exact qi3 hc (by rw[e1];exact decide_eq_false h1) (by rw[e2];exact decide_eq_true h2) h3
   ·exact qkl hc (by rw[e1];exact decide_eq_false h1) (by rw[e2];exact decide_eq_true h2) h3
  ·have:ltE x y=false:=by simp[ltE,h1,h2]
   rw[this]
   exact qBM hc (by rw[e1];exact decide_eq_false h1) (by rw[e2];exact decide_eq_false h2)
section
variable {u fr wh:List Int} {b:List Bool} {ev:List Ev}
def qh7 (u:List Int) (b:List Bool) (fr:List Int) (ev:List Ev) (wh:List Int):Bool:=qdg u b fr||(decide (ev.length>210)||decide (wh.length>210))
theorem qlb:Fn 68 5 [agA u b fr ev wh] (agP u b fr ev wh) (.pv (.bool (qh7 u b fr ev wh))) 0 []:=by
 unfold qh7
 cases h1:qdg u b fr
 ·rw[Bool.false_or]
  by_cases h2:ev.length>210
  ·rw[decide_eq_true h2,Bool.true_or]
   exact qFb (qgw h1) (decide_eq_true (by omega))
  ·rw[decide_eq_false h2,Bool.false_or]
   by_cases h3:wh.length>210
   ·rw[decide_eq_true h3];exact qvg (qgw h1) (decide_eq_false (by omega)) (decide_eq_true (by omega))
   ·rw[decide_eq_false h3];exact qpX (qgw h1) (decide_eq_false (by omega)) (decide_eq_false (by omega))
 ·exact qE0 (qol h1)
theorem qoq (b:List Bool):(b.map not).count true+b.count true=b.length:=by
 induction b with
 | nil=>rfl
 | cons c r ih=>cases c<;>simp<;>omega
theorem Vd.count (h:Vd u b fr):b.count true+fr.length=u.length:=by
 have hf:qeC b fr=true:=by
  have:=qcj.2 h
  unfold qcE at this
  simp only[Bool.and_eq_true] at this
  exact this.2
 unfold qeC at hf
 split at hf
 ·rename_i g hg
  have h1:=qb7 hg
  have h2:g.count true=0:=List.count_eq_zero.2 (fun hm=>by simp[hm] at hf)
  have h3:=qoq b
  have h4:=h.len
  omega
 ·cases hf
abbrev plT (u:List Int) (k:Nat):List (Nat×SV):=[(1,.pp 5 0),(3,.pv (iV (u.length:Int))),(4,.pv (iV (k:Int)))]
theorem qgi (h:Vd u b fr) (hw:wh.length=u.length) {k:Nat} (hk:k<u.length) :
 (whB u b ev wh k=true→∀ {e:Exit} {tm2:TmL} {hp2:HpL},Rl 5 5 130 0 82 6 (plT u (k+1)) (wfH u b fr ev wh) e tm2 hp2→Rl 5 5 130 0 82 6 (plT u k) (wfH u b fr ev wh) e tm2 hp2)∧
 (whB u b ev wh k=false→Rl 5 5 130 0 82 6 (plT u k) (wfH u b fr ev wh) .ret [(2,.pv (.bool false))] []):=by
 have hle:=h.le
 have hbl:=h.len
 have hb:b[k]?=some (b[k]'(by omega)):=List.getElem?_eq_getElem (by omega)
 obtain⟨z,hz⟩:∃ z,wh[k]?=some z:=⟨_,List.getElem?_eq_getElem (by omega)⟩
 obtain⟨c,hc⟩:∃ c,u[k]?=some c:=⟨_,List.getElem?_eq_getElem hk⟩
 have i1:0≤(k:Int)∧(k:Int)<(b.length:Int):=by omega
 have i2:0≤(k:Int)∧(k:Int)<(wh.length:Int):=by omega
 have lt:decide ((k:Int)<(u.length:Int))=true:=decide_eq_true (by omega)
 generalize b[k]'(by omega)=bk at hb
 cases bk
 ·by_cases h1:z = -1
  ·subst h1
   have e:whB u b ev wh k=true:=by simp[whB,hb,hz]
   rw[e]
   exact⟨fun _ {_ _ _} r=>qtQ hb i1 i2 hz lt (by decide) (qaD (by omega)) r,fun h=>by cases h⟩
  ·have e:whB u b ev wh k=false:=by simp[whB,hb,hz,h1]
   rw[e]
   exact⟨(fun h=>by cases h),fun _=>qsS hb i1 i2 hz lt (by simpa using h1)⟩
 ·have e0:whB u b ev wh k=qa5 u ev wh k:=by simp[whB,hb]
  rw[e0]
  by_cases h0:z<0
  ·have e:qa5 u ev wh k=false:=by simp[qa5,hz,hc];omega
   rw[e]
   exact⟨(fun h=>by cases h),fun _=>qzM hb i1 i2 hz lt (decide_eq_true h0)⟩
  ·by_cases h1:z≥(ev.length:Int)
   ·have hx:ev[z.toNat]?=none:=List.getElem?_eq_none (by omega)
    have e:qa5 u ev wh k=false:=by simp[qa5,hz,hc,hx]
    rw[e]
    exact⟨(fun h=>by cases h),fun _=>qzg hb i1 i2 hz lt (decide_eq_false h0) (decide_eq_true h1)⟩
   ·obtain⟨x,hx⟩:∃ x,ev[z.toNat]?=some x:=⟨_,List.getElem?_eq_getElem (by omega)⟩
    have iz:0≤z∧z<(ev.length:Int):=by omega
    by_cases h2:x.i=(k:Int)
    ·have n2:(!(x.i==(k:Int)))=false:=by simp[h2]
     by_cases h3:x.w=c
     ·have e:qa5 u ev wh k=true:=by simp[qa5,hz,hc,hx,h2,h3];omega
      rw[e]
      have hl:Live u b x.i x.w:=⟨by omega,by omega,by rw[show x.i.toNat=k by omega];exact hb,by rw[show x.i.toNat=k by omega,hc,h3]⟩
      exact⟨fun _ {_ _ _} r=>qs8 hb i1 i2 hz lt (decide_eq_false h0) (decide_eq_false h1) hx iz n2 (qid h hl) (qaD (by omega)) r,fun h=>by cases h⟩
     ·have e:qa5 u ev wh k=false:=by simp[qa5,hz,hc,hx,h3]
      rw[e]
      have hl:¬ Live u b x.i x.w:=fun hl=>h3 (by
       have:=hl.use
       rw[show x.i.toNat=k by omega,hc] at this
       exact (Option.some.inj this).symm)
      exact⟨(fun h=>by cases h),fun _=>qu6 hb i1 i2 hz lt (decide_eq_false h0) (decide_eq_false h1) hx iz n2 (qjD h hl)⟩
    ·have e:qa5 u ev wh k=false:=by simp[qa5,hz,hc,hx,h2]
     rw[e]
     exact⟨(fun h=>by cases h),fun _=>qxu hb i1 i2 hz lt (decide_eq_false h0) (decide_eq_false h1) hx iz (by simpa using h2)⟩
theorem qu1 (h:Vd u b fr) (hw:wh.length=u.length):∀ (d k:Nat),k+d=u.length→(∀ j,k≤j→j<u.length→whB u b ev wh j=true)→Rl 5 5 130 0 82 6 (plT u k) (wfH u b fr ev wh) (.exit 0) [] []:=by
 intro d
 induction d with
 | zero=>intro k hk _;exact qx2 (decide_eq_false (by omega))
 | succ d ih=>intro k hk hg;exact (qgi h hw (by omega)).1 (hg k (Nat.le_refl _) (by omega)) (ih (k+1) (by omega) fun j a c=>hg j (by omega) c)
theorem qo0 (h:Vd u b fr) (hw:wh.length=u.length):∀ (d k:Nat),k+d=u.length→(∃ j,k≤j∧j<u.length∧whB u b ev wh j=false)→Rl 5 5 130 0 82 6 (plT u k) (wfH u b fr ev wh) .ret [(2,.pv (.bool false))] []:=by
 intro d
 induction d with
 | zero=>intro k hk ⟨j,a,c,_⟩;omega
 | succ d ih=>
  intro k hk ⟨j,a,c,e⟩
  cases hb:whB u b ev wh k
  ·exact (qgi h hw (by omega)).2 hb
  ·refine (qgi h hw (by omega)).1 hb (ih (k+1) (by omega) ⟨j,?_,c,e⟩)
   rcases Nat.lt_or_ge k j with q | q
   ·exact q
   ·have:k=j:=by omega
    subst this;rw[hb] at e;cases e
theorem qeh (h:Vd u b fr) (hw:WhF u b ev wh):Fn 130 5 [agA u b fr ev wh] (agP u b fr ev wh) (.pv (.bool true)) 0 []:=by
 have h1:=h.len
 have h2:=hw.len
 have h3:=hw.cnt
 have h4:=h.count
 have h5:=h.le
 exact qx0 (z:=(ev.length:Int)) (by simp;omega) (by rw[show (u.length:Int)-(fr.length:Int)=(ev.length:Int) by omega];exact qbm (by omega) (by omega)) (by simp) (qu1 h (by omega) u.length 0 (by omega) fun j _ c=>hw.at_ j (by omega))
theorem qmO (h:Vd u b fr) (hw:¬ WhF u b ev wh):Fn 130 5 [agA u b fr ev wh] (agP u b fr ev wh) (.pv (.bool false)) 0 []:=by
 have h1:=h.len
 have h4:=h.count
 have h5:=h.le
 have hz:iV (IntKind.i64.wrap ((u.length:Int)-(fr.length:Int)))=iV ((b.count true:Nat):Int):=by rw[show (u.length:Int)-(fr.length:Int)=((b.count true:Nat):Int) by omega];exact qbm (by omega) (by omega)
 by_cases g1:wh.length=u.length
 ·have n1:(!((wh.length:Int)==(u.length:Int)))=false:=by simp[g1]
  by_cases g2:ev.length=b.count true
  ·refine qBu n1 hz (by simp[g2]) (qo0 h g1 u.length 0 (by omega) ?_)
   apply Classical.byContradiction
   intro hn
   refine hw ⟨by omega,fun i hi=>?_,g2.symm⟩
   cases e:whB u b ev wh i with
   | true=>rfl
   | false=>exact (hn ⟨i,by omega,by omega,e⟩).elim
  ·exact qxX n1 hz (by simp;omega)
 ·exact qyH (by simp;omega)
abbrev qEr (m:Ev) (u:List Int) (b:List Bool) (fr:List Int) (ev:List Ev) (wh:List Int):List (Nat×Nat×SV):=[(6,0,.pv (iV m.n)),(6,1,.pv (iV m.d)),(6,2,.pv (iV m.k)),(6,3,.pv (iV m.i)),(6,4,.pv (iV m.w))]++wfH u b fr ev wh
abbrev qD9 (k j:Nat):List (Nat×SV):=[(1,.pp 5 0),(3,.pv (iV (k:Int))),(4,.pp 6 0),(5,.pv (iV (j:Int)))]
abbrev rcT (k:Nat):List (Nat×SV):=[(1,.pp 5 0),(3,.pv (iV (k:Int)))]
theorem qpe {m:Ev} {k:Nat} (hl:ev.length≤1000000) (hk:k≤ev.length) (hn:∀ j y,j<k→ev[j]?=some y→y.k≠m.k):∀ (d j:Nat),j+d=k→Rl 5 5 77 1 76 7 (qD9 k j) (qEr m u b fr ev wh) (.exit 2) (rcT k) (wfH u b fr ev wh):=by
 intro d
 induction d with
 | zero=>intro j hj;exact qqr (decide_eq_false (by omega))
 | succ d ih=>
  intro j hj
  have hx:ev[j]?=some ev[j]:=List.getElem?_eq_getElem (by omega)
  exact qxN hx (by omega) (decide_eq_true (by omega)) (by simpa using hn j _ (by omega) hx) (qaD (by omega)) (ih (j+1) (by omega))
theorem qnN {m:Ev} {k:Nat} (hl:ev.length≤1000000) (hk:k≤ev.length):∀ (d j:Nat),j+d=k→(∃ q y,j≤q∧q<k∧ev[q]?=some y∧y.k=m.k)→Rl 5 5 77 1 76 7 (qD9 k j) (qEr m u b fr ev wh) .ret [(2,.pv (iV 8))] []:=by
 intro d
 induction d with
 | zero=>intro j hj ⟨q,y,a,c,_⟩;omega
 | succ d ih=>
  intro j hj ⟨q,y,a,c,e1,e2⟩
  have hx:ev[j]?=some ev[j]:=List.getElem?_eq_getElem (by omega)
  by_cases h1:ev[j].k=m.k
  ·exact qpo hx (by omega) (decide_eq_true (by omega)) (by simpa using h1)
  ·refine qxN hx (by omega) (decide_eq_true (by omega)) (by simpa using h1) (qaD (by omega)) (ih (j+1) (by omega) ⟨q,y,?_,c,e1,e2⟩)
   rcases Nat.lt_or_ge j q with g | g
   ·exact g
   ·have:j=q:=by omega
    subst this
    have e3:ev[j]=y:=Option.some.inj (hx.symm.trans e1)
    exact (h1 (by rw[e3];exact e2)).elim
def rcB (ev:List Ev) (k:Nat):Bool:=match ev[k]? with
 | some x=>evB x&&decide (∀ y∈ev.take k,y.k≠x.k)
 | none=>true
theorem qgY (s:ASm u b fr ev wh) {k:Nat} (hk:k<ev.length) :
 (rcB ev k=true→∀ {e:Exit} {tm2:TmL} {hp2:HpL},Rl 5 5 77 0 76 6 (rcT (k+1)) (wfH u b fr ev wh) e tm2 hp2→Rl 5 5 77 0 76 6 (rcT k) (wfH u b fr ev wh) e tm2 hp2)∧
 (rcB ev k=false→Rl 5 5 77 0 76 6 (rcT k) (wfH u b fr ev wh) .ret [(2,.pv (iV 8))] []):=by
 have hle:=s.le
 obtain⟨m,hm⟩:∃ m,ev[k]?=some m:=⟨_,List.getElem?_eq_getElem hk⟩
 have hi:=s.i m (List.mem_of_getElem? hm)
 have lt:decide ((k:Int)<(ev.length:Int))=true:=decide_eq_true (by omega)
 have hin:0≤(k:Int)∧(k:Int)<(ev.length:Int):=by omega
 have e0:rcB ev k=(evB m&&decide (∀ y∈ev.take k,y.k≠m.k)):=by simp[rcB,hm]
 rw[e0]
 by_cases h0:okB m.n m.d=true
 ·have hc:=qdQ hi.1 hi.2 h0
  by_cases h1:m.k<0
  ·have e:evB m=false:=by simp only[evB,h0,Bool.true_and];exact decide_eq_false (by omega)
   rw[e,Bool.false_and]
   exact⟨(fun h=>by cases h),fun _=>qyI hm hin lt hc (decide_eq_true h1)⟩
  ·by_cases h2:m.k>1000000
   ·have e:evB m=false:=by simp only[evB,h0,Bool.true_and];exact decide_eq_false (by omega)
    rw[e,Bool.false_and]
    exact⟨(fun h=>by cases h),fun _=>qAw hm hin lt hc (decide_eq_false h1) (decide_eq_true h2)⟩
   ·have e:evB m=true:=by simp only[evB,h0,Bool.true_and];exact decide_eq_true (by omega)
    rw[e,Bool.true_and]
    by_cases h3:∀ y∈ev.take k,y.k≠m.k
    ·rw[decide_eq_true h3]
     refine⟨fun _ {_ _ _} r=>qv7 hm hin lt hc (decide_eq_false h1) (decide_eq_false h2) (qpe (by omega) (by omega) (fun j y a c=>h3 y (List.mem_of_getElem? (i:=j) (by rw[List.getElem?_take,if_pos a];exact c))) k 0 (by omega)) (qaD (by omega)) r,fun h=>by cases h⟩
    ·rw[decide_eq_false h3]
     refine⟨(fun h=>by cases h),fun _=>qAd hm hin lt hc (decide_eq_false h1) (decide_eq_false h2) (qnN (by omega) (by omega) k 0 (by omega) ?_)⟩
     simp only[Classical.not_forall] at h3
     obtain⟨y,hy,e3⟩:=h3
     obtain⟨q,hq⟩:=List.mem_iff_getElem?.1 hy
     rw[List.getElem?_take] at hq
     split at hq
     ·exact⟨q,y,by omega,by assumption,hq,Classical.not_not.1 e3⟩
     ·cases hq
 ·have e:evB m=false:=by simp[evB,h0]
  rw[e,Bool.false_and]
  exact⟨(fun h=>by cases h),fun _=>qxD hm hin lt (qel hi.1 hi.2 h0)⟩
theorem qor (s:ASm u b fr ev wh):∀ (d k:Nat),k+d=ev.length→(∀ j,k≤j→j<ev.length→rcB ev j=true)→Rl 5 5 77 0 76 6 (rcT k) (wfH u b fr ev wh) (.exit 0) [(1,.pp 5 0)] (wfH u b fr ev wh):=by
 intro d
 induction d with
 | zero=>intro k hk _;exact qxL (decide_eq_false (by omega))
 | succ d ih=>intro k hk hg;exact (qgY s (by omega)).1 (hg k (Nat.le_refl _) (by omega)) (ih (k+1) (by omega) fun j a c=>hg j (by omega) c)
theorem qoH (s:ASm u b fr ev wh):∀ (d k:Nat),k+d=ev.length→(∃ j,k≤j∧j<ev.length∧rcB ev j=false)→Rl 5 5 77 0 76 6 (rcT k) (wfH u b fr ev wh) .ret [(2,.pv (iV 8))] []:=by
 intro d
 induction d with
 | zero=>intro k hk ⟨j,a,c,_⟩;omega
 | succ d ih=>
  intro k hk ⟨j,a,c,e⟩
  cases hb:rcB ev k
  ·exact (qgY s (by omega)).2 hb
  ·refine (qgY s (by omega)).1 hb (ih (k+1) (by omega) ⟨j,?_,c,e⟩)
   rcases Nat.lt_or_ge k j with q | q
   ·exact q
   ·have:k=j:=by omega
    subst this;rw[hb] at e;cases e
theorem qme:∀ {l:List Ev},(l.map (·.k)).Nodup↔∀ j x,l[j]?=some x→∀ y∈l.take j,y.k≠x.k:=by
 intro l
 rw[List.nodup_iff_pairwise_ne,List.pairwise_map,List.pairwise_iff_getElem]
 constructor
 ·intro h j x hx y hy e
  obtain⟨q,hq⟩:=List.mem_iff_getElem?.1 hy
  rw[List.getElem?_take] at hq
  split at hq
  ·rename_i hlt
   obtain⟨a1,a2⟩:=List.getElem?_eq_some_iff.1 hx
   obtain⟨b1,b2⟩:=List.getElem?_eq_some_iff.1 hq
   exact h q j b1 a1 hlt (by rw[a2,b2];exact e)
  ·cases hq
 ·intro h i j hi hj hij e
  exact h j l[j] (List.getElem?_eq_getElem hj) l[i] (List.mem_of_getElem? (i:=i) (by rw[List.getElem?_take,if_pos hij];exact List.getElem?_eq_getElem hi)) e
theorem qil (hi:∀ x∈ev,EvI x):EvF ev↔∀ j,j<ev.length→rcB ev j=true:=by
 constructor
 ·intro h j hj
  have hx:ev[j]?=some ev[j]:=List.getElem?_eq_getElem hj
  simp only[rcB,hx,Bool.and_eq_true,decide_eq_true_eq]
  exact⟨(qni (hi _ (List.getElem_mem hj))).2 (h.ok _ (List.getElem_mem hj)),qme.1 h.nod j _ hx⟩
 ·intro h
  have key:∀ j x,ev[j]?=some x→evB x=true∧∀ y∈ev.take j,y.k≠x.k:=fun j x hx=>by
   have:=h j (List.getElem?_eq_some_iff.1 hx).1
   simpa only [rcB,hx,Bool.and_eq_true,decide_eq_true_eq] using this
  refine⟨fun x hx=>?_,qme.2 fun j x hx=>(key j x hx).2⟩
  obtain⟨j,hj⟩:=List.mem_iff_getElem?.1 hx
  exact (qni (hi x hx)).1 (key j x hj).1
abbrev rhT (k:Nat):List (Nat×SV):=[(1,.pp 5 0),(6,.pv (iV (k:Int)))]
theorem qjr (s:ASm u b fr ev wh) {k:Nat} (h1:1≤k) (hk:k<ev.length):∃ x y,ev[k]?=some x∧ev[(k-1)/2]?=some y∧Pure Tryz.prog 131 #[qab x,qab y] (.bool (ltE x y))∧qbH ev k = !ltE x y∧iV (IntKind.i64.wrap ((k:Int)-1))=iV ((k-1:Nat):Int)∧iV (IntKind.i64.wrap (Int.tdiv ((k-1:Nat):Int) 2))=iV (((k-1)/2:Nat):Int):=by
 have hle:=s.le
 have hj:(k-1)/2<ev.length:=by omega
 refine⟨_,_,List.getElem?_eq_getElem hk,List.getElem?_eq_getElem hj,qlr (s.i _ (List.getElem_mem hk)) (s.i _ (List.getElem_mem hj)),?_,?_,?_⟩
 ·simp[qbH,hk,hj]
 ·rw[show (k:Int)-1=((k-1:Nat):Int) by omega];exact qbm (by omega) (by omega)
 ·have e:Int.tdiv ((k-1:Nat):Int) 2=(((k-1)/2:Nat):Int):=by rw[Int.tdiv_eq_ediv_of_nonneg (by omega)];omega
  rw[e]
  exact qbm (by omega) (by omega)
theorem quH (s:ASm u b fr ev wh):∀ (d k:Nat),ev.length≤k+d→1≤k→(∀ j,k≤j→j<ev.length→qbH ev j=true)→Rl 5 5 77 2 76 6 (rhT k) (wfH u b fr ev wh) (.exit 4) [] []:=by
 have hle:=s.le
 intro d
 induction d with
 | zero=>intro k hd h1 hg;exact qrA (decide_eq_false (by omega))
 | succ d ih=>
  intro k hd h1 hg
  by_cases hk:k<ev.length
  ·obtain⟨x,y,hx,hy,hc,e,e1,e2⟩:=qjr s h1 hk
   rw[hg k (Nat.le_refl _) hk] at e
   have e':ltE x y=false:=by simpa using e.symm
   rw[e'] at hc
   exact qnt hx (by omega) hy (by omega) (decide_eq_true (by omega)) e1 (by decide) e2 hc (qaD (by omega)) (ih (k+1) (by omega) (by omega) (fun j a c=>hg j (by omega) c))
  ·exact qrA (decide_eq_false (by omega))
theorem qp5 (s:ASm u b fr ev wh):∀ (d k:Nat),ev.length≤k+d→1≤k→(∃ j,k≤j∧j<ev.length∧qbH ev j=false)→Rl 5 5 77 2 76 6 (rhT k) (wfH u b fr ev wh) .ret [(2,.pv (iV 8))] []:=by
 have hle:=s.le
 intro d
 induction d with
 | zero=>intro k hd h1 ⟨j,a,c,_⟩;omega
 | succ d ih=>
  intro k hd h1 ⟨j,a,c,hj⟩
  obtain⟨x,y,hx,hy,hc,e,e1,e2⟩:=qjr s h1 (show k<ev.length by omega)
  cases e':ltE x y<;>rw[e'] at hc e
  ·refine qnt hx (by omega) hy (by omega) (decide_eq_true (by omega)) e1 (by decide) e2 hc (qaD (by omega)) (ih (k+1) (by omega) (by omega) ⟨j,?_,c,hj⟩)
   rcases Nat.lt_or_ge k j with q | q
   ·exact q
   ·have:k=j:=by omega
    subst this;rw[hj] at e;cases e
  ·exact qwE hx (by omega) hy (by omega) (decide_eq_true (by omega)) e1 (by decide) e2 hc
theorem qea (h:VA u b fr ev wh):Fn 77 5 [agA u b fr ev wh] (agP u b fr ev wh) (.pv (iV 0)) 0 []:=
 qxx (qc5 h.vd) (qeh h.vd h.wf) (qor h.sm ev.length 0 (by omega) fun j _ c=>(qil h.sm.i).1 h.ef j c) (quH h.sm ev.length 1 (by omega) (by omega) fun j a c=>h.hp j a c)
theorem qiB (s:ASm u b fr ev wh) (h:¬ VA u b fr ev wh):Fn 77 5 [agA u b fr ev wh] (agP u b fr ev wh) (.pv (iV 8)) 0 []:=by
 by_cases h1:Vd u b fr
 ·by_cases h2:WhF u b ev wh
  ·by_cases h3:EvF ev
   ·refine qAK (qc5 h1) (qeh h1 h2) (qor s ev.length 0 (by omega) fun j _ c=>(qil s.i).1 h3 j c) (qp5 s ev.length 1 (by omega) (by omega) ?_)
    apply Classical.byContradiction
    intro hn
    exact h ⟨h1,h2,h3,fun k b1 b2=>by
     cases e:qbH ev k with
     | true=>rfl
     | false=>exact (hn ⟨k,b1,b2,e⟩).elim⟩
   ·refine qxT (qc5 h1) (qeh h1 h2) (qoH s ev.length 0 (by omega) ?_)
    apply Classical.byContradiction
    intro hn
    exact h3 ((qil s.i).2 fun j hj=>by
     cases e:rcB ev j with
     | true=>rfl
     | false=>exact (hn ⟨j,by omega,hj,e⟩).elim)
  ·exact qwy (qc5 h1) (qmO h1 h2)
 ·exact qvy (qiR (by have:=s.lf;omega) h1)
end
end Go.Proofs.YtkjaanhddkkodaaGreat
