/-
  What the reference's Less, Great and Check return, for any agenda. Conditions: none.
-/
import Derived.Test.YtkckcgpmnipnaaaGreatYm
import Derived.Test.YtkckcgpmnipnaaaGreatW21
namespace Go.Proofs.YtkckcgpmnipnaaaGreat
set_option maxRecDepth 100000
open Go.RowKit
theorem qu2 {a b:Int}:decide ((a-b).sign<0)=decide (a<b):=by
 by_cases h:a<b
 ·rw[decide_eq_true h,decide_eq_true (by rw[Int.sign_eq_neg_one_of_neg (by omega)];omega)]
 ·rw[decide_eq_false h]
  apply decide_eq_false
  rcases Int.lt_trichotomy (a-b) 0 with g | g | g
  ·omega
  ·rw[g];decide
  ·rw[Int.sign_eq_one_of_pos g];omega
theorem qy4 {a b:Int}:((a-b).sign==0)=decide (a=b):=by
 by_cases h:a=b
 ·subst h;simp
 ·rw[decide_eq_false h]
  have:(a-b).sign≠0:=fun e=>h (by have:=Int.sign_eq_zero_iff_zero.1 e;omega)
  simpa using this
theorem qeb {x y:Ev} (hx:EvI x) (hy:EvI y):Pure Tryz.prog 187 #[qae x,qae y] (.bool (ltE x y)):=by
 have hc:=qhP hx.1 hx.2 hy.1 hy.2
 have e1:=qu2 (a:=x.n*y.d) (b:=y.n*x.d)
 have e2:=qy4 (a:=x.n*y.d) (b:=y.n*x.d)
 by_cases h1:x.n*y.d<y.n*x.d
 ·have:ltE x y=true:=by simp[ltE,h1]
  rw[this]
  exact qGi hc (by rw[e1];exact decide_eq_true h1)
 ·by_cases h2:x.n*y.d=y.n*x.d
  ·have:ltE x y=decide (x.k<y.k):=by simp[ltE,h2]
   rw[this]
   cases h3:decide (x.k<y.k)
   ·exact qi3 hc (by rw[e1];exact decide_eq_false h1) (by rw[e2];exact decide_eq_true h2) h3
   ·exact qlh hc (by rw[e1];exact decide_eq_false h1) (by rw[e2];exact decide_eq_true h2) h3
  ·have:ltE x y=false:=by simp[ltE,h1,h2]
   rw[this]
   exact qFo hc (by rw[e1];exact decide_eq_false h1) (by rw[e2];exact decide_eq_false h2)
section
variable {u fr wh:List Int} {b:List Bool} {ev:List Ev}
def qih (u:List Int) (b:List Bool) (fr:List Int) (ev:List Ev) (wh:List Int):Bool:=qb0 u b fr||(decide (ev.length>210)||decide (wh.length>210))
theorem qlF:Fn 69 5 [agA u b fr ev wh] (agP u b fr ev wh) (.pv (.bool (qih u b fr ev wh))) 0 []:=by
 unfold qih
 cases h1:qb0 u b fr
 ·rw[Bool.false_or]
  by_cases h2:ev.length>210
  ·rw[decide_eq_true h2,Bool.true_or]
   exact qHN (qhc h1) (decide_eq_true (by omega))
  ·rw[decide_eq_false h2,Bool.false_or]
   by_cases h3:wh.length>210
   ·rw[decide_eq_true h3];exact qxz (qhc h1) (decide_eq_false (by omega)) (decide_eq_true (by omega))
   ·rw[decide_eq_false h3];exact qsZ (qhc h1) (decide_eq_false (by omega)) (decide_eq_false (by omega))
 ·exact qH2 (qnI h1)
theorem qoO (b:List Bool):(b.map not).count true+b.count true=b.length:=by
 induction b with
 | nil=>rfl
 | cons c r ih=>cases c<;>simp<;>omega
theorem Vd.count (h:Vd u b fr):b.count true+fr.length=u.length:=by
 have hf:qeL b fr=true:=by
  have:=qcl.2 h
  unfold qcJ at this
  simp only[Bool.and_eq_true] at this
  exact this.2
 unfold qeL at hf
 split at hf
 ·rename_i g hg
  have h1:=qb4 hg
  have h2:g.count true=0:=List.count_eq_zero.2 (fun hm=>by simp[hm] at hf)
  have h3:=qoO b
  have h4:=h.len
  omega
 ·cases hf
abbrev plT (u:List Int) (k:Nat):List (Nat×SV):=[(1,.pp 5 0),(3,.pv (iV (u.length:Int))),(4,.pv (iV (k:Int)))]
theorem qgJ (h:Vd u b fr) (hw:wh.length=u.length) {k:Nat} (hk:k<u.length) :
 (whB u b ev wh k=true→∀ {e:Exit} {tm2:TmL} {hp2:HpL},Rl 5 5 186 0 82 6 (plT u (k+1)) (wfH u b fr ev wh) e tm2 hp2→Rl 5 5 186 0 82 6 (plT u k) (wfH u b fr ev wh) e tm2 hp2)∧
 (whB u b ev wh k=false→Rl 5 5 186 0 82 6 (plT u k) (wfH u b fr ev wh) .ret [(2,.pv (.bool false))] []):=by
 have hle:=h.le
 have hbl:=h.len
 have hb:b[k]?=some (b[k]'(by omega)):=List.getElem?_eq_getElem (by omega)
 obtain⟨z,hz⟩:∃ z,wh[k]?=some z:=⟨_,List.getElem?_eq_getElem (by omega)⟩
 obtain⟨c,hc⟩:∃ c,u[k]?=some c:=⟨_,List.getElem?_eq_getElem hk⟩
 have i1:0≤(k:Int)∧(k:Int)<(b.length:Int):=by omega
 have i2:0≤(k:Int)∧(k:Int)<(wh.length:Int):=by omega
 have lt:decide ((k:Int)<(u.length:Int))=true:=decide_eq_true (by omega)
 generalize b[k]'(by omega)=bk at hb
 cases bk
 ·by_cases h1:z = -1
  ·subst h1
   have e:whB u b ev wh k=true:=by simp[whB,hb,hz]
   rw[e]
   exact⟨fun _ {_ _ _} r=>qyv hb i1 i2 hz lt (by decide) (qaB (by omega)) r,fun h=>by cases h⟩
  ·have e:whB u b ev wh k=false:=by simp[whB,hb,hz,h1]
   rw[e]
   exact⟨(fun h=>by cases h),fun _=>qvA hb i1 i2 hz lt (by simpa using h1)⟩
 ·have e0:whB u b ev wh k=qa5 u ev wh k:=by simp[whB,hb]
  rw[e0]
  by_cases h0:z<0
  ·have e:qa5 u ev wh k=false:=by simp[qa5,hz,hc];omega
   rw[e]
   exact⟨(fun h=>by cases h),fun _=>qCo hb i1 i2 hz lt (decide_eq_true h0)⟩
  ·by_cases h1:z≥(ev.length:Int)
   ·have hx:ev[z.toNat]?=none:=List.getElem?_eq_none (by omega)
    have e:qa5 u ev wh k=false:=by simp[qa5,hz,hc,hx]
    rw[e]
    exact⟨(fun h=>by cases h),fun _=>qAv hb i1 i2 hz lt (decide_eq_false h0) (decide_eq_true h1)⟩
   ·obtain⟨x,hx⟩:∃ x,ev[z.toNat]?=some x:=⟨_,List.getElem?_eq_getElem (by omega)⟩
    have iz:0≤z∧z<(ev.length:Int):=by omega
    by_cases h2:x.i=(k:Int)
    ·have n2:(!(x.i==(k:Int)))=false:=by simp[h2]
     by_cases h3:x.w=c
     ·have e:qa5 u ev wh k=true:=by simp[qa5,hz,hc,hx,h2,h3];omega
      rw[e]
      have hl:Live u b x.i x.w:=⟨by omega,by omega,by rw[show x.i.toNat=k by omega];exact hb,by rw[show x.i.toNat=k by omega,hc,h3]⟩
      exact⟨fun _ {_ _ _} r=>qu0 hb i1 i2 hz lt (decide_eq_false h0) (decide_eq_false h1) hx iz n2 (qhQ h hl) (qaB (by omega)) r,fun h=>by cases h⟩
     ·have e:qa5 u ev wh k=false:=by simp[qa5,hz,hc,hx,h3]
      rw[e]
      have hl:¬ Live u b x.i x.w:=fun hl=>h3 (by
       have:=hl.use
       rw[show x.i.toNat=k by omega,hc] at this
       exact (Option.some.inj this).symm)
      exact⟨(fun h=>by cases h),fun _=>qye hb i1 i2 hz lt (decide_eq_false h0) (decide_eq_false h1) hx iz n2 (qkl h hl)⟩
    ·have e:qa5 u ev wh k=false:=by simp[qa5,hz,hc,hx,h2]
     rw[e]
     exact⟨(fun h=>by cases h),fun _=>qC5 hb i1 i2 hz lt (decide_eq_false h0) (decide_eq_false h1) hx iz (by simpa using h2)⟩
theorem qxR (h:Vd u b fr) (hw:wh.length=u.length):∀ (d k:Nat),k+d=u.length→(∀ j,k≤j→j<u.length→whB u b ev wh j=true)→Rl 5 5 186 0 82 6 (plT u k) (wfH u b fr ev wh) (.exit 0) [] []:=by
 intro d
 induction d with
 | zero=>intro k hk _;exact qAF (decide_eq_false (by omega))
 | succ d ih=>intro k hk hg;exact (qgJ h hw (by omega)).1 (hg k (Nat.le_refl _) (by omega)) (ih (k+1) (by omega) fun j a c=>hg j (by omega) c)
theorem qqy (h:Vd u b fr) (hw:wh.length=u.length):∀ (d k:Nat),k+d=u.length→(∃ j,k≤j∧j<u.length∧whB u b ev wh j=false)→Rl 5 5 186 0 82 6 (plT u k) (wfH u b fr ev wh) .ret [(2,.pv (.bool false))] []:=by
 intro d
 induction d with
 | zero=>intro k hk ⟨j,a,c,_⟩;omega
 | succ d ih=>
  intro k hk ⟨j,a,c,e⟩
  cases hb:whB u b ev wh k
  ·exact (qgJ h hw (by omega)).2 hb
  ·refine (qgJ h hw (by omega)).1 hb (ih (k+1) (by omega) ⟨j,?_,c,e⟩)
   rcases Nat.lt_or_ge k j with q | q
   ·exact q
   ·have:k=j:=by omega
    subst this;rw[hb] at e;cases e
theorem qee (h:Vd u b fr) (hw:WhF u b ev wh):Fn 186 5 [agA u b fr ev wh] (agP u b fr ev wh) (.pv (.bool true)) 0 []:=by
 have h1:=h.len
 have h2:=hw.len
 have h3:=hw.cnt
 have h4:=h.count
 have h5:=h.le
 exact qBO (z:=(ev.length:Int)) (by simp;omega) (by rw[show (u.length:Int)-(fr.length:Int)=(ev.length:Int) by omega];exact qbl (by omega) (by omega)) (by simp) (qxR h (by omega) u.length 0 (by omega) fun j _ c=>hw.at_ j (by omega))
theorem qoe (h:Vd u b fr) (hw:¬ WhF u b ev wh):Fn 186 5 [agA u b fr ev wh] (agP u b fr ev wh) (.pv (.bool false)) 0 []:=by
 have h1:=h.len
 have h4:=h.count
 have h5:=h.le
 have hz:iV (IntKind.i64.wrap ((u.length:Int)-(fr.length:Int)))=iV ((b.count true:Nat):Int):=by rw[show (u.length:Int)-(fr.length:Int)=((b.count true:Nat):Int) by omega];exact qbl (by omega) (by omega)
 by_cases g1:wh.length=u.length
 ·have n1:(!((wh.length:Int)==(u.length:Int)))=false:=by simp[g1]
  by_cases g2:ev.length=b.count true
  ·refine qEJ n1 hz (by simp[g2]) (qqy h g1 u.length 0 (by omega) ?_)
   apply Classical.byContradiction
   intro hn
   refine hw ⟨by omega,fun i hi=>?_,g2.symm⟩
   cases e:whB u b ev wh i with
   | true=>rfl
   | false=>exact (hn ⟨i,by omega,by omega,e⟩).elim
  ·exact qzr n1 hz (by simp;omega)
 ·exact qz7 (by simp;omega)
abbrev qHm (m:Ev) (u:List Int) (b:List Bool) (fr:List Int) (ev:List Ev) (wh:List Int):List (Nat×Nat×SV):=[(6,0,.pv (iV m.n)),(6,1,.pv (iV m.d)),(6,2,.pv (iV m.k)),(6,3,.pv (iV m.i)),(6,4,.pv (iV m.w))]++wfH u b fr ev wh
abbrev qHe (k j:Nat):List (Nat×SV):=[(1,.pp 5 0),(3,.pv (iV (k:Int))),(4,.pp 6 0),(5,.pv (iV (j:Int)))]
abbrev rcT (k:Nat):List (Nat×SV):=[(1,.pp 5 0),(3,.pv (iV (k:Int)))]
theorem qpJ {m:Ev} {k:Nat} (hl:ev.length≤1000000) (hk:k≤ev.length) (hn:∀ j y,j<k→ev[j]?=some y→y.k≠m.k):∀ (d j:Nat),j+d=k→Rl 5 5 123 1 76 7 (qHe k j) (qHm m u b fr ev wh) (.exit 2) (rcT k) (wfH u b fr ev wh):=by
 intro d
 induction d with
 | zero=>intro j hj;exact qsl (decide_eq_false (by omega))
 | succ d ih=>
  intro j hj
  have hx:ev[j]?=some ev[j]:=List.getElem?_eq_getElem (by omega)
  exact qBw hx (by omega) (decide_eq_true (by omega)) (by simpa using hn j _ (by omega) hx) (qaB (by omega)) (ih (j+1) (by omega))
theorem qoh {m:Ev} {k:Nat} (hl:ev.length≤1000000) (hk:k≤ev.length):∀ (d j:Nat),j+d=k→(∃ q y,j≤q∧q<k∧ev[q]?=some y∧y.k=m.k)→Rl 5 5 123 1 76 7 (qHe k j) (qHm m u b fr ev wh) .ret [(2,.pv (iV 8))] []:=by
 intro d
 induction d with
 | zero=>intro j hj ⟨q,y,a,c,_⟩;omega
 | succ d ih=>
  intro j hj ⟨q,y,a,c,e1,e2⟩
  have hx:ev[j]?=some ev[j]:=List.getElem?_eq_getElem (by omega)
  by_cases h1:ev[j].k=m.k
  ·exact qqC hx (by omega) (decide_eq_true (by omega)) (by simpa using h1)
  ·refine qBw hx (by omega) (decide_eq_true (by omega)) (by simpa using h1) (qaB (by omega)) (ih (j+1) (by omega) ⟨q,y,?_,c,e1,e2⟩)
   rcases Nat.lt_or_ge j q with g | g
   ·exact g
   ·have:j=q:=by omega
    subst this
    have e3:ev[j]=y:=Option.some.inj (hx.symm.trans e1)
    exact (h1 (by rw[e3];exact e2)).elim
def rcB (ev:List Ev) (k:Nat):Bool:=match ev[k]? with
 | some x=>evB x&&decide (∀ y∈ev.take k,y.k≠x.k)
 | none=>true
theorem qg8 (s:ASm u b fr ev wh) {k:Nat} (hk:k<ev.length) :
 (rcB ev k=true→∀ {e:Exit} {tm2:TmL} {hp2:HpL},Rl 5 5 123 0 76 6 (rcT (k+1)) (wfH u b fr ev wh) e tm2 hp2→Rl 5 5 123 0 76 6 (rcT k) (wfH u b fr ev wh) e tm2 hp2)∧
 (rcB ev k=false→Rl 5 5 123 0 76 6 (rcT k) (wfH u b fr ev wh) .ret [(2,.pv (iV 8))] []):=by
 have hle:=s.le
 obtain⟨m,hm⟩:∃ m,ev[k]?=some m:=⟨_,List.getElem?_eq_getElem hk⟩
 have hi:=s.i m (List.mem_of_getElem? hm)
 have lt:decide ((k:Int)<(ev.length:Int))=true:=decide_eq_true (by omega)
 have hin:0≤(k:Int)∧(k:Int)<(ev.length:Int):=by omega
 have e0:rcB ev k=(evB m&&decide (∀ y∈ev.take k,y.k≠m.k)):=by simp[rcB,hm]
 rw[e0]
 by_cases h0:okB m.n m.d=true
 ·have hc:=qfo hi.1 hi.2 h0
  by_cases h1:m.k<0
  ·have e:evB m=false:=by simp only[evB,h0,Bool.true_and];exact decide_eq_false (by omega)
   rw[e,Bool.false_and]
   exact⟨(fun h=>by cases h),fun _=>qBZ hm hin lt hc (decide_eq_true h1)⟩
  ·by_cases h2:m.k>1000000
   ·have e:evB m=false:=by simp only[evB,h0,Bool.true_and];exact decide_eq_false (by omega)
    rw[e,Bool.false_and]
    exact⟨(fun h=>by cases h),fun _=>qAh hm hin lt hc (decide_eq_false h1) (decide_eq_true h2)⟩
   ·have e:evB m=true:=by simp only[evB,h0,Bool.true_and];exact decide_eq_true (by omega)
    rw[e,Bool.true_and]
    by_cases h3:∀ y∈ev.take k,y.k≠m.k
    ·rw[decide_eq_true h3]
     refine⟨fun _ {_ _ _} r=>qw1 hm hin lt hc (decide_eq_false h1) (decide_eq_false h2) (qpJ (by omega) (by omega) (fun j y a c=>h3 y (List.mem_of_getElem? (i:=j) (by rw[List.getElem?_take,if_pos a];exact c))) k 0 (by omega)) (qaB (by omega)) r,fun h=>by cases h⟩
    ·rw[decide_eq_false h3]
     refine⟨(fun h=>by cases h),fun _=>qCO hm hin lt hc (decide_eq_false h1) (decide_eq_false h2) (qoh (by omega) (by omega) k 0 (by omega) ?_)⟩
     simp only[Classical.not_forall] at h3
     obtain⟨y,hy,e3⟩:=h3
     obtain⟨q,hq⟩:=List.mem_iff_getElem?.1 hy
     rw[List.getElem?_take] at hq
     split at hq
     ·exact⟨q,y,by omega,by assumption,hq,Classical.not_not.1 e3⟩
     ·cases hq
 ·have e:evB m=false:=by simp[evB,h0]
  rw[e,Bool.false_and]
  exact⟨(fun h=>by cases h),fun _=>qBX hm hin lt (qen hi.1 hi.2 h0)⟩
theorem qn3 (s:ASm u b fr ev wh):∀ (d k:Nat),k+d=ev.length→(∀ j,k≤j→j<ev.length→rcB ev j=true)→Rl 5 5 123 0 76 6 (rcT k) (wfH u b fr ev wh) (.exit 0) [(1,.pp 5 0)] (wfH u b fr ev wh):=by
 intro d
 induction d with
 | zero=>intro k hk _;exact qCG (decide_eq_false (by omega))
 | succ d ih=>intro k hk hg;exact (qg8 s (by omega)).1 (hg k (Nat.le_refl _) (by omega)) (ih (k+1) (by omega) fun j a c=>hg j (by omega) c)
theorem qsm (s:ASm u b fr ev wh):∀ (d k:Nat),k+d=ev.length→(∃ j,k≤j∧j<ev.length∧rcB ev j=false)→Rl 5 5 123 0 76 6 (rcT k) (wfH u b fr ev wh) .ret [(2,.pv (iV 8))] []:=by
 intro d
 induction d with
 | zero=>intro k hk ⟨j,a,c,_⟩;omega
 | succ d ih=>
  intro k hk ⟨j,a,c,e⟩
  cases hb:rcB ev k
  ·exact (qg8 s (by omega)).2 hb
  ·refine (qg8 s (by omega)).1 hb (ih (k+1) (by omega) ⟨j,?_,c,e⟩)
   rcases Nat.lt_or_ge k j with q | q
   ·exact q
   ·have:k=j:=by omega
    subst this;rw[hb] at e;cases e
theorem qo2:∀ {l:List Ev},(l.map (·.k)).Nodup↔∀ j x,l[j]?=some x→∀ y∈l.take j,y.k≠x.k:=by
 intro l
 rw[List.nodup_iff_pairwise_ne,List.pairwise_map,List.pairwise_iff_getElem]
 constructor
 ·intro h j x hx y hy e
  obtain⟨q,hq⟩:=List.mem_iff_getElem?.1 hy
  rw[List.getElem?_take] at hq
  split at hq
  ·rename_i hlt
   obtain⟨a1,a2⟩:=List.getElem?_eq_some_iff.1 hx
   obtain⟨b1,b2⟩:=List.getElem?_eq_some_iff.1 hq
   exact h q j b1 a1 hlt (by rw[a2,b2];exact e)
  ·cases hq
 ·intro h i j hi hj hij e
  exact h j l[j] (List.getElem?_eq_getElem hj) l[i] (List.mem_of_getElem? (i:=i) (by rw[List.getElem?_take,if_pos hij];exact List.getElem?_eq_getElem hi)) e
theorem qjp (hi:∀ x∈ev,EvI x):EvF ev↔∀ j,j<ev.length→rcB ev j=true:=by
 constructor
 ·intro h j hj
  have hx:ev[j]?=some ev[j]:=List.getElem?_eq_getElem hj
  simp only[rcB,hx,Bool.and_eq_true,decide_eq_true_eq]
  exact⟨(qmI (hi _ (List.getElem_mem hj))).2 (h.ok _ (List.getElem_mem hj)),qo2.1 h.nod j _ hx⟩
 ·intro h
  have key:∀ j x,ev[j]?=some x→evB x=true∧∀ y∈ev.take j,y.k≠x.k:=fun j x hx=>by
   have:=h j (List.getElem?_eq_some_iff.1 hx).1
   simpa only [rcB,hx,Bool.and_eq_true,decide_eq_true_eq] using this
  refine⟨fun x hx=>?_,qo2.2 fun j x hx=>(key j x hx).2⟩
  obtain⟨j,hj⟩:=List.mem_iff_getElem?.1 hx
  exact (qmI (hi x hx)).1 (key j x hj).1
abbrev rhT (k:Nat):List (Nat×SV):=[(1,.pp 5 0),(6,.pv (iV (k:Int)))]
theorem qjU (s:ASm u b fr ev wh) {k:Nat} (h1:1≤k) (hk:k<ev.length):∃ x y,ev[k]?=some x∧ev[(k-1)/2]?=some y∧Pure Tryz.prog 187 #[qae x,qae y] (.bool (ltE x y))∧qbL ev k = !ltE x y∧iV (IntKind.i64.wrap ((k:Int)-1))=iV ((k-1:Nat):Int)∧iV (IntKind.i64.wrap (Int.tdiv ((k-1:Nat):Int) 2))=iV (((k-1)/2:Nat):Int):=by
 have hle:=s.le
 have hj:(k-1)/2<ev.length:=by omega
 refine⟨_,_,List.getElem?_eq_getElem hk,List.getElem?_eq_getElem hj,qeb (s.i _ (List.getElem_mem hk)) (s.i _ (List.getElem_mem hj)),?_,?_,?_⟩
 ·simp[qbL,hk,hj]
 ·rw[show (k:Int)-1=((k-1:Nat):Int) by omega];exact qbl (by omega) (by omega)
 ·have e:Int.tdiv ((k-1:Nat):Int) 2=(((k-1)/2:Nat):Int):=by rw[Int.tdiv_eq_ediv_of_nonneg (by omega)];omega
  rw[e]
  exact qbl (by omega) (by omega)
theorem qyW (s:ASm u b fr ev wh):∀ (d k:Nat),ev.length≤k+d→1≤k→(∀ j,k≤j→j<ev.length→qbL ev j=true)→Rl 5 5 123 2 76 6 (rhT k) (wfH u b fr ev wh) (.exit 4) [] []:=by
 have hle:=s.le
 intro d
 induction d with
 | zero=>intro k hd h1 hg;exact quC (decide_eq_false (by omega))
 | succ d ih=>
  intro k hd h1 hg
  by_cases hk:k<ev.length
  ·obtain⟨x,y,hx,hy,hc,e,e1,e2⟩:=qjU s h1 hk
   rw[hg k (Nat.le_refl _) hk] at e
   have e':ltE x y=false:=by simpa using e.symm
   rw[e'] at hc
   exact qoz hx (by omega) hy (by omega) (decide_eq_true (by omega)) e1 (by decide) e2 hc (qaB (by omega)) (ih (k+1) (by omega) (by omega) (fun j a c=>hg j (by omega) c))
  ·exact quC (decide_eq_false (by omega))
theorem qrT (s:ASm u b fr ev wh):∀ (d k:Nat),ev.length≤k+d→1≤k→(∃ j,k≤j∧j<ev.length∧qbL ev j=false)→Rl 5 5 123 2 76 6 (rhT k) (wfH u b fr ev wh) .ret [(2,.pv (iV 8))] []:=by
 have hle:=s.le
 intro d
 induction d with
 | zero=>intro k hd h1 ⟨j,a,c,_⟩;omega
 | succ d ih=>
  intro k hd h1 ⟨j,a,c,hj⟩
  obtain⟨x,y,hx,hy,hc,e,e1,e2⟩:=qjU s h1 (show k<ev.length by omega)
  cases e':ltE x y<;>rw[e'] at hc e
  ·refine qoz hx (by omega) hy (by omega) (decide_eq_true (by omega)) e1 (by decide) e2 hc (qaB (by omega)) (ih (k+1) (by omega) (by omega) ⟨j,?_,c,hj⟩)
   rcases Nat.lt_or_ge k j with q | q
   ·exact q
   ·have:k=j:=by omega
    subst this;rw[hj] at e;cases e
  ·exact qC4 hx (by omega) hy (by omega) (decide_eq_true (by omega)) e1 (by decide) e2 hc
theorem qel (h:VA u b fr ev wh):Fn 123 5 [agA u b fr ev wh] (agP u b fr ev wh) (.pv (iV 0)) 0 []:=
 qBC (qdj h.vd) (qee h.vd h.wf) (qn3 h.sm ev.length 0 (by omega) fun j _ c=>(qjp h.sm.i).1 h.ef j c) (qyW h.sm ev.length 1 (by omega) (by omega) fun j a c=>h.hp j a c)
theorem qi5 (s:ASm u b fr ev wh) (h:¬ VA u b fr ev wh):Fn 123 5 [agA u b fr ev wh] (agP u b fr ev wh) (.pv (iV 8)) 0 []:=by
 by_cases h1:Vd u b fr
 ·by_cases h2:WhF u b ev wh
  ·by_cases h3:EvF ev
   ·refine qC3 (qdj h1) (qee h1 h2) (qn3 s ev.length 0 (by omega) fun j _ c=>(qjp s.i).1 h3 j c) (qrT s ev.length 1 (by omega) (by omega) ?_)
    apply Classical.byContradiction
    intro hn
    exact h ⟨h1,h2,h3,fun k b1 b2=>by
     cases e:qbL ev k with
     | true=>rfl
     | false=>exact (hn ⟨k,b1,b2,e⟩).elim⟩
   ·refine qAt (qdj h1) (qee h1 h2) (qsm s ev.length 0 (by omega) ?_)
    apply Classical.byContradiction
    intro hn
    exact h3 ((qjp s.i).2 fun j hj=>by
     cases e:rcB ev j with
     | true=>rfl
     | false=>exact (hn ⟨j,by omega,hj,e⟩).elim)
  ·exact qBt (qdj h1) (qoe h1 h2)
 ·exact qwA (qjK (by have:=s.lf;omega) h1)
end
end Go.Proofs.YtkckcgpmnipnaaaGreat
