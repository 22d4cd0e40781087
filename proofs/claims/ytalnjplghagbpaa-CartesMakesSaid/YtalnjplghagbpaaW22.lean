/-
  Joined: Cr, Za. Conditions: none.
-/
import Derived.Test.YtalnjplghagbpaaW20
import Derived.Test.YtalnjplghagbpaaW19
import Derived.Test.YtalnjplghagbpaaSxJ
import Derived.Test.YtalnjplghagbpaaProg
namespace Go.Proofs.Ytalnjplghagbpaa
set_option maxRecDepth 100000
open Go.RowKit
def okP (n a b:Int):Bool:=decide (0≤n∧n≤65535∧-1048576≤a∧a≤1048576∧-1048576≤b∧b≤1048576)
theorem qbW {n a b:Int}:okP n a b=true↔0≤n∧n≤65535∧-1048576≤a∧a≤1048576∧-1048576≤b∧b≤1048576:=by simp[okP]
theorem dt {p:Prop} [Decidable p] (h:p):decide p=true:=by simp[h]
theorem df {p:Prop} [Decidable p] (h:¬ p):decide p=false:=by simp[h]
theorem qbZ {n a b:Int} (h:okP n a b=true):Pure Try.prog 84 #[qaa n a b] (iV 0):=by
 have h':=qbW.1 h
 exact qst (df (by omega)) (df (by omega)) (dt (by omega)) (dt (by omega)) (dt (by omega)) (dt (by omega))
theorem qdh {n a b:Int} (h:okP n a b=true):Pure Try.prog 99 #[qaa n a b] (iV 0):=by
 have h':=qbW.1 h
 exact qqE (df (by omega)) (df (by omega)) (df (by omega)) (df (by omega)) (df (by omega)) (df (by omega))
theorem qfZ {n a b:Int} (h:¬ okP n a b=true):Pure Try.prog 84 #[qaa n a b] (iV 8):=by
 rw[qbW] at h
 by_cases h1:n<0
 ·exact qtg (dt h1)
 by_cases h2:n>65535
 ·exact qsw (df h1) (dt h2)
 by_cases h3 : -1048576≤a
 ·by_cases h4:a≤1048576
  ·by_cases h5 : -1048576≤b
   ·exact qsA (df h1) (df h2) (dt h3) (dt h4) (dt h5) (df (by omega))
   ·exact qsk (df h1) (df h2) (dt h3) (dt h4) (df h5)
  ·exact qsY (df h1) (df h2) (dt h3) (df h4)
 ·exact qr0 (df h1) (df h2) (df h3)
theorem qfb {n a b:Int} (h:¬ okP n a b=true):Pure Try.prog 99 #[qaa n a b] (iV 8):=by
 rw[qbW] at h
 by_cases h1:n<0
 ·exact qs0 (dt h1)
 by_cases h2:n>65535
 ·exact qsL (df h1) (dt h2)
 by_cases h3:a < -1048576
 ·exact qsT (df h1) (df h2) (dt h3)
 by_cases h4:a>1048576
 ·exact qsh (df h1) (df h2) (df h3) (dt h4)
 by_cases h5:b < -1048576
 ·exact qsb (df h1) (df h2) (df h3) (df h4) (dt h5)
 ·exact qr8 (df h1) (df h2) (df h3) (df h4) (df h5) (dt (by omega))
def qbu (P Q pb qb pi qi:Int):Bool:=decide (P>Q∨P=Q∧(pb>qb∨pb=qb∧pi<qi))
theorem qbK {P Q pb qb pi qi:Int} (h:P>Q∨P=Q∧(pb>qb∨pb=qb∧pi<qi)):qbu P Q pb qb pi qi=true:=dt h
theorem qbJ {P Q pb qb pi qi:Int} (h:¬ (P>Q∨P=Q∧(pb>qb∨pb=qb∧pi<qi))):qbu P Q pb qb pi qi=false:=df h
theorem qcJ {pi pa pb qi qa qb:Int} (hp:okP pi pa pb=true) (hq:okP qi qa qb=true) (hb:pb≠qb) :
 ∃ m n,okB m n=true∧I64 m∧I64 n∧m*(pb-qb)=(qa-pa)*n∧Pure Try.prog 115 #[qaa pi pa pb,qaa qi qa qb] (qab m n):=by
 have hp':=qbW.1 hp
 have hq':=qbW.1 hq
 obtain⟨N,D,E,hr,hm⟩:=qgD (a:=qa-pa) (b:=pb-qb) (by unfold I64;omega) (by unfold I64;omega) (by omega)
 have key:E=0∧okB N D=true∧I64 N∧I64 D∧N*(pb-qb)=(qa-pa)*D:=by
  by_cases hs:0<pb-qb
  ·exact hr.fits hs (by omega) (by omega) (by omega)
  ·have h2:=hr.congr (p':=-(qa-pa)) (q':=-(pb-qb)) (by omega) (by omega) (by rw[Int.mul_neg,Int.neg_mul])
   obtain⟨e1,e2,e3,e4,e5⟩:=h2.fits (by omega) (by omega) (by omega) (by omega)
   refine⟨e1,e2,e3,e4,?_⟩
   rw[Int.mul_neg,Int.neg_mul] at e5
   omega
 obtain⟨rfl,k1,k2,k3,k4⟩:=key
 exact⟨N,D,k1,k2,k3,k4,qfj (by rw[qaQ (by omega) (by omega)]) (by rw[qaQ (by omega) (by omega)]) hm⟩
theorem qgN {pi pa pb qi qa qb n d:Int} (hn:I64 n) (hd:I64 d) (hp:okP pi pa pb=true) (hq:okP qi qa qb=true) (ht:okB n d=true) (hij:pi≠qi) :
 Pure Try.prog 79 #[qaa pi pa pb,qaa qi qa qb,qab n d] (.tuple #[.bool (qbu (pa*d+pb*n) (qa*d+qb*n) pb qb pi qi),iV 0]):=by
 have c1:=qbZ hp
 have c2:=qbZ hq
 have c3:=qb3 hn hd ht
 have c4:Pure Try.prog 104 #[qaa pi pa pb,qaa qi qa qb] (iV 0):=qps (by simp[hij])
 have d0:0<d:=by have:=qdv ht;omega
 by_cases hb:pb=qb
 ·subst hb
  by_cases ha:pa=qa
  ·subst ha
   by_cases hi:pi<qi
   ·rw[qbK (Or.inr ⟨rfl,Or.inr ⟨rfl,hi⟩⟩)]
    exact qkI c1 c2 c3 c4 (by simp) (dt hi)
   ·rw[qbJ (by omega)]
    exact qlq c1 c2 c3 c4 (by simp) (df hi)
  ·have e:pa*d-qa*d=(pa-qa)*d:=(Int.sub_mul _ _ _).symm
   by_cases hg:pa>qa
   ·have:=Int.mul_pos (show 0<pa-qa by omega) d0
    rw[qbK (Or.inl (by omega))]
    exact qki c1 c2 c3 c4 (by simp[ha]) (by simp) (dt hg)
   ·have:=Int.mul_neg_of_neg_of_pos (show pa-qa<0 by omega) d0
    rw[qbJ (by omega)]
    exact ql1 c1 c2 c3 c4 (by simp[ha]) (by simp) (df hg)
 ·obtain⟨m,k,h1,h2,h3,h4,h5⟩:=qcJ hp hq hb
  have cc:=qqf hn hd h2 h3 ht h1
  have k0:0<k:=by have:=qdv h1;omega
  have key:(pa*d+pb*n-(qa*d+qb*n))*k=(pb-qb)*(n*k-m*d):=by
   have e1:(pb-qb)*(m*d)=(qa-pa)*k*d:=by rw[← h4,← Int.mul_assoc,Int.mul_comm (pb-qb) m]
   rw[Int.mul_sub,e1,Int.sub_mul,Int.add_mul,Int.add_mul,Int.sub_mul,Int.sub_mul,Int.sub_mul,← Int.mul_assoc,← Int.mul_assoc,Int.mul_right_comm qa k d,Int.mul_right_comm pa k d]
   omega
  have hs:(0≤n*k-m*d↔(n*k-m*d).sign≥0):=by
   rcases Int.lt_trichotomy (n*k-m*d) 0 with h | h | h
   ·rw[Int.sign_eq_neg_one_of_neg h];omega
   ·rw[h];decide
   ·rw[Int.sign_eq_one_of_pos h];omega
  generalize n*k-m*d=X at *
  generalize hP:pa*d+pb*n=P at *
  generalize hQ:qa*d+qb*n=Q at *
  by_cases hg:pb>qb
  ·by_cases hx:0≤X
   ·have:=Int.mul_nonneg (show 0≤pb-qb by omega) hx
    rw[qbK (by
     rcases Int.lt_or_le P Q with h | h
     ·have:=Int.mul_neg_of_neg_of_pos (show P-Q<0 by omega) k0;omega
     ·rcases Int.lt_or_eq_of_le h with h | h
      ·exact Or.inl h
      ·exact Or.inr ⟨h.symm,Or.inl hg⟩)]
    exact qik c1 c2 c3 c4 (by simp[hb]) (by simp[hb]) h5 cc (dt (hs.1 hx)) (dt hg)
   ·have:=Int.mul_neg_of_pos_of_neg (show 0<pb-qb by omega) (show X<0 by omega)
    rw[qbJ (by
     intro h
     have hle:0≤P-Q:=by omega
     have:=Int.mul_nonneg hle (Int.le_of_lt k0)
     omega)]
    exact qjU c1 c2 c3 c4 (by simp[hb]) (by simp[hb]) h5 cc (df (fun h=>hx (hs.2 h))) (dt hg)
  ·by_cases hx:0≤X
   ·have:=Int.mul_nonneg (show 0≤qb-pb by omega) hx
    have e:(pb-qb)*X = -((qb-pb)*X):=by rw[← Int.neg_mul];congr 1;omega
    rw[qbJ (by
     intro h
     have hlt:0<P-Q:=by omega
     have:=Int.mul_pos hlt k0
     omega)]
    exact qi4 c1 c2 c3 c4 (by simp[hb]) (by simp[hb]) h5 cc (dt (hs.1 hx)) (df hg)
   ·have:=Int.mul_pos_of_neg_of_neg (show pb-qb<0 by omega) (show X<0 by omega)
    rw[qbK (by
     left
     rcases Int.lt_or_le Q P with h | h
     ·exact h
     ·have:(P-Q)*k≤0:=by
       have:=Int.mul_nonneg (show 0≤Q-P by omega) (Int.le_of_lt k0)
       have e:(P-Q)*k = -((Q-P)*k):=by rw[← Int.neg_mul];congr 1;omega
       omega
      omega)]
    exact qkb c1 c2 c3 c4 (by simp[hb]) (by simp[hb]) h5 cc (df (fun h=>hx (hs.2 h))) (df hg)
end Go.Proofs.Ytalnjplghagbpaa

namespace Go.Proofs.Ytalnjplghagbpaa
set_option maxRecDepth 100000
open Go.RowKit
def ziV (l:List Int):List Value:=l.map fun x=>iV x
def zbV (l:List Bool):List Value:=l.map fun x=>.bool x
abbrev zrI (l:List Int):SV:=.row 3 1 l.length (ziV l)
theorem qhf (l:List Int):(ziV l).length=l.length:=by simp[ziV]
theorem qh5 (l:List Bool):(zbV l).length=l.length:=by simp[zbV]
theorem qfu {l:List Int} {k:Nat} {x:Int} (h:l[k]?=some x):qcs (ziV l) (0*1+k*1) [iV x]:=by
 intro j v hj
 match j,hj with
 | 0,hj=>cases hj;simp[ziV,h]
 | j+1,hj=>simp at hj
theorem qtN {l:List Bool} {k:Nat} {x:Bool} (h:l[k]?=some x):qcs (zbV l) (0*1+k*1) [.bool x]:=by
 intro j v hj
 match j,hj with
 | 0,hj=>cases hj;simp[zbV,h]
 | j+1,hj=>simp at hj
theorem qju {l:List Int} {z:Int} {x:Int} (h:l[z.toNat]?=some x):qcs (ziV l) (0*1+z.toNat*1) [iV x]:=qfu h
theorem qfU {l:List Bool} {z:Int} {x:Bool} (h:l[z.toNat]?=some x):qcs (zbV l) (0*1+z.toNat*1) [.bool x]:=qtN h
theorem qpg (l:List Int) (k:Nat) (x:Int) (h:k<l.length):ziV (l.set k x)=qdJ (ziV l) (0*1+k*1) [iV x]:=by
 rw[Nat.zero_mul,Nat.zero_add,Nat.mul_one]
 unfold qdJ ziV
 rw[List.map_set,List.set_eq_take_append_cons_drop,if_pos (by simpa using h)]
 simp
theorem qo7 (l:List Bool) (k:Nat) (x:Bool) (h:k<l.length):zbV (l.set k x)=qdJ (zbV l) (0*1+k*1) [.bool x]:=by
 rw[Nat.zero_mul,Nat.zero_add,Nat.mul_one]
 unfold qdJ zbV
 rw[List.map_set,List.set_eq_take_append_cons_drop,if_pos (by simpa using h)]
 simp
theorem qd6 (l:List Int) (k:Nat) (h:k<l.length):0*1+k*1+1≤(ziV l).length:=by rw[qhf];omega
theorem qd1 (l:List Bool) (k:Nat) (h:k<l.length):0*1+k*1+1≤(zbV l).length:=by rw[qh5];omega
theorem qmo:∀ n:Nat,qcg [iV 0] n=ziV (List.replicate n 0)
 | 0=>rfl
 | n+1=>by rw[qcg,qmo n];rfl
theorem qhJ (a b:List Int):ziV (a++b)=ziV a++ziV b:=by simp[ziV]
theorem RunsL.roundsZ {P:Program} {lo fr:Nat} {c:Code} {n nb:Nat} (tm:Nat→List (Nat×SV)) (hp:Nat→List (Nat×Nat×SV)) {e:Exit} {tm2:TmL} {hp2:HpL} {N:Nat} :
 ∀ (d i:Nat),i+d=N→(∀ j,i≤j→j<N→RunsL P lo fr c n nb (tm (j+1)) (hp (j+1)) e tm2 hp2→RunsL P lo fr c n nb (tm j) (hp j) e tm2 hp2)→RunsL P lo fr c n nb (tm N) (hp N) e tm2 hp2→RunsL P lo fr c n nb (tm i) (hp i) e tm2 hp2
 | 0,i,h,_,last=>by
  have:i=N:=by omega
  subst this;exact last
 | d+1,i,h,step,last=>step i (Nat.le_refl i) (by omega) (RunsL.roundsZ tm hp d (i+1) (by omega) (fun j h1 h2=>step j (by omega) h2) last)
def qea:List Bool→List Int→Option (List Bool)
 | g,[]=>some g
 | g,x::r=>if 0≤x∧x<(g.length:Int)∧g[x.toNat]?=some true then qea (g.set x.toNat false) r else none
structure Vd (u:List Int) (b:List Bool) (f:List Int):Prop where
 pos:1≤u.length
 le:u.length≤200
 len:b.length=u.length
 use:∀ (k:Nat) (x:Int) (c:Bool),u[k]?=some x→b[k]?=some c→(if c=true then 1 else 0)≤x∧x≤1000000
 rng:∀ x∈f,0≤x∧x<(u.length:Int)
 nod:f.Nodup
 part:∀ (k:Nat) (c:Bool),b[k]?=some c→(c=false↔(k:Int)∈f)
theorem qdr:∀ {f:List Int} {g g':List Bool},qea g f=some g'→(∀ x∈f,0≤x∧x<(g.length:Int)∧g[x.toNat]?=some true)∧f.Nodup∧∀ k:Nat,g'[k]?=if (k:Int)∈f then some false else g[k]?
 | [],g,g',h=>by cases h;exact⟨by simp,by simp,by simp⟩
 | x::r,g,g',h=>by
  unfold qea at h
  split at h
  ·rename_i hx
   obtain⟨h1,h2,h3⟩:=qdr h
   have hn:x∉r:=fun hm=>by
    have:=(h1 x hm).2.2
    rw[List.getElem?_set] at this
    rw[if_pos rfl] at this
    split at this<;>cases this
   refine⟨fun y hy=>?_,List.nodup_cons.2 ⟨hn,h2⟩,fun k=>?_⟩
   ·rcases List.mem_cons.1 hy with rfl | hy
    ·exact hx
    ·obtain⟨a1,a2,a3⟩:=h1 y hy
     rw[List.length_set] at a2
     refine⟨a1,a2,?_⟩
     rw[List.getElem?_set] at a3
     split at a3
     ·split at a3<;>cases a3
     ·exact a3
   ·rw[h3]
    by_cases hk:(k:Int)∈r
    ·rw[if_pos hk,if_pos (List.mem_cons_of_mem _ hk)]
    ·rw[if_neg hk,List.getElem?_set]
     by_cases e:(k:Int)=x
     ·rw[if_pos (show x.toNat=k by omega),if_pos (by omega),if_pos (by rw[e];exact List.mem_cons_self)]
     ·rw[if_neg (show ¬ x.toNat=k by omega),if_neg (fun hm=>by rcases List.mem_cons.1 hm with h | h;exact e h;exact hk h)]
  ·cases h
theorem qeb:∀ {f:List Int} {g:List Bool},(∀ x∈f,0≤x∧x<(g.length:Int)∧g[x.toNat]?=some true)→f.Nodup→∃ g',qea g f=some g'
 | [],g,_,_=>⟨g,rfl⟩
 | x::r,g,h,hn=>by
  obtain⟨h1,h2⟩:=List.nodup_cons.1 hn
  unfold qea
  rw[if_pos (h x List.mem_cons_self)]
  refine qeb (fun y hy=>?_) h2
  obtain⟨a1,a2,a3⟩:=h y (List.mem_cons_of_mem _ hy)
  refine⟨a1,by rw[List.length_set];exact a2,?_⟩
  rw[List.getElem?_set,if_neg]
  ·exact a3
  ·intro e
   have hx:=(h x List.mem_cons_self).1
   have:x=y:=by omega
   subst this
   exact h1 hy
def qox (b:List Bool) (f:List Int):Bool:=match qea (b.map not) f with
 | some g=>!g.contains true
 | none=>false
def qte (u:List Int) (b:List Bool):Bool:=(List.range b.length).all fun k=>match u[k]?,b[k]? with
 | some x,some c=>decide ((if c=true then 1 else 0)≤x)&&decide (x≤1000000)
 | _,_=>false
def qmI (u:List Int) (b:List Bool) (f:List Int):Bool:=decide (1≤u.length)&&decide (u.length≤200)&&decide (b.length=u.length)&&qte u b&&qox b f
theorem qgY {u:List Int} {b:List Bool} (h:b.length=u.length):qte u b=true↔∀ (k:Nat) (x:Int) (c:Bool),u[k]?=some x→b[k]?=some c→(if c=true then 1 else 0)≤x∧x≤1000000:=by
 unfold qte
 rw[List.all_eq_true]
 constructor
 ·intro h1 k x c hx hc
  have hk:k<b.length:=(List.getElem?_eq_some_iff.1 hc).1
  have:=h1 k (List.mem_range.2 hk)
  rw[hx,hc] at this
  simpa using this
 ·intro h1 k hk
  have hk':=List.mem_range.1 hk
  rw[List.getElem?_eq_getElem (by omega:k<u.length),List.getElem?_eq_getElem hk']
  simpa using h1 k _ _ (List.getElem?_eq_getElem (by omega:k<u.length)) (List.getElem?_eq_getElem hk')
theorem qeN {b:List Bool} {f:List Int}:qox b f=true↔(∀ x∈f,0≤x∧x<(b.length:Int))∧f.Nodup∧∀ (k:Nat) (c:Bool),b[k]?=some c→(c=false↔(k:Int)∈f):=by
 unfold qox
 constructor
 ·intro h
  split at h
  ·rename_i g hg
   obtain⟨h1,h2,h3⟩:=qdr hg
   refine⟨fun x hx=>?_,h2,fun k c hc=>⟨fun e=>?_,fun hm=>?_⟩⟩
   ·obtain⟨a1,a2,_⟩:=h1 x hx
    exact⟨a1,by simpa using a2⟩
   ·subst e
    by_cases hm:(k:Int)∈f
    ·exact hm
    ·have:=h3 k
     rw[if_neg hm,List.getElem?_map,hc] at this
     have hin:true∈g:=List.mem_of_getElem? this
     simp[hin] at h
   ·obtain⟨_,_,a3⟩:=h1 _ hm
    rw[Int.toNat_natCast,List.getElem?_map,hc] at a3
    simpa using a3
  ·cases h
 ·rintro⟨h1,h2,h3⟩
  obtain⟨g,hg⟩:=qeb (g:=b.map not) (f:=f) (fun x hx=>by
   obtain⟨a1,a2⟩:=h1 x hx
   have hk:x.toNat<b.length:=by omega
   refine⟨a1,by simpa using a2,?_⟩
   rw[List.getElem?_map,List.getElem?_eq_getElem hk]
   have:=(h3 x.toNat _ (List.getElem?_eq_getElem hk)).2 (by rw[Int.toNat_of_nonneg a1];exact hx)
   rw[this];rfl) h2
  rw[hg]
  obtain⟨_,_,h6⟩:=qdr hg
  have:true∉g:=by
   intro hm
   obtain⟨k,hk⟩:=List.mem_iff_getElem?.1 hm
   have e:=h6 k
   rw[hk] at e
   split at e
   ·cases e
   ·rename_i hn
    rw[List.getElem?_map] at e
    cases hb:b[k]? with
    | none=>rw[hb] at e;cases e
    | some c=>
     rw[hb] at e
     cases c
     ·exact hn ((h3 k _ hb).1 rfl)
     ·cases e
  simp[this]
theorem qpc {u:List Int} {b:List Bool} {f:List Int}:qmI u b f=true↔Vd u b f:=by
 unfold qmI
 simp only[Bool.and_eq_true,decide_eq_true_eq]
 constructor
 ·rintro⟨⟨⟨⟨h1,h2⟩,h3⟩,h4⟩,h5⟩
  obtain⟨a1,a2,a3⟩:=qeN.1 h5
  exact⟨h1,h2,h3,(qgY h3).1 h4,by rw[← h3];exact a1,a2,a3⟩
 ·intro h
  exact⟨⟨⟨⟨h.pos,h.le⟩,h.len⟩,(qgY h.len).2 h.use⟩,qeN.2 ⟨by rw[h.len];exact h.rng,h.nod,h.part⟩⟩
end Go.Proofs.Ytalnjplghagbpaa
