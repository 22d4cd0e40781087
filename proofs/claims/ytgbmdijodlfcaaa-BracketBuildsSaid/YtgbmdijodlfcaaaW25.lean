/-
  Joined: Ze, Rt, Cu, Cv. Conditions: none.
-/
import Derived.Test.YtgbmdijodlfcaaaW24
import Derived.Test.YtgbmdijodlfcaaaW21
import Derived.Test.YtgbmdijodlfcaaaW22
namespace Go.Proofs.Ytgbmdijodlfcaaa
set_option maxRecDepth 100000
open Go.RowKit
theorem qfc {k b o:Nat} {s t:SV} (h:qac [(k,0,s)] b o=some t):b=k∧o=0∧t=s:=by
 rw[qad] at h
 split at h
 ·rename_i e;cases h;exact⟨e.1.symm,e.2.symm,rfl⟩
 ·cases h
theorem qgl {W w':World} {β:Bl} {k:Nat} {pre:List (Nat×Nat×SV)} {u:Value} {e:TypeId} {es n:Nat} {xs:List Value} (H:HRel W k β pre W) (hd:β.dom k) (hg:Gr W w') (ho:w'.ownsRow W.heap.size e es u n xs) (h1:∀ v∈xs,v.oneCell'=true) :
 HRel W k (β.setG k u) [(k,0,.row e es n xs)] w':=by
 refine⟨hg,fun b r h=>Nat.lt_of_lt_of_le (H.live b r h) hg.size,H.inj,fun b r hb h=>?_,fun b r h=>?_,fun b o sv hl hs=>?_,fun b o e es n xs hl=>?_,fun b o e es n xs c o' e' es' n' xs' u v hl hl' h1 h2 hne=>?_,fun b o xs hl=>?_⟩
 ·have h':β b=some r:=h
  rw[(hd b hb).1] at h';cases h'
 ·have hb:b≠k:=fun e=>by
   subst e
   have h':β b=some r:=h
   rw[(hd b (Nat.le_refl _)).1] at h';cases h'
  unfold Bl.setG
  simp only[if_neg hb]
  exact H.sep b r h
 ·obtain⟨_,_,rfl⟩:=qfc hl;cases hs
 ·obtain⟨rfl,_,e1⟩:=qfc hl
  cases e1
  exact⟨u,Bl.setG_same β b u,qfz ho,h1,fun h=>by omega,fun _=>ho,fun _ c r hc hu=>by
   have h1:=(qaf ho r hu).1
   have h2:=H.live c r hc
   omega⟩
 ·exact (hne ((qfc hl).1.trans (qfc hl').1.symm)).elim
 ·obtain⟨_,_,e1⟩:=qfc hl;cases e1
theorem qeN {β:Bl} {k:Nat} {u:Value} (hd:β.dom k):(β.setG k u).dom (k+1):=fun b hb=>⟨(hd b (by omega)).1,by unfold Bl.setG;simp only[if_neg (show b≠k by omega)];exact (hd b (by omega)).2⟩
theorem qhk (w:World):HRel w 0 Bl.no [] w:=⟨Gr.refl w,fun _ _ h=>(by cases h),fun _ _ _ h=>(by cases h),fun _ _ _ h=>(by cases h),fun _ _ h=>(by cases h),fun _ _ _ h=>(by cases h),fun _ _ _ _ _ _ h=>(by cases h),fun _ _ _ _ _ _ _ _ _ _ _ _ _ _ h=>(by cases h),fun _ _ _ h=>(by cases h)⟩
theorem qp1 {f:FuncId} {e:TypeId} {n:Nat} {xs:List Value} (hx:xs.length=n)
 (pth:0<n→Fn f 1 [.ls 0 n] [(0,0,.row e 1 n xs)] (.ls 1 n) 1 [(1,0,.row e 1 n xs)])
 (pe:∀ ad c,Fn f 0 [.pv (.slice (some ad) 0 c)] [] (.ls 0 0) 1 [(0,0,.row e 1 0 [])])
 (pn:∀ c,Pure Try.prog f #[.slice none 0 c] (.slice none 0 0)):Fn f 1 [.ls 0 n] [(0,0,.row e 1 n xs)] (.ls 1 n) 1 [(1,0,.row e 1 n xs)]:=by
 rcases Nat.eq_zero_or_pos n with h | h
 ·subst h
  obtain rfl:=List.eq_nil_of_length_eq_zero hx
  intro w β us hH hd hargs
  match us,hargs with
  | [v],⟨⟨_,a,c,hv⟩,_⟩=>
   have hd1:=hd 1 (Nat.le_refl _)
   cases a with
   | none=>
    subst hv
    refine (pn c w).mono fun e' w' ⟨he,hg⟩=>?_
    have ho:w'.ownsRow w.heap.size e 1 (.slice none 0 0) 0 []:=⟨rfl,Or.inl ⟨rfl,rfl⟩⟩
    exact⟨_,β.setG 1 (.slice none 0 0),he,Bl.le_setG hd1.1 hd1.2,⟨Bl.setG_same _ _ _,none,0,rfl⟩,qgl hH hd hg ho (fun v hv=>by cases hv),qeN hd⟩
   | some ad=>
    subst hv
    refine (pe ad c w Bl.no [.slice (some ad) 0 c] (qhk w) (fun _ _=>⟨rfl,rfl⟩) ⟨rfl,tI⟩).mono fun e' w' ⟨v,β',he,_,⟨hx,a',c',hv⟩,hh,_⟩=>?_
    obtain⟨u,hu,hr⟩:=hh.rows 0 0 _ _ _ _ rfl
    rw[hx] at hu
    cases hu
    exact⟨_,β.setG 1 v,he,Bl.le_setG hd1.1 hd1.2,⟨Bl.setG_same _ _ _,a',c',hv⟩,qgl hH hd hh.gr (hr.own (Nat.le_refl _)) (fun v hv=>by cases hv),qeN hd⟩
 ·exact pth h
theorem qhD {l:List Int} (hn:l.length≤1000000):Fn 40 1 [.ls 0 l.length] [(0,0,zrI l)] (.ls 1 l.length) 1 [(1,0,zrI l)]:=
 qp1 (qeb l) (fun h=>qk7 h (by omega)) (fun ad c=>qsr) (fun c=>qom)
section
variable {u fr:List Int} {b:List Bool}
structure Live (u:List Int) (b:List Bool) (hi hu:Int):Prop where
 lo:0≤hi
 lt:hi<(u.length:Int)
 used:b[hi.toNat]?=some true
 use:u[hi.toNat]?=some hu
def qmE (u:List Int) (b:List Bool) (fr:List Int):Option (List Int×List Bool×List Int×Int×Int):=
 match fr.getLast? with
 | none=>none
 | some x=>match u[x.toNat]? with
  | none=>none
  | some y=>if y=1000000 then none else some (u.set x.toNat (y+1),b.set x.toNat true,fr.dropLast,x,y+1)
theorem qhM {u' fr':List Int} {b':List Bool} {x z:Int} (h:qmE u b fr=some (u',b',fr',x,z)):∃ y,fr.getLast?=some x∧u[x.toNat]?=some y∧y≠1000000∧u'=u.set x.toNat z∧b'=b.set x.toNat true∧fr'=fr.dropLast∧z=y+1:=by
 unfold qmE at h
 split at h
 ·cases h
 ·rename_i x' hx
  split at h
  ·cases h
  ·rename_i y hy
   split at h
   ·cases h
   ·rename_i hne
    simp only[Option.some.injEq,Prod.mk.injEq] at h
    obtain⟨rfl,rfl,rfl,rfl,rfl⟩:=h
    exact⟨y,hx,hy,hne,rfl,rfl,rfl,rfl⟩
theorem qg8 {l:List Int} {x:Int} (h:l.getLast?=some x):l=l.dropLast++[x]∧l[l.length-1]?=some x∧1≤l.length:=by
 have hne:l≠[]:=fun e=>by subst e;cases h
 rw[List.getLast?_eq_some_getLast hne] at h
 cases h
 refine⟨(List.dropLast_concat_getLast hne).symm,?_,List.length_pos_iff.2 hne⟩
 rw[List.getLast_eq_getElem]
 exact List.getElem?_eq_getElem _
theorem qcU:∀ {f:List Int} {g g':List Bool},qcT g f=some g'→f.length+g'.count true=g.count true
 | [],g,g',h=>by cases h;simp
 | x::r,g,g',h=>by
  unfold qcT at h
  split at h
  ·rename_i hx
   have:=qcU h
   have hk:x.toNat<g.length:=by omega
   have hg:g[x.toNat]=true:=by
    have:=hx.2.2
    rw[List.getElem?_eq_getElem hk] at this
    exact Option.some.inj this
   have hm:0<g.count true:=List.count_pos_iff.2 (by rw[← hg];exact List.getElem_mem hk)
   rw[List.count_set hk,hg] at this
   simp at this ⊢
   omega
  ·cases h
theorem Vd.frlen (h:Vd u b fr):fr.length≤200:=by
 have hf:qin b fr=true:=by
  have:=qhE.2 h
  unfold qiU at this
  simp only[Bool.and_eq_true] at this
  exact this.2
 unfold qin at hf
 split at hf
 ·rename_i g hg
  have:=qcU hg
  have:=List.count_le_length (a:=true) (l:=b.map not)
  rw[List.length_map,h.len] at this
  have:=h.le
  omega
 ·cases hf
theorem Vd.take {u' fr':List Int} {b':List Bool} {x z:Int} (h:Vd u b fr) (ht:qmE u b fr=some (u',b',fr',x,z)):Vd u' b' fr':=by
 obtain⟨y,h1,h2,h3,rfl,rfl,rfl,rfl⟩:=qhM ht
 obtain⟨e,_,_⟩:=qg8 h1
 have hx:x∈fr:=by rw[e];simp
 obtain⟨r1,r2⟩:=h.rng x hx
 have hnd:=h.nod
 rw[e,List.nodup_append] at hnd
 obtain⟨n1,_,n2⟩:=hnd
 have hxn:x∉fr.dropLast:=fun hm=>n2 x hm x (by simp) rfl
 have hk:x.toNat<u.length:=by omega
 have hbk:x.toNat<b.length:=by rw[h.len];omega
 have hy:=h.use x.toNat y _ h2 (List.getElem?_eq_getElem hbk)
 have hy0:0≤y:=by have:=hy.1;split at this<;>omega
 refine⟨by rw[List.length_set];exact h.pos,by rw[List.length_set];exact h.le,by rw[List.length_set,List.length_set];exact h.len,fun k v c hv hc=>?_,fun v hv=>?_,n1,fun k c hc=>?_⟩
 ·rw[List.getElem?_set] at hv hc
  by_cases ek:x.toNat=k
  ·rw[if_pos ek,if_pos (by omega)] at hv hc
   cases hv;cases hc
   simp;omega
  ·rw[if_neg ek] at hv hc
   exact h.use k v c hv hc
 ·rw[List.length_set];exact h.rng v (by rw[e];simp[hv])
 ·rw[List.getElem?_set] at hc
  by_cases ek:x.toNat=k
  ·rw[if_pos ek,if_pos (by omega)] at hc
   cases hc
   simp only[Bool.true_eq_false,false_iff]
   rw[show (k:Int)=x by omega]
   exact hxn
  ·rw[if_neg ek] at hc
   rw[h.part k c hc]
   conv=>lhs;rw[e]
   simp only[List.mem_append,List.mem_singleton]
   constructor
   ·rintro (hm | hm)
    ·exact hm
    ·omega
   ·exact Or.inl
def qpy (n:Nat):List Int:=(List.range n).map fun (k:Nat)=>(n:Int)-1-(k:Int)
theorem Vd.new {n:Nat} (h1:1≤n) (h2:n≤200):Vd (List.replicate n 0) (List.replicate n false) (qpy n):=by
 refine⟨by simpa using h1,by simpa using h2,by simp,fun k x c hx hc=>?_,fun x hx=>?_,?_,fun k c hc=>?_⟩
 ·have e1:=List.eq_of_mem_replicate (List.mem_of_getElem? hx)
  have e2:=List.eq_of_mem_replicate (List.mem_of_getElem? hc)
  subst e1;subst e2;simp
 ·obtain⟨k,hk,rfl⟩:=List.mem_map.1 hx
  have:=List.mem_range.1 hk
  simp;omega
 ·unfold qpy
  rw[List.nodup_iff_pairwise_ne,List.pairwise_map]
  exact (List.nodup_range (n:=n)).imp_of_mem fun ha hb hab e=>by omega
 ·have e2:=List.eq_of_mem_replicate (List.mem_of_getElem? hc)
  subst e2
  have hk:k<n:=by have:=(List.getElem?_eq_some_iff.1 hc).1;simpa using this
  simp only[true_iff]
  exact List.mem_map.2 ⟨n-1-k,List.mem_range.2 (by omega),by omega⟩
end
end Go.Proofs.Ytgbmdijodlfcaaa

namespace Go.Proofs.Ytgbmdijodlfcaaa
set_option maxRecDepth 100000
open Go.RowKit
theorem qsb (x y:Nat):Int.tdiv (x:Int) (y:Int)=((x/y:Nat):Int):=by rw[Int.tdiv_eq_ediv_of_nonneg (Int.natCast_nonneg x)];simp
theorem qrU (x y:Nat):Int.tmod (x:Int) (y:Int)=((x%y:Nat):Int):=by rw[Int.tmod_eq_emod_of_nonneg (Int.natCast_nonneg x)];simp
theorem qqi (x:Nat) (h:x<18446744073709551616):Value.int .u64 (IntKind.u64.wrap (Int.tdiv (x:Int) 4294967296))=.int .u64 ((x/4294967296:Nat):Int):=by
 rw[show (4294967296:Int)=((4294967296:Nat):Int) from rfl,qsb,qiq (by omega) (by omega)]
theorem qpg (x:Nat):Value.int .u64 (Int.tmod (x:Int) 4294967296)=.int .u64 ((x%4294967296:Nat):Int):=by
 rw[show (4294967296:Int)=((4294967296:Nat):Int) from rfl,qrU]
theorem qra {x y:Nat} (h:x*y<18446744073709551616):Value.int .u64 (IntKind.u64.wrap ((x:Int)*(y:Int)))=.int .u64 ((x*y:Nat):Int):=qfr (by simp) (Int.natCast_nonneg _) (by omega)
theorem qmO {x y:Nat} (h:x+y<18446744073709551616):Value.int .u64 (IntKind.u64.wrap ((x:Int)+(y:Int)))=.int .u64 ((x+y:Nat):Int):=qfr (by simp) (by omega) (by omega)
theorem qo4 (ah al bh bl:Nat):(ah*4294967296+al)*(bh*4294967296+bl)=ah*bh*18446744073709551616+(ah*bl+al*bh)*4294967296+al*bl:=by
 have e1:ah*4294967296*(bh*4294967296)=ah*bh*18446744073709551616:=Nat.mul_mul_mul_comm ah 4294967296 bh 4294967296
 have e2:ah*4294967296*bl=ah*bl*4294967296:=Nat.mul_right_comm ah 4294967296 bl
 have e3:al*(bh*4294967296)=al*bh*4294967296:=(Nat.mul_assoc al bh 4294967296).symm
 rw[Nat.add_mul,Nat.mul_add,Nat.mul_add,e1,e2,e3,Nat.add_mul]
 omega
theorem qjX (a b:Nat) (ha:a<18446744073709551616) (hb:b<18446744073709551616):Pure Try.prog 109 #[.int .u64 a,.int .u64 b] (qhV false (a*b)):=by
 obtain⟨ah,hah⟩:∃ x,x=a/4294967296:=⟨_,rfl⟩
 obtain⟨al,hal⟩:∃ x,x=a%4294967296:=⟨_,rfl⟩
 obtain⟨bh,hbh⟩:∃ x,x=b/4294967296:=⟨_,rfl⟩
 obtain⟨bl,hbl⟩:∃ x,x=b%4294967296:=⟨_,rfl⟩
 have e1:a=ah*4294967296+al:=by omega
 have e2:b=bh*4294967296+bl:=by omega
 have key:=qo4 ah al bh bl
 rw[← e1,← e2] at key
 have m1:ah*bl≤4294967295*4294967295:=Nat.mul_le_mul (by omega) (by omega)
 have m2:al*bh≤4294967295*4294967295:=Nat.mul_le_mul (by omega) (by omega)
 have m3:ah*bh≤4294967295*4294967295:=Nat.mul_le_mul (by omega) (by omega)
 have m4:al*bl≤4294967295*4294967295:=Nat.mul_le_mul (by omega) (by omega)
 have hab:a*b<340282366920938463463374607431768211456:=by
  have:a*b≤18446744073709551615*18446744073709551615:=Nat.mul_le_mul (by omega) (by omega)
  omega
 have x1:=qra (x:=al) (y:=bl) (by omega)
 have x2:=qra (x:=ah) (y:=bl) (by omega)
 have x4:=qra (x:=al) (y:=bh) (by omega)
 have x6:=qra (x:=ah) (y:=bh) (by omega)
 have q1:=qqi a ha
 have q2:=qpg a
 have q3:=qqi b hb
 have q4:=qpg b
 rw[← hah] at q1
 rw[← hal] at q2
 rw[← hbh] at q3
 rw[← hbl] at q4
 generalize ah*bl=p1 at *
 generalize al*bh=p2 at *
 generalize ah*bh=p3 at *
 generalize al*bl=low at *
 generalize a*b=ab at *
 obtain⟨m,hm⟩:∃ m,m=p1+low/4294967296:=⟨_,rfl⟩
 obtain⟨n,hn⟩:∃ n,n=p2+m%4294967296:=⟨_,rfl⟩
 have r:=qhy (nz:=by decide) q1 q2 q3 q4 x1 x2 (qqi low (by omega)) (qmO (by omega)) x4 (qpg _) (qmO (by omega)) x6 (qqi _ (by omega)) (qmO (by omega)) (qqi _ (by omega)) (qmO (by omega))
  (qpg _) (qfr (y:=((n%4294967296*4294967296:Nat):Int)) (by rw[hn,hm];simp) (by omega) (by omega)) (qpg _) (qmO (by omega))
 rw[← hm,← hn] at r
 have f1:p3+m/4294967296+n/4294967296=ab/18446744073709551616:=by omega
 have f2:n%4294967296*4294967296+low%4294967296=ab%18446744073709551616:=by omega
 rw[f1,f2] at r
 exact r
abbrev qgo (x:Int):Value:=qhV (decide (x<0)) x.natAbs
theorem qfq (n:Int) (h:I64 n):Pure Try.prog 77 #[iV n] (.int .u64 (n.natAbs:Int)):=
 fun w=>(qdT n w h.1 h.2).mono fun _ _ ⟨h1,h2⟩=>⟨h1,Gr.of_eq h2⟩
theorem qaz {p:Prop} [Decidable p] (h:p):decide p=true:=by simp[h]
theorem qau {p:Prop} [Decidable p] (h:¬ p):decide p=false:=by simp[h]
theorem qc0 (a b:Int) (ha:I64 a) (hb:I64 b):Pure Try.prog 101 #[iV a,iV b] (qgo (a*b)):=by
 have ca:=qfq a ha
 have cb:=qfq b hb
 unfold I64 at ha hb
 have cp:=qjX a.natAbs b.natAbs (by omega) (by omega)
 unfold qgo
 rw[Int.natAbs_mul]
 by_cases sa:a<0<;>by_cases sb:b<0
 ·rw[qau (show ¬ a*b<0 by have:=Int.mul_pos_of_neg_of_neg sa sb;omega)]
  exact qhw ca cb cp (qaz sa) (qaz sb)
 ·by_cases nb:b=0
  ·subst nb
   rw[qau (by simp)]
   exact qhe ca cb cp (qaz sa) (qau sb) (by simp;omega) (by simp)
  ·rw[qaz (Int.mul_neg_of_neg_of_pos sa (by omega))]
   exact qhh ca cb cp (qaz sa) (qau sb) (by simp;omega) (by simpa using nb)
 ·by_cases na:a=0
  ·subst na
   rw[qau (by simp)]
   exact qhR ca cb cp (qau sa) (qaz sb) (by simp)
  ·rw[qaz (Int.mul_neg_of_pos_of_neg (by omega) sb)]
   exact qhz ca cb cp (qau sa) (qaz sb) (by simpa using na) (by simp;omega)
 ·rw[qau (show ¬ a*b<0 by have:=Int.mul_nonneg (show 0≤a by omega) (show 0≤b by omega);omega)]
  exact qho ca cb cp (qau sa) (qau sb)
theorem qjR (x:Int):Pure Try.prog 99 #[qgo x] (iV x.sign):=by
 unfold qgo
 obtain⟨A,hA⟩:∃ A,A=x.natAbs:=⟨_,rfl⟩
 rw[← hA]
 by_cases h0:x=0
 ·subst h0
  subst hA
  exact qos (by simp) (by simp)
 ·by_cases hs:x<0
  ·rw[qaz hs,Int.sign_eq_neg_one_of_neg hs]
   by_cases hh:A/18446744073709551616=0
   ·exact qkg (by simp[hh]) (by simp;omega)
   ·exact qkW (by simp;omega)
  ·rw[qau hs,Int.sign_eq_one_of_pos (by omega)]
   by_cases hh:A/18446744073709551616=0
   ·exact qk4 (by simp[hh]) (by simp;omega)
   ·exact qkt (by simp;omega)
def qft (A B:Nat):Int:=if A<B then -1 else if A=B then 0 else 1
theorem qe0 (s t:Bool) (A B:Nat):Pure Try.prog 107 #[qhV s A,qhV t B] (iV (qft A B)):=by
 by_cases hh:A/18446744073709551616=B/18446744073709551616
 ·by_cases hl:A%18446744073709551616=B%18446744073709551616
  ·have e:A=B:=by omega
   subst e
   rw[show qft A A=0 by simp[qft]]
   exact qly (by simp) (by simp)
  ·by_cases hlt:A%18446744073709551616<B%18446744073709551616
   ·rw[show qft A B = -1 by unfold qft;rw[if_pos (by omega)]]
    exact qlS (by simp[hh]) (by simp;omega) (by simp;omega)
   ·rw[show qft A B=1 by unfold qft;rw[if_neg (by omega),if_neg (by omega)]]
    exact qlx (by simp[hh]) (by simp;omega) (by simp;omega)
 ·by_cases hlt:A/18446744073709551616<B/18446744073709551616
  ·rw[show qft A B = -1 by unfold qft;rw[if_pos (by omega)]]
   exact qlk (by simp;omega) (by simp;omega)
  ·rw[show qft A B=1 by unfold qft;rw[if_neg (by omega),if_neg (by omega)]]
   exact qkQ (by simp;omega) (by simp;omega)
theorem qfM {x y:Nat} (h:x<y) (hy:y<18446744073709551616):Value.int .u64 (IntKind.u64.wrap ((x:Int)-(y:Int)))=.int .u64 ((18446744073709551616+x-y:Nat):Int):=by
 rw[IntKind.wrap_u64];congr 1;omega
theorem qc8 (s t:Bool) (A B:Nat) (hA:A<340282366920938463463374607431768211456) (h:B≤A):Pure Try.prog 108 #[qhV s A,qhV t B] (qhV false (A-B)):=by
 obtain⟨a1,ha1⟩:∃ x,x=A/18446744073709551616:=⟨_,rfl⟩
 obtain⟨a0,ha0⟩:∃ x,x=A%18446744073709551616:=⟨_,rfl⟩
 obtain⟨b1,hb1⟩:∃ x,x=B/18446744073709551616:=⟨_,rfl⟩
 obtain⟨b0,hb0⟩:∃ x,x=B%18446744073709551616:=⟨_,rfl⟩
 unfold qhV
 rw[← ha1,← ha0,← hb1,← hb0]
 have hs:Value.int .u64 (IntKind.u64.wrap ((a1:Int)-(b1:Int)))=.int .u64 ((a1-b1:Nat):Int):=qfr (by omega) (by omega) (by omega)
 by_cases hl:a0<b0
 ·rw[show (A-B)/18446744073709551616=a1-b1-1 by omega,show (A-B)%18446744073709551616=18446744073709551616+a0-b0 by omega]
  exact qqg hs (qfM hl (by omega)) (by simp;omega) (qfr (by omega) (by omega) (by omega))
 ·rw[show (A-B)/18446744073709551616=a1-b1 by omega,show (A-B)%18446744073709551616=a0-b0 by omega]
  exact qqf hs (qfr (by omega) (by omega) (by omega)) (by simp;omega)
theorem qfA {x y z:Nat} (h:x+y=z+18446744073709551616) (hz:z<18446744073709551616):Value.int .u64 (IntKind.u64.wrap ((x:Int)+(y:Int)))=.int .u64 (z:Int):=by
 rw[IntKind.wrap_u64,show ((x:Int)+(y:Int))%18446744073709551616=(z:Int) by omega]
theorem qp8 (s:Bool) (A B:Nat) (h:A+B<340282366920938463463374607431768211456):Pure Try.prog 100 #[qhV s A,qhV s B] (qhV s (A+B)):=by
 obtain⟨a1,ha1⟩:∃ x,x=A/18446744073709551616:=⟨_,rfl⟩
 obtain⟨a0,ha0⟩:∃ x,x=A%18446744073709551616:=⟨_,rfl⟩
 obtain⟨b1,hb1⟩:∃ x,x=B/18446744073709551616:=⟨_,rfl⟩
 obtain⟨b0,hb0⟩:∃ x,x=B%18446744073709551616:=⟨_,rfl⟩
 unfold qhV
 rw[← ha1,← ha0,← hb1,← hb0]
 have hh:Value.int .u64 (IntKind.u64.wrap ((a1:Int)+(b1:Int)))=.int .u64 ((a1+b1:Nat):Int):=qmO (by omega)
 by_cases hl:a0+b0<18446744073709551616
 ·have l1:=qmO hl
  rw[show (A+B)/18446744073709551616=a1+b1 by omega,show (A+B)%18446744073709551616=a0+b0 by omega]
  cases s
  ·exact qjD hh l1 (qau (by omega))
  ·exact qiJ hh l1 (qau (by omega))
 ·obtain⟨z,hz⟩:∃ z,a0+b0=z+18446744073709551616:=⟨a0+b0-18446744073709551616,by omega⟩
  have l1:=qfA hz (by omega)
  rw[show (A+B)/18446744073709551616=a1+b1+1 by omega,show (A+B)%18446744073709551616=z by omega]
  cases s
  ·exact qjA hh l1 (qaz (by omega)) (qfr (by omega) (by omega) (by omega))
  ·exact qic hh l1 (qaz (by omega)) (qfr (by omega) (by omega) (by omega))
theorem qju (x y:Int) (hx:x.natAbs<170141183460469231731687303715884105728) (hy:y.natAbs<170141183460469231731687303715884105728):Pure Try.prog 100 #[qgo x,qgo y] (qgo (x+y)):=by
 unfold qgo
 by_cases sx:x<0<;>by_cases sy:y<0
 ·rw[qaz sx,qaz sy,qaz (show x+y<0 by omega),show (x+y).natAbs=x.natAbs+y.natAbs by omega]
  exact qp8 true _ _ (by omega)
 ·rw[qaz sx,qau sy]
  have cl:=qe0 true false x.natAbs y.natAbs
  by_cases hc:y.natAbs≤x.natAbs
  ·have cm:=qc8 true false x.natAbs y.natAbs (by omega) hc
   rw[show (x+y).natAbs=x.natAbs-y.natAbs by omega]
   have hge:decide (qft x.natAbs y.natAbs≥0)=true:=by unfold qft;rw[if_neg (by omega)];split<;>decide
   obtain⟨D,hD⟩:∃ D,D=x.natAbs-y.natAbs:=⟨_,rfl⟩
   rw[← hD] at cm ⊢
   by_cases hd:D=0
   ·rw[qau (show ¬ x+y<0 by omega)]
    exact qiv cl hge cm (by simp[hd]) (by simp[hd])
   ·rw[qaz (show x+y<0 by omega)]
    by_cases hh:D/18446744073709551616=0
    ·exact qi3 cl hge cm (by simp[hh]) (by simp;omega)
    ·exact qjo cl hge cm (by simp;omega)
  ·have cm:=qc8 false true y.natAbs x.natAbs (by omega) (by omega)
   rw[show (x+y).natAbs=y.natAbs-x.natAbs by omega,qau (show ¬ x+y<0 by omega)]
   exact qlb cl (by unfold qft;rw[if_pos (by omega)];decide) cm
 ·rw[qau sx,qaz sy]
  have cl:=qe0 false true x.natAbs y.natAbs
  by_cases hc:y.natAbs≤x.natAbs
  ·have cm:=qc8 false true x.natAbs y.natAbs (by omega) hc
   rw[show (x+y).natAbs=x.natAbs-y.natAbs by omega,qau (show ¬ x+y<0 by omega)]
   exact qj2 cl (by unfold qft;rw[if_neg (by omega)];split<;>decide) cm
  ·have cm:=qc8 true false y.natAbs x.natAbs (by omega) (by omega)
   rw[show (x+y).natAbs=y.natAbs-x.natAbs by omega,qaz (show x+y<0 by omega)]
   exact qkk cl (by unfold qft;rw[if_pos (by omega)];decide) cm
 ·rw[qau sx,qau sy,qau (show ¬ x+y<0 by omega),show (x+y).natAbs=x.natAbs+y.natAbs by omega]
  exact qp8 false _ _ (by omega)
end Go.Proofs.Ytgbmdijodlfcaaa

namespace Go.Proofs.Ytgbmdijodlfcaaa
set_option maxRecDepth 100000
open Go.RowKit
theorem qk1 {pi pa pb qi qa qb n d u v x y s:Int} (v1:iV (IntKind.i64.wrap (pa-qa))=iV u) (c1:Pure Try.prog 101 #[iV u,iV d] (qgo x)) (v2:iV (IntKind.i64.wrap (pb-qb))=iV v) (c2:Pure Try.prog 101 #[iV v,iV n] (qgo y)) (c3:Pure Try.prog 100 #[qgo x,qgo y] (qgo s)) (c4:Pure Try.prog 99 #[qgo s] (iV s.sign)) :
 Pure Try.prog 92 #[qaa pi pa pb,qaa qi qa qb,qab n d] (iV s.sign):=
 qae (args:=[qaa pi pa pb,qaa qi qa qb,qab n d]) 200 [Re v1,Rf c1,Re v2,Rf c2,Rf c3,Rf c4]
  (Ai rfl (Ai v1 (Ai c1 (Ai v2 (Ai c2 (Ai c3 (Ai c4 tI))))))) (by kernel_rfl)
abbrev qoM (d:Int) (f:Int) (n:Int) (pa:Int) (pb:Int) (pi:Int) (qa:Int) (qb:Int) (qi:Int):Prop:=Pure Try.prog 92 #[qaa pi pa pb,qaa qi qa qb,qab n d] (iV f)
theorem qfD {pi pa pb qi qa qb n d f:Int} (c:qoM d f n pa pb pi qa qb qi) (z:(f !=0)=true) (g:decide (f>0)=true) :
 Pure Try.prog 85 #[qaa pi pa pb,qaa qi qa qb,qab n d] (.bool true):=
 qae (args:=[qaa pi pa pb,qaa qi qa qb,qab n d]) 200 [Rf c,.t true,.t true]
  (Ai rfl (Ai c (Ai z (Ai g tI)))) (by kernel_rfl)
theorem qi9 {pi pa pb qi qa qb n d f:Int} (c:qoM d f n pa pb pi qa qb qi) (z:(f !=0)=false) (bb:(pb !=qb)=true) (g:decide (pb>qb)=true) :
 Pure Try.prog 85 #[qaa pi pa pb,qaa qi qa qb,qab n d] (.bool true):=
 qae (args:=[qaa pi pa pb,qaa qi qa qb,qab n d]) 200 [Rf c,.t false,.t true,.t true]
  (Ai rfl (Ai c (Ai z (Ai bb (Ai g tI))))) (by kernel_rfl)
theorem qiB {pi pa pb qi qa qb n d f:Int} (c:qoM d f n pa pb pi qa qb qi) (z:(f !=0)=false) (bb:(pb !=qb)=false) (g:decide (pi<qi)=true) :
 Pure Try.prog 85 #[qaa pi pa pb,qaa qi qa qb,qab n d] (.bool true):=
 qae (args:=[qaa pi pa pb,qaa qi qa qb,qab n d]) 200 [Rf c,.t false,.t false,.t true]
  (Ai rfl (Ai c (Ai z (Ai bb (Ai g tI))))) (by kernel_rfl)
theorem qfZ {pi pa pb qi qa qb n d f:Int} (c:qoM d f n pa pb pi qa qb qi) (z:(f !=0)=true) (g:decide (f>0)=false) :
 Pure Try.prog 85 #[qaa pi pa pb,qaa qi qa qb,qab n d] (.bool false):=
 qae (args:=[qaa pi pa pb,qaa qi qa qb,qab n d]) 200 [Rf c,.t true,.t false]
  (Ai rfl (Ai c (Ai z (Ai g tI)))) (by kernel_rfl)
theorem qjl {pi pa pb qi qa qb n d f:Int} (c:qoM d f n pa pb pi qa qb qi) (z:(f !=0)=false) (bb:(pb !=qb)=true) (g:decide (pb>qb)=false) :
 Pure Try.prog 85 #[qaa pi pa pb,qaa qi qa qb,qab n d] (.bool false):=
 qae (args:=[qaa pi pa pb,qaa qi qa qb,qab n d]) 200 [Rf c,.t false,.t true,.t false]
  (Ai rfl (Ai c (Ai z (Ai bb (Ai g tI))))) (by kernel_rfl)
theorem qio {pi pa pb qi qa qb n d f:Int} (c:qoM d f n pa pb pi qa qb qi) (z:(f !=0)=false) (bb:(pb !=qb)=false) (g:decide (pi<qi)=false) :
 Pure Try.prog 85 #[qaa pi pa pb,qaa qi qa qb,qab n d] (.bool false):=
 qae (args:=[qaa pi pa pb,qaa qi qa qb,qab n d]) 200 [Rf c,.t false,.t false,.t false]
  (Ai rfl (Ai c (Ai z (Ai bb (Ai g tI))))) (by kernel_rfl)
end Go.Proofs.Ytgbmdijodlfcaaa

namespace Go.Proofs.Ytgbmdijodlfcaaa
set_option maxRecDepth 100000
open Go.RowKit
theorem qlo {pi pa pb qi qa qb n d:Int} (hn:I64 n) (hd:I64 d) (hp:okP pi pa pb=true) (hq:okP qi qa qb=true) :
 Pure Try.prog 85 #[qaa pi pa pb,qaa qi qa qb,qab n d] (.bool (qbO (pa*d+pb*n) (qa*d+qb*n) pb qb pi qi)):=by
 have hp':=qbq.1 hp
 have hq':=qbq.1 hq
 have c1:=qc0 (pa-qa) d (by unfold I64;omega) hd
 have c2:=qc0 (pb-qb) n (by unfold I64;omega) hn
 have b1:((pa-qa)*d).natAbs≤2097152*9223372036854775808:=by rw[Int.natAbs_mul];unfold I64 at hd;exact Nat.mul_le_mul (by omega) (by omega)
 have b2:((pb-qb)*n).natAbs≤2097152*9223372036854775808:=by rw[Int.natAbs_mul];unfold I64 at hn;exact Nat.mul_le_mul (by omega) (by omega)
 have c3:=qju ((pa-qa)*d) ((pb-qb)*n) (by omega) (by omega)
 have e:(pa-qa)*d+(pb-qb)*n=pa*d+pb*n-(qa*d+qb*n):=by rw[Int.sub_mul,Int.sub_mul];omega
 rw[e] at c3
 have c4:=qjR (pa*d+pb*n-(qa*d+qb*n))
 have far:=qk1 (pi:=pi) (pa:=pa) (pb:=pb) (qi:=qi) (qa:=qa) (qb:=qb) (by rw[qaY (by omega) (by omega)]) c1 (by rw[qaY (by omega) (by omega)]) c2 c3 c4
 generalize pa*d+pb*n=P at *
 generalize qa*d+qb*n=Q at *
 rcases Int.lt_trichotomy (P-Q) 0 with h | h | h
 ·rw[Int.sign_eq_neg_one_of_neg h] at far
  rw[qck (by omega)]
  exact qfZ far (by decide) (by decide)
 ·rw[h] at far
  by_cases hb:pb=qb
  ·by_cases hi:pi<qi
   ·rw[qcf (by omega)];exact qiB far (by decide) (by simp[hb]) (dt hi)
   ·rw[qck (by omega)];exact qio far (by decide) (by simp[hb]) (df hi)
  ·by_cases hg:pb>qb
   ·rw[qcf (by omega)];exact qi9 far (by decide) (by simp[hb]) (dt hg)
   ·rw[qck (by omega)];exact qjl far (by decide) (by simp[hb]) (df hg)
 ·rw[Int.sign_eq_one_of_pos h] at far
  rw[qcf (by omega)]
  exact qfD far (by decide) (by decide)
end Go.Proofs.Ytgbmdijodlfcaaa
