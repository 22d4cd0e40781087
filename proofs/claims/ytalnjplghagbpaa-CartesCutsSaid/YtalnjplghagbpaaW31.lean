/-
  Joined: Ee, Ef, Ei. Conditions: none.
-/
import Derived.Test.YtalnjplghagbpaaW30
import Derived.Test.YtalnjplghagbpaaW29
import Derived.Test.YtalnjplghagbpaaW27
import Derived.Test.YtalnjplghagbpaaW19
import Derived.Test.YtalnjplghagbpaaW24
import Derived.Test.YtalnjplghagbpaaW22
import Derived.Test.YtalnjplghagbpaaW23
namespace Go.Proofs.Ytalnjplghagbpaa
set_option maxRecDepth 100000
open Go.RowKit
theorem qm7 {β:Bl}:∀ vs:List Value,S1.isl β (vs.map fun v=>.one (.pv v)) vs
 | []=>trivial
 | _::r=>⟨rfl,qm7 r⟩
theorem qiD {P:Program} {f:FuncId} {k m:Nat} {args:List SV} {pre post:List (Nat×Nat×SV)} {vs:List Value} (h:FnL P f k args pre (.pv (.tuple vs.toArray)) m post):FnL P f k args pre (.tu (vs.map fun v=>.one (.pv v))) m post:=by
 intro w β us H hd hi
 refine (h w β us H hd hi).mono fun e w' ⟨v,β',he,hle,hx,hh,hd'⟩=>⟨v,β',he,hle,⟨vs,qm7 vs,hx⟩,hh,hd'⟩
abbrev qre (b:Nat):Nat×Nat×SV:=(b,0,.row 26 3 0 [])
section
variable {P:Program} {f:FuncId} {k:Nat} {args:List SV} {pre:List (Nat×Nat×SV)} {e:Int}
theorem qbz (h:FnL P f k args pre (.pv (.tuple #[.agg #[iV 0,.slice none 0 0],iV e])) 0 []):FnL P f k args pre (.tu [.ag [.pv (iV 0),.ls k 0],.one (.pv (iV e))]) 1 [qre k]:=
 qeh 26 3 (qiD (vs:=[.agg #[iV 0,.slice none 0 0],iV e]) h) (.tu (.cons (.un (vs:=[iV 0,.slice none 0 0]) (.cons (.same _) (.cons .nil .nil))) (.cons (.one (.same _)) .nil)))
theorem qqT (h:FnL P f k args pre (.pv (.tuple #[.agg #[iV 0,.slice none 0 0],.agg #[iV 0,.slice none 0 0],iV e])) 0 []):FnL P f k args pre (.tu [.ag [.pv (iV 0),.ls k 0],.ag [.pv (iV 0),.ls (k+1) 0],.one (.pv (iV e))]) 2 [qre (k+1),qre k]:=by
 have h1:=qeh 26 3 (qiD (vs:=[.agg #[iV 0,.slice none 0 0],.agg #[iV 0,.slice none 0 0],iV e]) h) (x':=.tu [.ag [.pv (iV 0),.ls k 0],.one (.pv (.agg #[iV 0,.slice none 0 0])),.one (.pv (iV e))])
  (.tu (.cons (.un (vs:=[iV 0,.slice none 0 0]) (.cons (.same _) (.cons .nil .nil))) (.cons (.one (.same _)) (.cons (.one (.same _)) .nil))))
 exact qeh 26 3 h1 (.tu (.cons (.ag (.cons (.same _) (.cons (.same _) .nil))) (.cons (.un (vs:=[iV 0,.slice none 0 0]) (.cons (.same _) (.cons .nil .nil))) (.cons (.one (.same _)) .nil))))
end
section
variable {rt:Int} {l:List Pt}
def qlu (l:List Pt) (T:Sh Nat):Prop:=(∀ k∈T.list,0≤idN l k∧idN l k≤65535)∧(T.list.map (idN l)).Pairwise (· < ·)
theorem qt5 (hl:l.length≤999999) {T:Sh Nat} (hT:∀ k∈T.list,k<l.length) (hn:T.list.length≤l.length):Fn 63 2 [.ls 0 l.length,.ls 1 (wL T).length] [(0,0,qaa l),(1,0,zrI (wL T))] (.pv (.bool (pT (qlu l T)))) 0 []:=by
 have hg:=qdw T
 let last:Nat→Int:=fun j=>if j=0 then -1 else idN l (T.list.getD (j-1) 0)
 have at2:∀ j,j<T.list.length→∃ k p,T.list[j]?=some k∧l[k]?=some p∧k<l.length∧last (j+1)=p.id:=fun j hj=>by
  have hk:=List.getElem?_eq_getElem hj
  have hkl:=hT _ (List.mem_of_getElem? hk)
  refine⟨_,_,hk,qas hkl,hkl,?_⟩
  show (if j+1=0 then _ else idN l (T.list.getD (j+1-1) 0))=_
  rw[if_neg (by omega),Nat.add_sub_cancel,List.getD_eq_getElem?_getD,hk]
  exact qaQ (qas hkl)
 have step:∀ m,m≤T.list.length→(∀ j,j<m→∀ k,T.list[j]?=some k→last j<idN l k∧idN l k≤65535)→∀ {e:Exit} {tm2:TmL} {hp2:HpL},
  Rl 2 2 63 0 29 2 [(0,.ls 0 l.length),(5,.pv (iV (last m))),(9,.ls 1 (wL T).length),(10,.pv (iV ((wL T).length:Int))),(11,.pv (iV (m:Int)))] [(0,0,qaa l),(1,0,zrI (wL T))] e tm2 hp2→
  Rl 2 2 63 0 29 2 [(0,.ls 0 l.length),(5,.pv (iV (-1))),(9,.ls 1 (wL T).length),(10,.pv (iV ((wL T).length:Int))),(11,.pv (iV ((0:Nat):Int)))] [(0,0,qaa l),(1,0,zrI (wL T))] e tm2 hp2:=by
  intro m hm hgood e tm2 hp2 r
  refine RunsL.roundsZ (fun j=>[(0,.ls 0 l.length),(5,.pv (iV (last j))),(9,.ls 1 (wL T).length),(10,.pv (iV ((wL T).length:Int))),(11,.pv (iV (j:Int)))]) (fun _=>[(0,0,qaa l),(1,0,zrI (wL T))]) (N:=m) m 0 (Nat.zero_add _) (fun j _ hj r=>?_) r
  obtain⟨k,p,hk,hp,hkl,hla⟩:=at2 j (by omega)
  obtain⟨g1,g2⟩:=hgood j hj k hk
  rw[qaQ hp] at g1 g2
  rw[hla] at r
  exact qlD (hlt:=dt (by omega)) (hin:=⟨by omega,by omega⟩) (hg:=qfI hk) (hzi:=⟨by omega,by omega⟩) (hp:=hp) (h1:=df (by omega)) (h2:=df (by omega)) (hs:=qau (by omega)) r
 rcases qaN (fun j=>∀ k,T.list[j]?=some k→last j<idN l k∧idN l k≤65535) T.list.length with h | ⟨j,hj,hb,hf⟩
 ·have hup:(T.list.map (idN l)).Pairwise (· < ·):=qfR fun j p q hp hq=>by
   have h2:=(h (j+1) (qai hq) q hq).1
   obtain⟨k,r,hk,hr,_,hla⟩:=at2 j (qai hp)
   rw[hp] at hk
   cases hk
   rw[hla,← qaQ hr] at h2
   exact h2
  have hrng:∀ k∈T.list,0≤idN l k∧idN l k≤65535:=fun k hk=>by
   obtain⟨j,hj⟩:=List.getElem?_of_mem hk
   refine⟨?_,(h j (qai hj) k hj).2⟩
   have h0:∀ q,T.list[0]?=some q→0≤idN l q:=fun q hq=>by
    have:=(h 0 (qai hq) q hq).1
    have e:last 0 = -1:=if_pos rfl
    omega
   rcases Nat.eq_zero_or_pos j with e | e
   ·subst e;exact h0 k hj
   ·have hjl:=qai hj
    obtain⟨q,hq⟩:∃ q,T.list[0]?=some q:=⟨_,List.getElem?_eq_getElem (by omega)⟩
    have h1:=List.pairwise_iff_getElem.1 hup 0 j (by rw[List.length_map];omega) (by rw[List.length_map];omega) e
    rw[List.getElem_map,List.getElem_map] at h1
    have a0:=h0 q hq
    have e1:T.list[0]=q:=by rw[List.getElem?_eq_getElem (by omega)] at hq;exact Option.some.inj hq
    have e2:T.list[j]=k:=by rw[List.getElem?_eq_getElem (by omega)] at hj;exact Option.some.inj hj
    rw[e1,e2] at h1
    omega
  rw[qeH (p:=qlu l T) ⟨hrng,hup⟩]
  exact qos (r0:=step T.list.length (Nat.le_refl _) h (qoO (hlt:=df (by omega))))
 ·simp only[Classical.not_forall] at hb
  obtain⟨k,hk,hb⟩:=hb
  rw[qft (p:=qlu l T) fun ⟨h1,h2⟩=>hb (by
   refine⟨?_,(h1 k (List.mem_of_getElem? hk)).2⟩
   rcases Nat.eq_zero_or_pos j with e | e
   ·subst e
    have e:last 0 = -1:=if_pos rfl
    have:=(h1 k (List.mem_of_getElem? hk)).1
    omega
   ·obtain⟨q,r,hq,hr,_,hla⟩:=at2 (j-1) (by omega)
    rw[show j-1+1=j by omega] at hla
    rw[hla,← qaQ hr]
    exact qjZ h2 hq (by rw[show j-1+1=j by omega];exact hk))]
  obtain⟨k',p,hk',hp,hkl,_⟩:=at2 j hj
  rw[hk] at hk'
  cases hk'
  rw[qaQ hp] at hb
  refine qpN (r0:=step j (Nat.le_of_lt hj) hf ?_)
  by_cases c:p.id≤last j
  ·exact qq3 (hlt:=dt (by omega)) (hin:=⟨by omega,by omega⟩) (hg:=qfI hk) (hzi:=⟨by omega,by omega⟩) (hp:=hp) (h1:=dt c)
  ·exact qqn (hlt:=dt (by omega)) (hin:=⟨by omega,by omega⟩) (hg:=qfI hk) (hzi:=⟨by omega,by omega⟩) (hp:=hp) (h1:=df c) (h2:=dt (by omega))
theorem qle {T:Sh Nat} (h:Fits ⟨rt,l⟩ T):Whole ⟨rt,l⟩ T:=⟨h.rep,h.nodup,h.all⟩
theorem qkg {T:Sh Nat} (h:Whole ⟨rt,l⟩ T) {k:Nat} (hk:k<l.length):k∈T.list:=by
 apply Classical.byContradiction
 intro hn
 have h2:T.list.length=l.length:=h.2.2
 have:=(List.nodup_cons.2 ⟨hn,h.2.1⟩).length_le_of_subset (l₂:=List.range l.length) fun v hv=>by
  rcases List.mem_cons.1 hv with rfl | hv
  ·exact List.mem_range.2 hk
  ·exact List.mem_range.2 (h.1.lt v hv)
 rw[List.length_cons,List.length_range,h2] at this
 omega
theorem qsc (hl:l.length≤999999):Fn 17 1 [trS 0 rt l] [(0,0,qaa l)] (.pv (iV (chE ⟨rt,l⟩))) 0 []:=by
 by_cases hm:64<l.length
 ·rw[qex (x:=⟨rt,l⟩) hm]
  exact qkR (hs:=qgr (h:=dt (by omega)))
 have hs:=qfc (l:=l) (h:=df (by omega))
 obtain⟨w,g,hw,⟨rfl,T,hT,rfl⟩ | ⟨rfl,hno⟩⟩:=qtC (rt:=rt) hl
 ·have hTl:T.list.length=l.length:=hT.2.2
  have hi:=qt5 hl (fun k hk=>hT.1.lt k hk) (Nat.le_of_eq hTl)
  by_cases hu:qlu l T
  ·rw[qeH hu] at hi
   rw[qkl (x:=⟨rt,l⟩) ⟨by show l.length≤64;omega,fun p hp=>by
    obtain⟨k,hk⟩:=List.getElem?_of_mem hp
    have:=hu.1 k (qkg hT (qai hk))
    rw[qaQ hk] at this
    exact this,T,hT.1,hT.2.2,hu.2⟩]
   exact qp4 (hs:=hs) (hw:=hw) (hfi:=hi)
  ·rw[qft hu] at hi
   rw[qgX (x:=⟨rt,l⟩) hm fun ⟨_,hr,T',hT'⟩=>hu (by
    have e:=hT.1.uniq hT'.rep
    subst e
    refine⟨fun k hk=>?_,hT'.up⟩
    have hp:=qas (hT.1.lt k hk)
    have:=hr _ (List.mem_of_getElem? hp)
    rw[qaQ hp]
    exact this)]
   exact qow (hs:=hs) (hw:=hw) (hfi:=hi)
 ·rw[qgX (x:=⟨rt,l⟩) hm fun ⟨_,_,T,hT⟩=>hno T (qle hT)]
  exact qkP (hs:=hs) (hw:=hw)
theorem VT.of (h:chE ⟨rt,l⟩=0):∃ T,Fits ⟨rt,l⟩ T:=(qiE.1 h).tree
theorem VT.le (h:chE ⟨rt,l⟩=0):l.length≤64:=(qiE.1 h).len
theorem ne0 {e:Int} (h:e≠0):(e !=0)=true:=by simpa using h
theorem eq0 {e:Int} (h:e=0):(e !=0)=false:=by simp[h]
end
end Go.Proofs.Ytalnjplghagbpaa

namespace Go.Proofs.Ytalnjplghagbpaa
set_option maxRecDepth 100000
open Go.RowKit
section
variable {s d:List Pt} {tn td:Int}
abbrev bX (d:List Pt) (tn td:Int) (i j:Nat):Bool:=ld tn td (ndT d i) (ndT d j)
def RX (d:List Pt) (tn td:Int) (i j:Nat):Prop:=bX d tn td i j=true
theorem RX.asym (i j:Nat) (h:RX d tn td i j):¬ RX d tn td j i:=fun k=>by
 unfold RX bX at h k
 rw[qeE h] at k;cases k
theorem RX.trans {i j k:Nat} (h:RX d tn td i j) (h':RX d tn td j k):RX d tn td i k:=qee h h'
theorem qlb (htn:I64 tn) (htd:I64 td) (ht:okB tn td=true) (hd:Val d) {i j:Nat} (hi:i<d.length) (hj:j<d.length) (h:i≠j) :
 Pure Try.prog 79 #[ptV (ndT d i),ptV (ndT d j),qad tn td] (.tuple #[.bool (bX d tn td i j),iV 0]):=
 qmr htn htd (hd.ok _ (List.mem_of_getElem? (qas hi))) (hd.ok _ (List.mem_of_getElem? (qas hj))) ht (qsW hd hi hj (Ne.symm h))
theorem qmI (htn:I64 tn) (htd:I64 td) {p q:Pt} (hp:qfw p=true) (hq:qfw q=true):Pure Try.prog 111 #[ptV p,ptV q,qad tn td] (.bool (ld tn td p q)):=qkU htn htd hp hq
abbrev PJn (d:List Pt) (tn td:Int) (N:Nat) (z v:Int) (n:List Pt) (r:Int) (n':List Pt):Prop:=
 FnO Try.prog 62 1 2 [.ag [.ls 1 N,.ls 0 d.length,.pv (iV tn),.pv (iV td)],.pv (iV z),.pv (iV v)] [(0,0,qan d),(1,0,.row 26 3 N (qah n))]
  (.pv (iV r)) 0 [(1,0,.row 26 3 N (qah n'))]
abbrev RJn (s:List Pt) (tn td:Int) (N:Nat) (rt z v:Int) (n:List Pt) (r:Int) (n':List Pt):Prop:=
 FnO Try.prog 102 1 2 [.ag [.pv (iV rt),.ls 1 N],qax 0 s,.pv (qad tn td),.pv (iV z),.pv (iV v)] [(0,0,qan s),(1,0,.row 26 3 N (qah n))]
  (.pv (iV r)) 0 [(1,0,.row 26 3 N (qah n'))]
structure JnI (d:List Pt) (N:Nat) (A B:Sh Nat) (n:List Pt):Prop where
 len:n.length=N
 dl:d.length=N
 ra:Rep n (rtI A) A
 rb:Rep n (rtI B) B
 nd:(A.list++B.list).Nodup
theorem qgH {N:Nat} {a r a' r':Sh Nat} {x y:Nat} {n:List Pt} (h:JnI d N (.node a x r) (.node a' y r') n):JnI d N r (.node a' y r') n:=by
 obtain⟨_,p,hp,a1,a2⟩:=h.ra
 obtain⟨nA,nB,nAB⟩:=List.nodup_append.1 h.nd
 obtain⟨_,_,_,o4⟩:=Sh.mid_out nA
 exact⟨h.len,h.dl,by rw[← a2.rt];exact a2,h.rb,List.nodup_append.2 ⟨o4,nB,fun k hk m hm e=>nAB k (List.mem_append_right _ (List.mem_cons_of_mem _ hk)) m hm e⟩⟩
theorem qjq {N:Nat} {a r a' r':Sh Nat} {x y:Nat} {n:List Pt} (h:JnI d N (.node a x r) (.node a' y r') n):JnI d N (.node a x r) a' n:=by
 obtain⟨_,p,hp,a1,a2⟩:=h.rb
 obtain⟨nA,nB,nAB⟩:=List.nodup_append.1 h.nd
 obtain⟨_,_,o3,_⟩:=Sh.mid_out nB
 exact⟨h.len,h.dl,h.ra,by rw[← a1.rt];exact a1,List.nodup_append.2 ⟨nA,o3,fun k hk m hm e=>nAB k hk m (List.mem_append_left _ hm) e⟩⟩
theorem qct {n:List Pt} {k:Nat} {p:Pt} (h:n[k]?=some p):ndT n k=p:=by
 have:=qas (qai h)
 rw[h] at this
 exact (Option.some.inj this).symm
theorem qn8 (htn:I64 tn) (htd:I64 td) (ht:okB tn td=true) (hd:Val d) {N:Nat}:∀ (A B:Sh Nat) (n:List Pt),JnI d N A B n→PJn d tn td N (rtI A) (rtI B) n (rtI (Sh.mrg (bX d tn td) A B)) (jnN (bX d tn td) A B n)
 | .nil,B,n,h=>by rw[jnN,Sh.mrg];exact qtA (h0:=rfl)
 | .node a x r,.nil,n,h=>by rw[jnN,Sh.mrg];exact qst (h0:=beq_eq_false_iff_ne.2 (by show (x:Int)≠-1;omega)) (h1:=rfl)
 | .node a x r,.node a' y r',n,h=>by
  obtain⟨_,p,hp,a1,a2⟩:=h.ra
  obtain⟨_,q,hq,b1,b2⟩:=h.rb
  have hx:=qai hp
  have hy:=qai hq
  have hl:=h.len
  have hdl:=h.dl
  have hxy:x≠y:=fun e=>(List.nodup_append.1 h.nd).2.2 x (List.mem_append_right _ List.mem_cons_self) y (List.mem_append_right _ List.mem_cons_self) e
  have c0:((x:Int)==(-1))=false:=beq_eq_false_iff_ne.2 (by omega)
  have c1:((y:Int)==(-1))=false:=beq_eq_false_iff_ne.2 (by omega)
  have hw:=qlb htn htd ht hd (i:=x) (j:=y) (by omega) (by omega) hxy
  rw[jnN,Sh.mrg]
  by_cases hc:bX d tn td x y=true
  ·rw[if_pos hc,if_pos hc]
   rw[hc] at hw
   have ih:=qn8 htn htd ht hd r (.node a' y r') n (qgH h)
   have on:=qbJ (bX d tn td) r (.node a' y r') n
   rw[← a2.rt] at ih
   exact qtd (z:=(x:Int)) (v:=(y:Int)) (h0:=c0) (h1:=c1) (hin:=⟨by omega,by omega⟩) (hjn:=⟨by omega,by omega⟩) (hpn:=⟨by omega,by omega⟩) (hqn:=⟨by omega,by omega⟩) (hp:=qas (by omega)) (hq:=qas (by omega)) (hw:=hw) (hk:=hp) (hl:=ih) (hs:=qas (by rw[on.len];omega))
  ·rw[if_neg hc,if_neg hc]
   have hc':bX d tn td x y=false:=by simpa using hc
   rw[hc'] at hw
   have ih:=qn8 htn htd ht hd (.node a x r) a' n (qjq h)
   have on:=qbJ (bX d tn td) (.node a x r) a' n
   rw[← b1.rt] at ih
   exact qsp (z:=(x:Int)) (v:=(y:Int)) (h0:=c0) (h1:=c1) (hin:=⟨by omega,by omega⟩) (hjn:=⟨by omega,by omega⟩) (hpn:=⟨by omega,by omega⟩) (hqn:=⟨by omega,by omega⟩) (hp:=qas (by omega)) (hq:=qas (by omega)) (hw:=hw) (hk:=hq) (hl:=ih) (hs:=qas (by rw[on.len];omega))
termination_by A B=>A.size+B.size
decreasing_by all_goals simp[Sh.size];omega
def qpO (s d n:List Pt):Prop:=∀ k,k<n.length→idN n k=(ndT d k).id∧ndT d k∈s
theorem qoK {rt:Int} (htn:I64 tn) (htd:I64 td) (hs:Val s) {N:Nat}:∀ (A B:Sh Nat) (n:List Pt),JnI d N A B n→qpO s d n→RJn s tn td N rt (rtI A) (rtI B) n (rtI (Sh.mrg (bX d tn td) A B)) (jnN (bX d tn td) A B n)
 | .nil,B,n,h,hp=>by rw[jnN,Sh.mrg];exact qs5 (h0:=by decide)
 | .node a x r,.nil,n,h,hp=>by rw[jnN,Sh.mrg];exact qth (h0:=df (by show ¬ (x:Int)<0;omega)) (h1:=by decide)
 | .node a x r,.node a' y r',n,h,hpi=>by
  obtain⟨_,p,hp,a1,a2⟩:=h.ra
  obtain⟨_,q,hq,b1,b2⟩:=h.rb
  have hx:=qai hp
  have hy:=qai hq
  have hl:=h.len
  have hdl:=h.dl
  have c0:decide ((x:Int)<0)=false:=df (by omega)
  have c1:decide ((y:Int)<0)=false:=df (by omega)
  obtain⟨i1,m1⟩:=hpi x hx
  obtain⟨i2,m2⟩:=hpi y hy
  rw[qaQ hp] at i1
  rw[qaQ hq] at i2
  obtain⟨u,hu⟩:=List.getElem?_of_mem m1
  obtain⟨v,hv⟩:=List.getElem?_of_mem m2
  have hul:=qai hu
  have hvl:=qai hv
  have ha:=qi0 hs hu i1.symm
  have hb:=qi0 hs hv i2.symm
  have hw:=qmI htn htd (hs.ok _ m1) (hs.ok _ m2)
  rw[jnN,Sh.mrg]
  by_cases hc:bX d tn td x y=true
  ·rw[if_pos hc,if_pos hc]
   rw[show ld tn td (ndT d x) (ndT d y)=true from hc] at hw
   have ih:=qoK (rt:=rt) htn htd hs r (.node a' y r') n (qgH h) hpi
   have on:=qbJ (bX d tn td) r (.node a' y r') n
   rw[← a2.rt] at ih
   exact qtg (z:=(x:Int)) (v:=(y:Int)) (i0:=(u:Int)) (k0:=(v:Int)) (h0:=c0) (h1:=c1) (hk:=hp) (hin:=⟨by omega,by omega⟩) (hm:=hq) (hjn:=⟨by omega,by omega⟩) (ha:=ha) (hp:=hu) (hpn:=⟨by omega,by omega⟩) (hb:=hb) (hq:=hv) (hqn:=⟨by omega,by omega⟩) (hw:=hw) (hl:=ih) (hs:=qas (by rw[on.len];omega))
  ·rw[if_neg hc,if_neg hc]
   have hc':bX d tn td x y=false:=by simpa using hc
   rw[show ld tn td (ndT d x) (ndT d y)=false from hc'] at hw
   have ih:=qoK (rt:=rt) htn htd hs (.node a x r) a' n (qjq h) hpi
   have on:=qbJ (bX d tn td) (.node a x r) a' n
   rw[← b1.rt] at ih
   exact qsY (z:=(x:Int)) (v:=(y:Int)) (i0:=(u:Int)) (k0:=(v:Int)) (h0:=c0) (h1:=c1) (hk:=hp) (hin:=⟨by omega,by omega⟩) (hm:=hq) (hjn:=⟨by omega,by omega⟩) (ha:=ha) (hp:=hu) (hpn:=⟨by omega,by omega⟩) (hb:=hb) (hq:=hv) (hqn:=⟨by omega,by omega⟩) (hw:=hw) (hl:=ih) (hs:=qas (by rw[on.len];omega))
termination_by A B=>A.size+B.size
decreasing_by all_goals simp[Sh.size];omega
structure OfSh (s:List Pt) (tn td:Int) (T:Sh Nat):Prop where
 ho:T.HO (RX s tn td)
 list:T.list=List.range s.length
theorem OfSh.uniq {T T':Sh Nat} (h:OfSh s tn td T) (h':OfSh s tn td T'):T=T':=Sh.HO.uniq RX.asym h.ho h'.ho (h.list.trans h'.list.symm) (by rw[h.list];exact List.nodup_range)
end
end Go.Proofs.Ytalnjplghagbpaa

namespace Go.Proofs.Ytalnjplghagbpaa
set_option maxRecDepth 100000
open Go.RowKit
section
variable {rt z:Int} {l:List Pt} {T:Sh Nat}
end
section
variable {rt x z tn td:Int} {s l m:List Pt}
theorem qp9 (hl:l.length≤999999):Fn 27 1 [trS 0 rt l] [(0,0,qaa l)] (trS 1 rt l) 1 [(1,0,qaa l)]:=utw (n1:=by omega)
theorem qmV:(70<l.length∧Fn 26 1 [trS 0 rt l] [(0,0,qaa l)] (.pv (.bool true)) 0 [])∨(l.length≤70∧Fn 26 1 [trS 0 rt l] [(0,0,qaa l)] (.pv (.bool false)) 0 []):=by
 by_cases h:70<l.length
 ·exact Or.inl ⟨h,qmO (h:=dt (by omega))⟩
 ·exact Or.inr ⟨by omega,qjl (h:=df (by omega))⟩
end
end Go.Proofs.Ytalnjplghagbpaa
