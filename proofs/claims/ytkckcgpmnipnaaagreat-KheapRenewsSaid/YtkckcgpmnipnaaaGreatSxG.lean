/-
  A region that draws its order, over blocks by name: the proof that one walk of the text's order serves every order. Conditions: none.
-/
import Derived.Test.YtkckcgpmnipnaaaGreatSxF
namespace Go.Proofs.YtkckcgpmnipnaaaGreat
set_option maxRecDepth 100000
open Go.RowKit
theorem qat {st s:St} {dst:Option Tmp} {x:SV} (h:qb7 st dst x=some s) :
 s.n=st.n∧s.hp=st.hp∧s.nb=st.nb∧(∀ d,dst≠some d→qaZ s.tm d=qaZ st.tm d)∧∀ d,dst=some d→qaZ s.tm d=x∧d<st.n:=by
 unfold qb7 at h;split at h
 ·simp only[Option.some.injEq] at h;subst h;exact⟨rfl,rfl,rfl,fun _ _=>rfl,fun _ hd=>by cases hd⟩
 ·rename_i e;cases hb:Nat.ble (e+1) st.n
  ·rw[hb] at h;cases h
  ·rw[hb,cond_true] at h;simp only[Option.some.injEq] at h;subst h;refine⟨rfl,rfl,rfl,fun d hd=>by rw[qbC,if_neg (fun e'=>hd (by rw[e']))],fun d hd=>?_⟩;cases hd;exact⟨by rw[qbC,if_pos rfl],Nat.le_of_ble_eq_true hb⟩
inductive HeadIs (P:Program) (call:qbi) (lo nb0:Nat) (ops:Array Oper) (o:Oper) (st:St) (full:List (Nat×Nat×SV)) (s:St) (al:Option Eff) (q:List Prop):Prop where
 | no (hw:qbE ops st o=some false) (hp:qb7 st o.dst (.pv undef)=some s) (ha:al=none)
 | sto (b i:Nat) (cells:List SV) (hw:qbE ops st o=some true) (ho:qEJ P st o=some (b,i,cells)) (hlo:lo≤b) (hh:qhI full b i cells.length=true) (hp:qb7 st o.dst (.pv undef)=some s) (ha:al=some (.sto b i cells))
 | val (x:SV) (hw:qbE ops st o=some true) (ho:opS P (qaV o.op st).2 o (qaV o.op st).1=some (.val x,q)) (hp:qb7 (qaV o.op st).2 o.dst x=some s) (ha:al=none)
 | new (t:TypeId) (cells:List SV) (len:Option Nat) (hw:qbE ops st o=some true) (ho:opS P (qaV o.op st).2 o (qaV o.op st).1=some (.new t cells len,q))
  (hp:qb7 { (qaV o.op st).2 with nb:=(qaV o.op st).2.nb+1 } o.dst (qtO (qaV o.op st).2.nb len)=some s) (ha:al=some (.new cells))
 | call (f:FuncId) (args:List SV) (v:Value) (s1:St) (q1 q2:List Prop) (hw:qbE ops st o=some true) (ho:opS P (qaV o.op st).2 o (qaV o.op st).1=some (.call f args,q1)) (how:args.all (SV.own nb0)=true)
  (hc:call nb0 f args (qaV o.op st).1 { (qaV o.op st).2 with nb:=nb0 }=some (.pv v,s1,q2)) (hp:qb7 { (qaV o.op st).2 with ch:=s1.ch } o.dst (.pv v)=some s) (ha:al=none) (hq:q=q1++q2)
 | many (f g:FuncId) (args:List SV) (caps:List S0) (s1:St) (q1 q2:List Prop) (hw:qbE ops st o=some true) (ho:opS P (qaV o.op st).2 o (qaV o.op st).1=some (.call f args,q1)) (how:args.all (SV.own nb0)=true)
  (hc:call st.nb f args (qaV o.op st).1 (qaV o.op st).2=some (.pc g caps,s1,q2)) (hle:st.nb≤s1.nb) (hcaps:caps.all (S0.inR st.nb s1.nb)=true) (hcells:s1.hp.all (fun e=>!(Nat.ble st.nb e.1&&Nat.ble (e.1+1) s1.nb)||e.2.2.inR st.nb s1.nb)=true)
  (hp:qb7 { (qaV o.op st).2 with ch:=s1.ch,nb:=s1.nb } o.dst (.pc g caps)=some s) (ha:al=some (.many (s1.nb-st.nb) s1.hp)) (hq:q=q1++q2)
 | get (b:Nat) (x:SV) (hw:qbE ops st o=some true) (ho:opS P { (qaV o.op st).2 with hp:=atB b full } o (qaV o.op st).1=some (.val x,q)) (hp:qb7 (qaV o.op st).2 o.dst x=some s) (ha:al=some (.get b))
theorem qgu {P:Program} {call:qbi} {lo nb0:Nat} {ops:Array Oper} {o:Oper} {st s:St} {full:List (Nat×Nat×SV)} {al:Option Eff} {q:List Prop} (h:qeo P call lo nb0 ops o st full=some (s,al,q)):HeadIs P call lo nb0 ops o st full s al q:=by
 unfold qeo at h;split at h
 ·rename_i hw;cases hsto:qAg o.op
  ·rw[hsto,cond_false] at h;split at h
   ·rename_i x q' ho;split at h
    ·rename_i s' hs;simp only[Option.some.injEq,Prod.mk.injEq] at h;obtain⟨rfl,rfl,rfl⟩:=h;exact .val x hw ho hs rfl
    ·cases h
   ·rename_i t cells len q' ho;split at h
    ·rename_i s' hs;simp only[Option.some.injEq,Prod.mk.injEq] at h;obtain⟨rfl,rfl,rfl⟩:=h;exact .new t cells len hw ho hs rfl
    ·cases h
   ·rename_i f args q' ho;cases how:args.all (SV.own nb0)
    ·rw[how] at h;cases h
    ·rw[how,cond_true] at h;split at h
     ·rename_i v s1 q2 hc;split at h
      ·rename_i s' hs;simp only[Option.some.injEq,Prod.mk.injEq] at h;obtain⟨rfl,rfl,rfl⟩:=h;exact .call f args v s1 q' q2 hw ho how hc hs rfl rfl
      ·cases h
     ·split at h
      ·rename_i g caps s1 q2 hc;cases hb:(Nat.ble st.nb s1.nb&&caps.all (S0.inR st.nb s1.nb)&&s1.hp.all (fun e=>!(Nat.ble st.nb e.1&&Nat.ble (e.1+1) s1.nb)||e.2.2.inR st.nb s1.nb))
       ·rw[hb] at h;cases h
       ·rw[hb,cond_true] at h;rw[Bool.and_eq_true,Bool.and_eq_true] at hb;split at h
        ·rename_i s' hs;simp only[Option.some.injEq,Prod.mk.injEq] at h;obtain⟨rfl,rfl,rfl⟩:=h;exact .many f g args caps s1 q' q2 hw ho how hc (Nat.le_of_ble_eq_true hb.1.1) hb.1.2 hb.2 hs rfl rfl
        ·cases h
      ·cases h
     ·cases h
   ·split at h
    ·rename_i b hg;split at h
     ·rename_i x q' ho;split at h
      ·rename_i s' hs;simp only[Option.some.injEq,Prod.mk.injEq] at h;obtain⟨rfl,rfl,rfl⟩:=h;exact .get b x hw ho hs rfl
      ·cases h
     ·cases h
    ·cases h
   ·cases h
  ·rw[hsto,cond_true] at h;split at h
   ·rename_i b i cells ho;cases hb:(Nat.ble lo b&&qhI full b i cells.length)
    ·rw[hb] at h;cases h
    ·rw[hb,cond_true] at h;simp only[Bool.and_eq_true] at hb;split at h
     ·rename_i s' hs;simp only[Option.some.injEq,Prod.mk.injEq] at h;obtain⟨rfl,rfl,rfl⟩:=h;exact .sto b i cells hw ho (Nat.le_of_ble_eq_true hb.1) hb.2 hs rfl
     ·cases h
   ·cases h
 ·rename_i hw;split at h
  ·rename_i s' hs;simp only[Option.some.injEq,Prod.mk.injEq] at h;obtain⟨rfl,rfl,rfl⟩:=h;exact .no hw hs rfl
  ·cases h
 ·cases h
theorem HeadIs.props {P:Program} {call:qbi} {lo nb0:Nat} {ops:Array Oper} {o:Oper} {st s:St} {full:List (Nat×Nat×SV)} {al:Option Eff} {q:List Prop} (h:HeadIs P call lo nb0 ops o st full s al q) :
 s.n=st.n∧s.hp=st.hp∧s.nb=st.nb+qu3 al∧(∀ d,o.dst≠some d→qaZ s.tm d=qaZ st.tm d):=by
 obtain⟨p1,p2,p3,p4⟩:=qbO (op:=o.op) (st:=st) rfl
 cases h with
 | no hw hp ha=>subst ha;obtain⟨a1,a2,a3,a4,_⟩:=qat hp;exact⟨a1,a2,a3,a4⟩
 | sto b i cells hw ho hlo hh hp ha=>subst ha;obtain⟨a1,a2,a3,a4,_⟩:=qat hp;exact⟨a1,a2,a3,a4⟩
 | val x hw ho hp ha=>subst ha;obtain⟨a1,a2,a3,a4,_⟩:=qat hp;exact⟨a1.trans p2,a2.trans p3,a3.trans p4,fun d hd=>(a4 d hd).trans (by rw[p1])⟩
 | new t cells len hw ho hp ha=>subst ha;obtain⟨a1,a2,a3,a4,_⟩:=qat hp;exact⟨a1.trans p2,a2.trans p3,a3.trans (by simp[p4,qu3]),fun d hd=>(a4 d hd).trans (by simp[p1])⟩
 | call f args v s1 q1 q2 hw ho how hc hp ha hq=>subst ha;obtain⟨a1,a2,a3,a4,_⟩:=qat hp;exact⟨a1.trans p2,a2.trans p3,a3.trans p4,fun d hd=>(a4 d hd).trans (by simp[p1])⟩
 | many f g args caps s1 q1 q2 hw ho how hc hle hcaps hcells hp ha hq=>subst ha;obtain⟨a1,a2,a3,a4,_⟩:=qat hp;exact⟨a1.trans p2,a2.trans p3,a3.trans (by show s1.nb=st.nb+(s1.nb-st.nb);omega),fun d hd=>(a4 d hd).trans (by simp[p1])⟩
 | get b x hw ho hp ha=>subst ha;obtain⟨a1,a2,a3,a4,_⟩:=qat hp;exact⟨a1.trans p2,a2.trans p3,a3.trans p4,fun d hd=>(a4 d hd).trans (by rw[p1])⟩
section
variable {P:Program} {call:qbi} {ops:Array Oper} {n lo:Nat} {sts:Nat→St} {als:Nat→Option Eff} {hp0:List (Nat×Nat×SV)}
theorem Trace.props (T:Trace P call lo (sts 0).nb ops hp0 n sts als) {j:Nat} (hj:j<n):(sts (j+1)).n=(sts j).n∧(sts (j+1)).hp=(sts j).hp∧(sts (j+1)).nb=(sts j).nb+qu3 (als j)∧
 ∀ d o,ops[j]?=some o→o.dst≠some d→qaZ (sts (j+1)).tm d=qaZ (sts j).tm d:=by
 obtain⟨o,q,ho,h1,_⟩:=T.one j hj;obtain⟨a1,a2,a3,a4⟩:=(qgu h1).props;exact⟨a1,a2,a3,fun d o' ho' hd=>by rw[ho] at ho';cases ho';exact a4 d hd⟩
theorem Trace.same (T:Trace P call lo (sts 0).nb ops hp0 n sts als):∀ {j:Nat},j≤n→(sts j).n=(sts 0).n∧(sts j).hp=(sts 0).hp
 | 0,_=>⟨rfl,rfl⟩
 | j+1,h=>by
  obtain⟨a1,a2,_⟩:=T.props (j:=j) (by omega);obtain⟨b1,b2⟩:=T.same (j:=j) (by omega);exact⟨a1.trans b1,a2.trans b2⟩
theorem Trace.nb (T:Trace P call lo (sts 0).nb ops hp0 n sts als) {i:Nat}:∀ {j:Nat},i≤j→j≤n→(sts i).nb≤(sts j).nb
 | 0,h,_=>by
  have:i=0:=by omega
  subst this;exact Nat.le_refl _
 | j+1,h,hj=>by
  by_cases e:i=j+1
  ·subst e;exact Nat.le_refl _
  ·have h1:=T.nb (i:=i) (j:=j) (by omega) (by omega);obtain⟨_,_,a3,_⟩:=T.props (j:=j) (by omega);rw[a3];omega
theorem Trace.slot (T:Trace P call lo (sts 0).nb ops hp0 n sts als) {i d:Nat}:∀ {j:Nat},i≤j→j≤n→(∀ k o,i≤k→k<j→ops[k]?=some o→o.dst≠some d)→qaZ (sts j).tm d=qaZ (sts i).tm d
 | 0,h,_,_=>by
  have:i=0:=by omega
  subst this;rfl
 | j+1,h,hj,hk=>by
  by_cases e:i=j+1
  ·subst e;rfl
  ·obtain⟨o,q,ho,_,_⟩:=T.one j (by omega);obtain⟨_,_,_,a4⟩:=T.props (j:=j) (by omega);rw[a4 d o ho (hk j o (by omega) (by omega) ho)]
   exact T.slot (by omega) (by omega) fun k o' h1 h2 h3=>hk k o' h1 (by omega) h3
theorem qf2 (h:qgG ops n=true) {j:Nat} (hj:j<n) {o:Oper} (ho:ops[j]?=some o):∀ e∈o.after,Region.binds .any e=true→e.on<j:=by
 intro e he hb;have h1:=List.all_eq_true.1 h j (List.mem_range.2 hj);rw[ho] at h1;have h2:=List.all_eq_true.1 h1 e (by simpa using he);rw[hb] at h2;simp only[Bool.not_true,Bool.false_or] at h2;exact Nat.le_of_ble_eq_true h2
theorem qcz (h:qev ops n=true) {i j:Nat} (hi:i<n) (hj:j<n) (hne:i≠j) {oi oj:Oper} (h1:ops[i]?=some oi) (h2:ops[j]?=some oj) {d:Tmp} (hd:oi.dst=some d):oj.dst≠some d:=by
 intro hd'
 have key:∀ {i j:Nat} {oi oj:Oper},i<j→j<n→ops[i]?=some oi→ops[j]?=some oj→oi.dst=some d→oj.dst=some d→False:=by
  intro i j oi oj hij hj h1 h2 hd hd';have a1:=List.all_eq_true.1 h j (List.mem_range.2 hj);rw[h2,Option.bind_some,hd'] at a1;have a2:=List.all_eq_true.1 a1 i (List.mem_range.2 hij);rw[h1,Option.bind_some,hd] at a2;simp[Nat.beq_refl] at a2
 rcases Nat.lt_or_ge i j with hij | hij
 ·exact key hij hj h1 h2 hd hd'
 ·exact key (show j<i by omega) hi h2 h1 hd' hd
theorem qcD (h:qdn ops n=true) {i j:Nat} (hi:i<n) (hj:j<n) {oi oj:Oper} (h1:ops[i]?=some oi) (h2:ops[j]?=some oj) {d:Tmp} (hd:oi.dst=some d) (hl:d∈oj.looksAt ops) :
 i=j∨(i<j∧Region.waitsFor .any ops j i=true)∨(j<i∧Region.waitsFor .any ops i j=true):=by
 have a1:=List.all_eq_true.1 h j (List.mem_range.2 hj);rw[h2] at a1;have a2:=List.all_eq_true.1 a1 d hl;have a3:=List.all_eq_true.1 a2 i (List.mem_range.2 hi);rw[h1,Option.bind_some,hd] at a3;simp only[Nat.beq_refl,Bool.not_true,Bool.false_or,Bool.or_eq_true] at a3
 rcases a3 with a3 | a3
 ·exact Or.inl (Nat.eq_of_beq_eq_true a3)
 ·cases hb:Nat.ble (i+1) j
  ·rw[hb,cond_false] at a3;by_cases e:i=j
   ·exact Or.inl e
   ·refine Or.inr (Or.inr ⟨?_,a3⟩)
    have:¬ i+1≤j:=fun h=>by rw[Nat.ble_eq_true_of_le h] at hb;cases hb
    omega
  ·rw[hb,cond_true] at a3;exact Or.inr (Or.inl ⟨Nat.le_of_ble_eq_true hb,a3⟩)
structure FInv (ops:Array Oper) (n:Nat) (sts:Nat→St) (listed:Array Bool) (β:Bl) (a:Act):Prop where
 hi:HeadInv .any ops n listed
 size:a.tmps.size=(sts 0).n
 defers:a.defers=[]
 done:∀ j o,j<n→listed.getD j false=true→ops[j]?=some o→∀ d,o.dst=some d→(qaZ (sts (j+1)).tm d).is β (a.tmps.getD d undef)
 old:∀ d,(∀ j o,j<n→listed.getD j false=true→ops[j]?=some o→o.dst≠some d)→(qaZ (sts 0).tm d).is β (a.tmps.getD d undef)
def qa1 (sts:Nat→St) (als:Nat→Option Eff) (hp:List (Nat×Nat×SV)) (listed:Array Bool):Nat→List (Nat×Nat×SV)
 | 0=>hp
 | n+1=>bif listed.getD n false then qjV (sts n).nb (als n) (qa1 sts als hp listed n) else qa1 sts als hp listed n
structure WInv (n:Nat) (sts:Nat→St) (als:Nat→Option Eff) (hp0:List (Nat×Nat×SV)) (W0:World) (lo:Nat) (β0:Bl) (listed:Array Bool) (β:Bl) (w:World):Prop where
 le:β0.le β
 base:HRel W0 lo β0 (sts 0).hp w
 h:HRel W0 lo β (qa1 sts als hp0 listed n) w
 dom:∀ b r,β b=some r→β0 b=some r∨∃ j,j<n∧listed.getD j false=true∧(sts j).nb≤b∧b<(sts j).nb+qu3 (als j)
 dom0:β0.dom (sts 0).nb
 g:β.g=β0.g
 ap:∀ c o e es n xs u,qaj (sts 0).hp c o=some (.row e es n xs)→β0.g c=some u→lo≤c→∀ d r,β d=some r→u.ownBlock≠some r
theorem qmM {listed:Array Bool} {i j:Nat} (h:(listed.setIfInBounds i true).getD j false=true):j=i∨listed.getD j false=true:=by
 by_cases e:i=j
 ·exact Or.inl e.symm
 ·rw[getD_set_ne false e] at h;exact Or.inr h
theorem FInv.step {listed:Array Bool} {β γ:Bl} {a:Act} {i:Nat} {oi:Oper} (F:FInv ops n sts listed β a) (hd:qev ops n=true) (hr:i∈Region.ready .any ops listed) (hin:i<n) (hoi:ops[i]?=some oi)
 (hle:β.le γ) {x:SV} {u:Value} (hx:x.is γ u) (hp:∀ d,oi.dst=some d→qaZ (sts (i+1)).tm d=x∧d<(sts 0).n):FInv ops n sts (listed.setIfInBounds i true) γ (a.put oi.dst u):=by
 have hsz:∀ dst v,(a.put dst v).tmps.size=a.tmps.size:=by intro dst v;cases dst<;>simp[Act.put]
 have hget:∀ d,oi.dst≠some d→(a.put oi.dst u).tmps.getD d undef=a.tmps.getD d undef:=by
  intro d hne
  cases he:oi.dst with
  | none=>rfl
  | some e=>
   rw[qhC _ _ _ _ _ (by rw[F.size];exact (hp e he).2),if_neg (fun h=>hne (by rw[he,h]))]
 refine⟨F.hi.set hr hin,by rw[hsz];exact F.size,by cases hdst:oi.dst<;>exact F.defers,fun j o hj hl ho d hdd=>?_,fun d hno=>?_⟩
 ·by_cases e:j=i
  ·subst e;rw[hoi] at ho;cases ho;rw[(hp d hdd).1,hdd,qhC _ _ _ _ _ (by rw[F.size];exact (hp d hdd).2),if_pos rfl];exact hx
  ·have hl':=(qmM hl).resolve_left e;rw[hget d (qcz hd hj hin e ho hoi hdd)];exact SV.is_mono hle (F.done j o hj hl' ho d hdd)
 ·have hne:oi.dst≠some d:=by
   refine hno i oi hin ?_ hoi;have hil:=(mem_ready.1 hr).1;rw[Array.getD_eq_getD_getElem?,Array.getElem?_setIfInBounds,if_pos rfl]
   have:i<listed.size:=by rw[F.hi.size];exact (Array.getElem?_eq_some_iff.1 hoi).1
   rw[if_pos this];rfl
  rw[hget d hne];exact SV.is_mono hle (F.old d fun j o hj hl ho=>hno j o hj (getD_set_true hl) ho)
end
end Go.Proofs.YtkckcgpmnipnaaaGreat
