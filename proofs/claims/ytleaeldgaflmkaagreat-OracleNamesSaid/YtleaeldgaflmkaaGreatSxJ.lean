/-
  A run of Go code over plain values and blocks by name: the theorem. Conditions: none.
-/
import Derived.Test.YtleaeldgaflmkaaGreatSxI4
namespace Go.Proofs.YtleaeldgaflmkaaGreat
set_option maxRecDepth 100000
open Go.RowKit
theorem qdg {P:Program} {c:Code} {Q:Exit→Act→World→Prop} {a:Act} {w:World} (h:c.wp P (Exit.then (qcL P c Q) Q) a w):(Code.loop c).wp P Q a w∧qcL P c Q a w:=by
 have key:∀ (b:Frame) (k:List Item) (cs:List Frame) (m:Machine),Steps P m (lone (b.at a (.code c::.inLoop c::k)) cs w)→∃ e a' w',Q e a' w'∧Arrives P m b k cs e a' w':=by
  intro b k cs m hm
  obtain⟨e,a₁,w₁,hq,harr⟩:=h b (.inLoop c::k) cs
  cases e with
  | normal=>
   obtain⟨e₂,a₂,w₂,hq₂,harr₂⟩:=hq b k cs
   exact⟨e₂,a₂,w₂,hq₂,.of_steps (hm.trans harr) harr₂⟩
  | exit id=>exact⟨_,a₁,w₁,hq,.of_steps hm (.pass (x:=.inLoop c) rfl (fun _ _=>.inl (by simp)) harr)⟩
  | goto l=>exact⟨_,a₁,w₁,hq,.of_steps hm (.pass (x:=.inLoop c) rfl (fun _ _=>.inl (by simp)) harr)⟩
  | ret=>exact⟨_,a₁,w₁,hq,.of_steps hm (.pass (x:=.inLoop c) rfl (fun _ _=>.inl (by simp)) harr)⟩
  | panic ch=>exact⟨_,a₁,w₁,hq,.of_steps hm (.pass (x:=.inLoop c) rfl (fun _ _=>.inl (by simp)) harr)⟩
  | outgrown=>exact⟨_,a₁,w₁,hq,.of_steps hm (.pass (x:=.inLoop c) rfl (fun _ _=>.inl (by simp)) harr)⟩
 exact⟨fun b k cs=>key b k cs _ (.one step_loop),fun b k cs=>key b k cs _ (.one step_inLoop)⟩
theorem qcI:∀ (n d:Nat),qax (qir n) d=if d<n then .any else .pv undef
 | 0,d=>by rw[if_neg (by omega)];rfl
 | n+1,d=>by
  rw[qir,qaP,qcI n d]
  by_cases e:n=d
  ·subst e;rw[if_pos rfl,if_pos (by omega)]
  ·rw[if_neg e]
   by_cases h:d<n
   ·rw[if_pos h,if_pos (by omega)]
   ·rw[if_neg h,if_neg (by omega)]
theorem qcU {n:Nat}:∀ {tm:List (Nat×SV)} (d:Nat),(∃ e∈tm,e.1=d∧qax (tm++qir n) d=e.2)∨qax (tm++qir n) d=qax (qir n) d
 | [],d=>Or.inr rfl
 | (k,x)::r,d=>by
  rw[List.cons_append,qaP]
  by_cases e:k=d
  ·subst e
   rw[if_pos rfl]
   exact Or.inl ⟨(k,x),by simp,rfl,rfl⟩
  ·rw[if_neg e]
   rcases qcU (tm:=r) d with ⟨y,hy,h1,h2⟩ | h1
   ·exact Or.inl ⟨y,by simp[hy],h1,h2⟩
   ·exact Or.inr h1
theorem Rel.ren {W0:Base} {lo fr:Nat} {β:Bl} {st:St} {a:Act} {w:World} {n nb:Nat} {ρ:List (Nat×Nat)} {tm:List (Nat×SV)} {hp:List (Nat×Nat×SV)} (ch:List Ch) (R:Rel W0 lo β st a w) (hn:st.n=n) (hlo:lo≤nb) (hok:okR lo fr nb (qaO tm hp) ρ=true)
 (ht:qaI (eqT (qaG ρ) st tm)) (hh:qaI (eqH (qaG ρ) st hp)):Rel W0 lo (β.ren fr (qaO tm hp) (qaG ρ)) (qaC n nb tm hp ch) a w:=by
 have ok:=qb9 hok
 have kN:∀ {b},b∈qaO tm hp→qbr fr (qaO tm hp) b=true:=fun {b} h=>by unfold qbr;rw[qcr.2 h,Bool.or_true]
 have hNh:∀ e∈hp,e.1∈qaO tm hp∧∀ b∈e.2.2.nm,b∈qaO tm hp:=fun e he=>
  ⟨List.mem_append_left _ (List.mem_flatMap.2 ⟨e,he,by simp⟩),fun b hb=>List.mem_append_left _ (List.mem_flatMap.2 ⟨e,he,by simp[hb]⟩)⟩
 have hNt:∀ e∈tm,∀ b∈e.2.nm,b∈qaO tm hp:=fun e he b hb=>List.mem_append_right _ (List.mem_flatMap.2 ⟨e,he,hb⟩)
 refine⟨⟨R.t.size.trans hn,R.t.defers,fun d=>?_⟩,R.h.ren ok hNh hh,Bl.ren_dom ok,hlo⟩
 show (qax (tm++qir n) d).is _ _
 rcases qcU (n:=n) (tm:=tm) d with ⟨e,he,h1,h2⟩ | h1
 ·rw[h2]
  have h3:=qbw ht e he
  have h4:=R.t.tmps d
  rw[← h1,h3] at h4
  rw[← h1]
  exact SV.ren_is (fun b hb=>Bl.ren_at (kN (hNt e he b hb))) h4
 ·rw[h1,qcI]
  split
  ·trivial
  ·rename_i hd
   show _=_
   rw[Array.getD_eq_getD_getElem?,Array.getElem?_eq_none (by rw[R.t.size];omega)]
   rfl
theorem qkb {P:Program} {lo fr:Nat} {c:Code} {st st':St} {ρ:List (Nat×Nat)} {e e':Exit} {tm0 tm1:List (Nat×SV)} {hp0 hp1:List (Nat×Nat×SV)} {ch:List Ch} {q:List Prop} (h:qoW P lo fr c st ρ e tm0 hp0 tm1 hp1 ch=some (e',st',q)) (hq:qaI q)
 {W0:Base} {β:Bl} {a:Act} {w:World} {Q:Exit→Act→World→Prop} (R:Rel W0 lo β st a w) (hQ:∀ β' a' w',β.leU fr β'→Rel W0 lo β' st' a' w'→Q e' a' w'):(Code.loop c).wp P Q a w∧qcL P c Q a w:=by
 unfold qoW at h
 cases hb:okR lo fr st.nb (qaO tm0 hp0) ρ
 ·rw[hb] at h;cases h
 ·rw[hb,cond_true] at h
  simp only[Option.some.injEq,Prod.mk.injEq] at h
  obtain⟨rfl,rfl,rfl⟩:=h
  obtain⟨h1,h2,h3,_⟩:=hq
  exact h3 W0 _ a w Q (R.ren [] rfl R.lo hb h1 h2) fun β' a' w' hle R'=>
   hQ β' a' w' (Bl.leU_trans (Bl.ren_leU (qb9 hb)) hle) ⟨R'.t,R'.h,R'.dom,R'.lo⟩
def qmk (P:Program) (ex:qlj):Prop:=
 ∀ {lo fr:Nat} {c:Code} {st st':St} {e:Exit} {q:List Prop},ex lo fr c st=some (e,st',q)→qaI q→∀ (W0:Base) (β:Bl) (a:Act) (w:World) (Q:Exit→Act→World→Prop),Rel W0 lo β st a w→
  (∀ β' a' w',β.leU fr β'→Rel W0 lo β' st' a' w'→Q e a' w')→c.wp P Q a w∧∀ body,c=.loop body→qcL P body Q a w
theorem qgx {β:Bl}:∀ {args:List SV} {us:List Value} (k:Nat),SV.isl β args us→∀ d,(qax (qcA k args) d).is β (if k≤d then us.getD (d-k) undef else undef)
 | [],[],k,_,d=>by
  show (SV.pv undef).is β _
  split
  ·simp[SV.is]
  ·rfl
 | [],_::_,_,h,_=>h.elim
 | _::_,[],_,h,_=>h.elim
 | x::r,u::us,k,h,d=>by
  rw[qcA,qaP]
  by_cases e:k=d
  ·subst e
   rw[if_pos rfl,if_pos (Nat.le_refl _)]
   simpa using h.1
  ·rw[if_neg e]
   have:=qgx (k+1) h.2 d
   by_cases hk:k≤d
   ·rw[if_pos (show k+1≤d by omega)] at this
    rw[if_pos hk,show d-k=(d-(k+1))+1 by omega]
    simpa using this
   ·rw[if_neg (show ¬ k+1≤d by omega)] at this
    rw[if_neg hk]
    exact this
theorem qcQ {P:Program} {ex:qlj} (hex:qmk P ex) {lo:Nat} {f:FuncId} {args:List SV} {st st':St} {x:SV} {q:List Prop} (h:qfi P ex lo f args st=some (x,st',q)) (hq:qaI q) :
 st'.tm=st.tm∧st'.n=st.n∧∀ (W0:Base) (β:Bl) (us:List Value) (w:World),HRel W0 lo β st.hp w→β.dom st.nb→lo≤st.nb→SV.isl β args us→
  Calls P f us.toArray w fun e w'=>∃ v β',e=.returned v∧β.le β'∧x.is β' v∧HRel W0 lo β' st'.hp w'∧β'.dom st'.nb∧lo≤st'.nb:=by
 unfold qfi at h
 split at h
 ·rename_i fn hfn
  split at h
  ·rename_i code hcode
   have fin:∀ {e:Exit} {s:St},ex lo st.nb code { st with tm:=qcA 0 args,n:=args.length+(fn.ntmps-args.length) }=some (e,s,q)→(e=.ret∨e=.normal)→qvn P fn s=some x→st'={ s with tm:=st.tm,n:=st.n }→
    st'.tm=st.tm∧st'.n=st.n∧∀ (W0:Base) (β:Bl) (us:List Value) (w:World),HRel W0 lo β st.hp w→β.dom st.nb→lo≤st.nb→SV.isl β args us→
     Calls P f us.toArray w fun e w'=>∃ v β',e=.returned v∧β.le β'∧x.is β' v∧HRel W0 lo β' st'.hp w'∧β'.dom st'.nb∧lo≤st'.nb:=by
    intro e s he hor hres hst
    subst hst
    refine⟨rfl,rfl,fun W0 β us w H hdom hlo hu=>?_⟩
    refine calls_of_wp hfn hcode ?_
    have hlen:=(SV.isl_get hu).1
    have R:Rel W0 lo β { st with tm:=qcA 0 args,n:=args.length+(fn.ntmps-args.length) } { tmps:=us.toArray++Array.replicate (fn.ntmps-us.toArray.size) undef,defers:=[] } w:=by
     refine⟨⟨by simp[hlen],rfl,fun d=>?_⟩,H,hdom,hlo⟩
     have:=qgx 0 hu d
     rw[if_pos (Nat.zero_le _),Nat.sub_zero] at this
     have hg:(us.toArray++Array.replicate (fn.ntmps-us.toArray.size) undef).getD d undef=us.getD d undef:=by
      rw[Array.getD_eq_getD_getElem?,List.getD_eq_getElem?_getD,Array.getElem?_append]
      split
      ·simp
      ·rename_i hge
       rw[Array.getElem?_replicate]
       have:us[d]?=none:=List.getElem?_eq_none (by simpa using hge)
       rw[this]
       split<;>rfl
     show (qax (qcA 0 args) d).is β _
     rw[hg]
     exact this
    refine (hex he hq W0 β _ w _ R fun β' a' w' hleU R'=>?_).1
    have hle:β.le β':=by
     refine⟨fun b hb=>hleU.1 b (by
     rcases Nat.lt_or_ge b st.nb with h | h
     ·exact h
     ·obtain⟨h1,h2⟩:=hdom b h
      rcases hb with hb | hb
      ·exact (hb h1).elim
      ·exact (hb h2).elim) hb,hleU.2⟩
    obtain⟨v,hv,hx⟩:=qiU R' hres
    have post:a'.defers=[]∧∃ v,(results fn a'.tmps).run P w'=.ok v w'∧∃ v' β',Ending.returned v=.returned v'∧β.le β'∧x.is β' v'∧HRel W0 lo β' s.hp w'∧β'.dom s.nb∧lo≤s.nb:=
     ⟨R'.t.defers,v,hv,v,β',rfl,hle,hx,R'.h,R'.dom,R'.lo⟩
    rcases hor with rfl | rfl
    ·exact post
    ·exact post
   split at h
   ·rename_i s q' he
    split at h
    ·rename_i y hy
     simp only[Option.some.injEq,Prod.mk.injEq] at h
     obtain⟨rfl,h2,rfl⟩:=h
     exact fin he (Or.inl rfl) hy h2.symm
    ·cases h
   ·rename_i s q' he
    split at h
    ·rename_i y hy
     simp only[Option.some.injEq,Prod.mk.injEq] at h
     obtain⟨rfl,h2,rfl⟩:=h
     exact fin he (Or.inr rfl) hy h2.symm
    ·cases h
   ·cases h
  ·cases h
 ·cases h
theorem qdl {P:Program} {ex:qlj} (hex:qmk P ex):qbD P (qeR P ex):=by
 intro lo f args c st x st' q h hq
 have inl:(bif args.all SV.isV then
  match qfi P ex st.nb f args st with
  | some (.pv v,s,q)=>some (.pv v,{ st with ch:=s.ch },q)
  | _=>qfi P ex lo f args st
  else qfi P ex lo f args st)=some (x,st',q)→st'.tm=st.tm∧st'.n=st.n∧∀ (W0:Base) (β:Bl) (us:List Value) (w:World),HRel W0 lo β st.hp w→β.dom st.nb→lo≤st.nb→SV.isl β args us→
   Calls P f us.toArray w fun e w'=>∃ v β',e=.returned v∧β.le β'∧x.is β' v∧HRel W0 lo β' st'.hp w'∧β'.dom st'.nb∧lo≤st'.nb:=by
  intro h
  cases hb:args.all SV.isV
  ·rw[hb,cond_false] at h;exact qcQ hex h hq
  ·rw[hb,cond_true] at h
   split at h
   ·rename_i v s q' hbody
    simp only[Option.some.injEq,Prod.mk.injEq] at h
    obtain⟨rfl,rfl,rfl⟩:=h
    obtain⟨_,_,e3⟩:=qcQ hex hbody hq
    refine⟨rfl,rfl,fun W0 β us w H hdom hlo hu=>?_⟩
    refine (e3 w β.base us w (H.mono_lo (Gr.refl w) rfl hdom) hdom (Nat.le_refl _) (qdG.2 hu)).mono fun e w' hh=>?_
    obtain⟨v',β',rfl,hle,hx,hH,_,_⟩:=hh
    exact⟨v',β,rfl,Bl.le_refl _,hx,H.gr_mono hH.gr,hdom,hlo⟩
   ·exact qcQ hex h hq
 cases c with
 | r v=>
  simp only[qeR] at h
  split at h
  ·rename_i us hg
   simp only[Option.some.injEq,Prod.mk.injEq] at h
   obtain⟨rfl,rfl,rfl⟩:=h
   refine⟨rfl,rfl,fun W0 β us' w H hdom hlo hu=>?_⟩
   rw[qcm hg] at hu
   have:=SV.isl_v_eq hu
   subst this
   exact (hq.1 w).mono fun e w' ⟨he,hgr⟩=>⟨v,β,he,Bl.le_refl _,rfl,H.gr_mono hgr,hdom,hlo⟩
  ·cases h
 | f σ args0 pre y m post=>
  simp only[qeR] at h
  cases hb:okF st.nb σ args0 pre y m post
  ·rw[hb] at h;cases h
  ·rw[hb,cond_true] at h
   simp only[Option.some.injEq,Prod.mk.injEq] at h
   obtain⟨rfl,rfl,rfl⟩:=h
   obtain⟨q1,q2,q3,_⟩:=hq
   exact⟨rfl,rfl,fun W0 β us w H hdom hlo hu=>qjE hb q1 q2 (qjM q3) H hdom hlo hu⟩
 | fq σ args0 pre y m post=>
  simp only[qeR] at h
  cases hb:okF st.nb σ args0 pre y m post
  ·rw[hb] at h;cases h
  ·rw[hb,cond_true] at h
   simp only[Option.some.injEq,Prod.mk.injEq] at h
   obtain⟨rfl,rfl,rfl⟩:=h
   obtain⟨q1,q2,q3,_⟩:=hq
   exact⟨rfl,rfl,fun W0 β us w H hdom hlo hu=>qjE hb q1 q2 q3 H hdom hlo hu⟩
 | m σ args0 pre y j ys=>
  simp only[qeR] at h
  split at h
  ·rename_i R hR
   cases hb:(okF st.nb σ args0 pre (.pv y) 0 []&&qg5 lo st.hp (some (qaY σ st.nb j))&&Nat.ble (j+1) σ.length)
   ·rw[hb] at h;cases h
   ·rw[hb,cond_true] at h
    simp only[Bool.and_eq_true] at hb
    simp only[Option.some.injEq,Prod.mk.injEq] at h
    obtain⟨rfl,rfl,rfl⟩:=h
    obtain⟨q1,q2,q3,_⟩:=hq
    refine⟨rfl,rfl,fun W0 β us w H hdom hlo hu=>(qpR hb.1.1 hb.1.2 (Nat.le_of_ble_eq_true hb.2) hR q1 q2 q3 H hu).mono fun e w' hh=>?_⟩
    exact⟨y,β,hh.1,Bl.le_refl _,rfl,hh.2,hdom,hlo⟩
  ·cases h
 | mx σ args0 pre j ys e es n xs=>
  simp only[qeR] at h
  split at h
  ·rename_i R hR
   cases hb:(okF st.nb σ args0 pre (.pv undef) 0 []&&qg5 lo st.hp (some (qaY σ st.nb j))&&Nat.ble (j+1) σ.length)
   ·rw[hb] at h;cases h
   ·rw[hb,cond_true] at h
    simp only[Bool.and_eq_true] at hb
    simp only[Option.some.injEq,Prod.mk.injEq] at h
    obtain⟨rfl,rfl,rfl⟩:=h
    obtain⟨q1,q2,q3,_⟩:=hq
    refine⟨rfl,rfl,fun W0 β us w H hdom hlo hu=>(qpc hb.1.1 hb.1.2 (Nat.le_of_ble_eq_true hb.2) hR q1 q2 q3 H hdom hlo hu).mono fun e w' hh=>?_⟩
    obtain⟨v,β',h1,h2,h3,h4,h5⟩:=hh
    exact⟨v,β',h1,h2,h3,h4,h5,Nat.le_succ_of_le hlo⟩
  ·cases h
 | k=>exact inl h
 | t b=>exact inl h
 | l=>exact inl h
 | lr=>exact inl h
 | w=>exact inl h
 | ln=>exact inl h
 | pm=>exact inl h
 | gr=>exact inl h
 | lw=>exact inl h
 | gh _=>exact inl h
 | md=>exact inl h
 | lz=>exact inl h
 | fz=>exact inl h
 | od=>exact inl h
 | dr=>exact inl h
 | fo l σ args0 pre y m post=>
  simp only[qeR] at h
  cases hb:okO lo l st.nb σ args0 pre y m post
  ·rw[hb] at h;cases h
  ·rw[hb,cond_true] at h
   simp only[Option.some.injEq,Prod.mk.injEq] at h
   obtain⟨rfl,rfl,rfl⟩:=h
   obtain⟨q1,q2,q3,_⟩:=hq
   exact⟨rfl,rfl,fun W0 β us w H hdom hlo hu=>qp4 hb q1 q2 q3 H hdom hlo hu⟩
section
variable {W0:Base} {lo:Nat} {β:Bl} {w:World}
def SV.isD:SV→Bool
 | .drow ..=>true
 | .rrow ..=>true
 | .prow ..=>true
 | _=>false
theorem qzF {hp:List (Nat×Nat×SV)} (h:(hp.all fun e=>!e.2.2.isD)=true):∀ b o s,qae hp b o=some s→s.isD=false:=fun b o s hl=>by
 have:=List.all_eq_true.1 h _ (qaj hl)
 simpa using this
theorem qpG {Hc:Nat→Nat→SV→Prop} (hD:∀ b o s,Hc b o s→s.isD=false) (h:∀ b o e es n xs,Hc b o (.row e es n xs)→∃ u,β.g b=some u∧RowIs W0 lo β w b e es n xs u):∀ b o s,Hc b o s→s.isR=true→∃ u e es n xs,s.isRw β.h e es n xs∧β.g b=some u∧RowIs W0 lo β w b e es n xs u:=fun b o s hc hs=>by
 have hd:=hD b o s hc
 cases s<;>try (cases hs;done)
 ·rename_i e es n xs
  obtain⟨u,h1,h2⟩:=h b o e es n xs hc
  exact⟨u,e,es,n,xs,⟨rfl,rfl,rfl,rfl⟩,h1,h2⟩
 ·cases hd
theorem qqK {Hc:Nat→Nat→SV→Prop} (hD:∀ b o s,Hc b o s→s.isD=false) (h:∀ b o e es n xs c o' e' es' n' xs' u v,Hc b o (.row e es n xs)→Hc c o' (.row e' es' n' xs')→lo≤b→lo≤c→b≠c→β.g b=some u→β.g c=some v→∀ k,u.ownBlock=some k→v.ownBlock≠some k) :
 ∀ b o s c o' s' u v,Hc b o s→Hc c o' s'→s.isR=true→s'.isR=true→lo≤b→lo≤c→b≠c→β.g b=some u→β.g c=some v→∀ k,u.ownBlock=some k→v.ownBlock≠some k:=fun b o s c o' s' u v h1 h2 q1 q2=>by
 have d1:=hD b o s h1
 have d2:=hD c o' s' h2
 cases s<;>try (cases q1;done)
 ·cases s'<;>try (cases q2;done)
  ·exact h b o _ _ _ _ c o' _ _ _ _ u v h1 h2
  ·cases d2
 ·cases d1
theorem FzIs.no1 {Hc:Nat→Nat→SV→Prop} (hD:∀ b o s,Hc b o s→s.isD=false) (hh:∀ k,β.h k=none):FzIs W0 lo β Hc w:=
 FzIs.no hh (fun b o e es n ds hc=>by cases hD _ _ _ hc) (fun b o e es n ds hc=>by cases hD _ _ _ hc)
end
theorem HRelP.cell_at {W0:Base} {lo:Nat} {β β':Bl} {hp hp':List (Nat×Nat×SV)} {w:World} {b o:Nat} {s s':SV} (H':HRel W0 lo β' hp' w) (hle:β.le β') (hl:qae hp b o=some s) (hs:s.isRow=false) (himp:∀ b' o' t,qae hp b' o'=some t→qae hp' b' o'=some t) (H:HRel W0 lo β hp w)
 (hw:∀ x,s.is β x→s'.is β' x) (hs':s'.isRow=false):HRel W0 lo β' ((b,o,s')::hp') w:=by
 have hl':=himp _ _ _ hl
 have F:∀ {c k t},qae ((b,o,s')::hp') c k=some t→t.isRow=true→qae hp' c k=some t:=fun {c k t} hc ht=>by
  rw[qaf] at hc
  split at hc
  ·cases hc;rw[hs'] at ht;cases ht
  ·exact hc
 refine⟨H'.gr,H'.live,H'.inj,H'.new,H'.sep,fun c k t hc ht=>?_,fun c k t hc hr=>H'.rows0 c k t (F hc (SV.isR_row hr)) hr,fun c k t c' k' t' u v f1 f2 q1 q2=>H'.rinj0 c k t c' k' t' u v (F f1 (SV.isR_row q1)) (F f2 (SV.isR_row q2)) q1 q2,fun c k xs hc=>H'.maps c k xs (F hc rfl),
  H'.fz.imp (fun _ _=>rfl) (fun c k t hc ht=>F hc ht) fun c k t hc=>?_⟩
 ·rw[qaf] at hc
  split at hc
  ·rename_i e1
   obtain⟨rfl,rfl⟩:=e1
   cases hc
   obtain⟨r,u,a1,a2,a3,a4,a5⟩:=H.cells _ _ _ hl hs
   exact⟨r,u,hle.f a1,hw u a2,a3,a4,a5⟩
  ·exact H'.cells c k t hc ht
 ·rw[qaf] at hc
  split at hc
  ·rename_i e1
   obtain⟨rfl,rfl⟩:=e1
   exact⟨_,_,hl'⟩
  ·exact⟨_,_,hc⟩
theorem qiG {W0:Base} {lo:Nat} {β:Bl} {st s:St} {a:Act} {w:World} {slot:Bool} {b o:Nat} {e:TypeId} {es:Nat} (h:qxf st slot b o e es=some s) (R:Rel W0 lo β st a w):∃ β',β.le β'∧Rel W0 lo β' s a w:=by
 obtain⟨hn,hn2⟩:=R.dom _ (Nat.le_refl _)
 have hle:β.le (β.setG st.nb (.slice none 0 0)):=Bl.le_setG hn hn2
 have hls:(SV.ls st.nb 0).is (β.setG st.nb (.slice none 0 0)) (.slice none 0 0):=⟨Bl.setG_same _ _ _,none,0,rfl⟩
 have hdom:(β.setG st.nb (.slice none 0 0)).dom (st.nb+1):=by
  intro c hc
  obtain⟨d1,d2⟩:=R.dom c (by omega)
  refine⟨d1,?_⟩
  unfold Bl.setG
  simp only
  rw[if_neg (by omega)]
  exact d2
 have HR:HRel W0 lo (β.setG st.nb (.slice none 0 0)) ((st.nb,0,.row e es 0 [])::st.hp) w:=by
  refine (R.h.setG hn hn2 (.slice none 0 0)).addRow R.lo (Bl.setG_same _ _ _) (qeF (e:=e) (es:=es)) (fun _ h=>by cases h) (fun _ _ _ hk=>by cases hk) (fun _ _ _ _ _ _ _ _ k hk=>by cases hk) (fun k hk=>by cases hk) fun c o s hc=>?_
  have hc':qae ((st.nb,0,.row e es 0 [])::st.hp) c o=some s:=hc
  rw[qaf] at hc'
  split at hc'
  ·rename_i e1
   cases hc'
   exact Or.inl ⟨e1.1.symm,e1.2.symm,rfl⟩
  ·refine Or.inr ⟨hc',fun hrw e=>?_⟩
   rcases R.h.named hc' with ⟨r,g1⟩ | ⟨v',g1⟩
   ·rw[e,hn] at g1
    cases g1
   ·rw[e,hn2] at g1
    cases g1
 unfold qxf at h
 cases slot
 ·rw[cond_false] at h
  split at h
  ·rename_i v hv
   cases hb:qbO v
   ·rw[hb] at h;cases h
   ·rw[hb,cond_true] at h
    cases h
    have hv':=qbY hb
    subst hv'
    obtain⟨r,u,c1,c2,c3,c4,c5⟩:=R.h.cells _ _ _ hv rfl
    have c2':u=.slice none 0 0:=c2
    subst c2'
    exact⟨_,hle,R.t.mono hle,HR.cell_at hle hv rfl (fun b' o' s' h=>by
     rw[qaf]
     split
     ·rename_i e1
      obtain⟨rfl,rfl⟩:=e1
      rcases R.h.named h with ⟨r,g1⟩ | ⟨v',g1⟩
      ·rw[hn] at g1;cases g1
      ·rw[hn2] at g1;cases g1
     ·exact h) R.h (fun x hx=>by have hx':x=.slice none 0 0:=hx;subst hx';exact hls) rfl,hdom,Nat.le_succ_of_le R.lo⟩
  ·cases h
 ·rw[cond_true] at h
  split at h
  ·rename_i v hv
   cases hb:(qbO v&&Nat.ble (b+1) st.n)
   ·rw[hb] at h;cases h
   ·rw[hb,cond_true] at h
    simp only[Bool.and_eq_true] at hb
    cases h
    have hv':=qbY hb.1
    subst hv'
    refine⟨_,hle,⟨R.t.size,R.t.defers,fun d=>?_⟩,HR,hdom,Nat.le_succ_of_le R.lo⟩
    rw[qaP]
    split
    ·rename_i hd
     subst hd
     have:=R.t.tmps b
     rw[hv] at this
     rw[show a.tmps.getD b undef=_ from this]
     exact hls
    ·exact SV.is_mono hle (R.t.tmps d)
  ·cases h
theorem Dn.le_den {h:Nat→Option Obj} {d d':Dn} {x:Value} (hl:d.le d') (k:DenH h d x):DenH h d' x:=by
 rcases hl with rfl | ⟨rfl,es,rfl⟩
 ·exact k
 ·cases k
  exact .sl (xs:=[]) (by simp) (Nat.le_refl _) (fun _ hh=>by cases hh) (fun j v hj=>by simp at hj) .nil
theorem LeD.den {h:Nat→Option Obj}:∀ {ds ds':List Dn} {xs:List Value},LeD ds ds'→DenL h ds xs→DenL h ds' xs
 | [],[],_,_,k=>k
 | [],_::_,_,hl,_=>hl.elim
 | _::_,[],_,hl,_=>hl.elim
 | _::_,_::_,_,hl,.cons hd hr=>.cons (Dn.le_den hl.1 hd) (LeD.den hl.2 hr)
theorem LeD.refl:∀ (ds:List Dn),LeD ds ds
 | []=>trivial
 | _::ds=>⟨Or.inl rfl,LeD.refl ds⟩
theorem LeD.append:∀ {a b c d:List Dn},LeD a b→LeD c d→LeD (a++c) (b++d)
 | [],[],_,_,_,k=>k
 | [],_::_,_,_,h,_=>h.elim
 | _::_,[],_,_,h,_=>h.elim
 | _::_,_::_,_,_,h,k=>⟨h.1,LeD.append h.2 k⟩
theorem qkC {i:Nat} {s:SV} {d:S0} (h:∀ l,s≠.ag l) (hp:qkE i s=some d):s.down=some d:=by cases s<;>first | exact hp | exact (h _ rfl).elim
theorem qdD {W0:Base} {lo:Nat} {β:Bl} {st:St} {a:Act} {w:World} {slot:Bool} {b o i:Nat} {s:SV} {d:S0} (R:Rel W0 lo β st a w) (hg:qiP st slot b o=some s) (hp:qkE i s=some d) :
 ∃ u,d.is β u∧∀ (β':Bl) (hp':List (Nat×Nat×SV)) (nb':Nat) (d':S0),β.le β'→HRel W0 lo β' hp' w→β'.dom nb'→lo≤nb'→(slot=false→qae hp' b o=some s)→d'.is β' u→Rel W0 lo β' (qgH { st with hp:=hp',nb:=nb' } slot b o (qjV i d' s)) a w:=by
 have hr:s.isRow=false:=by
  cases hr:s.isRow
  ·rfl
  ·cases s<;>first | (cases hr;done) | (cases hp;done)
 have hpick:∀ x,s.is β x→∃ u,d.is β u∧∀ (β':Bl) (d':S0),β.le β'→d'.is β' u→(qjV i d' s).is β' x:=by
  intro x hx
  cases s with
  | ag l=>
   simp only[qkE] at hp
   obtain⟨vs,hl,rfl⟩:=hx
   obtain⟨hlen,hget⟩:=S0.isl_get hl
   obtain⟨u,hu,hd⟩:=hget i d hp
   have hvs:vs=vs.take i++u::vs.drop (i+1):=by
    obtain⟨hlt,he⟩:=List.getElem?_eq_some_iff.1 hu
    rw[← he,← List.drop_eq_getElem_cons hlt,List.take_append_drop]
   refine⟨u,hd,fun β' d' hle hd'=>⟨vs,?_,rfl⟩⟩
   rw[hvs]
   exact S0.isl_append (S0.isl_mono hle (S0.isl_take i hl)) ⟨hd',S0.isl_mono hle (S0.isl_drop (i+1) hl)⟩
  | _=>first
   | (cases hp;done)
   | (exact⟨x,(SV.down_is (qkC (fun _ e=>by cases e) hp)).1 hx,fun β' d' _ hd'=>S0.up_is.2 hd'⟩)
 have hrow:∀ d':S0,(qjV i d' s).isRow=false:=by
  intro d'
  cases s<;>simp only[qjV]<;>first | rfl | (cases d'<;>rfl)
 cases slot
 ·simp only[qiP,cond_false] at hg
  split at hg
  ·rename_i t ht
   cases htr:t.isRow
   ·rw[htr,cond_false] at hg
    cases hg
    obtain⟨r,x,a1,a2,a3,a4,a5⟩:=R.h.cells _ _ _ ht hr
    obtain⟨u,hu,hK⟩:=hpick x a2
    refine⟨u,hu,fun β' hp' nb' d' hle H' hdom hlo himp hd'=>?_⟩
    have hl':=himp rfl
    have F:∀ {c k t'},qae ((b,o,qjV i d' s)::hp') c k=some t'→t'.isRow=true→qae hp' c k=some t':=fun {c k t'} hc ht'=>by
     rw[qaf] at hc
     split at hc
     ·cases hc;rw[hrow] at ht';cases ht'
     ·exact hc
    have H2:HRel W0 lo β' ((b,o,qjV i d' s)::hp') w:=by
     refine⟨H'.gr,H'.live,H'.inj,H'.new,H'.sep,fun c k t' hc ht'=>?_,fun c k t' hc hr=>H'.rows0 c k t' (F hc (SV.isR_row hr)) hr,fun c k t' c' k' t'' u v f1 f2 q1 q2=>H'.rinj0 c k t' c' k' t'' u v (F f1 (SV.isR_row q1)) (F f2 (SV.isR_row q2)) q1 q2,fun c k xs hc=>H'.maps c k xs (F hc rfl),
      H'.fz.imp (fun _ _=>rfl) (fun c k t' hc ht'=>F hc ht') fun c k t' hc=>?_⟩
     ·rw[qaf] at hc
      split at hc
      ·rename_i e1
       obtain⟨rfl,rfl⟩:=e1
       cases hc
       exact⟨r,x,hle.f a1,hK β' d' hle hd',a3,a4,a5⟩
      ·exact H'.cells c k t' hc ht'
     ·rw[qaf] at hc
      split at hc
      ·rename_i e1
       obtain⟨rfl,rfl⟩:=e1
       exact⟨_,_,hl'⟩
      ·exact⟨_,_,hc⟩
    exact⟨R.t.mono hle,H2,hdom,hlo⟩
   ·rw[htr] at hg;cases hg
  ·cases hg
 ·simp only[qiP,cond_true] at hg
  cases hb:Nat.ble (b+1) st.n
  ·rw[hb] at hg;cases hg
  ·rw[hb,cond_true] at hg
   cases hg
   obtain⟨u,hu,hK⟩:=hpick _ (R.t.tmps b)
   refine⟨u,hu,fun β' hp' nb' d' hle H' hdom hlo _ hd'=>⟨⟨R.t.size,R.t.defers,fun c=>?_⟩,H',hdom,hlo⟩⟩
   show (qax ((b,_)::st.tm) c).is _ _
   rw[qaP]
   split
   ·rename_i hd
    subst hd
    exact hK β' d' hle hd'
   ·exact SV.is_mono hle (R.t.tmps c)
theorem qd7 {st:St} {slot:Bool} {b o:Nat} {s:SV} (hg:qiP st slot b o=some s) (h:slot=false):qae st.hp b o=some s:=by
 subst h
 simp only[qiP,cond_false] at hg
 split at hg
 ·rename_i t ht
  cases hr:t.isRow
  ·rw[hr,cond_false] at hg;cases hg;exact ht
  ·rw[hr] at hg;cases hg
 ·cases hg
theorem HRelP.addFz {W0:Base} {lo m:Nat} {β:Bl} {hp:List (Nat×Nat×SV)} {w:World} {t:SV} (H:HRel W0 lo β hp w) (hn:β m=none) (hfr:∀ o s,qae hp m o≠some s) (ht:t.isRow=true) (ht2:t.isR=false) (ht3:∀ xs,t≠.mrow xs)
 (hr:∀ e es n ds,t=.rrow e es n ds→∃ u,β.g m=some u∧DenH β.h (.sl es n ds) u) (hp':∀ e es n xs,t=.prow e es n xs→∃ u,β.g m=some u∧DenH β.h (.sl es n (xs.map .v)) u):HRel W0 lo β ((m,0,t)::hp) w:=by
 have F:∀ {c k s},qae ((m,0,t)::hp) c k=some s→(c=m∧s=t)∨qae hp c k=some s:=fun {c k s} hc=>by
  rw[qaf] at hc
  split at hc
  ·rename_i e1
   cases hc
   exact Or.inl ⟨e1.1.symm,rfl⟩
  ·exact Or.inr hc
 refine⟨H.gr,H.live,H.inj,H.new,H.sep,fun c k s hc hs=>?_,fun c k s hc hs=>?_,fun c k s c' k' s' u v f1 f2 q1 q2=>?_,fun c k xs hc=>?_,H.fz.mem,H.fz.own,fun c k s r hc e=>?_,fun c k s u j hc hs=>?_,fun c k e es n ds hc=>?_,fun c k e es n xs hc=>?_⟩
 ·rcases F hc with ⟨_,rfl⟩ | hc
  ·rw[ht] at hs;cases hs
  ·exact H.cells c k s hc hs
 ·rcases F hc with ⟨_,rfl⟩ | hc
  ·rw[ht2] at hs;cases hs
  ·exact H.rows0 c k s hc hs
 ·rcases F f1 with ⟨_,rfl⟩ | f1
  ·rw[ht2] at q1;cases q1
  ·rcases F f2 with ⟨_,rfl⟩ | f2
   ·rw[ht2] at q2;cases q2
   ·exact H.rinj0 c k s c' k' s' u v f1 f2 q1 q2
 ·rcases F hc with ⟨_,e⟩ | hc
  ·exact (ht3 xs e.symm).elim
  ·exact H.maps c k xs hc
 ·rcases F hc with ⟨rfl,_⟩ | hc
  ·rw[hn] at e;cases e
  ·exact H.fz.box c k s r hc e
 ·rcases F hc with ⟨_,rfl⟩ | hc
  ·rw[ht2] at hs;cases hs
  ·exact H.fz.row c k s u j hc hs
 ·rcases F hc with ⟨rfl,e1⟩ | hc
  ·exact hr e es n ds e1.symm
  ·exact H.fz.rr c k e es n ds hc
 ·rcases F hc with ⟨rfl,e1⟩ | hc
  ·exact hp' e es n xs e1.symm
  ·exact H.fz.pr c k e es n xs hc
theorem qjA {W0:Base} {lo:Nat} {β:Bl} {st s:St} {a:Act} {w:World} {slot:Bool} {b o i:Nat} {e:TypeId} {pl:Option (List Value)} {q:List Prop} (h:qtV st slot b o i e pl=some (s,q)) (hq:qaI q) (R:Rel W0 lo β st a w):∃ β',β.le β'∧Rel W0 lo β' s a w:=by
 obtain⟨hn,hn2⟩:=R.dom _ (Nat.le_refl _)
 have hfr:∀ o s,qae st.hp st.nb o≠some s:=fun o s hc=>by
  rcases R.h.named hc with ⟨r,g1⟩ | ⟨v',g1⟩
  ·rw[hn] at g1;cases g1
  ·rw[hn2] at g1;cases g1
 unfold qtV at h
 split at h
 ·rename_i t ht
  split at h
  ·rename_i es n ds hp
   obtain⟨u,hu,K⟩:=qdD R ht hp
   have hle:β.le (β.setG st.nb u):=Bl.le_setG hn hn2
   have hdom:(β.setG st.nb u).dom (st.nb+1):=fun c hc=>by
    obtain⟨d1,d2⟩:=R.dom c (by omega)
    refine⟨d1,?_⟩
    unfold Bl.setG
    simp only
    rw[if_neg (by omega)]
    exact d2
   have hls:(S0.ls st.nb n).is (β.setG st.nb u) u:=⟨Bl.setG_same _ _ _,by cases hu;exact⟨_,_,rfl⟩⟩
   have HG:=R.h.setG hn hn2 u
   have hcons:∀ (t':SV),slot=false→qae ((st.nb,0,t')::st.hp) b o=some t:=fun t' h0=>by
    have hl:=qd7 ht h0
    rw[qaf]
    split
    ·rename_i e1
     obtain⟨rfl,rfl⟩:=e1
     exact (hfr _ _ hl).elim
    ·exact hl
   split at h
   ·simp only[Option.some.injEq,Prod.mk.injEq] at h
    obtain⟨rfl,rfl⟩:=h
    exact⟨_,hle,K _ _ _ (.ls st.nb n) hle (HG.addFz hn hfr rfl rfl (fun _ h=>by cases h) (fun _ _ _ _ h=>by cases h;exact⟨u,Bl.setG_same _ _ _,hu⟩) (fun _ _ _ _ h=>by cases h)) hdom (Nat.le_succ_of_le R.lo) (hcons _) hls⟩
   ·simp only[Option.some.injEq,Prod.mk.injEq] at h
    obtain⟨rfl,rfl⟩:=h
    obtain rfl:=hq.1
    exact⟨_,hle,K _ _ _ (.ls st.nb n) hle (HG.addFz hn hfr rfl rfl (fun _ h=>by cases h) (fun _ _ _ _ h=>by cases h) (fun _ _ _ _ h=>by cases h;exact⟨u,Bl.setG_same _ _ _,hu⟩)) hdom (Nat.le_succ_of_le R.lo) (hcons _) hls⟩
  ·cases h
 ·cases h
def Bl.ice (β:Bl) (k:Option Nat) (w:World):Bl:=⟨β.f,β.g,fun j=>if k=some j then w.heap[j]? else β.h j,β.h0⟩
theorem HRelP.ice {W0:Base} {lo m:Nat} {β:Bl} {hp:List (Nat×Nat×SV)} {w:World} {k:Option Nat} (H:HRel W0 lo β hp w) (hk:∀ j,k=some j→W0.own j∧j<w.heap.size∧β.h j=none) (hbox:∀ c o s r,qae hp c o=some s→c≠m→β c=some r→k≠some r)
 (hrow:∀ c o s u,qae hp c o=some s→s.isR=true→c≠m→lo≤c→β.g c=some u→∀ j,u.ownBlock=some j→k≠some j):β.le (β.ice k w)∧HRel W0 lo (β.ice k w) (qaT (some m) hp) w:=by
 have hh:∀ j,β.h j≠none→(β.ice k w).h j=β.h j:=fun j e=>by
  show (if k=some j then w.heap[j]? else β.h j)=_
  rw[if_neg fun e2=>e (hk j e2).2.2]
 have hle:β.le (β.ice k w):=⟨fun _ _=>⟨rfl,rfl⟩,hh,rfl⟩
 have hno:∀ j,k≠some j→β.h j=none→(β.ice k w).h j=none:=fun j h1 h2=>by
  show (if k=some j then w.heap[j]? else β.h j)=_
  rw[if_neg h1];exact h2
 refine⟨hle,H.gr,H.live,H.inj,H.new,H.sep,fun c o s hc hs=>?_,fun c o s hc hs=>?_,fun c o s c' o' s' u v f1 f2 q1 q2=>H.rinj0 c o s c' o' s' u v (qag f1).1 (qag f2).1 q1 q2,fun c o xs hc=>H.maps c o xs (qag hc).1,fun j hj=>?_,fun j hj=>?_,fun c o s r hc e=>?_,fun c o s u j hc hs hb hu hj=>?_,fun c o e es n ds hc=>?_,fun c o e es n ds hc=>?_⟩
 ·obtain⟨r,u,a1,a2,a3⟩:=H.cells c o s (qag hc).1 hs
  exact⟨r,u,a1,SV.is_mono hle a2,a3⟩
 ·obtain⟨u,e,es,n,xs,a0,a1,a2⟩:=H.rows0 c o s (qag hc).1 hs
  exact⟨u,e,es,n,xs,SV.isRw_mono hh a0,a1,a2.rd,a2.one,a2.low,a2.own,a2.apart⟩
 ·show _=(if k=some j then w.heap[j]? else β.h j)
  split
  ·rfl
  ·rename_i e
   have hj':(if k=some j then w.heap[j]? else β.h j)≠none:=hj
   rw[if_neg e] at hj'
   exact H.fz.mem j hj'
 ·by_cases e:k=some j
  ·exact Or.inl (hk j e).1
  ·have hj':(if k=some j then w.heap[j]? else β.h j)≠none:=hj
   rw[if_neg e] at hj'
   exact H.fz.own j hj'
 ·obtain⟨h1,h2⟩:=qag hc
  exact hno r (hbox c o s r h1 (fun e=>h2 (by rw[e])) e) (H.fz.box c o s r h1 e)
 ·obtain⟨h1,h2⟩:=qag hc
  exact hno j (hrow c o s u h1 hs (fun e=>h2 (by rw[e])) hb hu j hj) (H.fz.row c o s u j h1 hs hb hu hj)
 ·obtain⟨u,a1,a2⟩:=H.fz.rr c o e es n ds (qag hc).1
  exact⟨u,a1,a2.mono hh⟩
 ·obtain⟨u,a1,a2⟩:=H.fz.pr c o e es n ds (qag hc).1
  exact⟨u,a1,a2.mono hh⟩
theorem qdy {h:Nat→Option Obj} {w:World} {es n:Nat} {u:Value} {xs:List Value} {ds:List Dn} (g:RdO w es u n xs) (hd:DenL h ds xs) (hm:xs≠[]→∀ j,u.ownBlock=some j→h j=w.heap[j]?):DenH h (.sl es n ds) u:=by
 obtain⟨l1,a,c,rfl,e5,e4⟩:=g.rd
 refine .sl l1 e5 g.one (fun j v hj=>?_) hd
 obtain⟨r,o,rfl,e6⟩:=e4 j v hj
 refine⟨r,o,rfl,?_⟩
 have:=hm (fun e=>by rw[e] at hj;simp at hj) r rfl
 unfold qgV
 rw[this]
 simp only[World.cell?] at e6
 split at e6
 ·rename_i cs t f hh
  simp at e6
  rw[hh]
  exact e6
 ·cases e6
theorem qtT {β:Bl} {w:World} {es n b k l:Nat} {u v:Value} {xs:List Value} (g1:β.g b=some u) (g2:RdO w es u n xs) (hv:(S0.lq b es k l).is β v) :
 RdO w es v l ((xs.drop (k*es)).take (l*es))∧((xs.drop (k*es)).take (l*es)≠[]→∀ j,v.ownBlock=some j→u.ownBlock=some j):=by
 obtain⟨a0,n',c0,a',c',k1,k2,k3,rfl,k5⟩:=hv
 rw[g1] at k1
 cases k1
 obtain⟨l1,a2,c2,e3,e5,e4⟩:=g2.rd
 cases e3
 have hlen:((xs.drop (k*es)).take (l*es)).length=l*es:=by
  rw[List.length_take,List.length_drop,l1]
  have:k*es+l*es≤n*es:=by rw[← Nat.add_mul];exact Nat.mul_le_mul_right _ k2
  omega
 have hpos:(xs.drop (k*es)).take (l*es)≠[]→0<l:=fun hx=>by
  rcases Nat.eq_zero_or_pos l with h | h
  ·subst h;simp at hx
  ·exact h
 refine⟨⟨⟨hlen,a',c',rfl,k3,fun j y hj=>?_⟩,fun v hv=>g2.one v (List.mem_of_mem_drop (List.mem_of_mem_take hv))⟩,fun hx j hj=>?_⟩
 ·have hl:=hpos fun e=>by rw[e] at hj;simp at hj
  obtain⟨r,o,e6,e7⟩:=k5 hl
  rw[List.getElem?_take] at hj
  split at hj
  ·rw[List.getElem?_drop] at hj
   obtain⟨r',o',e8,e9⟩:=e4 _ y hj
   rw[e6] at e8
   cases e8
   exact⟨r,_,e7,by rw[Nat.add_assoc];exact e9⟩
  ·cases hj
 ·obtain⟨r,o,e6,e7⟩:=k5 (hpos hx)
  rw[e7] at hj
  rw[e6]
  exact hj
theorem qkW {b c o:Nat} {s:SV} {hp:List (Nat×Nat×SV)} (h:qae hp c o=some s) (hne:c≠b):qae (qaT (some b) hp) c o=some s:=by
 unfold qaT
 simp only
 induction hp with
 | nil=>cases h
 | cons z r ih=>
  obtain⟨d,k,x⟩:=z
  cases hd:Nat.beq d b
  ·rw[List.filter_cons_of_pos (by simp[hd]),qaf]
   rw[qaf] at h
   split at h
   ·rename_i e;rw[if_pos e];exact h
   ·rename_i e;rw[if_neg e];exact ih h
  ·rw[List.filter_cons_of_neg (by simp[hd])]
   rw[qaf] at h
   split at h
   ·rename_i e;exact (hne (by rw[← e.1];exact Nat.eq_of_beq_eq_true hd)).elim
   ·exact ih h
theorem qfW {W0:Base} {lo:Nat} {β:Bl} {st s:St} {a:Act} {w:World} {slot:Bool} {b o i es0:Nat} {ds:List Dn} {q:List Prop} (h:qij lo st slot b o i es0 ds=some (s,q)) (hq:qaI q) (R:Rel W0 lo β st a w):∃ β',β.le β'∧Rel W0 lo β' s a w:=by
 unfold qij at h
 split at h
 ·rename_i t ht
  have hin:∀ m,(slot||!Nat.beq b m)=true→slot=false→qae (qaT (some m) st.hp) b o=some t:=fun m hm h0=>by
   refine qkW (qd7 ht h0) fun e=>?_
   rw[h0,e,Nat.beq_refl] at hm
   cases hm
  have list:∀ (m n es:Nat) (s0:SV) (d0:List Dn),qkE i t=some (.ls m n)→lo≤m→(slot||!Nat.beq b m)=true→qae st.hp m 0=some s0→s0.isR=true→(∀ e es' n' xs,s0.isRw β.h e es' n' xs→es'=es∧DenL β.h d0 xs)→LeD d0 ds→
   ∃ β',β.le β'∧Rel W0 lo β' (qgH { st with hp:=qaT (some m) st.hp } slot b o (qjV i (.dv es n ds) t)) a w:=by
   intro m n es s0 d0 hp hlo hm hl hsr hd0 hled
   obtain⟨u,hu,K⟩:=qdD R ht hp
   obtain⟨v,e,es',n',xs,g0,g1,g2⟩:=R.h.rows0 _ _ _ hl hsr
   obtain⟨rfl,gd⟩:=hd0 _ _ _ _ g0
   have hvu:v=u:=by have:=hu.1;rw[g1] at this;cases this;rfl
   subst hvu
   have hn:n'=n:=by
    obtain⟨_,a1,c1,e1⟩:=hu
    obtain⟨_,a2,c2,e2,_⟩:=g2.rd
    rw[e1] at e2
    cases e2
    rfl
   subst hn
   obtain⟨hle,HI⟩:=R.h.ice (m:=m) (k:=v.ownBlock) (fun j hj=>⟨(qal (g2.own hlo) j hj).1,(qal (g2.own hlo) j hj).2,R.h.fz.row _ _ _ _ _ hl hsr hlo g1 hj⟩) (fun c o s r hc hne hr e=>g2.apart hlo c r hr e) (fun c o s u' hc hs hne hlc hu' j hj e=>R.h.rinj0 _ _ _ _ _ _ v u' hl hc hsr hs hlo hlc (fun e=>hne e.symm) g1 hu' j e hj)
   refine⟨_,hle,K _ _ st.nb (.dv es' n' ds) hle HI R.dom R.lo (hin m hm) ?_⟩
   exact qdy ⟨g2.rd,g2.one⟩ (LeD.den hled (gd.mono hle.2.1)) fun _ j hj=>by show (if v.ownBlock=some j then w.heap[j]? else β.h j)=_;rw[if_pos hj]
  split at h
  ·rename_i v hp
   cases hb:qbO v
   ·rw[hb] at h;cases h
   ·rw[hb,cond_true] at h
    simp only[Option.some.injEq,Prod.mk.injEq] at h
    obtain⟨rfl,rfl⟩:=h
    have hv:=qbY hb
    subst hv
    obtain⟨u,hu,K⟩:=qdD R ht hp
    have hu':u=.slice none 0 0:=hu
    subst hu'
    exact⟨β,Bl.le_refl _,K β st.hp st.nb (.dv es0 0 []) (Bl.le_refl _) R.h R.dom R.lo (fun h0=>qd7 ht h0) (DenH.sl (xs:=[]) (by simp) (Nat.le_refl _) (fun _ hh=>by cases hh) (fun j v hj=>by simp at hj) .nil)⟩
  ·rename_i m n hp
   cases hb:(Nat.ble lo m&&(slot||!Nat.beq b m))
   ·rw[hb] at h;cases h
   ·rw[hb,cond_true] at h
    rw[Bool.and_eq_true] at hb
    split at h
    ·rename_i e es n' xs hl
     simp only[Option.some.injEq,Prod.mk.injEq] at h
     obtain⟨rfl,rfl⟩:=h
     exact list m n es _ (xs.map .v) hp (Nat.le_of_ble_eq_true hb.1) hb.2 hl rfl (fun e1 es1 n1 xs1 k=>⟨k.2.1.symm,by rw[← k.2.2.2];exact .plain _⟩) hq.1
    ·rename_i e es n' d0 hl
     simp only[Option.some.injEq,Prod.mk.injEq] at h
     obtain⟨rfl,rfl⟩:=h
     exact list m n es _ d0 hp (Nat.le_of_ble_eq_true hb.1) hb.2 hl rfl (fun e1 es1 n1 xs1 k=>⟨k.2.1.symm,k.2.2.2⟩) hq.1
    ·cases h
  ·rename_i m es k l hp
   cases hb:(Nat.ble lo m&&(slot||!Nat.beq b m))
   ·rw[hb] at h;cases h
   ·rw[hb,cond_true] at h
    rw[Bool.and_eq_true] at hb
    have hlo:=Nat.le_of_ble_eq_true hb.1
    split at h
    ·rename_i e es' n' xs hl
     cases hbe:Nat.beq es' es
     ·rw[hbe] at h;cases h
     ·rw[hbe,cond_true] at h
      simp only[Option.some.injEq,Prod.mk.injEq] at h
      obtain⟨rfl,rfl⟩:=h
      have hes:=Nat.eq_of_beq_eq_true hbe
      subst hes
      obtain⟨u,hu,K⟩:=qdD R ht hp
      obtain⟨v,g1,g2⟩:=R.h.rows _ _ _ _ _ _ hl
      obtain⟨p1,p2⟩:=qtT g1 ⟨g2.rd,g2.one⟩ hu
      obtain⟨hle,HI⟩:=R.h.ice (m:=m) (k:=v.ownBlock) (fun j hj=>⟨(qal (g2.own hlo) j hj).1,(qal (g2.own hlo) j hj).2,R.h.fz.row _ _ _ _ _ hl rfl hlo g1 hj⟩) (fun c o s r hc hne hr e=>g2.apart hlo c r hr e) (fun c o s u' hc hs hne hlc hu' j hj e=>R.h.rinj0 _ _ _ _ _ _ v u' hl hc rfl hs hlo hlc (fun e=>hne e.symm) g1 hu' j e hj)
      refine⟨_,hle,K _ _ st.nb (.dv es' l ds) hle HI R.dom R.lo (hin m hb.2) (qdy p1 (LeD.den hq.1 (.plain _)) fun hx j hj=>?_)⟩
      show (if v.ownBlock=some j then w.heap[j]? else β.h j)=_
      rw[if_pos (p2 hx j hj)]
    ·cases h
  ·rename_i m n c hp
   cases hb:(Nat.ble lo m&&(slot||!Nat.beq b m)&&!Nat.beq (n*es0) 0&&Nat.ble n c)
   ·rw[hb] at h;cases h
   ·rw[hb,cond_true] at h
    simp only[Bool.and_eq_true,Bool.not_eq_true'] at hb
    split at h
    ·rename_i d0 hd0
     simp only[Option.some.injEq,Prod.mk.injEq] at h
     obtain⟨rfl,rfl⟩:=h
     have hlo:=Nat.le_of_ble_eq_true hb.1.1.1
     obtain⟨u,hu,K⟩:=qdD R ht hp
     obtain⟨r,hr,rfl⟩:=hu
     unfold qpl at hd0
     split at hd0
     ·rename_i ss hss
      obtain⟨us,f1,f2,f3⟩:=R.h.rangeD hr hss
      obtain⟨g1,g2⟩:=qdS hss
      have hpos:0<n*es0:=by
       rcases Nat.eq_zero_or_pos (n*es0) with h0 | h0
       ·rw[h0] at hb;cases hb.1.2
       ·exact h0
      obtain⟨s1,e1,_⟩:=g2 0 _ (List.getElem?_eq_getElem (by omega))
      have hfz:=R.h.fz.box _ _ _ _ e1 hr
      obtain⟨hle,HI⟩:=R.h.ice (m:=m) (k:=some r) (fun j hj=>by cases hj;exact⟨R.h.new m r hlo hr,R.h.live m r hr,hfz⟩) (fun c o s r' hc hne hr' e=>by cases e;exact hne (R.h.inj c m r hr' hr)) (fun c o s u' hc hs hne hlc hu' j hj e=>by
       cases e
       obtain⟨v,_,_,_,_,_,z1,z2⟩:=R.h.rows0 _ _ _ hc hs
       rw[hu'] at z1
       cases z1
       exact z2.apart hlc m r hr hj)
      have hone:∀ y∈us,y.oneCell'=true:=by
       intro y hy
       obtain⟨j,hj,rfl⟩:=List.getElem_of_mem hy
       obtain⟨s,e1,e2⟩:=g2 j _ (List.getElem?_eq_getElem (by rw[g1,← f2];exact hj))
       obtain⟨r',u,a1,_,a3,a4,_⟩:=R.h.cells _ _ _ e1 (by cases s<;>first | rfl | cases e2)
       rw[hr] at a1
       cases a1
       have:=f3 j _ (List.getElem?_eq_getElem hj)
       rw[this] at a4
       cases a4
       exact a3
      refine⟨_,hle,K _ _ st.nb (.dv es0 n ds) hle HI R.dom R.lo (hin m hb.1.1.2) (qdy ⟨⟨f2,_,c,rfl,Nat.le_of_ble_eq_true hb.2,fun j v hj=>⟨r,0,rfl,f3 j v hj⟩⟩,hone⟩ (LeD.den hq.1 (((qcj hd0).2 f1).mono hle.2.1)) fun _ j hj=>?_)⟩
      have hj':some r=some j:=hj
      show (if some r=some j then w.heap[j]? else β.h j)=_
      rw[if_pos hj']
     ·cases hd0
    ·cases h
  ·cases h
 ·cases h
theorem qny {W w':World} {β:Bl} {k:Nat} {pre:List (Nat×Nat×SV)} {u:Value} {e:TypeId} {es n:Nat} {xs:List Value} (H:HRel W k β pre W) (hd:β.dom k) (hg:Gr W w') (ho:w'.ownsRow W.heap.size e es u n xs) (h1:∀ v∈xs,v.oneCell'=true):HRel W k (β.setG k u) [(k,0,.row e es n xs)] w':=by
 obtain⟨d1,d2⟩:=hd k (Nat.le_refl _)
 have H1:HRel W k β [] w':=(HRelP.imp H (fun _ _ _ h=>by cases h)).gr_mono hg
 refine (H1.setG d1 d2 u).addRow (Nat.le_refl _) (Bl.setG_same _ _ _) ho h1 (fun c r hc hu=>?_) (fun _ _ _ _ h=>by cases h) (fun j hj=>H.fz.fresh (qaE ho j hj).1) fun c o s hc=>?_
 ·have h1:=(qaE ho r hu).1
  have h2:=H.live c r hc
  omega
 ·have hc':qae [(k,0,SV.row e es n xs)] c o=some s:=hc
  rw[qaf] at hc'
  split at hc'
  ·rename_i e1;cases hc';exact Or.inl ⟨e1.1.symm,e1.2.symm,rfl⟩
  ·cases hc'
theorem qcK {P:Program}:∀ (n:Nat),qmk P (qb3 P n):=by
 intro n
 induction n with
 | zero=>intro lo fr c st st' e q h;simp[qb3] at h
 | succ n ih=>
  intro lo fr c st st' e q h hq W0 β a w Q R hQ
  cases c with
  | skip=>
   simp only[qb3,Option.some.injEq,Prod.mk.injEq] at h
   obtain⟨rfl,rfl,rfl⟩:=h
   exact⟨wp_skip (hQ β a w ((Bl.le_refl _).u _) R),fun _ e=>by cases e⟩
  | label l=>
   simp only[qb3,Option.some.injEq,Prod.mk.injEq] at h
   obtain⟨rfl,rfl,rfl⟩:=h
   exact⟨wp_label (hQ β a w ((Bl.le_refl _).u _) R),fun _ e=>by cases e⟩
  | region id ops draw=>
   refine⟨?_,fun _ e=>by cases e⟩
   simp only[qb3] at h
   split at h
   ·split at h
    ·rename_i s hs
     have R1:∀ ch,Rel W0 lo β { st with ch:=ch } a w:=fun _=>⟨R.t,R.h,R.dom,R.lo⟩
     obtain⟨β1,hle1,R2⟩:=qiG hs (R1 _)
     exact (ih h hq W0 β1 a w Q R2 fun β' a' w' hle R'=>hQ β' a' w' (Bl.leU_trans (hle1.u _) hle) R').1
    ·cases h
   ·split at h
    ·rename_i s q1 hs
     split at h
     ·rename_i e2 s2 q2 h2
      simp only[Option.some.injEq,Prod.mk.injEq] at h
      obtain⟨rfl,rfl,rfl⟩:=h
      obtain⟨a1,a2⟩:=qai hq
      have R1:∀ ch,Rel W0 lo β { st with ch:=ch } a w:=fun _=>⟨R.t,R.h,R.dom,R.lo⟩
      obtain⟨β1,hle1,R2⟩:=qjA hs a1 (R1 _)
      exact (ih h2 a2 W0 β1 a w Q R2 fun β' a' w' hle R'=>hQ β' a' w' (Bl.leU_trans (hle1.u _) hle) R').1
     ·cases h
    ·cases h
   ·split at h
    ·rename_i s q1 hs
     split at h
     ·rename_i e2 s2 q2 h2
      simp only[Option.some.injEq,Prod.mk.injEq] at h
      obtain⟨rfl,rfl,rfl⟩:=h
      obtain⟨a1,a2⟩:=qai hq
      have R1:∀ ch,Rel W0 lo β { st with ch:=ch } a w:=fun _=>⟨R.t,R.h,R.dom,R.lo⟩
      obtain⟨β1,hle1,R2⟩:=qfW hs a1 (R1 _)
      exact (ih h2 a2 W0 β1 a w Q R2 fun β' a' w' hle R'=>hQ β' a' w' (Bl.leU_trans (hle1.u _) hle) R').1
     ·cases h
    ·cases h
   cases draw
   ·simp only[cond_false] at h
    split at h
    ·rename_i s q' hs
     simp only[Option.some.injEq,Prod.mk.injEq] at h
     obtain⟨rfl,rfl,rfl⟩:=h
     exact wp_region_list (qc8 (qdl ih) hs hq R fun β' a' w' hle=>hQ β' a' w' (hle.u _))
    ·cases h
   ·simp only[cond_true] at h
    split at h
    ·rename_i s q' hs
     simp only[Option.some.injEq,Prod.mk.injEq] at h
     obtain⟨rfl,rfl,rfl⟩:=h
     exact qpn (qdl ih) hs hq R fun β' a' w' hle=>hQ β' a' w' (hle.u _)
    ·cases h
  | seq x y=>
   refine⟨?_,fun _ e=>by cases e⟩
   simp only[qb3] at h
   split at h
   ·rename_i s q1 h1
    split at h
    ·rename_i e2 s2 q2 h2
     simp only[Option.some.injEq,Prod.mk.injEq] at h
     obtain⟨rfl,rfl,rfl⟩:=h
     obtain⟨a1,a2⟩:=qai hq
     refine wp_seq (ih h1 a1 W0 β a w _ R fun β' a' w' hle R'=>?_).1
     exact (ih h2 a2 W0 β' a' w' Q R' fun β'' a'' w'' hle' R''=>hQ β'' a'' w'' (Bl.leU_trans hle hle') R'').1
    ·cases h
   ·rename_i i s q1 h1
    simp only[Option.some.injEq,Prod.mk.injEq] at h
    obtain⟨rfl,rfl,rfl⟩:=h
    exact wp_seq (ih h1 hq W0 β a w (Exit.then (y.wp P Q) Q) R (fun β' a' w' hle R'=>hQ β' a' w' hle R')).1
   ·rename_i s q1 h1
    simp only[Option.some.injEq,Prod.mk.injEq] at h
    obtain⟨rfl,rfl,rfl⟩:=h
    exact wp_seq (ih h1 hq W0 β a w (Exit.then (y.wp P Q) Q) R (fun β' a' w' hle R'=>hQ β' a' w' hle R')).1
   ·cases h
  | cond c x y=>
   refine⟨?_,fun _ e=>by cases e⟩
   simp only[qb3] at h
   split at h
   ·rename_i b hb
    have k:=R.t.ev c
    rw[hb] at k
    cases b
    ·exact wp_cond_false k (ih h hq W0 β a w Q R hQ).1
    ·exact wp_cond_true k (ih h hq W0 β a w Q R hQ).1
   ·cases h
  | block id c=>
   refine⟨?_,fun _ e=>by cases e⟩
   simp only[qb3] at h
   split at h
   ·rename_i s q1 h1
    simp only[Option.some.injEq,Prod.mk.injEq] at h
    obtain⟨rfl,rfl,rfl⟩:=h
    exact wp_block (ih h1 hq W0 β a w (Exit.inBlock id Q) R (fun β' a' w' hle R'=>hQ β' a' w' hle R')).1
   ·rename_i i s q1 h1
    cases hb:Nat.beq i id
    ·rw[hb,cond_false] at h
     simp only[Option.some.injEq,Prod.mk.injEq] at h
     obtain⟨rfl,rfl,rfl⟩:=h
     have hne:¬ i=id:=fun e=>by subst e;rw[Nat.beq_refl] at hb;cases hb
     refine wp_block (ih h1 hq W0 β a w _ R fun β' a' w' hle R'=>?_).1
     show (if i=id then _ else _)
     rw[if_neg hne]
     exact hQ β' a' w' hle R'
    ·rw[hb,cond_true] at h
     simp only[Option.some.injEq,Prod.mk.injEq] at h
     obtain⟨rfl,rfl,rfl⟩:=h
     have he:=Nat.eq_of_beq_eq_true hb
     refine wp_block (ih h1 hq W0 β a w _ R fun β' a' w' hle R'=>?_).1
     show (if i=id then _ else _)
     rw[if_pos he]
     exact hQ β' a' w' hle R'
   ·rename_i s q1 h1
    simp only[Option.some.injEq,Prod.mk.injEq] at h
    obtain⟨rfl,rfl,rfl⟩:=h
    exact wp_block (ih h1 hq W0 β a w (Exit.inBlock id Q) R (fun β' a' w' hle R'=>hQ β' a' w' hle R')).1
   ·cases h
  | loop c=>
   simp only[qb3] at h
   split at h
   ·obtain⟨k1,k2⟩:=qkb h hq R hQ
    exact⟨k1,fun b e=>by cases e;exact k2⟩
   ·obtain⟨k1,k2⟩:=qkb h hq R hQ
    exact⟨k1,fun b e=>by cases e;exact k2⟩
   ·split at h
    ·rename_i s hs
     have R1:∀ ch,Rel W0 lo β { st with ch:=ch } a w:=fun _=>⟨R.t,R.h,R.dom,R.lo⟩
     obtain⟨β1,hle1,R2⟩:=qiG hs (R1 _)
     exact ih h hq W0 β1 a w Q R2 fun β' a' w' hle R'=>hQ β' a' w' (Bl.leU_trans (hle1.u _) hle) R'
    ·cases h
   have key:c.wp P (Exit.then (qcL P c Q) Q) a w:=by
    split at h
    ·rename_i s q1 h1
     split at h
     ·rename_i e2 s2 q2 h2
      simp only[Option.some.injEq,Prod.mk.injEq] at h
      obtain⟨rfl,rfl,rfl⟩:=h
      obtain⟨a1,a2⟩:=qai hq
      refine (ih h1 a1 W0 β a w _ R fun β' a' w' hle R'=>?_).1
      exact (ih h2 a2 W0 β' a' w' Q R' fun β'' a'' w'' hle' R''=>hQ β'' a'' w'' (Bl.leU_trans hle hle') R'').2 c rfl
     ·cases h
    ·rename_i i s q1 h1
     simp only[Option.some.injEq,Prod.mk.injEq] at h
     obtain⟨rfl,rfl,rfl⟩:=h
     exact (ih h1 hq W0 β a w (Exit.then (qcL P c Q) Q) R (fun β' a' w' hle R'=>hQ β' a' w' hle R')).1
    ·rename_i s q1 h1
     simp only[Option.some.injEq,Prod.mk.injEq] at h
     obtain⟨rfl,rfl,rfl⟩:=h
     exact (ih h1 hq W0 β a w (Exit.then (qcL P c Q) Q) R (fun β' a' w' hle R'=>hQ β' a' w' hle R')).1
    ·cases h
   obtain⟨k1,k2⟩:=qdg key
   exact⟨k1,fun b e=>by cases e;exact k2⟩
  | exit id=>
   simp only[qb3,Option.some.injEq,Prod.mk.injEq] at h
   obtain⟨rfl,rfl,rfl⟩:=h
   exact⟨wp_exit (hQ β a w ((Bl.le_refl _).u _) R),fun _ e=>by cases e⟩
  | ret=>
   simp only[qb3,Option.some.injEq,Prod.mk.injEq] at h
   obtain⟨rfl,rfl,rfl⟩:=h
   exact⟨wp_ret (hQ β a w ((Bl.le_refl _).u _) R),fun _ e=>by cases e⟩
  | _=>simp[qb3] at h
def qzv (P:Program) (n:Nat) (f:FuncId) (args:List Value) (ch:List Ch):Option (SV×St×List Prop):=
 qfi P (qb3 P n) 0 f (args.map .pv) ⟨[],0,[],0,ch⟩
def qxw (v:Value):Option (SV×St×List Prop)→Prop
 | some (.pv u,_,q)=>u=v∧qaI q
 | _=>False
theorem qr1 {P:Program} (n:Nat) {f:FuncId} {args:List Value} (ch:List Ch) {v:Value} (h:qxw v (qzv P n f args ch)):Pure P f args.toArray v:=by
 intro w
 cases hr:qzv P n f args ch with
 | none=>rw[hr] at h;exact h.elim
 | some z=>
  obtain⟨x,s,q⟩:=z
  rw[hr] at h
  cases x with
  | pv u=>
   obtain⟨hu,hq⟩:=h
   subst hu
   obtain⟨_,_,e3⟩:=qcQ (qcK n) hr hq
   have H0:HRel w 0 Bl.no [] w:=⟨Gr.refl w,fun _ _ e=>(by cases e),fun _ _ _ e=>(by cases e),fun _ _ _ e=>(by cases e),fun _ _ e=>(by cases e),fun _ _ _ e=>(by cases e),fun _ _ _ e=>(by cases e),fun _ _ _ _ _ _ _ _ e=>(by cases e),fun _ _ _ e=>(by cases e),FzIs.no (fun _=>rfl) (fun _ _ _ _ _ _ e=>by cases e) (fun _ _ _ _ _ _ e=>by cases e)⟩
   refine (e3 w Bl.no args w H0 (fun _ _=>⟨rfl,rfl⟩) (Nat.le_refl _) (SV.isl_v _)).mono fun e w' hh=>?_
   obtain⟨v',β',rfl,_,hx,hH,_,_⟩:=hh
   exact⟨by rw[show v'=u from hx],hH.gr⟩
  | _=>exact h.elim
def qdb:Nat→Code→List Code
 | 0,_=>[]
 | n+1,c=>match c with
  | .seq x y=>qdb n x++qdb n y
  | .cond _ x y=>qdb n x++qdb n y
  | .block _ x=>qdb n x
  | .loop x=>x::qdb n x
  | _=>[]
def qrb (P:Program) (f:FuncId) (k:Nat):Code:=
 match P.funcs[f]? with
 | some fn=>match fn.body with
  | some c=>(qdb 200 c).getD k .skip
  | none=>.skip
 | none=>.skip
def qcu (ρ:List (Nat×Nat)) (lo fr n nb:Nat) (e:Exit) (tm:List (Nat×SV)) (hp:List (Nat×Nat×SV)):Option (Exit×St×List Prop)→Prop
 | some (e',s,q)=>e'=e∧(okR lo fr nb (qaO tm hp) ρ&&Nat.beq s.n n)=true∧qaI (eqT (qaG ρ) s tm)∧qaI (eqH (qaG ρ) s hp)∧qaI q
 | none=>False
theorem qnt (f:Nat→Nat):∀ (tm:List (Nat×SV)),qaI (tm.map fun e=>e.2.ren f=e.2.ren f)
 | []=>trivial
 | _::r=>⟨rfl,qnt f r⟩
theorem qaH (f:Nat→Nat):∀ (hp:List (Nat×Nat×SV)),qaI (hp.map fun e=>some (e.2.2.ren f)=some (e.2.2.ren f))
 | []=>trivial
 | _::r=>⟨rfl,qaH f r⟩
theorem qo3 {ρ:List (Nat×Nat)} {lo fr n nb:Nat} {e:Exit} {tm:List (Nat×SV)} {hp:List (Nat×Nat×SV)} {r:Option (Exit×St×List Prop)} {T:Prop} (ht:T)
 (h:qcu ρ lo fr n nb e tm hp r=(e=e∧true=true∧qaI (tm.map fun e=>e.2.ren (qaG ρ)=e.2.ren (qaG ρ))∧qaI (hp.map fun e=>some (e.2.2.ren (qaG ρ))=some (e.2.2.ren (qaG ρ)))∧T)):qcu ρ lo fr n nb e tm hp r:=h▸⟨rfl,rfl,qnt _ tm,qaH _ hp,ht⟩
theorem qmC {ρ:List (Nat×Nat)} {lo fr n nb:Nat} {e:Exit} {tm:List (Nat×SV)} {hp:List (Nat×Nat×SV)} {r:Option (Exit×St×List Prop)} {T H:Prop} (hh:H) (ht:T)
 (h:qcu ρ lo fr n nb e tm hp r=(e=e∧true=true∧qaI (tm.map fun e=>e.2.ren (qaG ρ)=e.2.ren (qaG ρ))∧H∧T)):qcu ρ lo fr n nb e tm hp r:=h▸⟨rfl,rfl,qnt _ tm,hh,ht⟩
theorem qfL {ρ:List (Nat×Nat)} {lo fr n nb:Nat} {e:Exit} {tm:List (Nat×SV)} {hp:List (Nat×Nat×SV)} {r:Option (Exit×St×List Prop)} {T H S:Prop} (hs:S) (hh:H) (ht:T)
 (h:qcu ρ lo fr n nb e tm hp r=(e=e∧true=true∧S∧H∧T)):qcu ρ lo fr n nb e tm hp r:=h▸⟨rfl,rfl,hs,hh,ht⟩
theorem RunsL.next {P:Program} {lo fr:Nat} {c:Code} {n nb:Nat} {tm0 tm1 tm2:List (Nat×SV)} {hp0 hp1 hp2:List (Nat×Nat×SV)} {e:Exit} (ρ:List (Nat×Nat)) (k:Nat) (ch:List Ch)
 (h:qcu ρ lo fr n nb .normal tm1 hp1 (qb3 P k lo fr c (qaC n nb tm0 hp0 ch))) (r:RunsL P lo fr c n nb tm1 hp1 e tm2 hp2):RunsL P lo fr c n nb tm0 hp0 e tm2 hp2:=by
 intro W0 β a w Q R hQ
 cases he:qb3 P k lo fr c (qaC n nb tm0 hp0 ch) with
 | none=>rw[he] at h;exact h.elim
 | some z=>
  obtain⟨e',s,q⟩:=z
  rw[he] at h
  obtain⟨rfl,h1,h2,h3,h4⟩:=h
  simp only[Bool.and_eq_true] at h1
  have hlo:lo≤nb:=R.lo
  have R0:Rel W0 lo β (qaC n nb tm0 hp0 ch) a w:=⟨R.t,R.h,R.dom,R.lo⟩
  refine qdg ((qcK k he h4 W0 β a w _ R0 fun β' a' w' hle R'=>?_).1)
  exact (r W0 _ a' w' Q (R'.ren [] (Nat.eq_of_beq_eq_true h1.2) hlo h1.1 h2 h3) fun β'' a'' w'' hle' R''=>hQ β'' a'' w'' (Bl.leU_trans (Bl.leU_trans hle (Bl.ren_leU (qb9 h1.1))) hle') R'').2
theorem RunsL.stop {P:Program} {lo fr:Nat} {c:Code} {n nb:Nat} {tm0 tm1:List (Nat×SV)} {hp0 hp1:List (Nat×Nat×SV)} {e:Exit} (ρ:List (Nat×Nat)) (k:Nat) (ch:List Ch) (ne:e=.normal→False)
 (h:qcu ρ lo fr n nb e tm1 hp1 (qb3 P k lo fr c (qaC n nb tm0 hp0 ch))):RunsL P lo fr c n nb tm0 hp0 e tm1 hp1:=by
 intro W0 β a w Q R hQ
 cases he:qb3 P k lo fr c (qaC n nb tm0 hp0 ch) with
 | none=>rw[he] at h;exact h.elim
 | some z=>
  obtain⟨e',s,q⟩:=z
  rw[he] at h
  obtain⟨rfl,h1,h2,h3,h4⟩:=h
  simp only[Bool.and_eq_true] at h1
  have hlo:lo≤nb:=R.lo
  have R0:Rel W0 lo β (qaC n nb tm0 hp0 ch) a w:=⟨R.t,R.h,R.dom,R.lo⟩
  refine qdg ((qcK k he h4 W0 β a w _ R0 fun β' a' w' hle R'=>?_).1)
  have fin:=hQ _ a' w' (Bl.leU_trans hle (Bl.ren_leU (qb9 h1.1))) (R'.ren [] (Nat.eq_of_beq_eq_true h1.2) hlo h1.1 h2 h3)
  cases e' with
  | normal=>exact (ne rfl).elim
  | _=>exact fin
def quD (P:Program) (n:Nat) (f:FuncId) (k:Nat) (args:List SV) (pre:List (Nat×Nat×SV)) (ch:List Ch):Option (SV×St×List Prop):=
 qfi P (qb3 P n) k f args ⟨[],0,pre,k,ch⟩
def qkk (k m:Nat) (ρ:List (Nat×Nat)) (x:SV) (post:List (Nat×Nat×SV)):Option (SV×St×List Prop)→Prop
 | some (y,s,q)=>y=x.ren (qaG ρ)∧okR k k (k+m) (qaO [(0,x)] post) ρ=true∧qaI (eqH (qaG ρ) s post)∧qaI q
 | none=>False
theorem qqW {P:Program} (n:Nat) {f:FuncId} {k m:Nat} {args:List SV} {pre post:List (Nat×Nat×SV)} {x:SV} (ρ:List (Nat×Nat)) (ch:List Ch) (h:qkk k m ρ x post (quD P n f k args pre ch)):FnL P f k args pre x m post:=by
 intro w β us H hd hu
 cases hr:quD P n f k args pre ch with
 | none=>rw[hr] at h;exact h.elim
 | some z=>
  obtain⟨y,s,q⟩:=z
  rw[hr] at h
  obtain⟨rfl,hok,hh,hq⟩:=h
  obtain⟨_,_,e3⟩:=qcQ (qcK n) hr hq
  refine (e3 w β us w H hd (Nat.le_refl _) hu).mono fun e w' hh'=>?_
  obtain⟨v,β',rfl,hle,hx,hH,hdom,_⟩:=hh'
  have ok:=qb9 hok
  have kN:∀ {b},b∈qaO [(0,x)] post→qbr k (qaO [(0,x)] post) b=true:=fun {b} h=>by unfold qbr;rw[qcr.2 h,Bool.or_true]
  refine⟨v,_,rfl,?_,SV.ren_is (fun b hb=>Bl.ren_at (kN (List.mem_append_right _ (List.mem_flatMap.2 ⟨(0,x),by simp,hb⟩)))) hx,hH.ren ok (fun e he=>⟨List.mem_append_left _ (List.mem_flatMap.2 ⟨e,he,by simp⟩),fun b hb=>List.mem_append_left _ (List.mem_flatMap.2 ⟨e,he,by simp[hb]⟩)⟩) hh,Bl.ren_dom ok⟩
  refine⟨fun b hb=>?_,hle.2.1,hle.2.2⟩
  have hbk:b<k:=by
   rcases Nat.lt_or_ge b k with h | h
   ·exact h
   ·obtain⟨h1,h2⟩:=hd b h
    rcases hb with hb | hb
    ·exact (hb h1).elim
    ·exact (hb h2).elim
  have h1:=hle.1 b hb
  have h2:=(Bl.ren_leU (β:=β') ok).1 b hbk (by rw[h1.1,h1.2];exact hb)
  exact⟨h2.1.trans h1.1,h2.2.trans h1.2⟩
theorem qnQ {P:Program} (n:Nat) {f:FuncId} {k m:Nat} {args:List SV} {pre post:List (Nat×Nat×SV)} {x:SV} (ρ:List (Nat×Nat)) (ch:List Ch) {T H:Prop} (hh:H) (ht:T)
 (h:qkk k m ρ x post (quD P n f k args pre ch)=(x.ren (qaG ρ)=x.ren (qaG ρ)∧true=true∧H∧T)):FnL P f k args pre x m post:=qqW n ρ ch (h▸⟨rfl,rfl,hh,ht⟩)
def qxk (P:Program) (n:Nat) (f:FuncId) (l k:Nat) (args:List SV) (pre:List (Nat×Nat×SV)) (ch:List Ch):Option (SV×St×List Prop):=
 qfi P (qb3 P n) l f args ⟨[],0,pre,k,ch⟩
def qqP (l k m:Nat) (ρ:List (Nat×Nat)) (x:SV) (post:List (Nat×Nat×SV)):Option (SV×St×List Prop)→Prop
 | some (y,s,q)=>y=x.ren (qaG ρ)∧(Nat.ble l k&&okR l k (k+m) (qaO [(0,x)] post) ρ)=true∧qaI (eqH (qaG ρ) s post)∧qaI q
 | none=>False
theorem qq7 {P:Program} (n:Nat) {f:FuncId} {l k m:Nat} {args:List SV} {pre post:List (Nat×Nat×SV)} {x:SV} (ρ:List (Nat×Nat)) (ch:List Ch) (h:qqP l k m ρ x post (qxk P n f l k args pre ch)):FnO P f l k args pre x m post:=by
 intro W0 w β us H hd hu
 cases hr:qxk P n f l k args pre ch with
 | none=>rw[hr] at h;exact h.elim
 | some z=>
  obtain⟨y,s,q⟩:=z
  rw[hr] at h
  obtain⟨rfl,hok,hh,hq⟩:=h
  rw[Bool.and_eq_true] at hok
  obtain⟨hlk,hok⟩:=hok
  obtain⟨_,_,e3⟩:=qcQ (qcK n) hr hq
  refine (e3 W0 β us w H hd (Nat.le_of_ble_eq_true hlk) hu).mono fun e w' hh'=>?_
  obtain⟨v,β',rfl,hle,hx,hH,hdom,_⟩:=hh'
  have ok:=qb9 hok
  have kN:∀ {b},b∈qaO [(0,x)] post→qbr k (qaO [(0,x)] post) b=true:=fun {b} h=>by unfold qbr;rw[qcr.2 h,Bool.or_true]
  refine⟨v,_,rfl,?_,SV.ren_is (fun b hb=>Bl.ren_at (kN (List.mem_append_right _ (List.mem_flatMap.2 ⟨(0,x),by simp,hb⟩)))) hx,hH.ren ok (fun e he=>⟨List.mem_append_left _ (List.mem_flatMap.2 ⟨e,he,by simp⟩),fun b hb=>List.mem_append_left _ (List.mem_flatMap.2 ⟨e,he,by simp[hb]⟩)⟩) hh,Bl.ren_dom ok⟩
  refine⟨fun b hb=>?_,hle.2.1,hle.2.2⟩
  have hbk:b<k:=by
   rcases Nat.lt_or_ge b k with h | h
   ·exact h
   ·obtain⟨h1,h2⟩:=hd b h
    rcases hb with hb | hb
    ·exact (hb h1).elim
    ·exact (hb h2).elim
  have h1:=hle.1 b hb
  have h2:=(Bl.ren_leU (β:=β') ok).1 b hbk (by rw[h1.1,h1.2];exact hb)
  exact⟨h2.1.trans h1.1,h2.2.trans h1.2⟩
theorem qzk {P:Program} (n:Nat) {f:FuncId} {l k m:Nat} {args:List SV} {pre post:List (Nat×Nat×SV)} {x:SV} (ρ:List (Nat×Nat)) (ch:List Ch) {T H:Prop} (hh:H) (ht:T)
 (h:qqP l k m ρ x post (qxk P n f l k args pre ch)=(x.ren (qaG ρ)=x.ren (qaG ρ)∧true=true∧H∧T)):FnO P f l k args pre x m post:=qq7 n ρ ch (h▸⟨rfl,rfl,hh,ht⟩)
theorem qw6 {P:Program} (n:Nat) {f:FuncId} {l k m:Nat} {args:List SV} {pre post:List (Nat×Nat×SV)} {x:SV} (ρ:List (Nat×Nat)) (ch:List Ch) {T H X:Prop} (hx:X) (hh:H) (ht:T)
 (h:qqP l k m ρ x post (qxk P n f l k args pre ch)=(X∧true=true∧H∧T)):FnO P f l k args pre x m post:=qq7 n ρ ch (h▸⟨hx,rfl,hh,ht⟩)
theorem qqF {P:Program} (n:Nat) {f:FuncId} {k m:Nat} {args:List SV} {pre post:List (Nat×Nat×SV)} {x:SV} (ρ:List (Nat×Nat)) (ch:List Ch) {T H X:Prop} (hx:X) (hh:H) (ht:T)
 (h:qkk k m ρ x post (quD P n f k args pre ch)=(X∧true=true∧H∧T)):FnL P f k args pre x m post:=qqW n ρ ch (h▸⟨hx,rfl,hh,ht⟩)
theorem FnL.of_pure {P:Program} {f:FuncId} {us:List Value} {v:Value} {k:Nat} {pre:List (Nat×Nat×SV)} (h:Pure P f us.toArray v):FnL P f k (us.map .pv) pre (.pv v) 0 []:=by
 intro w β us' H hd hu
 have:=SV.isl_v_eq hu
 subst this
 exact (h w).mono fun e w' ⟨he,hgr⟩=>⟨v,β,he,Bl.le_refl _,rfl,(H.gr_mono hgr).imp (fun _ _ _ h=>(by cases h)),hd⟩
attribute [irreducible] qxw qcu qkk qqP
end Go.Proofs.YtleaeldgaflmkaaGreat
