/-
  A run of Go code over plain values and blocks by name: the theorem. Conditions: none.
-/
import Derived.Test.YtkckcgpmnipnaaaGreatW14
namespace Go.Proofs.YtkckcgpmnipnaaaGreat
set_option maxRecDepth 100000
open Go.RowKit
theorem qdx {P:Program} {c:Code} {Q:Exit→Act→World→Prop} {a:Act} {w:World} (h:c.wp P (Exit.then (qc1 P c Q) Q) a w):(Code.loop c).wp P Q a w∧qc1 P c Q a w:=by
 have key:∀ (b:Frame) (k:List Item) (cs:List Frame) (m:Machine),Steps P m (lone (b.at a (.code c::.inLoop c::k)) cs w)→∃ e a' w',Q e a' w'∧Arrives P m b k cs e a' w':=by
  intro b k cs m hm;obtain⟨e,a₁,w₁,hq,harr⟩:=h b (.inLoop c::k) cs
  cases e with
  | normal=>
   obtain⟨e₂,a₂,w₂,hq₂,harr₂⟩:=hq b k cs;exact⟨e₂,a₂,w₂,hq₂,.of_steps (hm.trans harr) harr₂⟩
  | exit id=>exact⟨_,a₁,w₁,hq,.of_steps hm (.pass (x:=.inLoop c) rfl (fun _ _=>.inl (by simp)) harr)⟩
  | goto l=>exact⟨_,a₁,w₁,hq,.of_steps hm (.pass (x:=.inLoop c) rfl (fun _ _=>.inl (by simp)) harr)⟩
  | ret=>exact⟨_,a₁,w₁,hq,.of_steps hm (.pass (x:=.inLoop c) rfl (fun _ _=>.inl (by simp)) harr)⟩
  | panic ch=>exact⟨_,a₁,w₁,hq,.of_steps hm (.pass (x:=.inLoop c) rfl (fun _ _=>.inl (by simp)) harr)⟩
  | outgrown=>exact⟨_,a₁,w₁,hq,.of_steps hm (.pass (x:=.inLoop c) rfl (fun _ _=>.inl (by simp)) harr)⟩
 exact⟨fun b k cs=>key b k cs _ (.one step_loop),fun b k cs=>key b k cs _ (.one step_inLoop)⟩
theorem qia:∀ (n d:Nat),qaZ (quC n) d=if d<n then .any else .pv undef
 | 0,d=>by rw[if_neg (by omega)];rfl
 | n+1,d=>by
  rw[quC,qbC,qia n d];by_cases e:n=d
  ·subst e;rw[if_pos rfl,if_pos (by omega)]
  ·rw[if_neg e];by_cases h:d<n
   ·rw[if_pos h,if_pos (by omega)]
   ·rw[if_neg h,if_neg (by omega)]
theorem qgK {n:Nat}:∀ {tm:List (Nat×SV)} (d:Nat),(∃ e∈tm,e.1=d∧qaZ (tm++quC n) d=e.2)∨qaZ (tm++quC n) d=qaZ (quC n) d
 | [],d=>Or.inr rfl
 | (k,x)::r,d=>by
  rw[List.cons_append,qbC];by_cases e:k=d
  ·subst e;rw[if_pos rfl];exact Or.inl ⟨(k,x),by simp,rfl,rfl⟩
  ·rw[if_neg e]
   rcases qgK (tm:=r) d with ⟨y,hy,h1,h2⟩ | h1
   ·exact Or.inl ⟨y,by simp[hy],h1,h2⟩
   ·exact Or.inr h1
theorem Rel.ren {W0:World} {lo fr:Nat} {β:Bl} {st:St} {a:Act} {w:World} {n nb:Nat} {ρ:List (Nat×Nat)} {tm:List (Nat×SV)} {hp:List (Nat×Nat×SV)} (ch:List Ch) (R:Rel W0 lo β st a w) (hn:st.n=n) (hlo:lo≤nb) (hok:okR lo fr nb (qbB tm hp) ρ=true)
 (ht:qba (eqT (qaM ρ) st tm)) (hh:qba (eqH (qaM ρ) st hp)):Rel W0 lo (β.ren fr (qbB tm hp) (qaM ρ)) (qgh n nb tm hp ch) a w:=by
 have ok:=qd8 hok
 have kN:∀ {b},b∈qbB tm hp→qbP fr (qbB tm hp) b=true:=fun {b} h=>by unfold qbP;rw[qdV.2 h,Bool.or_true]
 have hNh:∀ e∈hp,e.1∈qbB tm hp∧∀ b∈e.2.2.nm,b∈qbB tm hp:=fun e he=>
  ⟨List.mem_append_left _ (List.mem_flatMap.2 ⟨e,he,by simp⟩),fun b hb=>List.mem_append_left _ (List.mem_flatMap.2 ⟨e,he,by simp[hb]⟩)⟩
 have hNt:∀ e∈tm,∀ b∈e.2.nm,b∈qbB tm hp:=fun e he b hb=>List.mem_append_right _ (List.mem_flatMap.2 ⟨e,he,hb⟩)
 refine⟨⟨R.t.size.trans hn,R.t.defers,fun d=>?_⟩,R.h.ren ok hNh hh,Bl.ren_dom ok,hlo⟩
 show (qaZ (tm++quC n) d).is _ _
 rcases qgK (n:=n) (tm:=tm) d with ⟨e,he,h1,h2⟩ | h1
 ·rw[h2];have h3:=qda ht e he;have h4:=R.t.tmps d;rw[← h1,h3] at h4;rw[← h1];exact SV.ren_is (fun b hb=>Bl.ren_at (kN (hNt e he b hb))) h4
 ·rw[h1,qia];split
  ·trivial
  ·rename_i hd
   show _=_
   rw[Array.getD_eq_getD_getElem?,Array.getElem?_eq_none (by rw[R.t.size];omega)];rfl
theorem qkS {P:Program} {lo fr:Nat} {c:Code} {st st':St} {ρ:List (Nat×Nat)} {e e':Exit} {tm0 tm1:List (Nat×SV)} {hp0 hp1:List (Nat×Nat×SV)} {ch:List Ch} {q:List Prop} (h:qqL P lo fr c st ρ e tm0 hp0 tm1 hp1 ch=some (e',st',q)) (hq:qba q)
 {W0:World} {β:Bl} {a:Act} {w:World} {Q:Exit→Act→World→Prop} (R:Rel W0 lo β st a w) (hQ:∀ β' a' w',β.leU fr β'→Rel W0 lo β' st' a' w'→Q e' a' w'):(Code.loop c).wp P Q a w∧qc1 P c Q a w:=by
 unfold qqL at h;cases hb:okR lo fr st.nb (qbB tm0 hp0) ρ
 ·rw[hb] at h;cases h
 ·rw[hb,cond_true] at h;simp only[Option.some.injEq,Prod.mk.injEq] at h;obtain⟨rfl,rfl,rfl⟩:=h;obtain⟨h1,h2,h3,_⟩:=hq
  exact h3 W0 _ a w Q (R.ren [] rfl R.lo hb h1 h2) fun β' a' w' hle R'=>
   hQ β' a' w' (Bl.leU_trans (Bl.ren_leU (qd8 hb)) hle) ⟨R'.t,R'.h,R'.dom,R'.lo⟩
def qpW (P:Program) (ex:qlz):Prop:=
 ∀ {lo fr:Nat} {c:Code} {st st':St} {e:Exit} {q:List Prop},ex lo fr c st=some (e,st',q)→qba q→∀ (W0:World) (β:Bl) (a:Act) (w:World) (Q:Exit→Act→World→Prop),Rel W0 lo β st a w→
  (∀ β' a' w',β.leU fr β'→Rel W0 lo β' st' a' w'→Q e a' w')→c.wp P Q a w∧∀ body,c=.loop body→qc1 P body Q a w
theorem qkR {β:Bl}:∀ {args:List SV} {us:List Value} (k:Nat),SV.isl β args us→∀ d,(qaZ (qjn k args) d).is β (if k≤d then us.getD (d-k) undef else undef)
 | [],[],k,_,d=>by
  show (SV.pv undef).is β _
  split
  ·simp[SV.is]
  ·rfl
 | [],_::_,_,h,_=>h.elim
 | _::_,[],_,h,_=>h.elim
 | x::r,u::us,k,h,d=>by
  rw[qjn,qbC];by_cases e:k=d
  ·subst e;rw[if_pos rfl,if_pos (Nat.le_refl _)];simpa using h.1
  ·rw[if_neg e];have:=qkR (k+1) h.2 d;by_cases hk:k≤d
   ·rw[if_pos (show k+1≤d by omega)] at this;rw[if_pos hk,show d-k=(d-(k+1))+1 by omega];simpa using this
   ·rw[if_neg (show ¬ k+1≤d by omega)] at this;rw[if_neg hk];exact this
theorem qdX {P:Program} {ex:qlz} (hex:qpW P ex) {lo:Nat} {f:FuncId} {args:List SV} {st st':St} {x:SV} {q:List Prop} (h:qgb P ex lo f args st=some (x,st',q)) (hq:qba q) :
 st'.tm=st.tm∧st'.n=st.n∧∀ (W0:World) (β:Bl) (us:List Value) (w:World),HRel W0 lo β st.hp w→β.dom st.nb→lo≤st.nb→SV.isl β args us→
  Calls P f us.toArray w fun e w'=>∃ v β',e=.returned v∧β.le β'∧x.is β' v∧HRel W0 lo β' st'.hp w'∧β'.dom st'.nb∧lo≤st'.nb:=by
 unfold qgb at h;split at h
 ·rename_i fn hfn;split at h
  ·rename_i code hcode
   have fin:∀ {e:Exit} {s:St},ex lo st.nb code { st with tm:=qjn 0 args,n:=args.length+(fn.ntmps-args.length) }=some (e,s,q)→(e=.ret∨e=.normal)→qBO P fn s=some x→st'={ s with tm:=st.tm,n:=st.n }→
    st'.tm=st.tm∧st'.n=st.n∧∀ (W0:World) (β:Bl) (us:List Value) (w:World),HRel W0 lo β st.hp w→β.dom st.nb→lo≤st.nb→SV.isl β args us→
     Calls P f us.toArray w fun e w'=>∃ v β',e=.returned v∧β.le β'∧x.is β' v∧HRel W0 lo β' st'.hp w'∧β'.dom st'.nb∧lo≤st'.nb:=by
    intro e s he hor hres hst;subst hst;refine⟨rfl,rfl,fun W0 β us w H hdom hlo hu=>?_⟩;refine calls_of_wp hfn hcode ?_;have hlen:=(SV.isl_get hu).1
    have R:Rel W0 lo β { st with tm:=qjn 0 args,n:=args.length+(fn.ntmps-args.length) } { tmps:=us.toArray++Array.replicate (fn.ntmps-us.toArray.size) undef,defers:=[] } w:=by
     refine⟨⟨by simp[hlen],rfl,fun d=>?_⟩,H,hdom,hlo⟩;have:=qkR 0 hu d;rw[if_pos (Nat.zero_le _),Nat.sub_zero] at this
     have hg:(us.toArray++Array.replicate (fn.ntmps-us.toArray.size) undef).getD d undef=us.getD d undef:=by
      rw[Array.getD_eq_getD_getElem?,List.getD_eq_getElem?_getD,Array.getElem?_append];split
      ·simp
      ·rename_i hge;rw[Array.getElem?_replicate];have:us[d]?=none:=List.getElem?_eq_none (by simpa using hge);rw[this]
       split<;>rfl
     show (qaZ (qjn 0 args) d).is β _
     rw[hg];exact this
    refine (hex he hq W0 β _ w _ R fun β' a' w' hleU R'=>?_).1
    have hle:β.le β':=fun b hb=>hleU b (by
     rcases Nat.lt_or_ge b st.nb with h | h
     ·exact h
     ·obtain⟨h1,h2⟩:=hdom b h
      rcases hb with hb | hb
      ·exact (hb h1).elim
      ·exact (hb h2).elim) hb
    obtain⟨v,hv,hx⟩:=qvH R' hres
    have post:a'.defers=[]∧∃ v,(results fn a'.tmps).run P w'=.ok v w'∧∃ v' β',Ending.returned v=.returned v'∧β.le β'∧x.is β' v'∧HRel W0 lo β' s.hp w'∧β'.dom s.nb∧lo≤s.nb:=
     ⟨R'.t.defers,v,hv,v,β',rfl,hle,hx,R'.h,R'.dom,R'.lo⟩
    rcases hor with rfl | rfl
    ·exact post
    ·exact post
   split at h
   ·rename_i s q' he;split at h
    ·rename_i y hy;simp only[Option.some.injEq,Prod.mk.injEq] at h;obtain⟨rfl,h2,rfl⟩:=h;exact fin he (Or.inl rfl) hy h2.symm
    ·cases h
   ·rename_i s q' he;split at h
    ·rename_i y hy;simp only[Option.some.injEq,Prod.mk.injEq] at h;obtain⟨rfl,h2,rfl⟩:=h;exact fin he (Or.inr rfl) hy h2.symm
    ·cases h
   ·cases h
  ·cases h
 ·cases h
theorem qkn {P:Program} {ex:qlz} (hex:qpW P ex):qb4 P (qm0 P ex):=by
 intro lo f args c st x st' q h hq
 have inl:(bif args.all SV.isV then
  match qgb P ex st.nb f args st with
  | some (.pv v,s,q)=>some (.pv v,{ st with ch:=s.ch },q)
  | _=>qgb P ex lo f args st
  else qgb P ex lo f args st)=some (x,st',q)→st'.tm=st.tm∧st'.n=st.n∧∀ (W0:World) (β:Bl) (us:List Value) (w:World),HRel W0 lo β st.hp w→β.dom st.nb→lo≤st.nb→SV.isl β args us→
   Calls P f us.toArray w fun e w'=>∃ v β',e=.returned v∧β.le β'∧x.is β' v∧HRel W0 lo β' st'.hp w'∧β'.dom st'.nb∧lo≤st'.nb:=by
  intro h;cases hb:args.all SV.isV
  ·rw[hb,cond_false] at h;exact qdX hex h hq
  ·rw[hb,cond_true] at h;split at h
   ·rename_i v s q' hbody;simp only[Option.some.injEq,Prod.mk.injEq] at h;obtain⟨rfl,rfl,rfl⟩:=h;obtain⟨_,_,e3⟩:=qdX hex hbody hq;refine⟨rfl,rfl,fun W0 β us w H hdom hlo hu=>?_⟩
    refine (e3 w β us w (H.mono_lo (Gr.refl w) rfl hdom) hdom (Nat.le_refl _) hu).mono fun e w' hh=>?_
    obtain⟨v',β',rfl,hle,hx,hH,_,_⟩:=hh;exact⟨v',β,rfl,Bl.le_refl _,hx,H.gr_mono hH.gr,hdom,hlo⟩
   ·exact qdX hex h hq
 cases c with
 | r v=>
  simp only[qm0] at h;split at h
  ·rename_i us hg;simp only[Option.some.injEq,Prod.mk.injEq] at h;obtain⟨rfl,rfl,rfl⟩:=h;refine⟨rfl,rfl,fun W0 β us' w H hdom hlo hu=>?_⟩;rw[qcv hg] at hu;have:=SV.isl_v_eq hu;subst this
   exact (hq.1 w).mono fun e w' ⟨he,hgr⟩=>⟨v,β,he,Bl.le_refl _,rfl,H.gr_mono hgr,hdom,hlo⟩
  ·cases h
 | f σ args0 pre y m post=>
  simp only[qm0] at h;cases hb:okF st.nb σ args0 pre y m post
  ·rw[hb] at h;cases h
  ·rw[hb,cond_true] at h;simp only[Option.some.injEq,Prod.mk.injEq] at h;obtain⟨rfl,rfl,rfl⟩:=h;obtain⟨q1,q2,q3,_⟩:=hq;exact⟨rfl,rfl,fun W0 β us w H hdom hlo hu=>qrH hb q1 q2 q3 H hdom hlo hu⟩
 | m σ args0 pre y j ys=>
  simp only[qm0] at h;split at h
  ·rename_i R hR;cases hb:(okF st.nb σ args0 pre (.pv y) 0 []&&qhO lo st.hp (some (qca σ st.nb j))&&Nat.ble (j+1) σ.length)
   ·rw[hb] at h;cases h
   ·rw[hb,cond_true] at h;simp only[Bool.and_eq_true] at hb;simp only[Option.some.injEq,Prod.mk.injEq] at h;obtain⟨rfl,rfl,rfl⟩:=h;obtain⟨q1,q2,q3,_⟩:=hq;refine⟨rfl,rfl,fun W0 β us w H hdom hlo hu=>(qrr hb.1.1 hb.1.2 (Nat.le_of_ble_eq_true hb.2) hR q1 q2 q3 H hu).mono fun e w' hh=>?_⟩;exact⟨y,β,hh.1,Bl.le_refl _,rfl,hh.2,hdom,hlo⟩
  ·cases h
 | k=>exact inl h
 | t b=>exact inl h
 | l=>exact inl h
 | lr=>exact inl h
 | w=>exact inl h
 | ln=>exact inl h
 | pm=>exact inl h
 | gr=>exact inl h
 | lw=>exact inl h
 | gh _=>exact inl h
 | md=>exact inl h
 | up _=>exact inl h
theorem qu7 {W0:World} {lo:Nat} {β:Bl} {st s:St} {a:Act} {w:World} {slot:Bool} {b o:Nat} {e:TypeId} {es:Nat} (h:qHK st slot b o e es=some s) (R:Rel W0 lo β st a w):∃ β',β.le β'∧Rel W0 lo β' s a w:=by
 obtain⟨hn,hn2⟩:=R.dom _ (Nat.le_refl _);have hle:β.le (β.setG st.nb (.slice none 0 0)):=Bl.le_setG hn hn2;have hls:(SV.ls st.nb 0).is (β.setG st.nb (.slice none 0 0)) (.slice none 0 0):=⟨Bl.setG_same _ _ _,none,0,rfl⟩
 have hdom:(β.setG st.nb (.slice none 0 0)).dom (st.nb+1):=by
  intro c hc;obtain⟨d1,d2⟩:=R.dom c (by omega);refine⟨d1,?_⟩;unfold Bl.setG;simp only;rw[if_neg (by omega)];exact d2
 have HR:HRel W0 lo (β.setG st.nb (.slice none 0 0)) ((st.nb,0,.row e es 0 [])::st.hp) w:=by
  refine (R.h.setG hn hn2 (.slice none 0 0)).addRow R.lo (Bl.setG_same _ _ _) (World.ownsRow_nil w _ e es) (fun _ h=>by cases h) (fun _ _ _ hk=>by cases hk) (fun _ _ _ _ _ _ _ _ _ _ k hk=>by cases hk) fun c o s hc=>?_
  have hc':qaj ((st.nb,0,.row e es 0 [])::st.hp) c o=some s:=hc;rw[qao] at hc';split at hc'
  ·rename_i e1;cases hc';exact Or.inl ⟨e1.1.symm,e1.2.symm,rfl⟩
  ·refine Or.inr ⟨hc',fun hrw e=>?_⟩
   cases s<;>try cases hrw
   ·obtain⟨v',g1,_⟩:=R.h.rows _ _ _ _ _ _ hc';rw[e,hn2] at g1;cases g1
   ·obtain⟨v',g1,_⟩:=R.h.maps _ _ _ hc';rw[e,hn] at g1;cases g1
 unfold qHK at h;cases slot
 ·rw[cond_false] at h;split at h
  ·rename_i v hv;cases hb:qcS v
   ·rw[hb] at h;cases h
   ·rw[hb,cond_true] at h;cases h;have hv':=qcY hb;subst hv';obtain⟨r,u,c1,c2,c3,c4,c5⟩:=R.h.cells _ _ _ hv rfl;have c2':u=.slice none 0 0:=c2;subst c2';refine⟨_,hle,R.t.mono hle,⟨HR.gr,HR.live,HR.inj,HR.new,HR.sep,fun c k s hc hs=>?_,fun c k e1 es1 n1 xs1 hc=>?_,fun c k e1 es1 n1 xs1 c' k' e2 es2 n2 xs2 u v f1 f2=>?_,fun c k xs hc=>?_⟩,hdom,Nat.le_succ_of_le R.lo⟩
    ·rw[qao] at hc;split at hc
     ·rename_i e1;obtain⟨rfl,rfl⟩:=e1;cases hc;exact⟨r,_,hle.f c1,hls,rfl,c4,c5⟩
     ·exact HR.cells c k s hc hs
    ·rw[qao] at hc;split at hc
     ·cases hc
     ·exact HR.rows _ _ _ _ _ _ hc
    ·rw[qao] at f1 f2;split at f1
     ·cases f1
     ·split at f2
      ·cases f2
      ·exact HR.rinj _ _ _ _ _ _ _ _ _ _ _ _ u v f1 f2
    ·rw[qao] at hc;split at hc
     ·cases hc
     ·exact HR.maps _ _ _ hc
  ·cases h
 ·rw[cond_true] at h;split at h
  ·rename_i v hv;cases hb:(qcS v&&Nat.ble (b+1) st.n)
   ·rw[hb] at h;cases h
   ·rw[hb,cond_true] at h;simp only[Bool.and_eq_true] at hb;cases h;have hv':=qcY hb.1;subst hv';refine⟨_,hle,⟨R.t.size,R.t.defers,fun d=>?_⟩,HR,hdom,Nat.le_succ_of_le R.lo⟩;rw[qbC];split
    ·rename_i hd;subst hd;have:=R.t.tmps b;rw[hv] at this;rw[show a.tmps.getD b undef=_ from this];exact hls
    ·exact SV.is_mono hle (R.t.tmps d)
  ·cases h
theorem qhD {P:Program}:∀ (n:Nat),qpW P (qdW P n):=by
 intro n
 induction n with
 | zero=>intro lo fr c st st' e q h;simp[qdW] at h
 | succ n ih=>
  intro lo fr c st st' e q h hq W0 β a w Q R hQ
  cases c with
  | skip=>
   simp only[qdW,Option.some.injEq,Prod.mk.injEq] at h;obtain⟨rfl,rfl,rfl⟩:=h;exact⟨wp_skip (hQ β a w ((Bl.le_refl _).u _) R),fun _ e=>by cases e⟩
  | label l=>
   simp only[qdW,Option.some.injEq,Prod.mk.injEq] at h;obtain⟨rfl,rfl,rfl⟩:=h;exact⟨wp_label (hQ β a w ((Bl.le_refl _).u _) R),fun _ e=>by cases e⟩
  | region id ops draw=>
   refine⟨?_,fun _ e=>by cases e⟩;simp only[qdW] at h;cases draw
   ·simp only[cond_false] at h;split at h
    ·rename_i s q' hs;simp only[Option.some.injEq,Prod.mk.injEq] at h;obtain⟨rfl,rfl,rfl⟩:=h;exact wp_region_list (qeA (qkn ih) hs hq R fun β' a' w' hle=>hQ β' a' w' (hle.u _))
    ·cases h
   ·simp only[cond_true] at h;split at h
    ·rename_i s q' hs;simp only[Option.some.injEq,Prod.mk.injEq] at h;obtain⟨rfl,rfl,rfl⟩:=h
     exact qrl (qkn ih) hs hq R fun β' a' w' hle=>hQ β' a' w' (hle.u _)
    ·cases h
  | seq x y=>
   refine⟨?_,fun _ e=>by cases e⟩;simp only[qdW] at h;split at h
   ·rename_i s q1 h1;split at h
    ·rename_i e2 s2 q2 h2;simp only[Option.some.injEq,Prod.mk.injEq] at h;obtain⟨rfl,rfl,rfl⟩:=h;obtain⟨a1,a2⟩:=qav hq;refine wp_seq (ih h1 a1 W0 β a w _ R fun β' a' w' hle R'=>?_).1;exact (ih h2 a2 W0 β' a' w' Q R' fun β'' a'' w'' hle' R''=>hQ β'' a'' w'' (Bl.leU_trans hle hle') R'').1
    ·cases h
   ·rename_i i s q1 h1;simp only[Option.some.injEq,Prod.mk.injEq] at h;obtain⟨rfl,rfl,rfl⟩:=h;exact wp_seq (ih h1 hq W0 β a w (Exit.then (y.wp P Q) Q) R (fun β' a' w' hle R'=>hQ β' a' w' hle R')).1
   ·rename_i s q1 h1;simp only[Option.some.injEq,Prod.mk.injEq] at h;obtain⟨rfl,rfl,rfl⟩:=h;exact wp_seq (ih h1 hq W0 β a w (Exit.then (y.wp P Q) Q) R (fun β' a' w' hle R'=>hQ β' a' w' hle R')).1
   ·cases h
  | cond c x y=>
   refine⟨?_,fun _ e=>by cases e⟩;simp only[qdW] at h;split at h
   ·rename_i b hb;have k:=R.t.ev c;rw[hb] at k;cases b
    ·exact wp_cond_false k (ih h hq W0 β a w Q R hQ).1
    ·exact wp_cond_true k (ih h hq W0 β a w Q R hQ).1
   ·cases h
  | block id c=>
   refine⟨?_,fun _ e=>by cases e⟩;simp only[qdW] at h;split at h
   ·rename_i s q1 h1;simp only[Option.some.injEq,Prod.mk.injEq] at h;obtain⟨rfl,rfl,rfl⟩:=h;exact wp_block (ih h1 hq W0 β a w (Exit.inBlock id Q) R (fun β' a' w' hle R'=>hQ β' a' w' hle R')).1
   ·rename_i i s q1 h1;cases hb:Nat.beq i id
    ·rw[hb,cond_false] at h;simp only[Option.some.injEq,Prod.mk.injEq] at h;obtain⟨rfl,rfl,rfl⟩:=h
     have hne:¬ i=id:=fun e=>by subst e;rw[Nat.beq_refl] at hb;cases hb
     refine wp_block (ih h1 hq W0 β a w _ R fun β' a' w' hle R'=>?_).1
     show (if i=id then _ else _)
     rw[if_neg hne];exact hQ β' a' w' hle R'
    ·rw[hb,cond_true] at h;simp only[Option.some.injEq,Prod.mk.injEq] at h;obtain⟨rfl,rfl,rfl⟩:=h;have he:=Nat.eq_of_beq_eq_true hb;refine wp_block (ih h1 hq W0 β a w _ R fun β' a' w' hle R'=>?_).1
     show (if i=id then _ else _)
     rw[if_pos he];exact hQ β' a' w' hle R'
   ·rename_i s q1 h1;simp only[Option.some.injEq,Prod.mk.injEq] at h;obtain⟨rfl,rfl,rfl⟩:=h;exact wp_block (ih h1 hq W0 β a w (Exit.inBlock id Q) R (fun β' a' w' hle R'=>hQ β' a' w' hle R')).1
   ·cases h
  | loop c=>
   simp only[qdW] at h;split at h
   ·obtain⟨k1,k2⟩:=qkS h hq R hQ;exact⟨k1,fun b e=>by cases e;exact k2⟩
   ·obtain⟨k1,k2⟩:=qkS h hq R hQ;exact⟨k1,fun b e=>by cases e;exact k2⟩
   ·split at h
    ·rename_i s hs
     have R1:∀ ch,Rel W0 lo β { st with ch:=ch } a w:=fun _=>⟨R.t,R.h,R.dom,R.lo⟩
     obtain⟨β1,hle1,R2⟩:=qu7 hs (R1 _)
     exact ih h hq W0 β1 a w Q R2 fun β' a' w' hle R'=>hQ β' a' w' (Bl.leU_trans (hle1.u _) hle) R'
    ·cases h
   ·rename_i k ch hch;cases hb:Nat.ble st.nb k
    ·rw[hb] at h;cases h
    ·rw[hb,cond_true] at h;have hle:=Nat.le_of_ble_eq_true hb;exact ih h hq W0 β a w Q ⟨R.t,R.h,fun b hb'=>R.dom b (Nat.le_trans hle hb'),Nat.le_trans R.lo hle⟩ hQ
   have key:c.wp P (Exit.then (qc1 P c Q) Q) a w:=by
    split at h
    ·rename_i s q1 h1;split at h
     ·rename_i e2 s2 q2 h2;simp only[Option.some.injEq,Prod.mk.injEq] at h;obtain⟨rfl,rfl,rfl⟩:=h;obtain⟨a1,a2⟩:=qav hq;refine (ih h1 a1 W0 β a w _ R fun β' a' w' hle R'=>?_).1;exact (ih h2 a2 W0 β' a' w' Q R' fun β'' a'' w'' hle' R''=>hQ β'' a'' w'' (Bl.leU_trans hle hle') R'').2 c rfl
     ·cases h
    ·rename_i i s q1 h1;simp only[Option.some.injEq,Prod.mk.injEq] at h;obtain⟨rfl,rfl,rfl⟩:=h;exact (ih h1 hq W0 β a w (Exit.then (qc1 P c Q) Q) R (fun β' a' w' hle R'=>hQ β' a' w' hle R')).1
    ·rename_i s q1 h1;simp only[Option.some.injEq,Prod.mk.injEq] at h;obtain⟨rfl,rfl,rfl⟩:=h;exact (ih h1 hq W0 β a w (Exit.then (qc1 P c Q) Q) R (fun β' a' w' hle R'=>hQ β' a' w' hle R')).1
    ·cases h
   obtain⟨k1,k2⟩:=qdx key;exact⟨k1,fun b e=>by cases e;exact k2⟩
  | exit id=>
   simp only[qdW,Option.some.injEq,Prod.mk.injEq] at h;obtain⟨rfl,rfl,rfl⟩:=h;exact⟨wp_exit (hQ β a w ((Bl.le_refl _).u _) R),fun _ e=>by cases e⟩
  | ret=>
   simp only[qdW,Option.some.injEq,Prod.mk.injEq] at h;obtain⟨rfl,rfl,rfl⟩:=h;exact⟨wp_ret (hQ β a w ((Bl.le_refl _).u _) R),fun _ e=>by cases e⟩
  | _=>simp[qdW] at h
def qEQ (P:Program) (n:Nat) (f:FuncId) (args:List Value) (ch:List Ch):Option (SV×St×List Prop):=
 qgb P (qdW P n) 0 f (args.map .pv) ⟨[],0,[],0,ch⟩
def qEl (v:Value):Option (SV×St×List Prop)→Prop
 | some (.pv u,_,q)=>u=v∧qba q
 | _=>False
theorem qoI {P:Program} (n:Nat) {f:FuncId} {args:List Value} (ch:List Ch) {v:Value} (h:qEl v (qEQ P n f args ch)):Pure P f args.toArray v:=by
 intro w
 cases hr:qEQ P n f args ch with
 | none=>rw[hr] at h;exact h.elim
 | some z=>
  obtain⟨x,s,q⟩:=z;rw[hr] at h
  cases x with
  | pv u=>
   obtain⟨hu,hq⟩:=h;subst hu;obtain⟨_,_,e3⟩:=qdX (qhD n) hr hq;have H0:HRel w 0 Bl.no [] w:=⟨Gr.refl w,fun _ _ e=>(by cases e),fun _ _ _ e=>(by cases e),fun _ _ _ e=>(by cases e),fun _ _ e=>(by cases e),fun _ _ _ e=>(by cases e),fun _ _ _ _ _ _ e=>(by cases e),fun _ _ _ _ _ _ _ _ _ _ _ _ _ _ e=>(by cases e),fun _ _ _ e=>(by cases e)⟩
   refine (e3 w Bl.no args w H0 (fun _ _=>⟨rfl,rfl⟩) (Nat.le_refl _) (SV.isl_v _)).mono fun e w' hh=>?_
   obtain⟨v',β',rfl,_,hx,hH,_,_⟩:=hh;exact⟨by rw[show v'=u from hx],hH.gr⟩
  | _=>exact h.elim
def qdu:Nat→Code→List Code
 | 0,_=>[]
 | n+1,c=>match c with
  | .seq x y=>qdu n x++qdu n y
  | .cond _ x y=>qdu n x++qdu n y
  | .block _ x=>qdu n x
  | .loop x=>x::qdu n x
  | _=>[]
def qgx (P:Program) (f:FuncId) (k:Nat):Code:=
 match P.funcs[f]? with
 | some fn=>match fn.body with
  | some c=>(qdu 200 c).getD k .skip
  | none=>.skip
 | none=>.skip
def qeG (ρ:List (Nat×Nat)) (lo fr n nb:Nat) (e:Exit) (tm:List (Nat×SV)) (hp:List (Nat×Nat×SV)):Option (Exit×St×List Prop)→Prop
 | some (e',s,q)=>e'=e∧(okR lo fr nb (qbB tm hp) ρ&&Nat.beq s.n n)=true∧qba (eqT (qaM ρ) s tm)∧qba (eqH (qaM ρ) s hp)∧qba q
 | none=>False
theorem qqi (f:Nat→Nat):∀ (tm:List (Nat×SV)),qba (tm.map fun e=>e.2.ren f=e.2.ren f)
 | []=>trivial
 | _::r=>⟨rfl,qqi f r⟩
theorem qaG (f:Nat→Nat):∀ (hp:List (Nat×Nat×SV)),qba (hp.map fun e=>some (e.2.2.ren f)=some (e.2.2.ren f))
 | []=>trivial
 | _::r=>⟨rfl,qaG f r⟩
theorem qsC {ρ:List (Nat×Nat)} {lo fr n nb:Nat} {e:Exit} {tm:List (Nat×SV)} {hp:List (Nat×Nat×SV)} {r:Option (Exit×St×List Prop)} {T:Prop} (ht:T)
 (h:qeG ρ lo fr n nb e tm hp r=(e=e∧true=true∧qba (tm.map fun e=>e.2.ren (qaM ρ)=e.2.ren (qaM ρ))∧qba (hp.map fun e=>some (e.2.2.ren (qaM ρ))=some (e.2.2.ren (qaM ρ)))∧T)):qeG ρ lo fr n nb e tm hp r:=h▸⟨rfl,rfl,qqi _ tm,qaG _ hp,ht⟩
theorem qow {ρ:List (Nat×Nat)} {lo fr n nb:Nat} {e:Exit} {tm:List (Nat×SV)} {hp:List (Nat×Nat×SV)} {r:Option (Exit×St×List Prop)} {T H:Prop} (hh:H) (ht:T)
 (h:qeG ρ lo fr n nb e tm hp r=(e=e∧true=true∧qba (tm.map fun e=>e.2.ren (qaM ρ)=e.2.ren (qaM ρ))∧H∧T)):qeG ρ lo fr n nb e tm hp r:=h▸⟨rfl,rfl,qqi _ tm,hh,ht⟩
theorem qml {ρ:List (Nat×Nat)} {lo fr n nb:Nat} {e:Exit} {tm:List (Nat×SV)} {hp:List (Nat×Nat×SV)} {r:Option (Exit×St×List Prop)} {T H S:Prop} (hs:S) (hh:H) (ht:T)
 (h:qeG ρ lo fr n nb e tm hp r=(e=e∧true=true∧S∧H∧T)):qeG ρ lo fr n nb e tm hp r:=h▸⟨rfl,rfl,hs,hh,ht⟩
theorem RunsL.next {P:Program} {lo fr:Nat} {c:Code} {n nb:Nat} {tm0 tm1 tm2:List (Nat×SV)} {hp0 hp1 hp2:List (Nat×Nat×SV)} {e:Exit} (ρ:List (Nat×Nat)) (k:Nat) (ch:List Ch)
 (h:qeG ρ lo fr n nb .normal tm1 hp1 (qdW P k lo fr c (qgh n nb tm0 hp0 ch))) (r:RunsL P lo fr c n nb tm1 hp1 e tm2 hp2):RunsL P lo fr c n nb tm0 hp0 e tm2 hp2:=by
 intro W0 β a w Q R hQ
 cases he:qdW P k lo fr c (qgh n nb tm0 hp0 ch) with
 | none=>rw[he] at h;exact h.elim
 | some z=>
  obtain⟨e',s,q⟩:=z;rw[he] at h;obtain⟨rfl,h1,h2,h3,h4⟩:=h;simp only[Bool.and_eq_true] at h1;have hlo:lo≤nb:=R.lo;have R0:Rel W0 lo β (qgh n nb tm0 hp0 ch) a w:=⟨R.t,R.h,R.dom,R.lo⟩;refine qdx ((qhD k he h4 W0 β a w _ R0 fun β' a' w' hle R'=>?_).1);exact (r W0 _ a' w' Q (R'.ren [] (Nat.eq_of_beq_eq_true h1.2) hlo h1.1 h2 h3) fun β'' a'' w'' hle' R''=>hQ β'' a'' w'' (Bl.leU_trans (Bl.leU_trans hle (Bl.ren_leU (qd8 h1.1))) hle') R'').2
theorem RunsL.stop {P:Program} {lo fr:Nat} {c:Code} {n nb:Nat} {tm0 tm1:List (Nat×SV)} {hp0 hp1:List (Nat×Nat×SV)} {e:Exit} (ρ:List (Nat×Nat)) (k:Nat) (ch:List Ch) (ne:e=.normal→False)
 (h:qeG ρ lo fr n nb e tm1 hp1 (qdW P k lo fr c (qgh n nb tm0 hp0 ch))):RunsL P lo fr c n nb tm0 hp0 e tm1 hp1:=by
 intro W0 β a w Q R hQ
 cases he:qdW P k lo fr c (qgh n nb tm0 hp0 ch) with
 | none=>rw[he] at h;exact h.elim
 | some z=>
  obtain⟨e',s,q⟩:=z;rw[he] at h;obtain⟨rfl,h1,h2,h3,h4⟩:=h;simp only[Bool.and_eq_true] at h1;have hlo:lo≤nb:=R.lo;have R0:Rel W0 lo β (qgh n nb tm0 hp0 ch) a w:=⟨R.t,R.h,R.dom,R.lo⟩;refine qdx ((qhD k he h4 W0 β a w _ R0 fun β' a' w' hle R'=>?_).1);have fin:=hQ _ a' w' (Bl.leU_trans hle (Bl.ren_leU (qd8 h1.1))) (R'.ren [] (Nat.eq_of_beq_eq_true h1.2) hlo h1.1 h2 h3)
  cases e' with
  | normal=>exact (ne rfl).elim
  | _=>exact fin
def qzx (P:Program) (n:Nat) (f:FuncId) (k:Nat) (args:List SV) (pre:List (Nat×Nat×SV)) (ch:List Ch):Option (SV×St×List Prop):=
 qgb P (qdW P n) k f args ⟨[],0,pre,k,ch⟩
def qmp (k m:Nat) (ρ:List (Nat×Nat)) (x:SV) (post:List (Nat×Nat×SV)):Option (SV×St×List Prop)→Prop
 | some (y,s,q)=>y=x.ren (qaM ρ)∧okR k k (k+m) (qbB [(0,x)] post) ρ=true∧qba (eqH (qaM ρ) s post)∧qba q
 | none=>False
theorem qt6 {P:Program} (n:Nat) {f:FuncId} {k m:Nat} {args:List SV} {pre post:List (Nat×Nat×SV)} {x:SV} (ρ:List (Nat×Nat)) (ch:List Ch) (h:qmp k m ρ x post (qzx P n f k args pre ch)):FnL P f k args pre x m post:=by
 intro w β us H hd hu
 cases hr:qzx P n f k args pre ch with
 | none=>rw[hr] at h;exact h.elim
 | some z=>
  obtain⟨y,s,q⟩:=z;rw[hr] at h;obtain⟨rfl,hok,hh,hq⟩:=h;obtain⟨_,_,e3⟩:=qdX (qhD n) hr hq
  refine (e3 w β us w H hd (Nat.le_refl _) hu).mono fun e w' hh'=>?_
  obtain⟨v,β',rfl,hle,hx,hH,hdom,_⟩:=hh';have ok:=qd8 hok
  have kN:∀ {b},b∈qbB [(0,x)] post→qbP k (qbB [(0,x)] post) b=true:=fun {b} h=>by unfold qbP;rw[qdV.2 h,Bool.or_true]
  refine⟨v,_,rfl,?_,SV.ren_is (fun b hb=>Bl.ren_at (kN (List.mem_append_right _ (List.mem_flatMap.2 ⟨(0,x),by simp,hb⟩)))) hx,hH.ren ok (fun e he=>⟨List.mem_append_left _ (List.mem_flatMap.2 ⟨e,he,by simp⟩),fun b hb=>List.mem_append_left _ (List.mem_flatMap.2 ⟨e,he,by simp[hb]⟩)⟩) hh,Bl.ren_dom ok⟩;intro b hb
  have hbk:b<k:=by
   rcases Nat.lt_or_ge b k with h | h
   ·exact h
   ·obtain⟨h1,h2⟩:=hd b h
    rcases hb with hb | hb
    ·exact (hb h1).elim
    ·exact (hb h2).elim
  have h1:=hle b hb;have h2:=Bl.ren_leU (β:=β') ok b hbk (by rw[h1.1,h1.2];exact hb);exact⟨h2.1.trans h1.1,h2.2.trans h1.2⟩
theorem qeh {P:Program} (n:Nat) {f:FuncId} {k m:Nat} {args:List SV} {pre post:List (Nat×Nat×SV)} {x:SV} (ρ:List (Nat×Nat)) (ch:List Ch) {T H:Prop} (hh:H) (ht:T)
 (h:qmp k m ρ x post (qzx P n f k args pre ch)=(x.ren (qaM ρ)=x.ren (qaM ρ)∧true=true∧H∧T)):FnL P f k args pre x m post:=qt6 n ρ ch (h▸⟨rfl,rfl,hh,ht⟩)
theorem qsI {P:Program} (n:Nat) {f:FuncId} {k m:Nat} {args:List SV} {pre post:List (Nat×Nat×SV)} {x:SV} (ρ:List (Nat×Nat)) (ch:List Ch) {T H X:Prop} (hx:X) (hh:H) (ht:T)
 (h:qmp k m ρ x post (qzx P n f k args pre ch)=(X∧true=true∧H∧T)):FnL P f k args pre x m post:=qt6 n ρ ch (h▸⟨hx,rfl,hh,ht⟩)
attribute [irreducible] qEl qeG qmp
end Go.Proofs.YtkckcgpmnipnaaaGreat
