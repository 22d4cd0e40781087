/-
  Joined: Qf, Qg. Conditions: none.
-/
import Derived.Test.YtgbmdijodlfcaaaQe
import Derived.Test.YtgbmdijodlfcaaaW21
namespace Go.Proofs.Ytgbmdijodlfcaaa
set_option maxRecDepth 100000
open Go.RowKit
section
variable (s:List Pt) (tn td:Int)
def rpS (q:Br×List Int) (k:Nat):Br×List Int:=(⟨q.1.p,q.1.w.set k (won s tn td (q.1.nd (2*k+1)) (q.1.nd (2*k+2)))⟩,if won s tn td (q.1.nd (2*k+1)) (q.1.nd (2*k+2))=q.1.nd k then q.2 else q.2++[(k:Int)])
def rpF (l:List Nat) (q:Br×List Int):Br×List Int:=l.foldl (rpS s tn td) q
end
section
variable {s:List Pt} {tn td:Int}
theorem qi7:∀ (l:List Nat) (q:Br×List Int),(rpF s tn td l q).1=rp s tn td l q.1
 | [],_=>rfl
 | k::r,q=>qi7 r (rpS s tn td q k)
def InX (s:List Pt) (b:Br) (j:Nat):Prop:=∀ i,i≤2*b.w.length→i∉wy j→InF s (b.nd i)
theorem qqZ:∀ (j:Nat),j≤126→∀ k∈wy j,2*k+1≤j:=by
 intro j
 induction j using Nat.strongRecOn with
 | ind j ih=>
  intro hj k hk
  match j,ih,hj,hk with
  | 0,_,_,hk=>rw[qgb] at hk;cases hk
  | i+1,ih,hj,hk=>
   rw[qbs (by omega)] at hk
   rcases List.mem_cons.1 hk with rfl | hk
   ·omega
   ·have:=ih (i/2) (by omega) (by omega) k hk
    omega
theorem InX.kids {b:Br} {i:Nat} (h:InX s b (i+1)) (hi:i≤125) (hl:i/2<b.w.length):InF s (b.nd (2*(i/2)+1))∧InF s (b.nd (2*(i/2)+2)):=by
 have key:∀ c,2*(i/2)+1≤c→c∉wy (i+1):=fun c hc hm=>by
  rw[qbs (by omega)] at hm
  rcases List.mem_cons.1 hm with rfl | hm
  ·omega
  ·have:=qqZ (i/2) (by omega) c hm
   omega
 exact⟨h _ (by omega) (key _ (Nat.le_refl _)),h _ (by omega) (key _ (by omega))⟩
theorem InX.next {b:Br} {i:Nat} (h:InX s b (i+1)) (hi:i≤125) (hl:i/2<b.w.length):InX s ⟨b.p,b.w.set (i/2) (won s tn td (b.nd (2*(i/2)+1)) (b.nd (2*(i/2)+2)))⟩ (i/2):=by
 intro k hk hn
 have hk':k≤2*(b.w.set (i/2) (won s tn td (b.nd (2*(i/2)+1)) (b.nd (2*(i/2)+2)))).length:=hk
 rw[List.length_set] at hk'
 rw[qls hl]
 split
 ·obtain⟨h1,h2⟩:=h.kids hi hl
  exact qlX h1 h2
 ·rename_i hne
  refine h k hk' fun hm=>?_
  rw[qbs (by omega)] at hm
  rcases List.mem_cons.1 hm with e | hm
  ·exact hne e
  ·exact hn hm
theorem qlP:∀ (j:Nat),j≤126→∀ c,0<c→(c=j∨c∈wy j)→(c-1)/2∈wy j:=by
 intro j
 induction j using Nat.strongRecOn with
 | ind j ih=>
  intro hj c hc h
  match j,ih,hj,h with
  | 0,_,_,h=>
   rcases h with h | h
   ·omega
   ·rw[qgb] at h;cases h
  | i+1,ih,hj,h=>
   rw[qbs (by omega)] at h ⊢
   rcases h with rfl | h
   ·exact List.mem_cons.2 (Or.inl (by omega))
   ·rcases List.mem_cons.1 h with rfl | h
    ·exact List.mem_cons.2 (Or.inr (ih (i/2) (by omega) (by omega) _ hc (Or.inl rfl)))
    ·exact List.mem_cons.2 (Or.inr (ih (i/2) (by omega) (by omega) _ hc (Or.inr h)))
theorem InX.put {b:Br} (V:VB b) {j:Nat} {x:Int} (hj:j<b.p.length) (hk:KnB s (b.p.set j x)):InX s ⟨b.p.set j x,b.w⟩ (b.w.length+j):=by
 have hw:=V.w
 have hn:=V.n2
 have key:∀ (d i:Nat),i+d=2*b.w.length→i∉wy (b.w.length+j)→InF s ((⟨b.p.set j x,b.w⟩:Br).nd i):=by
  intro d
  induction d using Nat.strongRecOn with
  | ind d ih=>
   intro i hi hno
   by_cases hl:i<b.w.length
   ·have hc:∀ c,c=2*i+1∨c=2*i+2→c≠b.w.length+j∧c∉wy (b.w.length+j):=fun c hc=>by
     constructor
     ·intro e
      have:=qlP (b.w.length+j) (by omega) c (by omega) (Or.inl e)
      rw[show (c-1)/2=i by omega] at this
      exact hno this
     ·intro e
      have:=qlP (b.w.length+j) (by omega) c (by omega) (Or.inr e)
      rw[show (c-1)/2=i by omega] at this
      exact hno this
    rw[qjQ hj,if_neg (by omega)]
    rcases (V.kid i hl).1 with e | e
    ·have h1:=ih (d-(i+1)) (by omega) (2*i+1) (by omega) (hc _ (Or.inl rfl)).2
     rw[qjQ hj,if_neg (hc _ (Or.inl rfl)).1] at h1
     rw[e];exact h1
    ·have h1:=ih (d-(i+2)) (by omega) (2*i+2) (by omega) (hc _ (Or.inr rfl)).2
     rw[qjQ hj,if_neg (hc _ (Or.inr rfl)).1] at h1
     rw[e];exact h1
   ·rw[qaN (b:=⟨b.p.set j x,b.w⟩) (by show b.w.length≤i;omega)]
    exact qn8 hk (List.mem_of_getElem? (getD_some (by show i-b.w.length<(b.p.set j x).length;rw[List.length_set];omega)))
 exact fun i hi hno=>key (2*b.w.length-i) i (by have:i≤2*b.w.length:=hi;omega) hno
end
theorem qgV {l:List Int} {k:Nat} {x:Int} (h:l[k]?=some x):l.set k x=l:=by
 refine List.ext_getElem? fun i=>?_
 rw[List.getElem?_set]
 split
 ·rename_i e
  subst e
  rw[if_pos (qaC h),h]
 ·rfl
noncomputable abbrev rc (p:List Nat):Code:=qfG Try.prog 47 p
noncomputable abbrev rb (p:List Nat):Code:=rc ([1,1,0,1,0,1,0]++p)
noncomputable abbrev ro:Array Oper:=qkI (rb [1,1,0,0])
noncomputable abbrev rio:Array Oper:=qkI (qfG Try.prog 47 [1,1,0,1,0,1,0,1,1,0,1])
theorem qmo (u:Value) (x:Int):qnG Try.prog 1 1 rio (rio.toList.take 3) 44 1 [(7,.pp 0 0),(8,.pv (iV x))] [(0,0,.pv u)] 2 [(39,.pv u),(41,.ps 1 0 1 1),(7,.pp 0 0)] [(1,0,.pv (iV x))]:=
 qdn [] 100 [] (by decide) (by kernel_rfl) (Ro tI)
theorem qmu:rio.toList=rio.toList.take 3++((rio.toList.drop 3).take 1++(rio.toList.drop 4).take 1):=by kernel_rfl
theorem qo3:∃ o:Oper,(rio.toList.drop 3).take 1=[o]∧o.op=.call { callee:=.builtin .append,args:=#[.tmp 39,.tmp 41],argTypes:=#[25,25] }∧o.dst=some 42∧o.guard=none:=
 ⟨rio.getD 3 default,by kernel_rfl,by kernel_rfl,by kernel_rfl,by kernel_rfl⟩
theorem qky:∃ o:Oper,(rio.toList.drop 4).take 1=[o]∧o.op=.store 25 (.tmp 7) (.tmp 42)∧o.dst=none∧o.guard=none:=
 ⟨rio.getD 4 default,by kernel_rfl,by kernel_rfl,by kernel_rfl,by kernel_rfl⟩
theorem qnb {r:Option Nat} {id base rs:Nat} {W2:World} {u:Value} {xs:List Int} {x:Int} {a:Act} {Q:Exit→Act→World→Prop} (hb:base≤W2.heap.size) (cu:Cel W2 rs 0 u) (ho:W2.ownsRow base 3 1 u xs.length (ziV xs)) (hnr:u.ownBlock≠some rs)
 (tb:a.tmps.getD 7 undef=qcY rs) (tx:a.tmps.getD 8 undef=iV x) (hsz:a.tmps.size=44) (hn:xs.length+1≤100000)
 (h:∀ a' w' u',Keep (fun b=>b≠rs∧u.ownBlock≠some b) W2 w'→Cel w' rs 0 u'→w'.ownsRow base 3 1 u' (xs.length+1) (ziV (xs++[x]))→(∀ k,u'.ownBlock=some k→u.ownBlock=some k∨W2.heap.size≤k)→u'.ownBlock≠some rs→Q .normal a' w'):(Code.region id rio false).wpIn (FW r) 0 Try.prog Q a W2:=by
 have u1:=qed (qbY ho)
 have R8:Rel W2 1 (qbR [rs]) (qas 44 1 [(7,.pp 0 0),(8,.pv (iV x))] [(0,0,.pv u)] []) (clr a) W2:=
  qds (qaK (rs:=[rs]) (by simp) (by simpa using cu.lt) ⟨⟨rs,_,rfl,rfl,cu,u1⟩,trivial⟩) (qaO [rs]) (Nat.le_refl _) hsz ⟨⟨rs,rfl,tb⟩,tx,trivial⟩
 refine wpIn_region_list ?_
 obtain⟨o,hol,hoo,hdst,hgd⟩:=qo3
 obtain⟨p,hpl,hpo,hpd,hpg⟩:=qky
 rw[qmu,hol,hpl]
 refine qmo u x r W2 _ a W2 _ _ R8 fun β9 a9 w9 hle9 hd9 R9=>qb8 hgd ?_
 have hg9:Gr W2 w9:=R9.h.gr
 have t8:a9.tmps.getD 39 undef=u:=R9.t.tmps 39
 obtain⟨rn,en,t10⟩:∃ r,β9 1=some r∧a9.tmps.getD 41 undef=.slice (some ⟨r,0,none⟩) 1 1:=R9.t.tmps 41
 obtain⟨r',e',t2''⟩:∃ r,β9 0=some r∧a9.tmps.getD 7 undef=qcY r:=R9.t.tmps 7
 have e90:β9 0=some rs:=Bl.leU_f hle9 (by omega) rfl
 rw[e90] at e';cases e'
 have c0:=qdZ R9.h (b:=1) (o:=0) rfl en
 obtain⟨inf,hinf,hz,hsi,hby⟩:=qgs
 have hsrc:Src Try.prog inf.size 25 (.slice (some ⟨rn,0,none⟩) 1 1) 1 [iV x] w9:=Src.ofSlice w9 qes ⟨rn,0,none⟩ 1 1 [iV x] (by rw[hsi];rfl) (fun j v hj=>by
  rw[Addr.add_lit,Nat.zero_add]
  match j,hj with
  | 0,hj=>cases hj;exact c0.1
  | j+1,hj=>simp at hj) (fun v hv=>by simp at hv;rcases hv with rfl;rfl)
 have ho9:=qai ho (Keep.of_gr hg9 (fun _=>True)) fun _ _=>trivial
 have hs9:=hg9.size
 refine qlK hoo t8 t10 qes hinf hz (by rw[hsi];rfl) (by rw[hsi];exact ho9) (by omega) hsrc (by rw[hby];decide) (by omega) fun u' w10 row hsl hupd hrow hown hnew=>qb8 hpg ?_
 rw[hsi] at hown
 have k10:=Keep.upd hupd
 have hs10:=k10.size
 have hrs10:∀ b,row=some b→b≠rs:=fun b hb e=>by
  rcases hrow with h | h
  ·rw[h] at hb;cases hb
  ·rw[h,e] at hb;exact hnr hb
 have cu10:Cel w10 rs 0 u:=(cu.gr hg9).keep k10 fun e=>hrs10 rs e.symm rfl
 have hnr':u'.ownBlock≠some rs:=fun e=>by
  rcases hnew rs e with h | h
  ·exact hrs10 rs h rfl
  ·have:=cu.lt;omega
 obtain⟨inf2,hinf2,hisz⟩:=qiS qhs
 have u1':=qed hsl
 have hcells:u'.cells.toList=[u']:=by obtain⟨a',c',rfl⟩:=hsl;rfl
 have hsiz:u'.cells.size=1:=by obtain⟨a',c',rfl⟩:=hsl;rfl
 have hx2:(a9.put o.dst u').eval (.tmp 7)=.pointer (some ⟨rs,0,none⟩):=by
  rw[hdst]
  show (a9.put (some 42) u').tmps.getD 7 undef=_
  rw[qbb _ _ _ _ _ (by rw[show a9.tmps.size=44 from R9.t.size];decide),if_neg (by decide)]
  exact t2''
 have hx11:(a9.put o.dst u').eval (.tmp 42)=u':=by
  rw[hdst]
  show (a9.put (some 42) u').tmps.getD 42 undef=_
  rw[qbb _ _ _ _ _ (by rw[show a9.tmps.size=44 from R9.t.size];decide),if_pos rfl]
 refine qg4 hpo hx2 hx11 (us:=[u]) hinf2 (by rw[hisz];exact hsiz) (by rw[hcells];simpa using u1') (fun j v hj=>?_) (by rw[hisz];rfl) ?_
 ·match j,hj with
  | 0,hj=>cases hj;exact cu10
  | j+1,hj=>simp at hj
 ·rw[hcells]
  have hks:Keep (fun b=>b≠rs) w10 (w10.setCells rs 0 [u']):=Keep.setCells rs _ 0 w10
  have hset:=qgG (w:=w10) (r:=rs) (o:=0) (us:=[u]) (vs:=[u']) (fun j v hj=>by
   match j,hj with
   | 0,hj=>cases hj;exact cu10
   | j+1,hj=>simp at hj) rfl (j:=0) rfl
  refine h _ _ u' ?_ hset ?_ ?_ hnr'
  ·refine ((Keep.of_gr hg9 _).trans (k10.mono fun i _ h=>?_)).trans (hks.mono fun i _ h=>h.1)
   intro e
   rcases hrow with h' | h'
   ·rw[h'] at e;cases e
   ·exact h.2 (by rw[← h',e])
  ·rw[qem]
   exact qai hown hks fun b hb e=>hnr' (by rw[hb,e])
  ·intro b hb
   rcases hnew b hb with h | h
   ·rcases hrow with h' | h'
    ·rw[h'] at h;cases h
    ·exact Or.inl (by rw[← h',h])
   ·exact Or.inr (by omega)
theorem qge:rc []=.seq (rc [0]) (.seq (rc [1,0]) (.seq (.seq (rc [1,1,0,0]) (.block 0 (.rangeFunc (.tmp 15) #[16] (rc [1,1,0,1,0,0]) (.block 1 (.seq (rb [0]) (.seq (rb [1,0]) (.cond (.tmp 33) (.seq (.region 6 ro false) (.region 7 rio false)) .skip))))))) (rc [1,1,1]))):=by kernel_rfl
abbrev WC:SV:=.pc 68 [.pp 3 0,.pp 4 0]
abbrev rA (n m:Nat) (z:Int):List SV:=[.ag [.ls 1 m,.ls 0 n],.pv (iV z),WC]
abbrev qq2 (g:List Int) (m:Nat) (s:List Pt) (tn td:Int):List (Nat×Nat×SV):=[(1,0,.row 3 1 m (ziV g)),(2,0,.mrow (byV s)),(3,0,.mp 2),(4,0,.pv (iV tn)),(4,1,.pv (iV td))]
abbrev hpR (w g:List Int) (n m:Nat) (s:List Pt) (tn td:Int):List (Nat×Nat×SV):=(0,0,.row 3 1 n (ziV w))::qq2 g m s tn td
abbrev qqL (g:List Int) (n m:Nat) (s:List Pt) (tn td:Int):List (Nat×Nat×SV):=(5,0,.ls 1 m)::(5,1,.ls 0 n)::(6,0,WC)::qq2 g m s tn td
abbrev hpB (w g:List Int) (n m:Nat) (s:List Pt) (tn td:Int):List (Nat×Nat×SV):=(0,0,.row 3 1 n (ziV w))::qqL g n m s tn td
abbrev tmA (p7:Value) (k:Int):List (Nat×SV):=[(3,.pp 5 0),(5,.pp 6 0),(7,.pv p7),(8,.pv (iV k))]
section
variable (w g:List Int) (n m k:Nat) (s:List Pt) (tn td z z1 x y v v0:Int) (p3 p5 p7 u:Value)
theorem qnR:Seg Try.prog 5 5 (rc [0]) 44 5 (qbP 0 (rA n m z)) (hpR w g n m s tn td) .normal 7 [(1,.pv (iV z)),(3,.pp 5 0),(5,.pp 6 0)] (hpB w g n m s tn td):=
 qba [] 100 [] (by decide) (by kernel_rfl) (Ro tI)
theorem qkd:Seg Try.prog 5 7 (rc [1,0]) 44 7 [(1,.pv (iV z)),(3,.pp 5 0),(5,.pp 6 0)] (hpB w g n m s tn td) .normal 8 [(1,.pv (iV z)),(3,.pp 5 0),(5,.pp 6 0),(7,.pp 7 0)] ((7,0,.pv qfV)::hpB w g n m s tn td):=
 qba [] 100 [] (by decide) (by kernel_rfl) (Ro tI)
theorem qpe (h:iV (IntKind.i64.wrap ((n:Int)+z))=iV z1):Seg Try.prog 5 8 (rc [1,1,0,0]) 44 8 [(1,.pv (iV z)),(3,.pp 5 0),(5,.pp 6 0),(7,.pp 7 0)] ((7,0,.pv qfV)::hpB w g n m s tn td) .normal 9 [(3,.pp 5 0),(5,.pp 6 0),(7,.pp 7 0),(15,.pc 71 [.pp 8 0])] ((8,0,.pv (iV z1))::(7,0,.pv qfV)::hpB w g n m s tn td):=
 qba [] 100 [Re h,.k] (by decide) (by kernel_rfl) (Ro (Ai h tI))
theorem qje:Seg Try.prog 0 0 (rc [1,1,0,1,0,0]) 44 0 [(3,.pv p3),(5,.pv p5),(7,.pv p7),(16,.pv (iV x))] [] .normal 0 [(3,.pv p3),(5,.pv p5),(7,.pv p7),(8,.pv (iV x))] []:=
 qba [] 100 [] (by decide) (by kernel_rfl) (Ro tI)
theorem qor (hc:Fn 67 2 [.ls 0 n,.ls 1 m,.pv (iV z)] [(0,0,.row 3 1 n (ziV w)),(1,0,.row 3 1 m (ziV g))] (.pv (.tuple #[iV x,iV y])) 0 [])
 (hw:Fn 68 3 [.pv (iV x),.pv (iV y),.pp 1 0,.pp 2 0] [(0,0,.mrow (byV s)),(1,0,.mp 0),(2,0,.pv (iV tn)),(2,1,.pv (iV td))] (.pv (iV v)) 0 []) :
 Seg Try.prog 7 7 (rb [0]) 44 7 (tmA p7 z) (hpB w g n m s tn td) .normal 7 ((9,.pv (iV v))::tmA p7 z) (hpB w g n m s tn td):=
 qba [] 200 [Cf hc [0,1],
  Cf hw [2,3,4]] (by decide) (by kernel_rfl)
  (Ro (Ai hc (Ai (Ca hc [0,1] 7) (Ai (Cp hc [0,1] 7)
   (Co hw [2,3,4] 7 tI)))))
theorem qlO (b:Bool) (hin:0≤(k:Int)∧(k:Int)<(n:Int)) (hk:w[k]?=some v0) (h:(v !=v0)=b):Seg Try.prog 7 7 (rb [1,0]) 44 7 ((9,.pv (iV v))::tmA p7 (k:Int)) (hpB w g n m s tn td) .normal 7 ((33,.pv (.bool b))::(9,.pv (iV v))::tmA p7 (k:Int)) (hpB w g n m s tn td):=
 qba [] 100 [.r (iV v0),.t b] (by decide) (by kernel_rfl) (Ro (Ai hin (Ai (qdp hk) (Ai h tI))))
theorem qna (hin:0≤(k:Int)∧(k:Int)<(n:Int)):qnG Try.prog 7 7 ro (ro.toList.take 5) 44 7 ((33,.pv (.bool true))::(9,.pv (iV v))::tmA p7 (k:Int)) (hpB w g n m s tn td) 7 [(7,.pv p7),(8,.pv (iV (k:Int))),(37,.pv (iV v)),(38,.lp 0 (0*1+k*1))] (hpB w g n m s tn td):=
 qdn [] 100 [] (by decide) (by kernel_rfl) (Ro (Ai hin tI))
theorem qpn:Seg Try.prog 1 1 (rc [1,1,1]) 44 1 [(7,.pp 0 0)] [(0,0,.pv u)] .ret 1 [(6,.pv u)] []:=
 qba [] 100 [] (by decide) (by kernel_rfl) (Ro tI)
end
theorem qnk:ro.toList=ro.toList.take 5++(ro.toList.drop 5).take 1:=by kernel_rfl
theorem qkW:∃ o:Oper,(ro.toList.drop 5).take 1=[o]∧o.op=.store 3 (.tmp 38) (.tmp 37)∧o.dst=none∧o.guard=none:=
 ⟨ro.getD 5 default,by kernel_rfl,by kernel_rfl,by kernel_rfl,by kernel_rfl⟩
end Go.Proofs.Ytgbmdijodlfcaaa

namespace Go.Proofs.Ytgbmdijodlfcaaa
set_option maxRecDepth 100000
open Go.RowKit
theorem qml {W:World} {l:Nat} {β:Bl} {hp:List (Nat×Nat×SV)} (H:HRel W l β hp W) {b:Nat} {u:Value} {e:TypeId} {es n:Nat} {xs:List Value} (hb:b<l) (hg:β.g b=some u) (hr:Rd W es u n xs) (h1:∀ v∈xs,v.oneCell'=true):HRel W l β ((b,0,.row e es n xs)::hp) W where
 gr:=H.gr
 live:=H.live
 inj:=H.inj
 new:=H.new
 sep:=H.sep
 cells:=fun c o sv hl hs=>by
  rw[qaa] at hl
  split at hl
  ·cases hl;cases hs
  ·exact H.cells c o sv hl hs
 rows:=fun c o e' es' n' xs' hl=>by
  rw[qaa] at hl
  split at hl
  ·rename_i e1
   obtain⟨rfl,rfl⟩:=e1
   cases hl
   exact⟨u,hg,hr,h1,fun _ hx k hk=>hr.lt hx k hk,fun h=>by omega,fun h=>by omega⟩
  ·exact H.rows _ _ _ _ _ _ hl
 rinj:=fun c o e' es' n' xs' c2 o2 e2 es2 n2 xs2 u1 v1 h1' h2' h3 h4 h5 h6 h7=>by
  rw[qaa] at h1' h2'
  split at h1'
  ·rename_i e1;have:=e1.1;omega
  ·split at h2'
   ·rename_i e1;have:=e1.1;omega
   ·exact H.rinj _ _ _ _ _ _ _ _ _ _ _ _ u1 v1 h1' h2' h3 h4 h5 h6 h7
 maps:=fun c o xs' hl=>by
  rw[qaa] at hl
  split at hl
  ·cases hl
  ·exact H.maps _ _ _ hl
theorem qiR {P:Program} {r:Option Nat} {o:Oper} {t e:TypeId} {x y:Operand} {v u:Value} {us xs:List Value} {a:Act} {w:World} {i:TypeInfo} {base es n n' q g o' c:Nat} {next:Act→World→Prop} {Q:Exit→Act→World→Prop}
 (ho:o.op=.store t x y) (hx:a.eval x=.pointer (some ⟨g,o'+q,none⟩)) (hy:a.eval y=v) (hi:P.info? t=some i) (hv:v.cells.size=i.size) (hvt:v.cells.toList=us) (h1:∀ z∈us,z.oneCell'=true)
 (hown:w.ownsRow base e es u n xs) (hu:u=.slice (some ⟨g,o',none⟩) n' c) (hq:q+us.length≤xs.length)
 (h:∀ w',Upd w w' u.ownBlock→w'.ownsRow base e es u n (qh9 xs q us)→next (a.put o.dst undef) w'):o.wpIn (FW r) 0 P a w next Q:=by
 obtain⟨w',f1,f2,f3⟩:=qeA (P:=P) hown hu hq h1
 refine⟨fun _ _=>trivial,?_⟩
 rw[Oper.semAt_eq _ _ _ (by simp[ho])]
 have he:(execOp a.eval o).run P w=.ok .skip w':=by
  simp only[execOp,ho]
  refine qb9 ?_
  rw[hx,hy]
  simp[Instr.storeAt,Instr.sureAddr,storeVar,qax hi w,hv,hvt,f1]
 rw[he,Oper.uponIn_skip]
 exact h w' f2 f3
theorem qil {w:World} {base:Nat} {e:TypeId} {es n:Nat} {u:Value} {xs:List Value} (h:w.ownsRow base e es u n xs) {a:Addr} (ha:u.ownBlock=some a.block):w.frozen? a=false:=by
 rcases h.2 with ⟨rfl,_⟩ | ⟨g,cap,cur,rfl,h3,h4,_⟩
 ·cases ha
 ·have e1:g=a.block:=by simpa [Value.ownBlock] using ha
  subst e1
  unfold World.frozen?
  rw[h4]
  simp
theorem qoF {w w':World} {base:Nat} {e:TypeId} {es n:Nat} {u:Value} {xs ys:List Value} (h:w.ownsRow base e es u n xs) (h':w'.ownsRow base e es u n ys) (k:Keep (fun b=>u.ownBlock≠some b) w w'):Upd w w' u.ownBlock where
 g:=⟨k.os,k.tape,k.output,k.size,fun b hb hne=>k.block b hb fun e=>hne e.symm⟩
 fz:=fun a ha=>by
  by_cases e:u.ownBlock=some a.block
  ·rw[qil h e,qil h' e]
  ·exact World.frozen?_of_block (k.block a.block ha e)
 dr:=k.drawn
section
variable {s:List Pt} {tn td:Int}
theorem qkX {g w:List Int} {c:List Int} {k:Nat} (hk:k<w.length) (h:won s tn td ((⟨g,w⟩:Br).nd (2*k+1)) ((⟨g,w⟩:Br).nd (2*k+2))=(⟨g,w⟩:Br).nd k):rpS s tn td (⟨g,w⟩,c) k=(⟨g,w⟩,c):=by
 unfold rpS
 simp only
 rw[if_pos h,h,qgV (qdH (b:=⟨g,w⟩) hk)]
theorem qjs {g w:List Int} {c:List Int} {k:Nat} (h:¬ won s tn td ((⟨g,w⟩:Br).nd (2*k+1)) ((⟨g,w⟩:Br).nd (2*k+2))=(⟨g,w⟩:Br).nd k):rpS s tn td (⟨g,w⟩,c) k=(⟨g,w.set k (won s tn td ((⟨g,w⟩:Br).nd (2*k+1)) ((⟨g,w⟩:Br).nd (2*k+2)))⟩,c++[(k:Int)]):=by
 unfold rpS
 simp only
 rw[if_neg h]
set_option maxHeartbeats 1000000 in
theorem qhB (htn:I64 tn) (htd:I64 td) (hs:Val s) (ht:okB tn td=true) {g w0:List Int} {n m j:Nat} (hn:w0.length=n) (hm:g.length=m) (hw:n+1=m) (hl:m≤64) (hj:j<m) (hX:InX s ⟨g,w0⟩ (n+j)) :
 FnX Try.prog 47 5 (rA n m (j:Int)) (hpR w0 g n m s tn td) 0 ⟨3,1,n,ziV w0⟩ (ziV (rpF s tn td (wy (n+j)) (⟨g,w0⟩,[])).1.w)
  3 1 (rpF s tn td (wy (n+j)) (⟨g,w0⟩,[])).2.length (ziV (rpF s tn td (wy (n+j)) (⟨g,w0⟩,[])).2):=by
 intro W β us base uW H hdm hu hg0 hown hbase hap har
 have hown:W.ownsRow base 3 1 uW n (ziV w0):=hown
 have hWlt:∀ k,uW.ownBlock=some k→base≤k∧k<W.heap.size:=qae hown
 refine qeF (c:=rc []) Try.func47 (by kernel_rfl) ?_
 have hul:us.length≤44:=by have:=(SV.isl_get hu).1;simp at this;omega
 have R0:=qdP (n:=44) (args:=rA n m (j:Int)) (us:=us) H hdm hu hul
 rw[qge]
 refine wpIn_seq (qnR w0 g n m s tn td _ none W β _ W _ R0 fun β1 a1 w1 hle1 hd1 R1=>?_)
 refine wpIn_seq (qkd w0 g n m s tn td _ none W β1 a1 w1 _ R1 fun β2 a2 w2 hle2 hd2 R2=>?_)
 refine wpIn_seq (wpIn_seq (qpe w0 g n m s tn td (j:Int) ((n+j:Nat):Int) (by rw[qc8 (by omega) (by omega)];congr 1) none W β2 a2 w2 _ R2 fun β5 a5 w5 hle5 hd5 R5=>?_))
 have hd:a5.defers=[]:=hd5.trans (hd2.trans hd1)
 have hg:Gr W w5:=R5.h.gr
 have hsg:=hg.size
 have lift:∀ b u,b<5→β.g b=some u→β5.g b=some u:=fun b u hb e=>Bl.leU_g hle5 (by omega) (Bl.leU_g hle2 (by omega) (Bl.leU_g hle1 (by omega) e))
 have liftf:∀ b u,b<5→β b=some u→β5 b=some u:=fun b u hb e=>Bl.leU_f hle5 (by omega) (Bl.leU_f hle2 (by omega) (Bl.leU_f hle1 (by omega) e))
 have g0:β5.g 0=some uW:=lift 0 _ (by omega) hg0
 obtain⟨up,hgp,hpr⟩:=H.rows 1 0 _ _ _ _ rfl
 have g1:β5.g 1=some up:=lift 1 _ (by omega) hgp
 obtain⟨r7,e7⟩:=qaP R5.h (b:=7) (o:=0) rfl rfl
 obtain⟨r8,e8⟩:=qaP R5.h (b:=8) (o:=0) rfl rfl
 have c7:=qdZ R5.h (b:=7) (o:=0) rfl e7
 have c8:=qdZ R5.h (b:=8) (o:=0) rfl e8
 have n7:=R5.h.new 7 r7 (by omega) e7
 have n8:=R5.h.new 8 r8 (by omega) e8
 have ne78:r8≠r7:=fun h=>by subst h;have:=R5.h.inj 7 8 _ e7 e8;omega
 obtain⟨vs,p1,t15⟩:∃ vs,S0.isl β5 [.pp 8 0] vs∧a5.tmps.getD 15 undef=.func (.func 71) #[] vs.toArray:=R5.t.tmps 15
 obtain⟨r',e',rfl⟩:=qiQ p1;rw[e8] at e';cases e'
 obtain⟨r',e',t7⟩:∃ r,β5 7=some r∧a5.tmps.getD 7 undef=qcY r:=R5.t.tmps 7
 rw[e7] at e';cases e'
 obtain⟨r3,e3,t3⟩:∃ r,β5 5=some r∧a5.tmps.getD 3 undef=qcY r:=R5.t.tmps 3
 obtain⟨r5,e5,t5⟩:∃ r,β5 6=some r∧a5.tmps.getD 5 undef=qcY r:=R5.t.tmps 5
 have hsz:a5.tmps.size=44:=R5.t.size
 have ow5:w5.ownsRow base 3 1 uW n (ziV w0):=qai hown (Keep.of_gr hg (fun _=>True)) fun _ _=>trivial
 have hnm:∀ b r,b<7→β5 b=some r→r<w5.heap.size∧¬ (r=r7∨uW.ownBlock=some r):=fun b r hb e=>by
  refine⟨R5.h.live b r e,fun h=>?_⟩
  rcases h with h | h
  ·subst h;have:=R5.h.inj b 7 _ e e7;omega
  ·rcases Nat.lt_or_ge b 5 with h5 | h5
   ·match b,h5 with
    | 0,_=>have:=R5.h.sep 0 r e;rw[g0] at this;cases this
    | 1,_=>have:=R5.h.sep 1 r e;rw[g1] at this;cases this
    | 2,_=>
     obtain⟨r2,a1,_⟩:=H.maps 2 0 _ rfl
     have:=liftf 2 _ (by omega) a1
     rw[this] at e;cases e
     exact hap 2 _ a1 h
    | 3,_=>
     obtain⟨r2,a1⟩:=qaP H (b:=3) (o:=0) rfl rfl
     have:=liftf 3 _ (by omega) a1
     rw[this] at e;cases e
     exact hap 3 _ a1 h
    | 4,_=>
     obtain⟨r2,a1⟩:=qaP H (b:=4) (o:=0) rfl rfl
     have:=liftf 4 _ (by omega) a1
     rw[this] at e;cases e
     exact hap 4 _ a1 h
   ·have h1:=R5.h.new b r h5 e
    have h2:=(hWlt r h).2
    omega
 have hrow:∀ b o e es k xs u,qab (qqL g n m s tn td) b o=some (.row e es k xs)→xs≠[]→β5.g b=some u→∀ k,u.ownBlock=some k→k<w5.heap.size∧¬ (k=r7∨uW.ownBlock=some k):=fun b o e es k' xs u hl hx hu2 k hk=>by
  have hm':=qam hl
  simp at hm'
  obtain⟨rfl,rfl,rfl,rfl,rfl,rfl⟩:=hm'
  rw[g1] at hu2;cases hu2
  have h1:=hpr.rd.lt hx k hk
  refine⟨by omega,fun h=>?_⟩
  rcases h with h | h
  ·omega
  ·exact har 1 0 _ _ _ _ up rfl (by decide) hx hgp k h hk
 have mkR:∀ (w':World) (wk:List Int) (a:Act) (x:Int),Keep (fun b=>b<w5.heap.size∧¬ (b=r7∨uW.ownBlock=some b)) w5 w'→w'.ownsRow base 3 1 uW n (ziV wk)→a.tmps.size=44→a.tmps.getD 3 undef=qcY r3→a.tmps.getD 5 undef=qcY r5→a.tmps.getD 7 undef=qcY r7→a.tmps.getD 8 undef=iV x→
  Rel w' 7 (β5.cut 7) (qas 44 7 (tmA (qcY r7) x) (hpB wk g n m s tn td) []) (clr a) w':=fun w' wk a x K ho hsz' q3 q5 q7 q8=>by
  have RL:=R5.later K (l:=7) (tm':=[]) (hp':=qqL g n m s tn td) (by kernel_rfl) (by kernel_rfl) (by kernel_rfl) hnm hrow
  refine qds (qml RL.h (show 0<7 by omega) ((Bl.cut_lt (show 0<7 by omega)).2.trans g0) (qe3 ho) (qcE _)) (Bl.cut_dom β5 7) (Nat.le_refl _) hsz' ⟨⟨r3,(Bl.cut_lt (show 5<7 by omega)).1.trans e3,q3⟩,⟨r5,(Bl.cut_lt (show 6<7 by omega)).1.trans e5,q5⟩,q7,q8,trivial⟩
 have hwl:(wyV (n+j)).length≤6:=by unfold wyV;rw[List.length_map];exact qjA _
 refine wpIn_block (qdw (L:=(wyV (n+j)).map iA) t15 (by kernel_rfl) (qfy (B:=(· = r8)) (by omega) c8 rfl) (fun b=>b=r7∨uW.ownBlock=some b) (fun b hb=>?_) (fun b hb=>by rw[hb];exact c8.lt) (fun x hx=>by
  obtain⟨z,_,rfl⟩:=List.mem_map.1 hx
  rfl)
  (fun k T w=>∃ wk c q u,wk.length=n∧q≤126∧q≤2*n∧wy q=(wy (n+j)).drop k∧InX s ⟨g,wk⟩ q∧rpF s tn td (wy q) (⟨g,wk⟩,c)=rpF s tn td (wy (n+j)) (⟨g,w0⟩,[])∧c.length≤k∧Cel w r7 0 u∧Keep (fun b=>b<w5.heap.size∧¬ (b=r7∨uW.ownBlock=some b)) w5 w∧
   w.ownsRow base 3 1 uW n (ziV wk)∧w.ownsRow W.heap.size 3 1 u c.length (ziV c)∧(∀ b,T b↔b=r7∨uW.ownBlock=some b∨u.ownBlock=some b)∧u.ownBlock≠some r7) ?_
  ⟨w0,[],n+j,qfV,hn,by omega,by omega,rfl,hX,rfl,Nat.le_refl _,c7,Keep.refl _ _,ow5,World.ownsRow_nil _ _ _ _,fun b=>⟨fun h=>h.elim Or.inl fun h=>Or.inr (Or.inl h),fun h=>h.elim Or.inl fun h=>h.elim Or.inr fun h=>by cases h⟩,(fun h=>by cases h)⟩ ?_ ?_)
 ·rcases hb with rfl | hb
  ·exact⟨c7.lt,fun h=>ne78 h.symm⟩
  ·have h2:=(hWlt b hb).2
   exact⟨by omega,fun h=>by omega⟩
 ·rintro k T v1 v2 ⟨wk,c,q,u,h1,h2,h2',h3,h4,h5,h6,h7,h8,h9,h10,h11,h12⟩ hk
  exact⟨wk,c,q,u,h1,h2,h2',h3,h4,h5,h6,h7.keep hk (Or.inr ((h11 _).2 (Or.inl rfl))),h8.trans (hk.mono fun i _ h=>Or.inl h.1),qai h9 hk (fun b hb=>Or.inr ((h11 b).2 (Or.inr (Or.inl hb)))),qai h10 hk (fun b hb=>Or.inr ((h11 b).2 (Or.inr (Or.inr hb)))),h11,h12⟩
 ·rintro lr k x Wr T rfl hx hszr hT1 hT2 ⟨wk,c,q,u,h1,h2,h2',h3,h4,h5,h6,h7,h8,h9,h10,h11,h12⟩
  obtain⟨kk,hkk,rfl⟩:∃ kk:Nat,(wy (n+j))[k]?=some kk∧x=iA (kk:Int):=by
   rw[wyV,List.map_map,List.getElem?_map] at hx
   cases hm':(wy (n+j))[k]? with
   | none=>rw[hm'] at hx;cases hx
   | some z=>rw[hm'] at hx;cases hx;exact⟨z,rfl,rfl⟩
  have hk6:k<6:=by have:=qaC hkk;have:=qjA (n+j);omega
  obtain⟨i,rfl,rfl⟩:∃ i,q=i+1∧kk=i/2:=by
   have e0:(wy q)[0]?=some kk:=by rw[h3,List.getElem?_drop];exact hkk
   match q,h2,e0 with
   | 0,_,e0=>rw[qgb] at e0;cases e0
   | i+1,hq,e0=>rw[qbs (by omega)] at e0;exact⟨i,rfl,(Option.some.inj e0).symm⟩
  have hil:i/2<wk.length:=by omega
  have hnx:wy (i/2)=(wy (n+j)).drop (k+1):=by
   have e1:(wy (i+1)).drop 1=((wy (n+j)).drop k).drop 1:=by rw[h3]
   rw[qbs (by omega),List.drop_drop] at e1
   simpa using e1
  have h5':rpF s tn td (wy (i/2)) (rpS s tn td (⟨g,wk⟩,c) (i/2))=rpF s tn td (wy (n+j)) (⟨g,w0⟩,[]):=by
   rw[qbs (by omega)] at h5
   exact h5
  have hact:({ tmps:=((#[16]:Array Tmp).zip (iA ((i/2:Nat):Int))).foldl (fun t (p,v)=>t.setIfInBounds p v) a5.tmps,defers:=[] }:Act)=clr (a5.put (some 16) (iV ((i/2:Nat):Int))):=by simp[iA,clr,Act.put]
  rw[hact]
  have tp:∀ d,d≠16→(clr (a5.put (some 16) (iV ((i/2:Nat):Int)))).tmps.getD d undef=a5.tmps.getD d undef:=fun d hd=>by
   show (a5.put (some 16) _).tmps.getD d undef=_
   rw[qbb _ _ _ _ _ (by rw[hsz];decide),if_neg (fun e=>hd e.symm)]
  have R6:Rel Wr 0 (qbR []) (qas 44 0 [(3,.pv (qcY r3)),(5,.pv (qcY r5)),(7,.pv (qcY r7)),(16,.pv (iV ((i/2:Nat):Int)))] [] []) (clr (clr (a5.put (some 16) (iV ((i/2:Nat):Int))))) Wr:=
   qds (qaK (rs:=[]) (by simp) (by simp) trivial) (qaO []) (Nat.le_refl _) (by simp[clr,Act.put,hsz]) ⟨(tp 3 (by decide)).trans t3,(tp 5 (by decide)).trans t5,(tp 7 (by decide)).trans t7,by
    show (a5.put (some 16) _).tmps.getD 16 undef=_
    rw[qbb _ _ _ _ _ (by rw[hsz];decide),if_pos rfl],trivial⟩
  refine qje _ (qcY r3) (qcY r5) (qcY r7) (some _) Wr _ (clr (a5.put (some 16) (iV ((i/2:Nat):Int)))) Wr _ R6 fun β7 a7 w7 hle7 hd7 R7=>?_
  have hg7:Gr Wr w7:=R7.h.gr
  refine⟨Keep.of_gr hg7 _,fun W2 hk2 hs2=>?_⟩
  have hT7:T r7:=(h11 r7).2 (Or.inl rfl)
  have K2:Keep (fun b=>b<w5.heap.size∧¬ (b=r7∨uW.ownBlock=some b)) w5 W2:=(h8.trans (Keep.of_gr hg7 _)).trans (hk2.mono fun i _ h=>by show i≠_;have:=h.1;omega)
  have ow2:W2.ownsRow base 3 1 uW n (ziV wk):=qai (qai h9 (Keep.of_gr hg7 (fun _=>True)) fun _ _=>trivial) hk2 fun b hb=>(hT1 b ((h11 b).2 (Or.inr (Or.inl hb)))).2.2
  have ou2:W2.ownsRow W.heap.size 3 1 u c.length (ziV c):=qai (qai h10 (Keep.of_gr hg7 (fun _=>True)) fun _ _=>trivial) hk2 fun b hb=>(hT1 b ((h11 b).2 (Or.inr (Or.inr hb)))).2.2
  have cu2:Cel W2 r7 0 u:=(h7.gr hg7).keep hk2 (hT1 r7 hT7).2.2
  have hsW2:w5.heap.size≤W2.heap.size:=K2.size
  have huge:∀ b,u.ownBlock=some b→W.heap.size≤b:=fun b hb=>(ou2.lt b hb).1
  have R8:=mkR W2 wk a7 ((i/2:Nat):Int) K2 ow2 R7.t.size (R7.t.tmps 3) (R7.t.tmps 5) (R7.t.tmps 7) (R7.t.tmps 8)
  obtain⟨in1,in2⟩:=h4.kids (by omega) hil
  have hXn:InX s ⟨g,wk.set (i/2) (won s tn td ((⟨g,wk⟩:Br).nd (2*(i/2)+1)) ((⟨g,wk⟩:Br).nd (2*(i/2)+2)))⟩ (i/2):=h4.next (b:=⟨g,wk⟩) (by omega) hil
  refine wpIn_block (wpIn_seq (qor wk g n m s tn td _ _ _ _ (qcY r7) (qgt (b:=⟨g,wk⟩) h1 hm hw (by omega) (i:=i/2) (by omega) rfl) (qjS htn htd hs ht in1 in2) (some _) W2 _ a7 W2 _ R8 fun β9 a9 w9 hle9 hd9 R9=>?_))
  have hold:=qdH (b:=⟨g,wk⟩) hil
  by_cases hv:won s tn td ((⟨g,wk⟩:Br).nd (2*(i/2)+1)) ((⟨g,wk⟩:Br).nd (2*(i/2)+2))=(⟨g,wk⟩:Br).nd (i/2)
  ·refine wpIn_seq (qlO wk g n m (i/2) s tn td _ _ (qcY r7) false ⟨by omega,by omega⟩ hold (by simp[hv]) (some _) W2 β9 a9 w9 _ R9 fun β10 a10 w10 hle10 hd10 R10=>?_)
   have t33:a10.tmps.getD 33 undef=.bool false:=R10.t.tmps 33
   have hg10:Gr W2 w10:=R10.h.gr
   rw[hv,qgV hold] at hXn
   rw[qkX hil hv] at h5'
   refine wpIn_cond_false t33 (wpIn_skip ⟨rfl,T,⟨wk,c,i/2,u,h1,by omega,by omega,hnx,hXn,h5',by omega,cu2.gr hg10,K2.trans (Keep.of_gr hg10 _),qai ow2 (Keep.of_gr hg10 (fun _=>True)) fun _ _=>trivial,qai ou2 (Keep.of_gr hg10 (fun _=>True)) fun _ _=>trivial,h11,h12⟩,Keep.of_gr hg10 _,fun b hb=>⟨?_,Or.inl hb⟩⟩)
   have h13:=(hT1 b hb).1
   have h14:=hg7.size
   have h15:=hg10.size
   omega
  ·refine wpIn_seq (qlO wk g n m (i/2) s tn td _ _ (qcY r7) true ⟨by omega,by omega⟩ hold (by simpa using hv) (some _) W2 β9 a9 w9 _ R9 fun β10 a10 w10 hle10 hd10 R10=>?_)
   have t33:a10.tmps.getD 33 undef=.bool true:=R10.t.tmps 33
   rw[qjs hv] at h5'
   refine wpIn_cond_true t33 (wpIn_seq (wpIn_region_list ?_))
   obtain⟨o,hol,ho,hdst,hgd⟩:=qkW
   rw[qnk,hol]
   refine qna wk g n m (i/2) s tn td _ (qcY r7) ⟨by omega,by omega⟩ (some _) W2 β10 a10 w10 _ _ R10 fun β11 a11 w11 hle11 hd11 R11=>qb8 hgd ?_
   obtain⟨rw',o',n',c',gw,t38⟩:∃ r o n c,β11.g 0=some (.slice (some ⟨r,o,none⟩) n c)∧a11.tmps.getD 38 undef=.pointer (some ⟨r,o+(0*1+i/2*1),none⟩):=R11.t.tmps 38
   have g11:β11.g 0=some uW:=Bl.leU_g hle11 (by omega) (Bl.leU_g hle10 (by omega) (Bl.leU_g hle9 (by omega) ((Bl.cut_lt (show 0<7 by omega)).2.trans g0)))
   rw[g11] at gw
   have euW:=Option.some.inj gw
   have hg11:Gr W2 w11:=R11.h.gr
   have ow11:=qai ow2 (Keep.of_gr hg11 (fun _=>True)) fun _ _=>trivial
   obtain⟨inf,hinf,hz,hsi,hby⟩:=qgs
   refine qiR (us:=[iV (won s tn td ((⟨g,wk⟩:Br).nd (2*(i/2)+1)) ((⟨g,wk⟩:Br).nd (2*(i/2)+2)))]) ho t38 (R11.t.tmps 37) hinf (by rw[hsi];rfl) rfl (by intro z hz;rw[List.mem_singleton] at hz;rw[hz];rfl) ow11 euW (qg6 wk (i/2) hil) fun w12 hup how12=>?_
   rw[← qpE wk (i/2) _ hil] at how12
   rw[hdst]
   have k12:Keep (fun b=>uW.ownBlock≠some b) w11 w12:=(Keep.upd hup).mono fun b _ h e=>h e.symm
   have ou12:w12.ownsRow W.heap.size 3 1 u c.length (ziV c):=qai (qai ou2 (Keep.of_gr hg11 (fun _=>True)) fun _ _=>trivial) k12 fun b hb e=>by
    have a1:=huge b hb
    have a2:=(hWlt b e).2
    omega
   have cu12:Cel w12 r7 0 u:=(cu2.gr hg11).keep k12 fun e=>by
    have a2:=(hWlt r7 e).2
    omega
   have s11:=hg11.size
   have s12:=k12.size
   show (Code.region 7 rio false).wpIn (FW (some _)) 0 Try.prog _ _ w12
   refine qnb (base:=W.heap.size) (by omega) cu12 ou12 h12 (R11.t.tmps 7) (R11.t.tmps 8) R11.t.size (by omega) fun a' w' u' hkw hc' ho' hnew hnr'=>?_
   have K':Keep (fun b=>b<w5.heap.size∧¬ (b=r7∨uW.ownBlock=some b)) w5 w':=((K2.trans (Keep.of_gr hg11 _)).trans (k12.mono fun b _ h e=>h.2 (Or.inr e))).trans (hkw.mono fun b _ h=>⟨fun e=>h.2 (Or.inl e),fun e=>h.2 (hT2 b ((h11 b).2 (Or.inr (Or.inr e))) h.1)⟩)
   have ow':w'.ownsRow base 3 1 uW n _:=qai how12 hkw fun b hb=>⟨fun e=>by have:=(hWlt b hb).2;omega,fun e=>by have a1:=huge b e;have a2:=(hWlt b hb).2;omega⟩
   refine⟨rfl,fun b=>b=r7∨uW.ownBlock=some b∨u'.ownBlock=some b,⟨_,_,i/2,u',(by rw[List.length_set];exact h1),by omega,by omega,hnx,hXn,h5',(by rw[List.length_append];show c.length+1≤k+1;omega),hc',K',ow',(by rw[List.length_append];exact ho'),fun _=>Iff.rfl,hnr'⟩,?_,?_⟩
   ·exact ((Keep.of_gr hg11 _).trans (k12.mono fun b _ h e=>h ((h11 b).2 (Or.inr (Or.inl e))))).trans (hkw.mono fun b _ h=>⟨fun e=>h ((h11 b).2 (Or.inl e)),fun e=>h ((h11 b).2 (Or.inr (Or.inr e)))⟩)
   ·intro b hb
    rcases hb with rfl | hb | hb
    ·exact⟨hc'.lt,Or.inl hT7⟩
    ·exact⟨(ow'.lt b hb).2,Or.inl ((h11 b).2 (Or.inr (Or.inl hb)))⟩
    ·exact⟨(ho'.lt b hb).2,(hnew b hb).imp (fun h=>(h11 b).2 (Or.inr (Or.inr h))) fun h=>by omega⟩
 ·rintro w6 T ⟨wk,c,q,u,h1,h2,h2',h3,h4,h5,h6,h7,h8,h9,h10,h11,h12⟩ hG hnT hD hk6
  have e0:wy q=[]:=by rw[h3];exact List.drop_eq_nil_of_le (by simp[wyV])
  have e1:rpF s tn td (wy q) (⟨g,wk⟩,c)=(⟨g,wk⟩,c):=by rw[e0];rfl
  rw[e1] at h5
  rw[← h5]
  have u1:=qed (qbY h10)
  have R7:Rel w6 1 (qbR [r7]) (qas 44 1 [(7,.pp 0 0)] [(0,0,.pv u)] []) (clr { a5 with defers:={ target:=.collected w5.heap.size,args:=#[] }::a5.defers }) w6:=
   qds (qaK (rs:=[r7]) (by simp) (by simpa using h7.lt) ⟨⟨r7,_,rfl,rfl,h7,u1⟩,trivial⟩) (qaO [r7]) (Nat.le_refl _) hsz ⟨⟨r7,rfl,t7⟩,trivial⟩
  show (rc [1,1,1]).wpIn (FW none) 0 Try.prog _ _ w6
  refine qpn u none w6 _ _ w6 _ R7 fun β8 a8 w8 hle8 hd8 R8=>?_
  have hg8:Gr w6 w8:=R8.h.gr
  have hkp:Keep (·≠w5.heap.size) w8 (w8.putObj w5.heap.size (.deferred none)):=Keep.putObj _ _ _
  have R9:Rel _ 0 (β8.cut 0) (qas 44 0 [(6,.pv u)] [] []) (clr a8) (w8.putObj w5.heap.size (.deferred none)):=
   R8.later hkp (by kernel_rfl) (by kernel_rfl) (by kernel_rfl) (fun b r hb _=>by omega) (fun b o e es n xs v hl=>by cases hl)
  obtain⟨v,hv,hx⟩:=qeS (P:=Try.prog) (fn:=Try.f47) (x:=.pv u) R9 (by kernel_rfl)
  obtain rfl:v=u:=hx
  have owE:(w8.putObj w5.heap.size (.deferred none)).ownsRow base 3 1 uW n (ziV wk):=qai (qai h9 (Keep.of_gr hg8 (fun _=>True)) fun _ _=>trivial) hkp fun b hb=>(hnT b ((h11 b).2 (Or.inr (Or.inl hb)))).1
  have ouE:(w8.putObj w5.heap.size (.deferred none)).ownsRow W.heap.size 3 1 v c.length (ziV c):=qai (qai h10 (Keep.of_gr hg8 (fun _=>True)) fun _ _=>trivial) hkp fun b hb=>(hnT b ((h11 b).2 (Or.inr (Or.inr hb)))).1
  have kE:Keep (fun b=>b<W.heap.size∧uW.ownBlock≠some b) W (w8.putObj w5.heap.size (.deferred none)):=
   (((Keep.of_gr hg _).trans (h8.mono fun b _ h=>⟨by have:=h.1;omega,fun e=>e.elim (fun e=>by have:=h.1;omega) h.2⟩)).trans (Keep.of_gr hg8 _)).trans (hkp.mono fun b _ h=>by show b≠_;have:=h.1;omega)
  refine qeq (D:=w5.heap.size) (by rw[hd8,hd]) ((Keep.of_gr hg8 (fun _=>True)).at hD trivial) ⟨v,hv,v,rfl,qoF hown owE (kE.mono fun b hb h=>⟨hb,h⟩),owE,qcE _,qbY ouE,ouE,qcE _⟩
end
end Go.Proofs.Ytgbmdijodlfcaaa
