/-
  Package bracket's replay: a path is replayed in a list of the caller's, and the nodes that have another winner are told. Conditions: none.
-/
import Derived.Test.YtgbmdijodlfcaaaW34
import Derived.Test.YtgbmdijodlfcaaaW21
namespace Go.Proofs.Ytgbmdijodlfcaaa
set_option maxRecDepth 100000
open Go.RowKit
section
variable (s:List Pt) (tn td:Int)
def rpS (q:Br×List Int) (k:Nat):Br×List Int:=(⟨q.1.p,q.1.w.set k (won s tn td (q.1.nd (2*k+1)) (q.1.nd (2*k+2)))⟩,if won s tn td (q.1.nd (2*k+1)) (q.1.nd (2*k+2))=q.1.nd k then q.2 else q.2++[(k:Int)])
def rpF (l:List Nat) (q:Br×List Int):Br×List Int:=l.foldl (rpS s tn td) q
end
section
variable {s:List Pt} {tn td:Int}
theorem qd4:∀ (l:List Nat) (q:Br×List Int),(rpF s tn td l q).1=rp s tn td l q.1
 | [],_=>rfl
 | k::r,q=>qd4 r (rpS s tn td q k)
theorem qjf:∀ (l:List Nat) (q:Br×List Int),(rpF s tn td l q).2.length≤q.2.length+l.length
 | [],_=>Nat.le_refl _
 | k::r,q=>by
  have:=qjf r (rpS s tn td q k)
  have h:(rpS s tn td q k).2.length≤q.2.length+1:=by
   unfold rpS
   simp only
   split
   ·omega
   ·simp
  show (rpF s tn td r (rpS s tn td q k)).2.length≤_
  rw[List.length_cons]
  omega
def InX (s:List Pt) (b:Br) (j:Nat):Prop:=∀ i,i≤2*b.w.length→i∉wy j→InF s (b.nd i)
theorem qpK:∀ (j:Nat),j≤126→∀ k∈wy j,2*k+1≤j:=by
 intro j
 induction j using Nat.strongRecOn with
 | ind j ih=>
  intro hj k hk
  match j,ih,hj,hk with
  | 0,_,_,hk=>rw[qf7] at hk;cases hk
  | i+1,ih,hj,hk=>
   rw[qaX (by omega)] at hk
   rcases List.mem_cons.1 hk with rfl | hk
   ·omega
   ·have:=ih (i/2) (by omega) (by omega) k hk
    omega
theorem InX.kids {b:Br} {i:Nat} (h:InX s b (i+1)) (hi:i≤125) (hl:i/2<b.w.length):InF s (b.nd (2*(i/2)+1))∧InF s (b.nd (2*(i/2)+2)):=by
 have key:∀ c,2*(i/2)+1≤c→c∉wy (i+1):=fun c hc hm=>by
  rw[qaX (by omega)] at hm
  rcases List.mem_cons.1 hm with rfl | hm
  ·omega
  ·have:=qpK (i/2) (by omega) c hm
   omega
 exact⟨h _ (by omega) (key _ (Nat.le_refl _)),h _ (by omega) (key _ (by omega))⟩
theorem InX.next {b:Br} {i:Nat} (h:InX s b (i+1)) (hi:i≤125) (hl:i/2<b.w.length):InX s ⟨b.p,b.w.set (i/2) (won s tn td (b.nd (2*(i/2)+1)) (b.nd (2*(i/2)+2)))⟩ (i/2):=by
 intro k hk hn
 have hk':k≤2*(b.w.set (i/2) (won s tn td (b.nd (2*(i/2)+1)) (b.nd (2*(i/2)+2)))).length:=hk
 rw[List.length_set] at hk'
 rw[qlR hl]
 split
 ·obtain⟨h1,h2⟩:=h.kids hi hl
  exact qlX h1 h2
 ·rename_i hne
  refine h k hk' fun hm=>?_
  rw[qaX (by omega)] at hm
  rcases List.mem_cons.1 hm with e | hm
  ·exact hne e
  ·exact hn hm
theorem ql1:∀ (j:Nat),j≤126→∀ c,0<c→(c=j∨c∈wy j)→(c-1)/2∈wy j:=by
 intro j
 induction j using Nat.strongRecOn with
 | ind j ih=>
  intro hj c hc h
  match j,ih,hj,h with
  | 0,_,_,h=>
   rcases h with h | h
   ·omega
   ·rw[qf7] at h;cases h
  | i+1,ih,hj,h=>
   rw[qaX (by omega)] at h ⊢
   rcases h with rfl | h
   ·exact List.mem_cons.2 (Or.inl (by omega))
   ·rcases List.mem_cons.1 h with rfl | h
    ·exact List.mem_cons.2 (Or.inr (ih (i/2) (by omega) (by omega) _ hc (Or.inl rfl)))
    ·exact List.mem_cons.2 (Or.inr (ih (i/2) (by omega) (by omega) _ hc (Or.inr h)))
theorem InX.put {b:Br} (V:VB b) {j:Nat} {x:Int} (hj:j<b.p.length) (hk:KnB s (b.p.set j x)):InX s ⟨b.p.set j x,b.w⟩ (b.w.length+j):=by
 have hw:=V.w
 have hn:=V.n2
 have key:∀ (d i:Nat),i+d=2*b.w.length→i∉wy (b.w.length+j)→InF s ((⟨b.p.set j x,b.w⟩:Br).nd i):=by
  intro d
  induction d using Nat.strongRecOn with
  | ind d ih=>
   intro i hi hno
   by_cases hl:i<b.w.length
   ·have hc:∀ c,c=2*i+1∨c=2*i+2→c≠b.w.length+j∧c∉wy (b.w.length+j):=fun c hc=>by
     constructor
     ·intro e
      have:=ql1 (b.w.length+j) (by omega) c (by omega) (Or.inl e)
      rw[show (c-1)/2=i by omega] at this
      exact hno this
     ·intro e
      have:=ql1 (b.w.length+j) (by omega) c (by omega) (Or.inr e)
      rw[show (c-1)/2=i by omega] at this
      exact hno this
    rw[qjM hj,if_neg (by omega)]
    rcases (V.kid i hl).1 with e | e
    ·have h1:=ih (d-(i+1)) (by omega) (2*i+1) (by omega) (hc _ (Or.inl rfl)).2
     rw[qjM hj,if_neg (hc _ (Or.inl rfl)).1] at h1
     rw[e];exact h1
    ·have h1:=ih (d-(i+2)) (by omega) (2*i+2) (by omega) (hc _ (Or.inr rfl)).2
     rw[qjM hj,if_neg (hc _ (Or.inr rfl)).1] at h1
     rw[e];exact h1
   ·rw[qaP (b:=⟨b.p.set j x,b.w⟩) (by show b.w.length≤i;omega)]
    exact qoU hk (List.mem_of_getElem? (getD_some (by show i-b.w.length<(b.p.set j x).length;rw[List.length_set];omega)))
 exact fun i hi hno=>key (2*b.w.length-i) i (by have:i≤2*b.w.length:=hi;omega) hno
end
theorem qgp {l:List Int} {k:Nat} {x:Int} (h:l[k]?=some x):l.set k x=l:=by
 refine List.ext_getElem? fun i=>?_
 rw[List.getElem?_set]
 split
 ·rename_i e
  subst e
  rw[if_pos (qas h),h]
 ·rfl
noncomputable abbrev rc (p:List Nat):Code:=qjP Try.prog 47 p
noncomputable abbrev rb (p:List Nat):Code:=rc ([1,1,0,1,0,1,0]++p)
noncomputable abbrev ro:Array Oper:=qnx (rb [1,1,0,0])
noncomputable abbrev rio:Array Oper:=qnx (qjP Try.prog 47 [1,1,0,1,0,1,0,1,1,0,1])
theorem qnF (u:Value) (x:Int):qpj Try.prog 1 1 rio (rio.toList.take 3) 44 1 [(7,.pp 0 0),(8,.pv (iV x))] [(0,0,.pv u)] 2 [(39,.pv u),(41,.ps 1 0 1 1),(7,.pp 0 0)] [(1,0,.pv (iV x))]:=
 qeA [] 100 [] (by decide) (by kernel_rfl) (Ro tI)
theorem qnb:rio.toList=rio.toList.take 3++((rio.toList.drop 3).take 1++(rio.toList.drop 4).take 1):=by kernel_rfl
theorem qpu:∃ o:Oper,(rio.toList.drop 3).take 1=[o]∧o.op=.call { callee:=.builtin .append,args:=#[.tmp 39,.tmp 41],argTypes:=#[25,25] }∧o.dst=some 42∧o.guard=none:=
 ⟨rio.getD 3 default,by kernel_rfl,by kernel_rfl,by kernel_rfl,by kernel_rfl⟩
theorem qlk:∃ o:Oper,(rio.toList.drop 4).take 1=[o]∧o.op=.store 25 (.tmp 7) (.tmp 42)∧o.dst=none∧o.guard=none:=
 ⟨rio.getD 4 default,by kernel_rfl,by kernel_rfl,by kernel_rfl,by kernel_rfl⟩
theorem qnD {r:Option Nat} {id base rs:Nat} {W2:World} {u:Value} {xs:List Int} {x:Int} {a:Act} {Q:Exit→Act→World→Prop} (hb:base≤W2.heap.size) (cu:Cel W2 rs 0 u) (ho:W2.ownsRow base 3 1 u xs.length (ziV xs)) (hnr:u.ownBlock≠some rs)
 (tb:a.tmps.getD 7 undef=qeB rs) (tx:a.tmps.getD 8 undef=iV x) (hsz:a.tmps.size=44) (hn:xs.length+1≤100000)
 (h:∀ a' w' u',Keep (fun b=>b≠rs∧u.ownBlock≠some b) W2 w'→Cel w' rs 0 u'→w'.ownsRow base 3 1 u' (xs.length+1) (ziV (xs++[x]))→(∀ k,u'.ownBlock=some k→u.ownBlock=some k∨W2.heap.size≤k)→u'.ownBlock≠some rs→Q .normal a' w'):(Code.region id rio false).wpIn (FW r) 0 Try.prog Q a W2:=by
 have u1:=qjy (qdt ho)
 have R8:Rel W2 1 (qcU [rs]) (qaB 44 1 [(7,.pp 0 0),(8,.pv (iV x))] [(0,0,.pv u)] []) (clr a) W2:=
  qgJ (qbk (rs:=[rs]) (by simp) (by simpa using cu.lt) ⟨⟨rs,_,rfl,rfl,cu,u1⟩,trivial⟩) (qb1 [rs]) (Nat.le_refl _) hsz ⟨⟨rs,rfl,tb⟩,tx,trivial⟩
 refine wpIn_region_list ?_
 obtain⟨o,hol,hoo,hdst,hgd⟩:=qpu
 obtain⟨p,hpl,hpo,hpd,hpg⟩:=qlk
 rw[qnb,hol,hpl]
 refine qnF u x r W2 _ a W2 _ _ R8 fun β9 a9 w9 hle9 hd9 R9=>qc3 hgd ?_
 have hg9:Gr W2 w9:=R9.h.gr
 have t8:a9.tmps.getD 39 undef=u:=R9.t.tmps 39
 obtain⟨rn,en,t10⟩:∃ r,β9 1=some r∧a9.tmps.getD 41 undef=.slice (some ⟨r,0,none⟩) 1 1:=R9.t.tmps 41
 obtain⟨r',e',t2''⟩:∃ r,β9 0=some r∧a9.tmps.getD 7 undef=qeB r:=R9.t.tmps 7
 have e90:β9 0=some rs:=Bl.leU_f hle9 (by omega) rfl
 rw[e90] at e';cases e'
 have c0:=qjG R9.h (b:=1) (o:=0) rfl en
 obtain⟨inf,hinf,hz,hsi,hby⟩:=qjU
 have hsrc:Src Try.prog inf.size 25 (.slice (some ⟨rn,0,none⟩) 1 1) 1 [iV x] w9:=Src.ofSlice w9 qie ⟨rn,0,none⟩ 1 1 [iV x] (by rw[hsi];rfl) (fun j v hj=>by
  rw[Addr.add_lit,Nat.zero_add]
  match j,hj with
  | 0,hj=>cases hj;exact c0.1
  | j+1,hj=>simp at hj) (fun v hv=>by simp at hv;rcases hv with rfl;rfl)
 have ho9:=qau ho (Keep.of_gr hg9 (fun _=>True)) fun _ _=>trivial
 have hs9:=hg9.size
 refine qpD hoo t8 t10 qie hinf hz (by rw[hsi];rfl) (by rw[hsi];exact ho9) (by omega) hsrc (by rw[hby];decide) (by omega) fun u' w10 row hsl hupd hrow hown hnew=>qc3 hpg ?_
 rw[hsi] at hown
 have k10:=Keep.upd hupd
 have hs10:=k10.size
 have hrs10:∀ b,row=some b→b≠rs:=fun b hb e=>by
  rcases hrow with h | h
  ·rw[h] at hb;cases hb
  ·rw[h,e] at hb;exact hnr hb
 have cu10:Cel w10 rs 0 u:=(cu.gr hg9).keep k10 fun e=>hrs10 rs e.symm rfl
 have hnr':u'.ownBlock≠some rs:=fun e=>by
  rcases hnew rs e with h | h
  ·exact hrs10 rs h rfl
  ·have:=cu.lt;omega
 obtain⟨inf2,hinf2,hisz⟩:=qne qj5
 have u1':=qjy hsl
 have hcells:u'.cells.toList=[u']:=by obtain⟨a',c',rfl⟩:=hsl;rfl
 have hsiz:u'.cells.size=1:=by obtain⟨a',c',rfl⟩:=hsl;rfl
 have hx2:(a9.put o.dst u').eval (.tmp 7)=.pointer (some ⟨rs,0,none⟩):=by
  rw[hdst]
  show (a9.put (some 42) u').tmps.getD 7 undef=_
  rw[qbH _ _ _ _ _ (by rw[show a9.tmps.size=44 from R9.t.size];decide),if_neg (by decide)]
  exact t2''
 have hx11:(a9.put o.dst u').eval (.tmp 42)=u':=by
  rw[hdst]
  show (a9.put (some 42) u').tmps.getD 42 undef=_
  rw[qbH _ _ _ _ _ (by rw[show a9.tmps.size=44 from R9.t.size];decide),if_pos rfl]
 refine qkB hpo hx2 hx11 (us:=[u]) hinf2 (by rw[hisz];exact hsiz) (by rw[hcells];simpa using u1') (fun j v hj=>?_) (by rw[hisz];rfl) ?_
 ·match j,hj with
  | 0,hj=>cases hj;exact cu10
  | j+1,hj=>simp at hj
 ·rw[hcells]
  have hks:Keep (fun b=>b≠rs) w10 (w10.setCells rs 0 [u']):=Keep.setCells rs _ 0 w10
  have hset:=qjl (w:=w10) (r:=rs) (o:=0) (us:=[u]) (vs:=[u']) (fun j v hj=>by
   match j,hj with
   | 0,hj=>cases hj;exact cu10
   | j+1,hj=>simp at hj) rfl (j:=0) rfl
  refine h _ _ u' ?_ hset ?_ ?_ hnr'
  ·refine ((Keep.of_gr hg9 _).trans (k10.mono fun i _ h=>?_)).trans (hks.mono fun i _ h=>h.1)
   intro e
   rcases hrow with h' | h'
   ·rw[h'] at e;cases e
   ·exact h.2 (by rw[← h',e])
  ·rw[qd7]
   exact qau hown hks fun b hb e=>hnr' (by rw[hb,e])
  ·intro b hb
   rcases hnew b hb with h | h
   ·rcases hrow with h' | h'
    ·rw[h'] at h;cases h
    ·exact Or.inl (by rw[← h',h])
   ·exact Or.inr (by omega)
theorem qf3:rc []=.seq (rc [0]) (.seq (rc [1,0]) (.seq (.seq (rc [1,1,0,0]) (.block 0 (.rangeFunc (.tmp 15) #[16] (rc [1,1,0,1,0,0]) (.block 1 (.seq (rb [0]) (.seq (rb [1,0]) (.cond (.tmp 33) (.seq (.region 6 ro false) (.region 7 rio false)) .skip))))))) (rc [1,1,1]))):=by kernel_rfl
abbrev WC:SV:=.pc 68 [.pp 3 0,.pp 4 0]
abbrev rA (n m:Nat) (z:Int):List SV:=[.ag [.ls 1 m,.ls 0 n],.pv (iV z),WC]
abbrev qsq (g:List Int) (m:Nat) (s:List Pt) (tn td:Int):List (Nat×Nat×SV):=[(1,0,.row 3 1 m (ziV g)),(2,0,.mrow (byV s)),(3,0,.mp 2),(4,0,.pv (iV tn)),(4,1,.pv (iV td))]
abbrev hpR (w g:List Int) (n m:Nat) (s:List Pt) (tn td:Int):List (Nat×Nat×SV):=(0,0,.row 3 1 n (ziV w))::qsq g m s tn td
abbrev qrE (g:List Int) (n m:Nat) (s:List Pt) (tn td:Int):List (Nat×Nat×SV):=(5,0,.ls 1 m)::(5,1,.ls 0 n)::(6,0,WC)::qsq g m s tn td
abbrev hpB (w g:List Int) (n m:Nat) (s:List Pt) (tn td:Int):List (Nat×Nat×SV):=(0,0,.row 3 1 n (ziV w))::qrE g n m s tn td
abbrev tmA (p7:Value) (k:Int):List (Nat×SV):=[(3,.pp 5 0),(5,.pp 6 0),(7,.pv p7),(8,.pv (iV k))]
section
variable (w g:List Int) (n m k:Nat) (s:List Pt) (tn td z z1 x y v v0:Int) (p3 p5 p7 u:Value)
theorem qqd:Seg Try.prog 5 5 (rc [0]) 44 5 (qbO 0 (rA n m z)) (hpR w g n m s tn td) .normal 7 [(1,.pv (iV z)),(3,.pp 5 0),(5,.pp 6 0)] (hpB w g n m s tn td):=
 qbQ [] 100 [] (by decide) (by kernel_rfl) (Ro tI)
theorem qku:Seg Try.prog 5 7 (rc [1,0]) 44 7 [(1,.pv (iV z)),(3,.pp 5 0),(5,.pp 6 0)] (hpB w g n m s tn td) .normal 8 [(1,.pv (iV z)),(3,.pp 5 0),(5,.pp 6 0),(7,.pp 7 0)] ((7,0,.pv qqF)::hpB w g n m s tn td):=
 qbQ [] 100 [] (by decide) (by kernel_rfl) (Ro tI)
theorem qpr (h:iV (IntKind.i64.wrap ((n:Int)+z))=iV z1):Seg Try.prog 5 8 (rc [1,1,0,0]) 44 8 [(1,.pv (iV z)),(3,.pp 5 0),(5,.pp 6 0),(7,.pp 7 0)] ((7,0,.pv qqF)::hpB w g n m s tn td) .normal 9 [(3,.pp 5 0),(5,.pp 6 0),(7,.pp 7 0),(15,.pc 71 [.pp 8 0])] ((8,0,.pv (iV z1))::(7,0,.pv qqF)::hpB w g n m s tn td):=
 qbQ [] 100 [Re h,.k] (by decide) (by kernel_rfl) (Ro (Ai h tI))
theorem qjm:Seg Try.prog 0 0 (rc [1,1,0,1,0,0]) 44 0 [(3,.pv p3),(5,.pv p5),(7,.pv p7),(16,.pv (iV x))] [] .normal 0 [(3,.pv p3),(5,.pv p5),(7,.pv p7),(8,.pv (iV x))] []:=
 qbQ [] 100 [] (by decide) (by kernel_rfl) (Ro tI)
theorem qpJ (hc:Fn 67 2 [.ls 0 n,.ls 1 m,.pv (iV z)] [(0,0,.row 3 1 n (ziV w)),(1,0,.row 3 1 m (ziV g))] (.pv (.tuple #[iV x,iV y])) 0 [])
 (hw:Fn 68 3 [.pv (iV x),.pv (iV y),.pp 1 0,.pp 2 0] [(0,0,.mrow (byV s)),(1,0,.mp 0),(2,0,.pv (iV tn)),(2,1,.pv (iV td))] (.pv (iV v)) 0 []) :
 Seg Try.prog 7 7 (rb [0]) 44 7 (tmA p7 z) (hpB w g n m s tn td) .normal 7 ((9,.pv (iV v))::tmA p7 z) (hpB w g n m s tn td):=
 qbQ [] 200 [Cf hc [0,1],
  Cf hw [2,3,4]] (by decide) (by kernel_rfl)
  (Ro (Ai hc (Ai (Ca hc [0,1] 7) (Ai (Cp hc [0,1] 7)
   (Co hw [2,3,4] 7 tI)))))
theorem ql6 (b:Bool) (hin:0≤(k:Int)∧(k:Int)<(n:Int)) (hk:w[k]?=some v0) (h:(v !=v0)=b):Seg Try.prog 7 7 (rb [1,0]) 44 7 ((9,.pv (iV v))::tmA p7 (k:Int)) (hpB w g n m s tn td) .normal 7 ((33,.pv (.bool b))::(9,.pv (iV v))::tmA p7 (k:Int)) (hpB w g n m s tn td):=
 qbQ [] 100 [.r (iV v0),.t b] (by decide) (by kernel_rfl) (Ro (Ai hin (Ai (qaZ hk) (Ai h tI))))
theorem qmJ (hin:0≤(k:Int)∧(k:Int)<(n:Int)):qpj Try.prog 7 7 ro (ro.toList.take 5) 44 7 ((33,.pv (.bool true))::(9,.pv (iV v))::tmA p7 (k:Int)) (hpB w g n m s tn td) 7 [(7,.pv p7),(8,.pv (iV (k:Int))),(37,.pv (iV v)),(38,.lp 0 (0*1+k*1))] (hpB w g n m s tn td):=
 qeA [] 100 [] (by decide) (by kernel_rfl) (Ro (Ai hin tI))
theorem qoF:Seg Try.prog 1 1 (rc [1,1,1]) 44 1 [(7,.pp 0 0)] [(0,0,.pv u)] .ret 1 [(6,.pv u)] []:=
 qbQ [] 100 [] (by decide) (by kernel_rfl) (Ro tI)
end
theorem qmQ:ro.toList=ro.toList.take 5++(ro.toList.drop 5).take 1:=by kernel_rfl
theorem qki:∃ o:Oper,(ro.toList.drop 5).take 1=[o]∧o.op=.store 3 (.tmp 38) (.tmp 37)∧o.dst=none∧o.guard=none:=
 ⟨ro.getD 5 default,by kernel_rfl,by kernel_rfl,by kernel_rfl,by kernel_rfl⟩
end Go.Proofs.Ytgbmdijodlfcaaa
