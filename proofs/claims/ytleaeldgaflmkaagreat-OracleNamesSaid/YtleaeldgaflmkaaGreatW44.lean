/-
  Joined: Mu, Mv, Mx, Gb, Ga. Conditions: none.
-/
import Derived.Test.YtleaeldgaflmkaaGreatW43
import Derived.Test.YtleaeldgaflmkaaGreatW42
import Derived.Test.YtleaeldgaflmkaaGreatW25
import Derived.Test.YtleaeldgaflmkaaGreatW33
import Derived.Test.YtleaeldgaflmkaaGreatW36
import Derived.Shelf.SlSortCmp.WholeK
import Derived.Shelf.SlSortCmp.NoneTotal
import Derived.Test.YtleaeldgaflmkaaGreatSm4
import Derived.Test.YtleaeldgaflmkaaGreatW37
namespace Go.Proofs.YtleaeldgaflmkaaGreat
set_option maxRecDepth 100000
open Go.RowKit
theorem qxD {l:List Pt} {fn fd tn td:Int} (h:mE l fn fd tn td=0):Val l∧okB fn fd=true∧okB tn td=true∧¬ fn*td-tn*fd>0:=by
 unfold mE at h
 split at h
 ·rename_i h0
  split at h
  ·rename_i g
   split at h
   ·cases h
   ·rename_i g3;exact⟨qbd.1 h0,g.1,g.2,g3⟩
  ·cases h
 ·rename_i h0;exact (h0 h).elim
noncomputable abbrev btw (l:List Pt) (fn fd tn td:Int):List Mt:=((qfy l).filter (kpA fn fd)).filter (kpB tn td)
end Go.Proofs.YtleaeldgaflmkaaGreat

namespace Go.Proofs.YtleaeldgaflmkaaGreat
set_option maxRecDepth 100000
open Go.RowKit
abbrev qua (n:Nat) (s:List Mt):HpL:=[(0,0,.row 95 4 n (msV s)),(1,0,.row 95 4 n (msV s))]
theorem qtd {s:List Mt} {n k:Nat} {m:Mt} (hk:s[k]?=some m) (hin:0≤(k:Int)∧(k:Int)<(n:Int)) (hlt:decide ((k:Int)<(n:Int))=true) (he:(!((m.n==m.n&&(m.d==m.d&&true))&&(m.i==m.i&&(m.j==m.j&&true))))=false) (hs:iV (IntKind.i64.wrap ((k:Int)+1))=iV (((k+1:Nat):Int))) {e:Exit} {tm2:TmL} {hp2:HpL}
 (r:Rl 2 2 34 0 26 2 ([(0,.ls 0 n),(1,.ls 1 n),(5,.pv (iV ((k+1:Nat):Int)))]) (qua n s) e tm2 hp2):Rl 2 2 34 0 26 2 ([(0,.ls 0 n),(1,.ls 1 n),(5,.pv (iV (k:Int)))]) (qua n s) e tm2 hp2:=
 RunsL.next [] 300 [.t true,.r (qar m),.r (qar m),.t false,Re hs]
  (Ro (Ai hlt (Ai hin (Ai (qgk hk) (Ai hin (Ai (qgk hk) (Ai he (Ai hs tI)))))))) r
theorem qvS {s:List Mt} {n k:Nat} (hlt:decide ((k:Int)<(n:Int))=false):Rl 2 2 34 0 26 2 ([(0,.ls 0 n),(1,.ls 1 n),(5,.pv (iV (k:Int)))]) (qua n s) (.exit 0) ([]) ([]):=
 RunsL.stop [] 300 [.t false] (fun h=>by cases h)
  (Ro (Ai hlt tI))
theorem qtr {s:List Mt} {n:Nat} (hn:(!((n:Int)==(n:Int)))=false) (r0:Rl 2 2 34 0 26 2 ([(0,.ls 0 n),(1,.ls 1 n),(5,.pv (iV ((0:Nat):Int)))]) (qua n s) (.exit 0) ([]) ([])) :
 Fn 34 2 [.ls 0 n,.ls 1 n] (qua n s) (.pv (.bool true)) 0 []:=
 Fz [] [.t false,Lf r0]
  tI (Ai hn (Lo r0 [] tI))
theorem qrL {s:List Mt} {n:Nat} (hs:s.length=n) (hn:n≤100000):Fn 34 2 [.ls 0 n,.ls 1 n] (qua n s) (.pv (.bool true)) 0 []:=by
 refine qtr (by simp) (RunsL.rounds (fun k=>[(0,.ls 0 n),(1,.ls 1 n),(5,.pv (iV (k:Int)))]) (fun _=>(qua n s)) n 0 (Nat.zero_add _) (fun k _ hk r=>?_) (qvS (df (by omega))))
 obtain⟨m,hm⟩:=qan (l:=s) (k:=k) (by omega)
 exact qtd hm (qaB hk) (dt (by omega)) (by simp) (by rw[qah (by omega) (by omega)];rfl) r
end Go.Proofs.YtleaeldgaflmkaaGreat

namespace Go.Proofs.YtleaeldgaflmkaaGreat
set_option maxRecDepth 100000
open Go.RowKit
noncomputable def qjx (l:List Pt) (fn fd tn td:Int):List Mt:=((srt l).filter (kpA fn fd)).filter (kpB tn td)
theorem qjq {l:List Pt} (hv:Val l) (fn fd tn td:Int):(qjx l fn fd tn td).length≤4096:=
 Nat.le_trans (List.length_filter_le _ _) (Nat.le_trans (List.length_filter_le _ _) (by rw[qmt];exact qom hv))
theorem qvZ {l:List Pt} (hv:Val l):(srt l).Pairwise (fun a b=>0≤qcJ b a):=List.pairwise_reverse.2 (qfQ (by simp) (qlq hv) (by simp))
end Go.Proofs.YtleaeldgaflmkaaGreat

namespace Go.Proofs.YtleaeldgaflmkaaGreat
set_option maxRecDepth 100000
open Go.RowKit Go.Sort
theorem qhA (x:Mt):∀ (R:List Mt),(qfx x R).Perm (x::R)
 | []=>List.Perm.refl _
 | b::R=>by
  unfold qfx
  split
  ·exact (List.Perm.cons b (qhA x R)).trans (List.Perm.swap x b R)
  ·exact List.Perm.refl _
theorem qf1:∀ (C S:List Mt),(qfC S C).Perm (S++C)
 | [],S=>by rw[List.append_nil];exact List.Perm.refl _
 | x::C,S=>by
  show (qfC (qfx x S) C).Perm _
  refine (qf1 C (qfx x S)).trans ?_
  refine ((qhA x S).append_right C).trans ?_
  exact (List.perm_middle (a:=x) (l₁:=S) (l₂:=C)).symm
theorem qpM (l:List Pt):(srt l).Perm (qfy l):=by
 unfold srt
 exact (List.reverse_perm _).trans (by simpa using qf1 (qfy l) [])
theorem qmO (l:List Pt) (fn fd tn td:Int):(qjx l fn fd tn td).Perm (btw l fn fd tn td):=((qpM l).filter _).filter _
theorem qtX {l:List Pt} (hv:Val l) (fn fd tn td:Int):(qjx l fn fd tn td).Pairwise (fun a b=>0≤qcJ b a):=((qvZ hv).filter _).filter _
theorem qo2 {a b:Mt} (ha:MtOk a) (hb:MtOk b) (h1:0≤qcJ b a) (h2:0≤qcJ a b):a=b:=by
 have:=qeh a b
 exact qq5 ha hb (by omega)
abbrev qpp (X:List Mt):Type:={ m:Mt // m∈X }
def qh2 (X:List Mt) (x:qpp X):List Value:=mcV x.1
theorem qnl {X:List Mt} [Inhabited (qpp X)] (d:Array (qpp X)):(flatK (qh2 X) 4 d).toList=msV (d.toList.map (·.1)):=by
 apply List.ext_getElem?
 intro t
 by_cases ht:t<d.size*4
 ·have e1:(flatK (qh2 X) 4 d).toList[t]?=some ((qh2 X d[t/4]!)[t%4]!):=by
   rw[Array.getElem?_toList,Array.getElem?_eq_getElem (by simpa using ht),← get_flatK (qh2 X) 4 d t ht,getElem!_pos _ t (by simpa using ht)]
  have hk:t/4<d.size:=by omega
  have hp:(d.toList.map (·.1))[t/4]?=some d[t/4]!.1:=by
   rw[List.getElem?_map,Array.getElem?_toList,Array.getElem?_eq_getElem hk,getElem!_pos d _ hk];rfl
  obtain⟨g0,g1,g2,g3⟩:=qgL hp
  rw[e1]
  have h4:t%4=0∨t%4=1∨t%4=2∨t%4=3:=by omega
  have e:t=t/4*4+t%4:=by omega
  rcases h4 with h | h | h | h<;>rw[h] at e ⊢<;>rw[e]
  ·rw[Nat.add_zero,show (t/4*4)/4=t/4 by omega,g0];rfl
  ·rw[show (t/4*4+1)/4=t/4 by omega,g1];rfl
  ·rw[show (t/4*4+2)/4=t/4 by omega,g2];rfl
  ·rw[show (t/4*4+3)/4=t/4 by omega,g3];rfl
 ·rw[List.getElem?_eq_none (by simpa using ht),List.getElem?_eq_none (by rw[qcV];simpa using ht)]
theorem qjR:∀ (l:List Mt),∀ v∈msV l,v.oneCell'=true
 | [],v,h=>by cases h
 | m::r,v,h=>by
  simp only[msV,List.mem_cons] at h
  rcases h with rfl | rfl | rfl | rfl | h
  ·rfl
  ·rfl
  ·rfl
  ·rfl
  ·exact qjR r v h
section
variable {X:List Mt}
theorem qtQ (hX:∀ m∈X,MtOk m) [Inhabited (qpp X)] (w:World) (g size:Nat) :
 CmpLays Tryz.prog 139 #[] (qh2 X) 4 (fun x y=>qcJ x.1 y.1) g 0 size w:=by
 intro m os dk _ x y
 exact (qqb (hX _ x.2) (hX _ y.2) _).mono fun e w' ⟨he,hg⟩=>⟨he,qtL hg⟩
theorem quX (hX:∀ m∈X,MtOk m):SWO (ltOf fun x y:qpp X=>qcJ x.1 y.1):=by
 refine⟨fun x=>?_,fun x y z h k=>?_,fun x y z h k=>?_⟩
 ·have:=qeh x.1 x.1
  simp only[ltOf,decide_eq_false_iff_not]
  omega
 ·simp only[ltOf,decide_eq_true_eq] at *
  have e1:=qeh x.1 y.1
  have e2:=qeh y.1 z.1
  have e3:=qeh x.1 z.1
  have e4:=qnV (hX _ z.2) (hX _ y.2) (hX _ x.2) (by omega) (by omega)
  by_cases h0:qcJ x.1 z.1=0
  ·have:=qq5 (hX _ x.2) (hX _ z.2) h0
   rw[← this] at e2 k
   omega
  ·omega
 ·simp only[ltOf,decide_eq_false_iff_not,Int.not_lt] at *
  exact qnV (hX _ x.2) (hX _ y.2) (hX _ z.2) h k
theorem qvp (w:World):(isAgg (Tryz.sortMt_ren.t 24)).run Tryz.prog w=.ok true w:=Tryz.isAgg95 w
theorem qwO (w:World):(Go.sizeOf (Tryz.sortMt_ren.t 24)).run Tryz.prog w=.ok 4 w:=Tryz.sizeOf95 w
theorem qm0:∀ args w,(callFunc 139 args).run Tryz.prog w=.ok (.enter 139 args) w:=enters_of Tryz.func139 (by kernel_rfl) rfl
theorem qrr {β:Bl} {n:Nat} {us:List Value} (h:SV.isl β [.ls 0 n,.pv inV] us):∃ v,us=[v,inV]∧β.g 0=some v:=by
 match us,h with
 | [v0,v1],⟨⟨h0,_⟩,h1,_⟩=>exact⟨v0,by rw[show v1=inV from h1],h0⟩
theorem qkQ (hX:∀ m∈X,MtOk m) (hn:X.length≤100000) (hne:X≠[]) {s:List Mt} (hsp:s.Perm X) (hss:s.Pairwise (fun a b=>0≤qcJ b a)) :
 FnM Tryz.prog 152 1 [.ls 0 X.length,.pv inV] [(0,0,qc0 X)] (.tuple #[]) 0 ⟨95,4,X.length,msV X⟩ (msV s):=by
 haveI:Inhabited (qpp X):=⟨⟨X.head hne,List.head_mem hne⟩⟩
 obtain⟨d,hd⟩:∃ d:Array (qpp X),d=X.attach.toArray:=⟨_,rfl⟩
 have hdl:d.toList.map (·.1)=X:=by rw[hd];simp
 have hds:d.size=X.length:=by rw[hd];simp
 have hO:=quX hX
 obtain⟨d',hd'⟩:∃ d',d'=pdq (ltOf fun x y:qpp X=>qcJ x.1 y.1) d 0 d.size (Lib.bitLen d.size) true true:=⟨_,rfl⟩
 obtain⟨hperm,hsort⟩:=pdq_sorts (ltOf fun x y:qpp X=>qcJ x.1 y.1) hO d 0 d.size (Lib.bitLen d.size) true true (Nat.zero_le _) (Nat.le_refl _) (Or.inl rfl)
 rw[← hd'] at hperm hsort
 obtain⟨hs1,_,hs2⟩:=hperm
 have hpd:d'.toList.Perm d.toList:=by
  have e1:d'.extract 0 d.size=d':=by rw[← hs1];simp
  have e2:d.extract 0 d.size=d:=by simp
  rw[e1,e2] at hs2;exact hs2
 have hp2:(d'.toList.map (·.1)).Perm X:=(hpd.map _).trans (List.Perm.of_eq hdl)
 have hsl:(d'.toList.map (·.1)).length=X.length:=by simp[hs1,hds]
 have hpw:(d'.toList.map (·.1)).Pairwise (fun a b=>0≤qcJ b a):=by
  rw[List.pairwise_map,List.pairwise_iff_getElem]
  intro i j hi hj hij
  have:=hsort i j (Nat.zero_le _) hij (by rw[← hs1];simpa using hj)
  rw[getElem!_pos d' i (by simpa using hi),getElem!_pos d' j (by simpa using hj)] at this
  simpa [ltOf] using this
 have hse:d'.toList.map (·.1)=s:=qmM (hp2.trans hsp.symm) (fun x hx y hy h1 h2=>qo2 (hX x (hp2.subset hx)) (hX y (hp2.subset hy)) h1 h2) hpw hss
 ·intro w β us base u hH hdom hargs hu hown hbase hap
  obtain⟨v,rfl,hv0⟩:=qrr hargs
  rw[hu] at hv0
  cases hv0
  obtain⟨hlen,hnil | ⟨g,cap,cur,rfl,hg,hgc,hnc,hcm,hcs,htk⟩⟩:=hown
  ·exact (hne (List.eq_nil_of_length_eq_zero hnil.2)).elim
  dsimp only at hlen hgc hnc hcs htk
  have hgs:g<w.heap.size:=(Array.getElem?_eq_some_iff.1 hgc).1
  have hfl:(flatK (qh2 X) 4 d).toList=msV X:=by rw[qnl,hdl]
  have hfs:(flatK (qh2 X) 4 d).size=X.length*4:=by rw[size_flatK,hds]
  have hfl':(flatK (qh2 X) 4 d').toList=msV s:=by rw[qnl d',hse]
  have hfs':(flatK (qh2 X) 4 d').size=X.length*4:=by rw[size_flatK,hs1,hds]
  have hHold:HoldsK (qh2 X) 4 w g 0 d:=by
   intro j hj
   rw[hfs] at hj
   have hjc:j<cur.size:=by rw[hcs];omega
   have h1:cur[j]?=some ((flatK (qh2 X) 4 d)[j]!):=by
    have h2:(cur.toList.take (X.length*4))[j]?=(flatK (qh2 X) 4 d).toList[j]?:=by rw[htk,hfl]
    rw[List.getElem?_take,if_pos hj,Array.getElem?_toList,Array.getElem?_toList] at h2
    rw[h2,getElem!_pos _ j (by omega),Array.getElem?_eq_getElem]
   constructor
   ·simp only[World.cell?,hgc,Nat.zero_add,Option.isSome_none,id]
    exact h1
   ·simp[World.frozen?,hgc]
  have hcon:=AnyQ.slices_SortFunc_eq Tryz.sortMt 4 qvp qwO (qh2 X) (fun _=>rfl) (fun x v hv=>by simp[qh2] at hv;rcases hv with rfl | rfl | rfl | rfl<;>rfl) (fun x y=>qcJ x.1 y.1) hO 139 #[] g 0 cap d w qm0
   (qtQ hX w g d.size) hHold hgs (by omega)
  rw[← hd',hds] at hcon
  refine Calls.mono (show Calls Tryz.prog 152 _ w _ from hcon) fun e w' ⟨he,n,os,hw⟩=>?_
  have hsz:(putRow id (Sort.ahead w n) g 0 (flatK (qh2 X) 4 d')).heap.size=w.heap.size:=by rw[size_putRow];rfl
  have hblk:∀ k,k<w.heap.size→w'.heap[k]?=(putRow id (Sort.ahead w n) g 0 (flatK (qh2 X) 4 d')).heap[k]?:=fun k hk=>by
   rw[hw]
   unfold sortWorldK Sort.grow putRowK
   exact Array.getElem?_append_left (by rw[hsz];exact hk)
  have hself:=(hblk g hgs).trans (qlL (w:=Sort.ahead w n) (fr:=(0,0)) hgc _)
  refine⟨he,⟨⟨?_,?_,?_,?_,?_⟩,?_,?_⟩,⟨?_,.inr ⟨g,cap,_,rfl,hg,hself,hnc,hcm,?_,?_⟩⟩,qjR _⟩
  ·rw[hw];rfl
  ·rw[hw];rfl
  ·rw[hw];rfl
  ·rw[hw];unfold sortWorldK putRowK;rw[size_grow,hsz];omega
  ·intro k hk hkr
   rw[hblk k hk]
   exact qou (Sort.ahead w n) g _ fun e=>hkr (by rw[e];rfl)
  ·intro a ha
   rw[hw]
   unfold sortWorldK putRowK
   rw[frozen?_grow _ _ _ (by rw[hsz];exact ha),frozen?_putRow];rfl
  ·rw[hw];show w.drawn≤w.drawn+n;omega
  ·rw[qcV,← hse,hsl]
  ·rw[qgq];exact hcs
  ·rw[← hfs',qgT _ _ (by rw[hfs',hcs];omega),hfl']
theorem qnq (hX:∀ m∈X,MtOk m) (hn:X.length≤100000) {s:List Mt} (hsp:s.Perm X) (hss:s.Pairwise (fun a b=>0≤qcJ b a)) :
 FnM Tryz.prog 152 1 [.ls 0 X.length,.pv inV] [(0,0,qc0 X)] (.tuple #[]) 0 ⟨95,4,X.length,msV X⟩ (msV s):=by
 by_cases h:X=[]
 ·subst h
  have:s=[]:=hsp.eq_nil
  subst this
  intro w β us base u hH hdom hargs hu hown hbase hap
  obtain⟨v,rfl,hv0⟩:=qrr hargs
  rw[hu] at hv0
  cases hv0
  have hsl:∃ p c,u=.slice p 0 c:=by
   obtain⟨_,⟨rfl,_⟩ | ⟨g,cap,cur,rfl,_⟩⟩:=hown
   ·exact⟨_,_,rfl⟩
   ·exact⟨_,_,rfl⟩
  obtain⟨p,c,rfl⟩:=hsl
  refine Calls.mono (show Calls Tryz.prog 152 _ w _ from AnyF.slices_SortFunc_none Tryz.sortMt p c _ w) fun e w' ⟨he,hw⟩=>?_
  subst hw
  exact⟨he,Upd.refl _ _,hown,qjR _⟩
 ·exact qkQ hX hn h hsp hss
end
end Go.Proofs.YtleaeldgaflmkaaGreat

namespace Go.Proofs.YtleaeldgaflmkaaGreat
set_option maxRecDepth 100000
open Go.RowKit
noncomputable abbrev ac (p:List Nat):Code:=qjo Tryz.prog 161 p
noncomputable abbrev ao:Array Oper:=qlP (ac [1,0,1,0,1,0])
theorem qqJ:ac []=.seq (ac [0]) (.seq (.seq (ac [1,0,0]) (.block 0 (.rangeFunc (.tmp 6) #[7] (ac [1,0,1,0,0]) (.block 1 (.region 3 ao false))))) (ac [1,1])):=by kernel_rfl
abbrev qh1:Value:=.slice none 0 0
abbrev meH (b:Nat) (m:Mt):List (Nat×Nat×SV):=[(b,0,.pv (iV m.n)),(b,1,.pv (iV m.d)),(b,2,.pv (iV m.i)),(b,3,.pv (iV m.j))]
section
variable (g:FuncId) (cap:Array Value) (u:Value) (m:Mt)
theorem qvJ:Seg Tryz.prog 0 0 (ac [0]) 13 0 [(0,.pv qh1),(1,.pv (fv g cap))] [] .normal 1 [(1,.pv (fv g cap)),(2,.pp 0 0)] [(0,0,.pv qh1)]:=
 qaR [] 100 [] (by decide) (by kernel_rfl) (Ro tI)
theorem quO:Seg Tryz.prog 0 1 (ac [1,0,0]) 13 1 [(1,.pv (fv g cap)),(2,.pp 0 0)] [(0,0,.pv qh1)] .normal 1 [(2,.pp 0 0),(6,.pv (fv g cap))] [(0,0,.pv qh1)]:=
 qaR [] 100 [] (by decide) (by kernel_rfl) (Ro tI)
theorem qms:Seg Tryz.prog 1 1 (ac [1,0,1,0,0]) 13 1 [(2,.pp 0 0),(7,.pv (qar m))] [(0,0,.pv u)] .normal 2 [(2,.pp 0 0),(5,.pp 1 0)] ((0,0,.pv u)::meH 1 m):=
 qaR [] 100 [] (by decide) (by kernel_rfl) (Ro tI)
theorem qtO:qnR Tryz.prog 2 2 ao (ao.toList.take 3) 13 2 [(2,.pp 0 0),(5,.pp 1 0)] ((0,0,.pv u)::meH 1 m) 3 [(8,.pv u),(10,.ps 2 0 1 1),(2,.pp 0 0)] (meH 2 m):=
 qce [] 100 [] (by decide) (by kernel_rfl) (Ro tI)
theorem qwF:Seg Tryz.prog 1 1 (ac [1,1]) 13 1 [(2,.pp 0 0)] [(0,0,.pv u)] .ret 1 [(4,.pv u)] []:=
 qaR [] 100 [] (by decide) (by kernel_rfl) (Ro tI)
end
theorem qse:ao.toList=ao.toList.take 3++((ao.toList.drop 3).take 1++(ao.toList.drop 4).take 1):=by kernel_rfl
theorem qvY:∃ o:Oper,(ao.toList.drop 3).take 1=[o]∧o.op=.call { callee:=.builtin .append,args:=#[.tmp 8,.tmp 10],argTypes:=#[36,36] }∧o.dst=some 11∧o.guard=none:=
 ⟨ao.getD 3 default,by kernel_rfl,by kernel_rfl,by kernel_rfl,by kernel_rfl⟩
theorem qpg:∃ o:Oper,(ao.toList.drop 4).take 1=[o]∧o.op=.store 36 (.tmp 2) (.tmp 11)∧o.dst=none∧o.guard=none:=
 ⟨ao.getD 4 default,by kernel_rfl,by kernel_rfl,by kernel_rfl,by kernel_rfl⟩
theorem qoG:(Tryz.prog.info? 36).map (fun i=>i.size)=some 1:=by kernel_rfl
theorem qs3:(Tryz.prog.info? 95).map (fun i=>(i.zero,i.size,i.bytes))=some (some (qar ⟨0,0,0,0⟩),4,32):=by kernel_rfl
theorem qmK:Tryz.prog.underlying 36=some (.slice 95):=by kernel_rfl
theorem qvl {P:Program} {r:Option Nat} {o:Oper} {x y:Operand} {t tx e:TypeId} {a:Act} {w:World} {i:TypeInfo} {z v s:Value} {base n m:Nat} {xs news:List Value} {next:Act→World→Prop} {Q:Exit→Act→World→Prop}
 (ho:o.op=.call { callee:=.builtin .append,args:=#[x,y],argTypes:=#[t,tx] }) (hx:a.eval x=v) (hy:a.eval y=s) (ht:P.underlying t=some (.slice e)) (hi:P.info? e=some i) (hz:i.zero=some z) (hzs:z.cells.size=i.size)
 (hown:w.ownsRow base e i.size v n xs) (hb:base≤w.heap.size) (hs:Src P i.size tx s m news w) (hby:i.bytes≤100000000) (hn:n+m≤1000000)
 (h:∀ u w' row,qqn u (n+m)→Upd w w' row→(row=none∨row=v.ownBlock)→w'.ownsRow base e i.size u (n+m) (xs++news)→(∀ k,u.ownBlock=some k→row=some k∨w.heap.size≤k)→next (a.put o.dst u) w'):o.wpIn (FW r) 0 P a w next Q:=by
 obtain⟨u,w',row,hr,h1,h2,h3,h4,h5⟩:=qia (P:=P) (ty:=o.type) ht hi hz hzs hown hb hs hby hn
 refine⟨fun _ _=>trivial,?_⟩
 rw[Oper.semAt_eq _ _ _ (by simp[ho])]
 have he:(execOp a.eval o).run P w=.ok (.value u) w':=by
  unfold execOp
  simp only[ho,resolve,invoke,builtin,Sem.run_bind,Sem.run_pure,Result.andThen_ok,List.map_toArray,List.map_cons,List.map_nil,hx,hy,hr]
 rw[he,Oper.uponIn_value]
 exact h u w' row h1 h2 h3 h4 h5
theorem Keep.upd {w w':World} {row:Option Nat} (h:Upd w w' row):Keep (fun b=>some b≠row) w w':=⟨h.g.os,h.g.tape,h.g.output,h.g.size,h.dr,fun k hk hs=>h.g.block k hk hs⟩
theorem qb0 {w w':World} {base:Nat} {e:TypeId} {es n:Nat} {u:Value} {xs:List Value} (h:w.ownsRow base e es u n xs) {S:Nat→Prop} (k:Keep S w w') (hs:∀ b,u.ownBlock=some b→S b):w'.ownsRow base e es u n xs:=
 qen h fun j hj=>k.block j (h.lt j hj).2 (hs j hj)
theorem qn0 {u:Value} {n:Nat} (h:qqn u n):u.oneCell'=true:=by obtain⟨a,c,rfl⟩:=h;rfl
theorem qeP {W:World} {gf:FuncId} {lb:Array Value} {X:List Mt} {B:Nat→Prop} (eg:qb6 Tryz.prog gf=true) (hs:SeqC Tryz.prog gf lb (X.map mA) B W) (hB:∀ b,B b→b<W.heap.size) (hn:X.length≤100000) :
 Calls Tryz.prog 161 #[qh1,fv gf lb] W fun e w'=>∃ v,e=.returned v∧Gr W w'∧w'.ownsRow W.heap.size 95 4 v X.length (msV X)∧(X=[]→v=qh1):=by
 refine qeL (c:=ac []) Tryz.func161 (by kernel_rfl) ?_
 have H0:HRel W 0 (qdq []) [] W:=qbi (rs:=[]) (by simp) (by simp) trivial
 have R0:=qdr (n:=13) (args:=[.pv qh1,.pv (fv gf lb)]) (us:=[qh1,fv gf lb]) H0 (qbS []) ⟨rfl,rfl,trivial⟩ (by simp)
 rw[qqJ]
 refine wpIn_seq (qvJ gf lb none W _ _ W _ R0 fun β1 a1 w1 hle1 hd1 R1=>?_)
 refine wpIn_seq (wpIn_seq (quO gf lb none W β1 a1 w1 _ R1 fun β5 a5 w5 hle5 hd5 R5=>?_))
 have hd:a5.defers=[]:=hd5.trans hd1
 have hg:Gr W w5:=R5.h.gr
 obtain⟨rs,es⟩:=qaQ R5.h (b:=0) (o:=0) rfl rfl
 have cs:=qcp R5.h (b:=0) (o:=0) rfl es
 have ns:=R5.h.new 0 rs (by omega) es
 have t6:a5.tmps.getD 6 undef=fv gf lb:=R5.t.tmps 6
 obtain⟨r',e',t2⟩:∃ r,β5 0=some r∧a5.tmps.getD 2 undef=ptr r:=R5.t.tmps 2
 rw[es] at e';cases e'
 have hsz:a5.tmps.size=13:=R5.t.size
 have hsg:=hg.size
 refine wpIn_block (qdm t6 eg (hs.later (Keep.of_gr hg _)) (· = rs) (fun b hb=>⟨by rw[hb];exact cs.lt,fun h=>by have:=hB _ h;omega⟩) (fun b hb=>by have:=hB b hb;omega) (fun x hx=>by
  obtain⟨m,_,rfl⟩:=List.mem_map.1 hx
  rfl)
  (fun k T w=>∃ u,Cel w rs 0 u∧Gr W w∧w.ownsRow W.heap.size 95 4 u (X.take k).length (msV (X.take k))∧(∀ b,T b↔b=rs∨u.ownBlock=some b)∧u.ownBlock≠some rs∧(X.take k=[]→u=qh1)) ?_ ⟨qh1,cs,hg,World.ownsRow_nil _ _ _ _,fun b=>⟨fun h=>Or.inl h,fun h=>h.elim id fun h=>by cases h⟩,(fun h=>by cases h),fun _=>rfl⟩ ?_ ?_)
 ·rintro k T u1 u2 ⟨u,h1,h2,h3,h4,h5,h6⟩ hk
  exact⟨u,h1.keep hk (Or.inr ((h4 _).2 (Or.inl rfl))),(hk.mono fun i _ h=>Or.inl (by have:i<W.heap.size:=h;omega)).gr h2,qb0 h3 hk fun b hb=>Or.inr ((h4 b).2 (Or.inr hb)),h4,h5,h6⟩
 ·rintro lr k x Wr T rfl hx hszr hT1 hT2 ⟨u,cu,hgr,ho,hT,hnr,_⟩
  obtain⟨m,hm,rfl⟩:∃ m,X[k]?=some m∧x=mA m:=by
   rw[List.getElem?_map] at hx
   cases hm:X[k]? with
   | none=>rw[hm] at hx;cases hx
   | some m=>rw[hm] at hx;cases hx;exact⟨m,rfl,rfl⟩
  have hk1:=qaw hm
  have hTs:T rs:=(hT rs).2 (Or.inl rfl)
  have hact:({ tmps:=((#[7]:Array Tmp).zip (mA m)).foldl (fun t (p,v)=>t.setIfInBounds p v) a5.tmps,defers:=[] }:Act)=clr (a5.put (some 7) (qar m)):=by simp[mA,clr,Act.put]
  rw[hact]
  have u1:=qn0 (qc6 ho)
  have R6:Rel Wr 1 (qdq [rs]) (qaC 13 1 [(2,.pp 0 0),(7,.pv (qar m))] [(0,0,.pv u)] []) (clr (clr (a5.put (some 7) (qar m)))) Wr:=
   ql5 (qbi (rs:=[rs]) (by simp) (by simpa using cu.lt) ⟨⟨rs,_,rfl,rfl,cu,u1⟩,trivial⟩) (qbS [rs]) (Nat.le_refl _) (by simp[clr,Act.put,hsz]) ⟨⟨rs,rfl,by simp[clr,Act.put,Array.getElem?_setIfInBounds_ne];simpa using t2⟩,by
    show (clr (a5.put (some 7) (qar m))).tmps.getD 7 undef=qar m
    simp[clr,Act.put,hsz,Array.getD_eq_getD_getElem?],trivial⟩
  refine qms u m (some _) Wr _ (clr (a5.put (some 7) (qar m))) Wr _ R6 fun β7 a7 w7 hle7 hd7 R7=>?_
  have hg7:Gr Wr w7:=R7.h.gr
  refine⟨Keep.of_gr hg7 _,fun W2 hk2 hs2=>?_⟩
  have e70:β7 0=some rs:=Bl.leU_f hle7 (by omega) rfl
  obtain⟨rv,ev⟩:=qaQ R7.h (b:=1) (o:=0) rfl rfl
  have nv:=R7.h.new 1 rv (by omega) ev
  have hrl:=hT1 rs hTs
  have cu2:Cel W2 rs 0 u:=(cu.gr hg7).keep hk2 hrl.2.2
  have v0:Cel W2 rv 0 (iV m.n):=(qcp R7.h (b:=1) (o:=0) rfl ev).keep hk2 (show rv≠_ by omega)
  have v1:Cel W2 rv 1 (iV m.d):=(qcp R7.h (b:=1) (o:=1) rfl ev).keep hk2 (show rv≠_ by omega)
  have v2:Cel W2 rv 2 (iV m.i):=(qcp R7.h (b:=1) (o:=2) rfl ev).keep hk2 (show rv≠_ by omega)
  have v3:Cel W2 rv 3 (iV m.j):=(qcp R7.h (b:=1) (o:=3) rfl ev).keep hk2 (show rv≠_ by omega)
  have hne:rs≠rv:=by omega
  have hsz7:a7.tmps.size=13:=R7.t.size
  obtain⟨r',e',t2'⟩:∃ r,β7 0=some r∧a7.tmps.getD 2 undef=ptr r:=R7.t.tmps 2
  rw[e70] at e';cases e'
  obtain⟨r',e',t5'⟩:∃ r,β7 1=some r∧a7.tmps.getD 5 undef=ptr r:=R7.t.tmps 5
  rw[ev] at e';cases e'
  have ho2:W2.ownsRow W.heap.size 95 4 u (X.take k).length (msV (X.take k)):=qb0 (qb0 ho (Keep.of_gr hg7 (fun _=>True)) fun _ _=>trivial) hk2 fun b hb=>(hT1 b ((hT b).2 (Or.inr hb))).2.2
  have hgr2:Gr W W2:=(hk2.mono fun i _ h=>by show i≠_;have:i<W.heap.size:=h;omega).gr (hgr.trans hg7)
  have R8:Rel W2 2 (qdq [rs,rv]) (qaC 13 2 [(2,.pp 0 0),(5,.pp 1 0)] ((0,0,.pv u)::meH 1 m) []) (clr a7) W2:=
   ql5 (qbi (rs:=[rs,rv]) (by simpa using hne) (by simp;exact⟨cu2.lt,v0.lt⟩) ⟨⟨rs,_,rfl,rfl,cu2,u1⟩,⟨rv,_,rfl,rfl,v0,rfl⟩,⟨rv,_,rfl,rfl,v1,rfl⟩,⟨rv,_,rfl,rfl,v2,rfl⟩,⟨rv,_,rfl,rfl,v3,rfl⟩,trivial⟩) (qbS [rs,rv]) (Nat.le_refl _) hsz7 ⟨⟨rs,rfl,t2'⟩,⟨rv,rfl,t5'⟩,trivial⟩
  refine wpIn_block (wpIn_region_list ?_)
  obtain⟨o,hol,hoo,hdst,hgd⟩:=qvY
  obtain⟨p,hpl,hpo,hpd,hpg⟩:=qpg
  rw[qse,hol,hpl]
  refine qtO u m (some _) W2 _ a7 W2 _ _ R8 fun β9 a9 w9 hle9 hd9 R9=>qev hgd ?_
  have hg9:Gr W2 w9:=R9.h.gr
  have t8:a9.tmps.getD 8 undef=u:=R9.t.tmps 8
  obtain⟨rn,en,t10⟩:∃ r,β9 2=some r∧a9.tmps.getD 10 undef=.slice (some ⟨r,0,none⟩) 1 1:=R9.t.tmps 10
  obtain⟨r',e',t2''⟩:∃ r,β9 0=some r∧a9.tmps.getD 2 undef=ptr r:=R9.t.tmps 2
  have e90:β9 0=some rs:=Bl.leU_f hle9 (by omega) rfl
  rw[e90] at e';cases e'
  have c0:=qcp R9.h (b:=2) (o:=0) rfl en
  have c1:=qcp R9.h (b:=2) (o:=1) rfl en
  have c2:=qcp R9.h (b:=2) (o:=2) rfl en
  have c3:=qcp R9.h (b:=2) (o:=3) rfl en
  obtain⟨inf,hinf,hz,hsi,hby⟩:∃ i,Tryz.prog.info? 95=some i∧i.zero=some (qar ⟨0,0,0,0⟩)∧i.size=4∧i.bytes=32:=by
   have h:=qs3
   cases hi:Tryz.prog.info? 95 with
   | none=>rw[hi] at h;cases h
   | some i=>rw[hi] at h;simp only[Option.map_some,Option.some.injEq,Prod.mk.injEq] at h;exact⟨i,rfl,h.1,h.2.1,h.2.2⟩
  have hlk:(X.take k).length=k:=by rw[List.length_take];omega
  have hsrc:Src Tryz.prog inf.size 36 (.slice (some ⟨rn,0,none⟩) 1 1) 1 (mcV m) w9:=Src.ofSlice w9 qmK ⟨rn,0,none⟩ 1 1 (mcV m) (by rw[hsi];rfl) (fun j v hj=>by
   rw[Addr.add_lit,Nat.zero_add]
   match j,hj with
   | 0,hj=>cases hj;exact c0.1
   | 1,hj=>cases hj;exact c1.1
   | 2,hj=>cases hj;exact c2.1
   | 3,hj=>cases hj;exact c3.1
   | j+4,hj=>simp at hj) (fun v hv=>by simp at hv;rcases hv with rfl | rfl | rfl | rfl<;>rfl)
  have ho9:=qb0 ho2 (Keep.of_gr hg9 (fun _=>True)) fun _ _=>trivial
  refine qvl hoo t8 t10 qmK hinf hz (by rw[hsi];rfl) (by rw[hsi];exact ho9) (by have h1:=hgr2.size;have h2:=hg9.size;omega) hsrc (by rw[hby];decide) (by rw[hlk];omega) fun u' w10 row hsl hupd hrow hown hnew=>qev hpg ?_
  rw[hsi] at hown
  have k10:=Keep.upd hupd
  have hs9:=hg9.size
  have hs10:=k10.size
  have hrs10:∀ b,row=some b→b≠rs:=fun b hb e=>by
   rcases hrow with h | h
   ·rw[h] at hb;cases hb
   ·rw[h,e] at hb;exact hnr hb
  have cu10:Cel w10 rs 0 u:=(cu2.gr hg9).keep k10 fun e=>hrs10 rs e.symm rfl
  have hnr':u'.ownBlock≠some rs:=fun e=>by
   rcases hnew rs e with h | h
   ·exact hrs10 rs h rfl
   ·have:=cu2.lt;omega
  obtain⟨inf2,hinf2,hisz⟩:=qud qoG
  have u1':=qn0 hsl
  have hcells:u'.cells.toList=[u']:=by obtain⟨a',c',rfl⟩:=hsl;rfl
  have hsiz:u'.cells.size=1:=by obtain⟨a',c',rfl⟩:=hsl;rfl
  have hx2:(a9.put o.dst u').eval (.tmp 2)=.pointer (some ⟨rs,0,none⟩):=by
   rw[hdst]
   show (a9.put (some 11) u').tmps.getD 2 undef=_
   rw[qdv _ _ _ _ _ (by rw[show a9.tmps.size=13 from R9.t.size];decide),if_neg (by decide)]
   exact t2''
  have hx11:(a9.put o.dst u').eval (.tmp 11)=u':=by
   rw[hdst]
   show (a9.put (some 11) u').tmps.getD 11 undef=_
   rw[qdv _ _ _ _ _ (by rw[show a9.tmps.size=13 from R9.t.size];decide),if_pos rfl]
  refine qqA hpo hx2 hx11 (us:=[u]) hinf2 (by rw[hisz];exact hsiz) (by rw[hcells];simpa using u1') (fun j v hj=>?_) (by rw[hisz];rfl) ?_
  ·match j,hj with
   | 0,hj=>cases hj;exact cu10
   | j+1,hj=>simp at hj
  ·rw[hcells]
   have hks:Keep (fun b=>b≠rs) w10 (w10.setCells rs 0 [u']):=Keep.setCells rs _ 0 w10
   have hset:=qmT (w:=w10) (r:=rs) (o:=0) (us:=[u]) (vs:=[u']) (fun j v hj=>by
    match j,hj with
    | 0,hj=>cases hj;exact cu10
    | j+1,hj=>simp at hj) rfl (j:=0) rfl
   have hg10:Gr W w10:=Upd.gr (hgr2.trans hg9) hupd fun j hj=>by
    rcases hrow with h | h
    ·rw[h] at hj;cases hj
    ·rw[h] at hj;exact (ho.lt j hj).1
   refine⟨rfl,fun b=>b=rs∨u'.ownBlock=some b,⟨u',hset,(hks.mono fun i _ h=>by show i≠rs;have:i<W.heap.size:=h;omega).gr hg10,?_,fun _=>Iff.rfl,hnr',fun h=>by rw[qbX hm] at h;simp at h⟩,?_,?_⟩
   ·rw[qbX hm,List.length_append,qd3]
    exact qb0 hown hks fun b hb e=>hnr' (by rw[hb,e])
   ·refine ((Keep.of_gr hg9 _).trans (k10.mono fun i _ h=>?_)).trans (hks.mono fun i _ h=>fun e=>h ((hT i).2 (Or.inl e)))
    intro e
    rcases hrow with h' | h'
    ·rw[h'] at e;cases e
    ·exact h ((hT i).2 (Or.inr (by rw[← h',e])))
   ·intro b hb
    have hsw:(w10.setCells rs 0 [u']).heap.size=w10.heap.size:=qbn rs _ 0 w10
    show b<(w10.setCells rs 0 [u']).heap.size∧_
    rw[hsw]
    rcases hb with rfl | hb
    ·exact⟨cu10.lt,Or.inl hTs⟩
    ·refine⟨(hown.lt b hb).2,?_⟩
     rcases hnew b hb with h | h
     ·rcases hrow with h' | h'
      ·rw[h'] at h;cases h
      ·exact Or.inl ((hT b).2 (Or.inr (by rw[← h',h])))
     ·exact Or.inr (by omega)
 ·rintro w6 T ⟨u,cu,hgr,ho,hT,hnr,hem⟩ hG hnT hD hk6
  rw[List.length_map,List.take_length] at ho hem
  have u1:=qn0 (qc6 ho)
  have R7:Rel w6 1 (qdq [rs]) (qaC 13 1 [(2,.pp 0 0)] [(0,0,.pv u)] []) (clr { a5 with defers:={ target:=.collected w5.heap.size,args:=#[] }::a5.defers }) w6:=
   ql5 (qbi (rs:=[rs]) (by simp) (by simpa using cu.lt) ⟨⟨rs,_,rfl,rfl,cu,u1⟩,trivial⟩) (qbS [rs]) (Nat.le_refl _) hsz ⟨⟨rs,rfl,t2⟩,trivial⟩
  show (ac [1,1]).wpIn (FW none) 0 Tryz.prog _ _ w6
  refine qwF u none w6 _ _ w6 _ R7 fun β8 a8 w8 hle8 hd8 R8=>?_
  have hg8:Gr w6 w8:=R8.h.gr
  have hkp:Keep (·≠w5.heap.size) w8 (w8.putObj w5.heap.size (.deferred none)):=Keep.putObj _ _ _
  have R9:Rel _ 0 (β8.cut 0) (qaC 13 0 [(4,.pv u)] [] []) (clr a8) (w8.putObj w5.heap.size (.deferred none)):=
   R8.later hkp (by kernel_rfl) (by kernel_rfl) (by kernel_rfl) (fun b r hb _=>by omega) (fun b o e es n xs v hl=>by cases hl)
  obtain⟨v,hv,hx⟩:=qiU (P:=Tryz.prog) (fn:=Tryz.f161) (x:=.pv u) R9 (by kernel_rfl)
  refine qko (D:=w5.heap.size) (by rw[hd8,hd]) ((Keep.of_gr hg8 (fun _=>True)).at hD trivial) ⟨v,hv,v,rfl,?_,?_,fun h=>(show v=u from hx).trans (hem h)⟩
  ·exact (hkp.mono fun i _ h=>by show i≠_;have:i<W.heap.size:=h;omega).gr (hgr.trans hg8)
  ·rw[show v=u from hx]
   exact qb0 (qb0 ho (Keep.of_gr hg8 (fun _=>True)) fun _ _=>trivial) hkp fun b hb=>(hnT b ((hT b).2 (Or.inr hb))).1
end Go.Proofs.YtleaeldgaflmkaaGreat
