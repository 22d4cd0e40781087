/-
  OracleNames holds. Conditions: none.
-/
import Derived.Test.YtleaeldgaflmkaaGreatW47
import Derived.Test.YtleaeldgaflmkaaGreatZj
import Derived.Test.YtleaeldgaflmkaaGreatW25
namespace Go.Proofs.YtleaeldgaflmkaaGreat
set_option maxRecDepth 100000
open Go.RowKit
abbrev zq:AskQ:=⟨0,0,0,0,0,0,0⟩
section
variable {s:List Pt} {n d:Int}
theorem qho (hv:Val s) (ht:AskT n d):∀ k:Nat,qlZ s n d (List.replicate k zq) (List.replicate k (qiO 12)) n d s
 | 0=>⟨rfl,rfl,rfl⟩
 | k+1=>by
  obtain⟨r,n',d',s',o⟩:=qgr zq hv ht ⟨by unfold I64;decide,by unfold I64;decide⟩
  have e1:r.e=12:=by rw[o.ee];unfold qfN;rw[if_pos (show wfB zq=false from rfl)]
  obtain⟨f1,f2,f3,f4⟩:=o.err (by rw[e1];decide)
  rw[f1,e1,f2,f3,f4] at o
  exact⟨_,_,_,o,qho hv ht k⟩
theorem qec:∀ k:Nat,qcZ [.int .u8 0,iV 0,iV 0,iV 0,iV 0,iV 0,iV 0] k=qc1 (List.replicate k zq)
 | 0=>rfl
 | k+1=>congrArg (fun z=>Value.int .u8 0::iV 0::iV 0::iV 0::iV 0::iV 0::iV 0::z) (qec k)
theorem qfa {a:AskQ} {E:Int} (hv:Val s) (ht:AskT n d) (hq:qut a) (he:qfN s n d a=E) (h0:E≠0):Fn 15 1 [moS 0 s n d,.pv (qa5 a),.pv (iV E)] [(0,0,qad s)] (.pv (.bool true)) 0 []:=by
 obtain⟨r,n',d',s',o⟩:=qgr a hv ht hq
 have e1:r.e=E:=o.ee.trans he
 obtain⟨f1,f2,f3,f4⟩:=o.err (by rw[e1];exact h0)
 rw[e1] at f1
 subst f1 f2 f3 f4
 have hl:=hv.len
 exact qxZ (hd:=qx5 hv ht o) (hsd:=qpw (by omega))
end
theorem qch:∀ k:Nat,(qfE k).length=k
 | 0=>rfl
 | k+1=>by
  show (qfE k++[_]).length=_
  rw[List.length_append,qch k]
  rfl
theorem qcD:∀ {k i:Nat} {p:Pt},(qfE k)[i]?=some p→p=⟨i,0,0⟩∧i<k
 | 0,i,p,h=>by cases h
 | k+1,i,p,h=>by
  have h':(qfE k++[(⟨k,0,0⟩:Pt)])[i]?=some p:=h
  by_cases hi:i<k
  ·rw[List.getElem?_append_left (by rw[qch];exact hi)] at h'
   exact⟨(qcD h').1,by omega⟩
  ·rw[List.getElem?_append_right (by rw[qch];omega),qch] at h'
   by_cases h2:i-k=0
   ·rw[h2] at h'
    cases h'
    have e:i=k:=by omega
    subst e
    exact⟨rfl,by omega⟩
   ·rw[List.getElem?_eq_none (by show 1≤i-k;omega)] at h'
    cases h'
theorem qje:Val qhh:=⟨by rw[qch];decide,fun p hp=>by
 obtain⟨i,hi⟩:=List.getElem?_of_mem hp
 obtain⟨rfl,h⟩:=qcD hi
 exact qbk.2 ⟨by show (0:Int)≤(i:Int);omega,by show (i:Int)≤65535;omega,by show (-1048576:Int)≤0;decide,by show (0:Int)≤1048576;decide,by show (-1048576:Int)≤0;decide,by show (0:Int)≤1048576;decide⟩,fun k p q h1 h2=>by
 rw[(qcD h1).1,(qcD h2).1]
 show (k:Int)<((k+1:Nat):Int)
 omega⟩
theorem qmU:Rl 0 0 3 1 368 27 (nfT 0) (nfH 0 []) (.exit 2) nfE (nfH 64 (qay qhh)):=by
 refine RunsL.rounds (fun k=>nfT k) (fun k=>nfH k (qay (qfE k))) 64 0 (Nat.zero_add _) (fun k _ hk r=>?_) (qtu (k:=64) (hlt:=by decide))
 refine qqG (hlt:=dt (by omega)) (hm:=by omega) (hs:=qav (by omega)) ?_
 have e:qay (qfE (k+1))=qay (qfE k)++[iV (k:Int),iV 0,iV 0]:=qbv (qfE k) [⟨k,0,0⟩]
 rw[← e]
 exact r
abbrev nM:List Pt:=[⟨4,1,0⟩,⟨9,1,0⟩]
theorem qhu:Val nM:=⟨by decide,by decide,qmg (by decide)⟩
theorem qrq:Val []:=⟨by decide,fun p hp=>(by cases hp),fun k p q h=>(by simp at h)⟩
theorem nT (n:Int) (h1 : -1073741824≤n:=by decide) (h2:n≤1073741824:=by decide) (h0:okB n 1=true:=by decide):AskT n 1:=⟨h0,h1,h2,by decide⟩
theorem qfZ {s:List Pt} {n d:Int} (hn:I64 n) (hd:I64 d) (h:¬ (Val s∧AskT n d)):Fn 14 1 [moS 0 s n d] [(0,0,qad s)] (.pv (iV 8)) 0 []:=by
 obtain⟨c1,_⟩:=qdJ (s:=s) hn hd
 have e:qrx s n d=8:=by
  unfold qrx
  split
  ·rename_i h2
   exact absurd ((qhp hn hd).1 (by unfold qrx;rw[if_pos h2])) h
  ·rfl
 rwa [e] at c1
theorem qiH (n d e:Int) (h:qdk n d=e) (hn:I64 n:=by unfold I64;decide) (hd:I64 d:=by unfold I64;decide):Pure Tryz.prog 40 #[qaa n d] (iV e):=fun w=>by
 have:=qb1 n d w hn hd
 rwa [h] at this
theorem qsH:¬ Val [⟨-1,0,0⟩]:=fun h=>absurd (h.ok _ List.mem_cons_self) (by decide)
theorem qeA {s:List Pt} {n d i j N D e:Int} (hn:I64 n) (hd:I64 d) (h:(qb4 s≠0∧e=qb4 s∧i=0∧j=0∧N=0∧D=0)∨(Val s∧qdk n d≠0∧e=qdk n d∧i=0∧j=0∧N=0∧D=0)∨(Val s∧AskT n d∧s.length<2∧e=42∧i=0∧j=0∧N=0∧D=0)∨(Val s∧AskT n d∧2≤s.length∧e=0∧i=(ptK s (qbC s n d).1).id∧j=(ptK s (qbC s n d).2).id∧DisI s n d (qbC s n d) N D)) :
 Fn 18 1 [qaq 0 s,.pv (qaa n d)] [(0,0,qad s)] (.pv (.tuple #[iV i,iV j,qaa N D,iV e])) 0 []:=by
 obtain⟨i',j',N',D',e',hc,h0,hp⟩:=qi6 (s:=s) hn hd
 rcases h with ⟨a1,rfl,rfl,rfl,rfl,rfl⟩ | ⟨a1,a2,rfl,rfl,rfl,rfl,rfl⟩ | ⟨a1,a2,a3,rfl,rfl,rfl,rfl,rfl⟩ | ⟨a1,a2,a3,rfl,rfl,rfl,a4⟩
 ·have e1:e'=qb4 s:=by
   rcases hc with ⟨_,b⟩ | ⟨b,_⟩ | ⟨b,_⟩ | ⟨b,_⟩
   ·exact b
   all_goals exact absurd (qbd.2 b) a1
  obtain⟨rfl,rfl,rfl,rfl⟩:=h0 (by rw[e1];exact a1)
  rwa [e1] at hp
 ·have e1:e'=qdk n d:=by
   rcases hc with ⟨b,_⟩ | ⟨_,_,b⟩ | ⟨_,b,_⟩ | ⟨_,b,_⟩
   ·exact absurd (qbd.2 a1) b
   ·exact b
   all_goals exact absurd (qbb.2 b) a2
  obtain⟨rfl,rfl,rfl,rfl⟩:=h0 (by rw[e1];exact a2)
  rwa [e1] at hp
 ·have e1:e'=42:=by
   rcases hc with ⟨b,_⟩ | ⟨_,b,_⟩ | ⟨_,_,_,b⟩ | ⟨_,_,b,_⟩
   ·exact absurd (qbd.2 a1) b
   ·exact absurd (qbb.2 a2) b
   ·exact b
   ·omega
  obtain⟨rfl,rfl,rfl,rfl⟩:=h0 (by rw[e1];decide)
  rwa [e1] at hp
 ·rcases hc with ⟨b,_⟩ | ⟨_,b,_⟩ | ⟨_,_,b,_⟩ | ⟨_,_,_,rfl,rfl,rfl,b⟩
  ·exact absurd (qbd.2 a1) b
  ·exact absurd (qbb.2 a2) b
  ·omega
  ·obtain⟨rfl,rfl⟩:=DisI.uniq (a2.in).2.2 b a4
   exact hp
abbrev nC:List Pt:=[⟨1,9,0⟩,⟨2,5,0⟩,⟨3,7,0⟩,⟨4,3,0⟩]
theorem quT:Val nC:=⟨by decide,by decide,qmg (by decide)⟩
theorem e32:qb4 [⟨2,0,0⟩,⟨1,0,0⟩]=32:=by
 unfold qb4
 rw[if_neg (by decide),if_pos (by decide),if_neg fun h=>absurd (h 0 _ _ rfl rfl) (by decide)]
theorem qiu:Fn 3 0 [] [] (.pv (.bool true)) 0 []:=by
 have A3:=nT 3
 have AL:=nT 1073741824
 have i8:∀ {z:AskQ},I64 z.qn→I64 z.qd→qut z:=fun h1 h2=>⟨h1,h2⟩
 have c41:qbC nC 0 1=(0,2):=by decide
 have wn:∀ {a:AskQ} {E:Int},qut a→qfN nM 3 1 a=E→E≠0→Fn 15 1 [moS 0 nM 3 1,.pv (qa5 a),.pv (iV E)] [(0,0,qad nM)] (.pv (.bool true)) 0 []:=fun h1 h2 h3=>qfa qhu A3 h1 h2 h3
 have w12:∀ {a:AskQ} {s:List Pt} {n d:Int},wfB a=false→qfN s n d a=12:=fun {a s n d} h=>by unfold qfN;rw[if_pos h]
 have N:∀ {n d:Int},(-9223372036854775808≤n∧n≤9223372036854775807)→(-9223372036854775808≤d∧d≤9223372036854775807)→I64 n∧I64 d:=fun h1 h2=>⟨h1,h2⟩
 have M1:¬ ∃ p∈nM,p.id=5:=by simp
 have M2:∃ p∈nM,p.id=4:=⟨⟨4,1,0⟩,List.mem_cons_self,rfl⟩
 have F1:¬ ∃ p∈qhh,p.id=64:=fun ⟨p,hp,h⟩=>by
  obtain⟨i,hi⟩:=List.getElem?_of_mem hp
  obtain⟨rfl,h2⟩:=qcD hi
  have:(i:Int)=64:=h
  omega
 have R1:Fn 13 2 [moS 0 nM 3 1,.ls 1 121] [(0,0,qad nM),(1,0,.row 42 7 121 (qcZ [.int .u8 0,iV 0,iV 0,iV 0,iV 0,iV 0,iV 0] 121))] (.tu [mo1 2 [] 0 0,.one (.dv 6 0 []),.one (.pv (iV 4))]) 1 [(2,0,qad [])]:=by
  obtain⟨c1,_⟩:=qdJ (s:=nM) (n:=3) (d:=1) (by unfold I64;decide) (by unfold I64;decide)
  rw[(qhp (by unfold I64;decide) (by unfold I64;decide)).2 ⟨qhu,A3⟩] at c1
  have h:=qqf (qze (qs:=List.replicate 121 zq) (hc:=c1) (hl:=by rw[List.length_replicate];decide))
  unfold qo1 at h
  rw[qec]
  have hl:(List.replicate 121 zq).length=121:=List.length_replicate
  exact h
 have R2:=qtB (q:=List.replicate 120 zq) (c:=120) (c2:=120) List.length_replicate List.length_replicate (qec 120).symm (qv4 (qs:=List.replicate 120 zq) (by rw[List.length_replicate];decide) qhu A3 (qho qhu A3 120))
 exact wnm (hn1:=qdp (qsb (ha:=qiH 0 0 8 (by decide)) (he:=by decide))) (hn2:=qdp (qsb (ha:=qiH 1 1025 2 (by decide)) (he:=by decide))) (hn3:=qdp (qsb (ha:=qiH 1073741825 1 2 (by decide)) (he:=by decide))) (hn4:=qdp (qwG (ha:=qiH 1073741824 1 0 (by decide)) (hn:=qnp)))
  (hdo0:=qsX (s:=[]) (aq:=zq) (hc:=qfZ (by unfold I64;decide) (by unfold I64;decide) fun h=>absurd h.2.ok (by decide)) (he:=by decide)) (hru0:=qs7 (c:=121) (s:=[]) (hc:=qfZ (by unfold I64;decide) (by unfold I64;decide) fun h=>absurd h.2.ok (by decide)) (he:=by decide)) (hck0:=qwK (s:=[]) (ha:=qiH 0 0 8 (by decide)) (hc:=qaF []) (he:=by decide))
  (hdo1:=qsX (s:=[]) (aq:=zq) (hc:=qfZ (by unfold I64;decide) (by unfold I64;decide) fun h=>absurd h.2.hi (by decide)) (he:=by decide)) (hru1:=qs7 (c:=121) (s:=[]) (hc:=qfZ (by unfold I64;decide) (by unfold I64;decide) fun h=>absurd h.2.hi (by decide)) (he:=by decide)) (hck1:=qwK (s:=[]) (ha:=qiH 1073741825 1 2 (by decide)) (hc:=qaF []) (he:=by decide))
  (hdo2:=qsX (s:=[⟨-1,0,0⟩]) (aq:=zq) (hc:=qfZ (by unfold I64;decide) (by unfold I64;decide) fun h=>qsH h.1) (he:=by decide)) (hru2:=qs7 (c:=121) (s:=[⟨-1,0,0⟩]) (hc:=qfZ (by unfold I64;decide) (by unfold I64;decide) fun h=>qsH h.1) (he:=by decide)) (hck2:=qzh (s:=[⟨-1,0,0⟩]) (ha:=qiH 0 1 0 (by decide)) (hc:=qaF _) (he:=by have:=mt qbd.1 qsH;simpa using this))
  (r0:=qmU)
  (he0:=wn (N (by decide) (by decide)) (w12 rfl) (by decide)) (he1:=wn (N (by decide) (by decide)) (w12 rfl) (by decide)) (he2:=wn (N (by decide) (by decide)) (w12 rfl) (by decide)) (he3:=wn (N (by decide) (by decide)) (w12 rfl) (by decide)) (he4:=wn (N (by decide) (by decide)) (w12 rfl) (by decide)) (he5:=wn (N (by decide) (by decide)) (w12 rfl) (by decide))
  (he6:=wn (N (by decide) (by decide)) (by rw[qf2 rfl,if_pos (by decide)]) (by decide)) (he7:=wn (N (by decide) (by decide)) (by rw[qf2 rfl,if_neg (by decide),if_pos M2]) (by decide))
  (he8:=qfa qje A3 (N (by decide) (by decide)) (by rw[qf2 rfl,if_neg (by decide),if_neg F1,if_pos (qch 64)]) (by decide)) (he9:=qfa qje A3 (N (by decide) (by decide)) (by rw[qf2 rfl,if_pos (by decide)]) (by decide))
  (he10:=wn (N (by decide) (by decide)) (by rw[qnk rfl,if_neg M1]) (by decide)) (he11:=wn (N (by decide) (by decide)) (by rw[qjl rfl,if_neg (by decide),if_neg M1]) (by decide)) (he12:=wn (N (by decide) (by decide)) (by rw[qjl rfl,if_pos (by decide)]) (by decide))
  (he13:=wn (N (by decide) (by decide)) (by rw[qdz rfl,if_pos (by decide)];decide) (by decide)) (he14:=wn (N (by decide) (by decide)) (by rw[qdz rfl,if_pos (by decide)];decide) (by decide)) (he15:=wn (N (by decide) (by decide)) (by rw[qdz rfl,if_neg (by decide),if_neg (by decide)]) (by decide)) (he16:=wn (N (by decide) (by decide)) (by rw[qdz rfl,if_neg (by decide),if_neg (by decide)]) (by decide)) (he17:=wn (N (by decide) (by decide)) (by rw[qdz rfl,if_pos (by decide)];decide) (by decide))
  (he18:=qfa qrq AL (N (by decide) (by decide)) (by rw[qnz rfl,if_pos rfl]) (by decide)) (he19:=qfa qrq AL (N (by decide) (by decide)) (by rw[qn3 rfl,if_pos (by decide)]) (by decide))
  (hrm:=R1) (hrn:=R2)
  (hc1:=qeA (by unfold I64;decide) (by unfold I64;decide) (Or.inr (Or.inr (Or.inr ⟨quT,nT 0,by decide,rfl,by rw[c41];rfl,by rw[c41];rfl,by rw[c41];exact⟨by decide,by unfold I64;decide,by unfold I64;decide,by decide⟩⟩))))
  (hc2:=qeA (by unfold I64;decide) (by unfold I64;decide) (Or.inr (Or.inr (Or.inl ⟨⟨by decide,by decide,qmg (by decide)⟩,nT 0,by decide,rfl,rfl,rfl,rfl,rfl⟩))))
  (hc3:=qeA (by unfold I64;decide) (by unfold I64;decide) (Or.inr (Or.inl ⟨qhu,by decide,by decide,rfl,rfl,rfl,rfl⟩)))
  (hc4:=qeA (by unfold I64;decide) (by unfold I64;decide) (Or.inl ⟨by rw[e32];decide,e32.symm,rfl,rfl,rfl,rfl⟩))
  (hal:=qtx)
theorem qkP (w:World):HRel w 0 Bl.no [] w:=⟨Gr.refl w,fun _ _ h=>(by cases h),fun _ _ _ h=>(by cases h),fun _ _ _ h=>(by cases h),fun _ _ h=>(by cases h),fun _ _ _ h=>(by cases h),fun _ _ _ h=>(by cases h),fun _ _ _ _ _ _ _ _ h=>(by cases h),fun _ _ _ h=>(by cases h),FzIs.no1 (fun _ _ _ h=>by cases h) fun _=>rfl⟩
theorem qgl {f:FuncId} {v:Value} (h:Fn f 0 [] [] (.pv v) 0 []):Pure Tryz.prog f #[] v:=by
 intro w
 refine (h w Bl.no [] (qkP w) (fun _ _=>⟨rfl,rfl⟩) tI).mono fun e w' ⟨u,β',he,_,hx,hh,_⟩=>?_
 cases hx
 exact⟨he,hh.gr⟩
theorem qhk:Pure Tryz.prog 3 #[] (.bool true):=qgl qiu
end Go.Proofs.YtleaeldgaflmkaaGreat
