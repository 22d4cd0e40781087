/-
  Joined: Vx, VC, VE, VD, VF, VG, VI, VJ, VM, VN. Conditions: none.
-/
import Derived.Test.YtleaeldgaflmkaaGreatW48
import Derived.Test.YtleaeldgaflmkaaGreatZj
import Derived.Test.YtleaeldgaflmkaaGreatW34
import Derived.Deep.Strs
import Derived.Lib.SmallJoins
import Derived.Test.YtleaeldgaflmkaaGreatW25
import Derived.Test.YtleaeldgaflmkaaGreatW46
import Derived.Test.YtleaeldgaflmkaaGreatW47
namespace Go.Proofs.YtleaeldgaflmkaaGreat
set_option maxRecDepth 100000
open Go.ChangeShapes Go.WideShapes Go.ChangeAt Go.RowKit Go.Joins Go.Deep
theorem qvH:Tryz.prog.cellsOf 23=2:=by kernel_rfl
theorem qz1:Tryz.prog.cellsOf 26=1:=by kernel_rfl
theorem qAu:Tryz.prog.cellsOf 24=1:=by kernel_rfl
theorem qvv:Tryz.prog.cellsOf 34=3:=by kernel_rfl
theorem qoD:Tryz.prog.cellsOf 2=1:=by kernel_rfl
theorem qro:Tryz.prog.cellsOf 3=1:=by kernel_rfl
theorem qAn:Tryz.prog.cellsOf 5=1:=by kernel_rfl
theorem qo4:Tryz.prog.cellsOf 28=3:=by kernel_rfl
theorem qt1:Tryz.prog.readableRec 28=true:=by kernel_rfl
theorem qvY:28<Tryz.prog.types.size:=of_decide_eq_true (by kernel_rfl)
theorem qpQ:Tryz.prog.cellsOf 42=7:=by kernel_rfl
section
variable {H:Type} {enc:TypeId×Value→H} {W:World} {base:Nat} {spare:Nat→Bool} {held:Bool}
theorem qlo {r:Reach} {b0:Nat} {v:Value} {d:DataW H} {p:List MemPlace} (hv:Value.okWide Tryz.prog W r b0 28 v) (h:DataW.Trod enc Tryz.prog W base spare held 28 v d p) :
 ∃ (tn td:Int) (u:Value) (l:List Pt),v=.agg #[iV tn,iV td,u]∧Rd W 3 u l.length (qaY l)∧I64 tn∧I64 td:=by
 obtain⟨cs,rfl,hsz⟩:=okWide_struct Tryz.underlying28 hv
 obtain⟨fuel,hf⟩:=h
 obtain⟨y0,y1,n,_,hlen,h0,h1⟩:=trod_struct2 Tryz.underlying28 hf
 obtain⟨z0,z1,n1,_,_,a0,a1⟩:=trod_struct2 Tryz.underlying23 h0
 obtain⟨tn,e0,_,w0⟩:=DataW.trod_int Tryz.underlying2 a0
 obtain⟨td,e1,_,w1⟩:=DataW.trod_int Tryz.underlying2 a1
 obtain⟨z2,n2,_,_,b0⟩:=trod_struct1 Tryz.underlying26 h1
 obtain⟨u0,s,c0,r0,_⟩:=qpi b0
 refine⟨tn,td,u0,s,?_,r0,bounds_i64 w0,bounds_i64 w1⟩
 rw[qz1,qAu] at c0
 rw[qoD,qvH] at e0 e1
 have hs:cs.size=3:=hsz.trans qo4
 obtain⟨L⟩:=cs
 match L,hs with
 | [v0,v1,v2],_=>
  simp[Value.cells] at c0 e0 e1
  rw[c0,e0,e1]
theorem ql7 {fuel:Nat} {cs:List Value} {x:DataW H×List MemPlace} (hs:cs.length=7) (hf:DataW.trod enc Tryz.prog W base spare held fuel 42 cs=some x) :
 ∃ a:AskQ,cs=[.int .u8 a.kd,iV a.pi,iV a.pa,iV a.pb,iV a.z,iV a.qn,iV a.qd]∧qpv a:=by
 obtain⟨y0,y1,y2,y3,n,_,hlen,h0,h1,h2,h3⟩:=trod_struct4 Tryz.underlying42 hf
 obtain⟨kd,e0,_,_⟩:=DataW.trod_int Tryz.underlying5 h0
 obtain⟨z0,z1,z2,n1,_,_,a0,a1,a2⟩:=trod_struct3 Tryz.underlying34 h1
 obtain⟨pi,e1,_,_⟩:=DataW.trod_int Tryz.underlying3 a0
 obtain⟨pa,e2,_,_⟩:=DataW.trod_int Tryz.underlying2 a1
 obtain⟨pb,e3,_,_⟩:=DataW.trod_int Tryz.underlying2 a2
 obtain⟨z,e4,_,_⟩:=DataW.trod_int Tryz.underlying3 h2
 obtain⟨x0,x1,n2,_,_,b0,b1⟩:=trod_struct2 Tryz.underlying23 h3
 obtain⟨qn,e5,_,w5⟩:=DataW.trod_int Tryz.underlying2 b0
 obtain⟨qd,e6,_,w6⟩:=DataW.trod_int Tryz.underlying2 b1
 refine⟨⟨kd,pi,pa,pb,z,qn,qd⟩,?_,bounds_i64 w5,bounds_i64 w6⟩
 rw[qAn] at e0
 rw[qro,qvv] at e1
 rw[qoD,qvv] at e2 e3
 rw[qro] at e4
 rw[qoD,qvH] at e5 e6
 match cs,hs with
 | [v0,v1,v2,v3,v4,v5,v6],_=>
  simp at e0 e1 e2 e3 e4 e5 e6
  rw[e0,e1,e2,e3,e4,e5,e6]
end
section
variable {W:World} {s:List Pt} {n0 d0 n d:Int} {a:AskQ} {u:Value}
end
end Go.Proofs.YtleaeldgaflmkaaGreat

namespace Go.Proofs.YtleaeldgaflmkaaGreat
set_option maxRecDepth 100000
open Go.RowKit
section
variable {s s' s0:List Pt} {n d n' d':Int} {qs:List AskQ} {a:AskQ} {r:Rep} {k:Nat} {ds:List Dn}
theorem qpx {rs:List Rep} (hl:rs.length≤999999) (hf:∀ r∈rs,r.ms.length≤100000):Fn 28 0 [.dv 6 rs.length (qaz rs),.dv 6 rs.length (qaz rs)] [] (.pv (.bool true)) 0 []:=by
 refine qtL (r0:=RunsL.rounds (fun k=>[(0,.ls 0 rs.length),(1,.ls 1 rs.length),(5,.pv (iV (k:Int)))]) (fun _=>[(0,0,.rrow 38 6 rs.length (qaz rs)),(1,0,.rrow 38 6 rs.length (qaz rs))]) rs.length 0 (Nat.zero_add _) (fun k _ hk r=>?_) (qsu (hlt:=df (by omega))))
 obtain⟨m,hm⟩:=qal hk
 exact qqI (hlt:=dt (by omega)) (hin:=qaA hk) (hk:=hm) (hsm:=qeS m (hf m (List.mem_of_getElem? hm))) (hs:=qar (by omega)) r
theorem qkj:∀ {qs:List AskQ} {rs:List Rep} {s:List Pt} {n d:Int} {s':List Pt} {n' d':Int},qhi s n d qs rs n' d' s'→∀ r∈rs,r.ms.length≤100000
 | [],[],_,_,_,_,_,_,_,r,hr=>by cases hr
 | [],_::_,_,_,_,_,_,_,h,_,_=>h.elim
 | _::_,[],_,_,_,_,_,_,h,_,_=>h.elim
 | a::qs,q::rs,_,_,_,_,_,_,⟨_,_,_,o,h⟩,r,hr=>by
  rcases List.mem_cons.1 hr with rfl | hr
  ·exact o.few
  ·exact qkj h r hr
abbrev quy (f:FuncId) (s:List Pt) (n d:Int) (qs:List AskQ) (k:Nat) (ds:List Dn) (n' d':Int) (s':List Pt) (e:Int):Prop:=Fn f 2 [moS 0 s n d,.ls 1 qs.length] [(0,0,qad s),(1,0,qb7 qs)] (.tu [mo1 2 s' n' d',.one (.dv 6 k ds),.one (.pv (iV e))]) 1 [(2,0,qad s')]
end
end Go.Proofs.YtleaeldgaflmkaaGreat

namespace Go.Proofs.YtleaeldgaflmkaaGreat
set_option maxRecDepth 100000
open Go.RowKit
abbrev qii:List AskQ:=[⟨1,1,0,2,0,0,0⟩,⟨1,2,6,-1,0,0,0⟩,⟨1,5,0,0,0,0,0⟩,⟨5,0,0,0,0,0,0⟩,⟨6,0,0,0,0,0,0⟩,⟨4,0,0,0,0,2,1⟩,⟨5,0,0,0,0,0,0⟩,⟨6,0,0,0,0,0,0⟩,⟨4,0,0,0,0,1,1⟩]
abbrev qhk:List Rep:=[⟨0,0,0,0,0,[]⟩,⟨0,0,0,0,0,[]⟩,⟨0,0,0,0,0,[]⟩,⟨0,2,0,6,1,[]⟩,⟨0,1,5,0,1,[]⟩,⟨0,0,0,0,0,[⟨2,1,1,2⟩]⟩,⟨0,1,0,4,1,[]⟩,⟨0,1,2,0,1,[]⟩,⟨44,0,0,0,0,[]⟩]
theorem qr5 (n:Int):Pure Tryz.prog 11 #[iV n] (qaa n 1):=qac (args:=[iV n]) 200 [] (Ai rfl tI) (by kernel_rfl)
theorem qsQ (i a b:Int):Pure Tryz.prog 16 #[iV i,iV a,iV b] (qci ⟨1,i,a,b,0,0,0⟩):=qac (args:=[iV i,iV a,iV b]) 200 [] (Ai rfl tI) (by kernel_rfl)
theorem qrB (n d:Int):Pure Tryz.prog 17 #[qaa n d] (qci ⟨4,0,0,0,0,n,d⟩):=qac (args:=[qaa n d]) 200 [] (Ai rfl tI) (by kernel_rfl)
theorem wgi :
 Fn 46 0 [] [] (.ls 0 9) 1 [(0,0,.row 42 7 9 (qbh qii))]:=
 Fz [(0,2)] [.md,.r (qci ⟨1,1,0,2,0,0,0⟩),.r (qci ⟨1,2,6,-1,0,0,0⟩),.r (qci ⟨1,5,0,0,0,0,0⟩),.r (qaa 2 1),.r (qci ⟨4,0,0,0,0,2,1⟩),.r (qaa 1 1),.r (qci ⟨4,0,0,0,0,1,1⟩),.lw]
  (qaI (qaG [(0,2)]) [(0,0,.row 42 7 9 (qbh qii))]) (Ai (qsQ 1 0 (2)) (Ai (qsQ 2 6 (-1)) (Ai (qsQ 5 0 (0)) (Ai (qr5 2) (Ai (qrB 2 1) (Ai (qr5 1) (Ai (qrB 1 1) tI)))))))
theorem wal (hn:Fn 10 0 [.pv (qaa 0 1)] [] (.tu [mo1 0 [] 0 1,.one (.pv (iV 0))]) 1 [(0,0,qad [])]) (hr:Fn 13 2 [moS 0 [] 0 1,.ls 1 9] [(0,0,qad []),(1,0,.row 42 7 9 (qbh qii))] (.tu [mo1 2 gl 2 1,.one (.dv 6 9 (qaz qhk)),.one (.pv (iV 0))]) 1 [(2,0,qad gl)]) (hs:Fn 28 0 [.dv 6 9 (qaz qhk),.dv 6 9 (qaz qhk)] [] (.pv (.bool true)) 0 []) :
 Fn 19 0 [] [] (.pv (.bool true)) 0 []:=
 Fz [] [.r (qaa 0 1),Cf hn [],.md,.f [] [] [] (.ls 0 9) 1 [(0,0,.row 42 7 9 (qbh qii))],Cf hr [0,2],.r (qaa 0 1),.md,.r (qaa 6 1),.r (qaa 2 1),.lw,.r (qaa 4 1),.fz false 7 5 0 4 [],.fz false 7 11 0 4 [],.fz false 7 17 0 4 [],.fz false 7 23 0 4 [],.fz false 7 29 0 4 [],.fz false 7 35 0 4 ((msV [⟨2,1,1,2⟩]).map .v),.fz false 7 41 0 4 [],.fz false 7 47 0 4 [],.fz false 7 53 0 4 [],.fz true 7 0 0 6 (qaz qhk),.md,.k,.k,Cf hs [],.r (qaa 2 1),.k,.k]
  tI (Ai (qr5 0) (Co hn [] 0 (Ai wgi (Ai (Eq.refl (List.map (SV.ren (qa2 [] 2)) [])) (Ai (Cp hn [] 2) (Co hr [0,2] 3 (Ai (qr5 0) (Ai (qr5 6) (Ai (qr5 2) (Ai (qr5 4) (Ai (Eq.refl ([]:List Dn)) (Ai (Eq.refl ([]:List Dn)) (Ai (Eq.refl ([]:List Dn)) (Ai (Eq.refl ([]:List Dn)) (Ai (Eq.refl ([]:List Dn)) (Ai (LeD.refl ((msV [⟨2,1,1,2⟩]).map Dn.v)) (Ai (Eq.refl ([]:List Dn)) (Ai (Eq.refl ([]:List Dn)) (Ai (Eq.refl ([]:List Dn)) (Ai (LeD.refl (qaz qhk)) (Co hs [] 8 (Ai (qr5 2) tI))))))))))))))))))))))
end Go.Proofs.YtleaeldgaflmkaaGreat

namespace Go.Proofs.YtleaeldgaflmkaaGreat
set_option maxRecDepth 100000
open Go.ChangeShapes Go.WideShapes Go.ChangeAt Go.RowKit Go.Joins Go.Deep
theorem qji {α:Type} {enc:α→List Value} {es:Nat} (he:∀ a,(enc a).length=es):∀ (l:List α) (j:Nat) (v:Value),(l.flatMap enc)[j]?=some v→∃ k x t,l[k]?=some x∧(enc x)[t]?=some v∧j=k*es+t
 | [],j,v,h=>by simp at h
 | x::r,j,v,h=>by
  rw[List.flatMap_cons] at h
  by_cases hj:j<(enc x).length
  ·rw[List.getElem?_append_left hj] at h
   exact⟨0,x,j,rfl,h,by omega⟩
  ·rw[List.getElem?_append_right (by omega),he] at h
   obtain⟨k,y,t,h1,h2,h3⟩:=qji he r _ _ h
   rw[he] at hj
   exact⟨k+1,y,t,by simpa using h1,h2,by rw[Nat.succ_mul];omega⟩
theorem qjL {α:Type} {enc:α→List Value} {es:Nat} (he:∀ a,(enc a).length=es):∀ l:List α,(l.flatMap enc).length=l.length*es
 | []=>by simp
 | x::r=>by rw[List.flatMap_cons,List.length_append,he,qjL he r,List.length_cons,Nat.succ_mul];omega
theorem quE {α:Type} [Inhabited α] {enc:α→List Value} {es:Nat} (he:∀ a,(enc a).length=es) {W:World} {a:Addr} {len cap:Nat} {Q:α→Prop} (hc:len≤cap) (each:∀ i,i<len→∃ x,Q x∧∀ t v,(enc x)[t]?=some v→W.cell? (a.add (i*es+t))=some v) :
 ∃ l:List α,l.length=len∧Rd W es (.slice (some a) len cap) l.length (l.flatMap enc)∧∀ x∈l,Q x:=by
 obtain⟨f,hf⟩:=choose_lt (α:=α) each
 refine⟨(List.range len).map f,by simp,⟨qjL he _,some a,cap,by simp,by simpa using hc,fun j v hv=>?_⟩,fun x hx=>?_⟩
 ·obtain⟨k,x,t,h1,h2,h3⟩:=qji he _ _ _ hv
  rw[List.getElem?_map] at h1
  obtain⟨i,hi,rfl⟩:=Option.map_eq_some_iff.1 h1
  obtain⟨hk,e⟩:=List.getElem?_eq_some_iff.1 hi
  rw[List.getElem_range] at e
  subst e
  rw[List.length_range] at hk
  have hcell:=(hf k hk).2 t v h2
  rw[← h3] at hcell
  obtain⟨b,off,spot⟩:=a
  have hs:spot=none:=by
   have ht:t<(enc (f k)).length:=(List.getElem?_eq_some_iff.1 h2).1
   rw[he] at ht
   have h9:=(hf 0 (by omega)).2 0 _ (List.getElem?_eq_getElem (by rw[he];omega))
   rw[Nat.zero_mul] at h9
   simpa [Addr.add] using World.cell?_spot h9
  subst hs
  exact⟨b,off,rfl,by rw[← Go.WideShapes.add_plain];exact hcell⟩
 ·obtain⟨i,hi',rfl⟩:=List.mem_map.1 hx
  exact (hf i (List.mem_range.1 hi')).1
abbrev qBc (a:AskQ):List Value:=[.int .u8 a.kd,iV a.pi,iV a.pa,iV a.pb,iV a.z,iV a.qn,iV a.qd]
theorem qfI:∀ l:List AskQ,qbh l=l.flatMap qBc
 | []=>rfl
 | a::r=>by rw[List.flatMap_cons,← qfI r];rfl
theorem qtl:Tryz.prog.readableRec 46=true:=by kernel_rfl
theorem qwv:46<Tryz.prog.types.size:=of_decide_eq_true (by kernel_rfl)
theorem qpH:∀ (l:List AskQ) (v:Value),v∈qbh l→v.oneCell'=true:=fun l v h=>by
 rw[qfI] at h
 obtain⟨a,_,h⟩:=List.mem_flatMap.1 h
 simp only[List.mem_cons,List.not_mem_nil,or_false] at h
 rcases h with rfl | rfl | rfl | rfl | rfl | rfl | rfl<;>rfl
section
variable {H:Type} {enc:TypeId×Value→H} {W:World} {base:Nat} {spare:Nat→Bool} {held:Bool}
theorem qoj {r:Reach} {b0:Nat} {v:Value} {d:DataW H} {p:List MemPlace} (hv:Value.okWide Tryz.prog W r b0 46 v) (h:DataW.Trod enc Tryz.prog W base spare held 46 v d p) :
 ∃ l:List AskQ,Rd W 7 v l.length (qbh l)∧∀ a∈l,qpv a:=by
 obtain⟨a0,len0,cap0,rfl⟩:=okWide_slice Tryz.underlying46 hv
 obtain⟨fuel,hf⟩:=h
 rcases open_slice Tryz.underlying46 hf with ⟨hc,_⟩ | ⟨a,len,cap,m,n,D,Pl,hc,_,hlc,_,hm,_,hi⟩
 ·simp[Value.cells] at hc
  obtain⟨rfl,rfl,rfl⟩:=hc
  exact⟨[],⟨rfl,none,0,rfl,Nat.le_refl _,fun j v hv=>by simp[qbh] at hv⟩,fun a ha=>(by cases ha)⟩
 simp[Value.cells] at hc
 obtain⟨rfl,rfl,rfl⟩:=hc
 have hlm:len0≤m:=by rw[hm];split<;>omega
 haveI:Inhabited AskQ:=⟨⟨0,0,0,0,0,0,0⟩⟩
 obtain⟨l,hl,hr,hq⟩:=quE (enc:=qBc) (es:=7) (fun _=>rfl) (W:=W) (a:=a) (Q:=qpv) hlc (fun i hil=>by
  obtain⟨cs',hc,ht⟩:=hi i (by omega)
  rw[qpQ] at hc
  obtain⟨_,hcl,hat⟩:=World.cells?_some hc
  obtain⟨q,he,hn⟩:=ql7 hcl ht
  refine⟨q,hn,fun t v hv=>?_⟩
  have ht7:t<7:=(List.getElem?_eq_some_iff.1 hv).1
  have:=hat t ht7
  rw[add_add] at this
  rw[this,he]
  exact hv)
 refine⟨l,?_,hq⟩
 rw[qfI]
 rw[hl] at hr ⊢
 exact hr
end
section
variable {W:World} {s:List Pt} {n d:Int} {qs:List AskQ} {ra rb:Rep} {u v w1 w2:Value}
end
end Go.Proofs.YtleaeldgaflmkaaGreat

namespace Go.Proofs.YtleaeldgaflmkaaGreat
set_option maxRecDepth 100000
open Go.RowKit
theorem quc:qj9 gl 0 1 2 1=[⟨2,1,1,2⟩]:=by
 unfold qj9 srt
 rw[qzU]
 rfl
theorem gT0:AskT 0 1:=⟨by decide,by decide,by decide,by decide⟩
theorem gT2:AskT 2 1:=⟨by decide,by decide,by decide,by decide⟩
theorem gT1:AskT 1 1:=⟨by decide,by decide,by decide,by decide⟩
section
variable {r:Rep} {n d n' d':Int} {s s':List Pt}
theorem qst {i a b:Int} (o:Outc s n d ⟨1,i,a,b,0,0,0⟩ r n' d' s') (h:okP i a b=true) (hs:∀ p∈s,p.id≠i) (hl:s.length<64):r=qeX 0∧n'=n∧d'=d∧s'=qu5 ⟨i,a,b⟩ s:=o.k1 rfl rfl h hs hl
theorem qr0 {p:Pt} {N D:Int} (o:Outc gl n d ⟨5,0,0,0,0,0,0⟩ r n' d' s') (hp:p∈gl) (h:∀ q∈gl,ld n d q p=false) (hk:okB N D=true) (he:plS p n d*D=N*d) (d1:1≤d) (hD:D≠0):r=⟨0,p.id,0,N,D,[]⟩:=by
 have hl:=qvn qxr hp h
 rcases o.k5 rfl rfl with ⟨h0,_⟩ | ⟨_,N',D',e,k1,_,_,k4⟩
 ·cases h0
 ·rw[hl] at e k4
  obtain⟨rfl,rfl⟩:=qda k1 hk (by
   have:N'*D*d=N*D'*d:=by rw[Int.mul_right_comm,k4,Int.mul_right_comm,he,Int.mul_right_comm]
   exact Int.eq_of_mul_eq_mul_right (by omega) this)
  exact e
theorem qnK {x:Nat×Nat} {N D:Int} (o:Outc gl n d ⟨6,0,0,0,0,0,0⟩ r n' d' s') (hx:qb6 gl n d=x) (hk:DisI gl n d x N D) (d1:1≤d):r=⟨0,(ptK gl x.1).id,(ptK gl x.2).id,N,D,[]⟩:=by
 rcases o.k6 rfl rfl with ⟨h0,_⟩ | ⟨_,N',D',e,k⟩
 ·exact absurd h0 (by decide)
 ·rw[hx] at e k
  obtain⟨rfl,rfl⟩:=DisI.uniq d1 k hk
  exact e
theorem qjW {a:AskQ} (o:Outc s n d a r n' d' s') (h:a.kd=5∨a.kd=6):n'=n∧d'=d∧s'=s:=o.keep h
end
theorem qbj {a:AskQ} {qs:List AskQ} {rs:List Rep} {s:List Pt} {n d n' d':Int} {s':List Pt} (h:qhi s n d (a::qs) rs n' d' s'):∃ r t n1 d1 s1,rs=r::t∧Outc s n d a r n1 d1 s1∧qhi s1 n1 d1 qs t n' d' s':=by
 cases rs with
 | nil=>exact h.elim
 | cons r t=>
  obtain⟨n1,d1,s1,o,k⟩:=h
  exact⟨r,t,n1,d1,s1,rfl,o,k⟩
theorem qpU {rs:List Rep} {s:List Pt} {n d n' d':Int} {s':List Pt} (h:qhi s n d [] rs n' d' s'):rs=[]∧n'=n∧d'=d∧s'=s:=by
 cases rs with
 | nil=>exact⟨rfl,h⟩
 | cons r t=>exact h.elim
theorem qkJ {rs:List Rep} {n' d':Int} {s':List Pt} (h:qhi [] 0 1 qii rs n' d' s'):rs=qhk∧n'=2∧d'=1∧s'=gl:=by
 obtain⟨r1,t1,_,_,_,rfl,o1,q1⟩:=qbj h
 obtain⟨rfl,rfl,rfl,rfl⟩:=qst o1 (by decide) (by decide) (by decide)
 obtain⟨r2,t2,_,_,_,rfl,o2,q2⟩:=qbj q1
 obtain⟨rfl,rfl,rfl,rfl⟩:=qst o2 (by decide) (by decide) (by decide)
 obtain⟨r3,t3,_,_,_,rfl,o3,q3⟩:=qbj q2
 obtain⟨rfl,rfl,rfl,rfl⟩:=qst o3 (by decide) (by decide) (by decide)
 obtain⟨r4,t4,_,_,_,rfl,o4,q4⟩:=qbj q3
 have o4':Outc gl 0 1 _ r4 _ _ _:=o4
 obtain⟨rfl,rfl,rfl⟩:=qjW o4' (Or.inl rfl)
 obtain rfl:=qr0 (p:=⟨2,6,-1⟩) (N:=6) (D:=1) o4' (by simp) (by decide) (by decide) (by decide) (by decide) (by decide)
 obtain⟨r5,t5,_,_,_,rfl,o5,q5⟩:=qbj q4
 have o5':Outc gl 0 1 _ r5 _ _ _:=o5
 obtain⟨rfl,rfl,rfl⟩:=qjW o5' (Or.inr rfl)
 obtain rfl:=qnK (x:=(0,2)) (N:=0) (D:=1) o5' (by decide) ⟨by decide,by decide,by decide,by decide⟩ (by decide)
 obtain⟨r6,t6,_,_,_,rfl,o6,q6⟩:=qbj q5
 have o6':Outc gl 0 1 _ r6 _ _ _:=o6
 obtain⟨rfl,rfl,rfl,rfl⟩:=o6'.k4 rfl rfl gT2 (by decide)
 obtain⟨r7,t7,_,_,_,rfl,o7,q7⟩:=qbj q6
 have o7':Outc gl 2 1 _ r7 _ _ _:=o7
 obtain⟨rfl,rfl,rfl⟩:=qjW o7' (Or.inl rfl)
 obtain rfl:=qr0 (p:=⟨1,0,2⟩) (N:=4) (D:=1) o7' (by simp) (by decide) (by decide) (by decide) (by decide) (by decide)
 obtain⟨r8,t8,_,_,_,rfl,o8,q8⟩:=qbj q7
 have o8':Outc gl 2 1 _ r8 _ _ _:=o8
 obtain⟨rfl,rfl,rfl⟩:=qjW o8' (Or.inr rfl)
 obtain rfl:=qnK (x:=(0,1)) (N:=0) (D:=1) o8' (by decide) ⟨by decide,by decide,by decide,by decide⟩ (by decide)
 obtain⟨r9,t9,_,_,_,rfl,o9,q9⟩:=qbj q8
 have o9':Outc gl 2 1 _ r9 _ _ _:=o9
 obtain⟨rfl,e1,e2,e3⟩:=qpU q9
 have g9:r9.e=44:=by
  rw[o9'.ee,qjo (by rfl),if_neg (fun q=>q (qbO.2 gT1)),if_neg (by decide)]
 obtain⟨f1,f2,f3,f4⟩:=o9'.err (by rw[g9];decide)
 rw[g9] at f1
 subst f1 e1 e2 e3 f2 f3 f4
 refine⟨?_,rfl,rfl,rfl⟩
 rw[show qj9 _ _ _ _ _=_ from quc]
 rfl
theorem qd9:Fn 19 0 [] [] (.pv (.bool true)) 0 []:=by
 have v0:Val []:=⟨by decide,fun p hp=>(by cases hp),fun k p q h=>(by simp at h)⟩
 obtain⟨c1,_⟩:=qdR (s:=[]) (n:=0) (d:=1) (by decide) (by decide)
 rw[(qh3 (by decide) (by decide)).2 ⟨v0,gT0⟩] at c1
 obtain⟨rs,n',d',s',h1,h2,h3,h4,h5⟩:=que (s:=[]) (n:=0) (d:=1) (qs:=qii) (by decide) v0 gT0 (by unfold qpv;decide)
 obtain⟨rfl,rfl,rfl,rfl⟩:=qkJ h1
 have hn:=qpp (n:=0) (d:=1) (qy5 (ha:=fun w=>by have:=qcB 0 1 w (by decide) (by decide);rwa [qbO.2 gT0] at this) (hn:=qug))
 exact wal (hn:=hn) (hr:=qwK (k:=9) (ds:=qaz qhk) (qs:=qii) (hc:=c1) (hl:=by decide) (hr:=h5)) (hs:=qpx (rs:=qhk) (by decide) (by decide))
end Go.Proofs.YtleaeldgaflmkaaGreat

namespace Go.Proofs.YtleaeldgaflmkaaGreat
set_option maxRecDepth 100000
open Go.RowKit
theorem qz3 {tn td:Int} {s:List Pt} (hg:Fn 20 1 [qap 0 s] [(0,0,qad s)] (.pv (.bool true)) 0 []) :
 Fn 32 1 [moS 0 s tn td] [(0,0,qad s)] (.pv (.bool false)) 0 []:=
 Fz [] [Cf hg [0],.k]
  tI (Co hg [0] 2 tI)
theorem qyZ {tn td e1:Int} {s:List Pt} (hg:Fn 20 1 [qap 0 s] [(0,0,qad s)] (.pv (.bool false)) 0 []) (hc:Fn 25 1 [moS 0 s tn td] [(0,0,qad s)] (.pv (iV (e1))) 0 []) (he:(e1==0)=true) :
 Fn 32 1 [moS 0 s tn td] [(0,0,qad s)] (.pv (.bool true)) 0 []:=
 Fz [] [Cf hg [0],.k,Cf hc [0],.t true]
  tI (Co hg [0] 2 (Co hc [0] 2 (Ai he tI)))
theorem qAb {tn td e1:Int} {s:List Pt} (hg:Fn 20 1 [qap 0 s] [(0,0,qad s)] (.pv (.bool false)) 0 []) (hc:Fn 25 1 [moS 0 s tn td] [(0,0,qad s)] (.pv (iV (e1))) 0 []) (he:(e1==0)=false) :
 Fn 32 1 [moS 0 s tn td] [(0,0,qad s)] (.pv (.bool false)) 0 []:=
 Fz [] [Cf hg [0],.k,Cf hc [0],.t false]
  tI (Co hg [0] 2 (Co hc [0] 2 (Ai he tI)))
end Go.Proofs.YtleaeldgaflmkaaGreat

namespace Go.Proofs.YtleaeldgaflmkaaGreat
set_option maxRecDepth 100000
open Go.RowKit
section
variable {s:List Pt} {n d:Int}
theorem qs0 (hn:I64 n) (hd:I64 d):(Fn 32 1 [moS 0 s n d] [(0,0,qad s)] (.pv (.bool false)) 0 [])∨(Val s∧AskT n d∧Fn 32 1 [moS 0 s n d] [(0,0,qad s)] (.pv (.bool true)) 0 []):=by
 obtain⟨_,c2⟩:=qdR (s:=s) hn hd
 rcases qsF s with hg | ⟨_,hg⟩
 ·exact Or.inl (qz3 (hg:=hg))
 ·by_cases h:quR s n d=0
  ·obtain⟨hv,ht⟩:=(qh3 hn hd).1 h
   exact Or.inr ⟨hv,ht,qyZ (hg:=hg) (hc:=c2) (he:=by simp[h])⟩
  ·exact Or.inl (qAb (hg:=hg) (hc:=c2) (he:=by simp[h]))
end
end Go.Proofs.YtleaeldgaflmkaaGreat

namespace Go.Proofs.YtleaeldgaflmkaaGreat
set_option maxRecDepth 100000
open Go.RowKit
theorem qkp:∀ {q1 q2:List AskQ} {r1 r2:List Rep} {s:List Pt} {n d:Int} {s1:List Pt} {n1 d1:Int} {s2:List Pt} {n2 d2:Int},qhi s n d q1 r1 n1 d1 s1→qhi s1 n1 d1 q2 r2 n2 d2 s2→qhi s n d (q1++q2) (r1++r2) n2 d2 s2
 | [],_,[],_,_,_,_,_,_,_,_,_,_,h,k=>by obtain⟨rfl,rfl,rfl⟩:=h;exact k
 | [],_,_::_,_,_,_,_,_,_,_,_,_,_,h,_=>h.elim
 | _::_,_,[],_,_,_,_,_,_,_,_,_,_,h,_=>h.elim
 | _::_,_,_::_,_,_,_,_,_,_,_,_,_,_,⟨n',d',s',o,h⟩,k=>⟨n',d',s',o,qkp h k⟩
theorem qeE:∀ {qs:List AskQ} {rs:List Rep} {s:List Pt} {n d:Int} {s':List Pt} {n' d':Int},qhi s n d qs rs n' d' s'→rs.length=qs.length
 | [],[],_,_,_,_,_,_,_=>rfl
 | [],_::_,_,_,_,_,_,_,h=>h.elim
 | _::_,[],_,_,_,_,_,_,h=>h.elim
 | _::_,_::_,_,_,_,_,_,_,⟨_,_,_,_,h⟩=>by rw[List.length_cons,List.length_cons,qeE h]
theorem qgu:∀ {qs:List AskQ} {rs:List Rep} {s:List Pt} {n d:Int} {s':List Pt} {n' d':Int},Val s→AskT n d→qhi s n d qs rs n' d' s'→Val s'∧AskT n' d'
 | [],[],_,_,_,_,_,_,hv,ht,⟨e1,e2,e3⟩=>by subst e1 e2 e3;exact⟨hv,ht⟩
 | [],_::_,_,_,_,_,_,_,_,_,h=>h.elim
 | _::_,[],_,_,_,_,_,_,_,_,h=>h.elim
 | _::_,_::_,_,_,_,_,_,_,_,_,⟨_,_,_,o,h⟩=>qgu o.val o.ask h
theorem qja:∀ (qs:List AskQ) {s:List Pt} {n d:Int},Val s→AskT n d→(∀ a∈qs,qpv a)→∃ rs n' d' s',qhi s n d qs rs n' d' s'
 | [],s,n,d,_,_,_=>⟨[],n,d,s,rfl,rfl,rfl⟩
 | a::qs,s,n,d,hv,ht,hq=>by
  obtain⟨r,n1,d1,s1,o⟩:=qiT a hv ht (hq a List.mem_cons_self)
  obtain⟨rs,n',d',s',h⟩:=qja qs o.val o.ask fun b hb=>hq b (List.mem_cons_of_mem _ hb)
  exact⟨r::rs,n',d',s',n1,d1,s1,o,h⟩
section
variable {s s' s0:List Pt} {n d n' d':Int} {qs:List AskQ}
theorem qhl (hl:qs.length≤999999):∀ (rest:List AskQ) (rs:List Rep) (k:Nat) (s:List Pt) (n d:Int) (ds:List Dn) (n' d':Int) (s':List Pt),qs=qs.take k++rest→k+rest.length=qs.length→qhi s n d rest rs n' d' s'→
 Rl 2 2 42 0 40 6 (orT qs k) (orH s0 qs s n d (qsY k ds)) (.exit 0) (orE qs.length) (orH s0 qs s' n' d' (qsY qs.length (ds++qaz rs)))
 | [],[],k,s,n,d,ds,n',d',s',_,hk,⟨e1,e2,e3⟩=>by
  have e:k=qs.length:=by simpa using hk
  rw[show ds++qaz []=ds from List.append_nil _]
  subst e e1 e2 e3
  exact qme (hlt:=df (by omega))
 | [],_::_,_,_,_,_,_,_,_,_,_,_,h=>h.elim
 | _::_,[],_,_,_,_,_,_,_,_,_,_,h=>h.elim
 | a::rest,r::rs,k,s,n,d,ds,n',d',s',hq,hk,⟨n1,d1,s1,o,h⟩=>by
  have hkl:k<qs.length:=by rw[← hk,List.length_cons];omega
  have hka:qs[k]?=some a:=by
   rw[hq,List.getElem?_append_right (by rw[List.length_take];omega),List.length_take,Nat.min_eq_left (by omega),Nat.sub_self]
   rfl
  have ih:=qhl hl rest rs (k+1) s1 n1 d1 (ds++qeU r) n' d' s' (by rw[List.take_add_one,hka,List.append_assoc];exact hq) (by rw[← hk,List.length_cons];omega) h
  rw[show ds++qaz (r::rs)=ds++qeU r++qaz rs by rw[List.append_assoc];rfl]
  exact qjp o hka hl ih
theorem qrf {rs:List Rep} (hl:qs.length≤999999) (hv:Val s) (ho:qhi s n d qs rs n' d' s') :
 Fn 42 2 [moS 0 s n d,.ls 1 qs.length] [(0,0,qad s),(1,0,qb7 qs)] (.tu [mo1 2 s' n' d',.one (.dv 6 qs.length (qaz rs))]) 1 [(2,0,qad s')]:=by
 have hc:=qia (l:=s) (by have:=hv.len;omega)
 match qs,rs,ho with
 | [],[],⟨e1,e2,e3⟩=>subst e1 e2 e3;exact qnY (hc:=hc) (r0:=qkm (hlt:=by decide))
 | [],_::_,h=>exact h.elim
 | _::_,[],h=>exact h.elim
 | a::rest,r::rs,⟨n1,d1,s1,o,h⟩=>
  have ih:=qhl (s0:=s) (qs:=a::rest) hl rest rs 1 s1 n1 d1 (qeU r) n' d' s' rfl (by rw[List.length_cons];omega) h
  exact qrV (hc:=hc) (r0:=qhH o rfl hl ih)
theorem qnm {rs:List Rep} (hl:qs.length≤120) (hv:Val s) (ht:AskT n d) (ho:qhi s n d qs rs n' d' s'):quy 13 s n d qs qs.length (qaz rs) n' d' s' 0:=by
 obtain⟨i1,i2,_⟩:=ht.in
 obtain⟨c1,_⟩:=qdR (s:=s) i1 i2
 rw[(qh3 i1 i2).2 ⟨hv,ht⟩] at c1
 exact qwK (hc:=c1) (hl:=df (by omega)) (hr:=qrf (by omega) hv ho)
theorem qAG {a:AskQ} {r:Rep} (hv:Val s) (ht:AskT n d) (o:Outc s n d a r n' d' s'):qBt 12 s n d a r n' d' s' 0:=by
 obtain⟨i1,i2,_⟩:=ht.in
 obtain⟨c1,_⟩:=qdR (s:=s) i1 i2
 rw[(qh3 i1 i2).2 ⟨hv,ht⟩] at c1
 exact qyF (hc:=c1) (hr:=qrf (qs:=[a]) (rs:=[r]) (by show 1≤999999;decide) hv ⟨n',d',s',o,rfl,rfl,rfl⟩) (h0:=by decide)
end
end Go.Proofs.YtleaeldgaflmkaaGreat

namespace Go.Proofs.YtleaeldgaflmkaaGreat
set_option maxRecDepth 100000
open Go.RowKit
abbrev qyj (rs:List Rep):HpL:=[(1,0,.rrow 38 6 rs.length (qaz rs)),(0,0,.drow 38 6 rs.length (qaz rs))]
theorem qp2 {rp:Rep} {rs:List Rep} {k:Nat} (hlt:decide ((k:Int)<(rs.length:Int))=true) (hin:0≤(k:Int)∧(k:Int)<(rs.length:Int)) (hk:rs[k]?=some rp) (hsm:Fn 26 0 [.ag (qb2 rp),.ag (qb2 rp)] [] (.pv (.bool true)) 0 []) (hs:iV (IntKind.i64.wrap ((k:Int)+1))=iV (((k+1:Nat):Int))) {e:Exit} {tm2:TmL} {hp2:HpL}
 (r:Rl 1 1 28 0 27 2 ([(0,.ls 1 rs.length),(1,.ls 0 rs.length),(5,.pv (iV ((k+1:Nat):Int)))]) (qyj rs) e tm2 hp2):Rl 1 1 28 0 27 2 ([(0,.ls 1 rs.length),(1,.ls 0 rs.length),(5,.pv (iV (k:Int)))]) (qyj rs) e tm2 hp2:=
 RunsL.next [] 300 [.t true,.md,.dr (qb2 rp),.dr (qb2 rp),Cf hsm [],.k,Re hs]
  (Ro (Ai hlt (Ai hin (Ai (qdS hk) (Ai hin (Ai (qdS hk) (Co hsm [] 2 (Ai hs tI)))))))) r
theorem qtT {rs:List Rep} {k:Nat} (hlt:decide ((k:Int)<(rs.length:Int))=false):Rl 1 1 28 0 27 2 ([(0,.ls 1 rs.length),(1,.ls 0 rs.length),(5,.pv (iV (k:Int)))]) (qyj rs) (.exit 0) ([]) ([]):=
 RunsL.stop [] 300 [.t false] (fun h=>by cases h)
  (Ro (Ai hlt tI))
theorem qsE {rs:List Rep} (r0:Rl 1 1 28 0 27 2 ([(0,.ls 1 rs.length),(1,.ls 0 rs.length),(5,.pv (iV ((0:Nat):Int)))]) (qyj rs) (.exit 0) ([]) ([])) :
 Fn 28 1 [.dv 6 rs.length (qaz rs),.ls 0 rs.length] [(0,0,.drow 38 6 rs.length (qaz rs))] (.pv (.bool true)) 0 []:=
 Fz [] [.od true 0 0 0 38 none,.t false,Lf r0]
  tI (Ai (qeQ (rs.length:Int)) (Lo r0 [] tI))
theorem qsT :
 Fn 34 1 [.ls 0 0,.pv (.slice none 0 0)] [(0,0,.row 95 4 0 [])] (.pv (.bool true)) 0 []:=
 Fz [] [.k,.k]
  tI tI
theorem qvB {e1:Int} :
 Fn 26 0 [.ag (qb2 (qeX e1)),.pv (.agg #[iV e1,iV 0,iV 0,iV 0,iV 0,.slice none 0 0])] [] (.pv (.bool true)) 0 []:=
 Fz [] [.od true 0 0 5 95 (some []),.t true,.k,.k,.k,.fq [0] [.ls 0 0,.pv (.slice none 0 0)] [(0,0,.row 95 4 0 [])] (.pv (.bool true)) 0 []]
  tI (Ai (Eq.refl ([]:List Dn)) (Ai (qgQ e1) (Ai qsT (Ai (Eq.refl (List.map (SV.ren (qa2 [0] 3)) [.ls 0 0,.pv (.slice none 0 0)])) (Ai (Ai (qyw 95 95 4 0 []) tI) tI)))))
end Go.Proofs.YtleaeldgaflmkaaGreat

namespace Go.Proofs.YtleaeldgaflmkaaGreat
set_option maxRecDepth 100000
open Go.RowKit
abbrev qu6:Prop:=Fn 19 0 [] [] (.pv (.bool true)) 0 []
theorem qAy {tn td x:Int} {s:List Pt} {qs:List AskQ} (hf:Fn 32 1 [moS 0 s tn td] [(0,0,qad s)] (.pv (.bool false)) 0 []) (hal:qu6) :
 Fn 8 2 [moS 0 s tn td,.ls 1 qs.length,.pv (iV x)] [(0,0,qad s),(1,0,qb7 qs)] (.pv (.bool true)) 0 []:=
 Fz [] [Cf hf [0],.k,Cf hal []]
  tI (Co hf [0] 3 (Co hal [] 3 tI))
abbrev qvF (s:List Pt) (td:Int) (tn:Int):Prop:=Fn 32 1 [moS 0 s tn td] [(0,0,qad s)] (.pv (.bool true)) 0 []
theorem qvp {tn td x:Int} {s:List Pt} {qs:List AskQ} (hf:qvF s td tn) (h20:decide ((qs.length:Int)>20)=true) (hal:qu6) :
 Fn 8 2 [moS 0 s tn td,.ls 1 qs.length,.pv (iV x)] [(0,0,qad s),(1,0,qb7 qs)] (.pv (.bool true)) 0 []:=
 Fz [] [Cf hf [0],.k,.t true,Cf hal []]
  tI (Co hf [0] 3 (Ai h20 (Co hal [] 3 tI)))
theorem qAw {tn td x:Int} {s:List Pt} {qs:List AskQ} (hf:qvF s td tn) (h20:decide ((qs.length:Int)>20)=false) (hz:decide (x<0)=true) (hal:qu6) :
 Fn 8 2 [moS 0 s tn td,.ls 1 qs.length,.pv (iV x)] [(0,0,qad s),(1,0,qb7 qs)] (.pv (.bool true)) 0 []:=
 Fz [] [Cf hf [0],.k,.t false,.t true,Cf hal []]
  tI (Co hf [0] 3 (Ai h20 (Ai hz (Co hal [] 3 tI))))
theorem qzd {tn td x:Int} {s:List Pt} {qs:List AskQ} (hf:qvF s td tn) (h20:decide ((qs.length:Int)>20)=false) (hz:decide (x<0)=false) (hl:decide (x>(qs.length:Int))=true) (hal:qu6) :
 Fn 8 2 [moS 0 s tn td,.ls 1 qs.length,.pv (iV x)] [(0,0,qad s),(1,0,qb7 qs)] (.pv (.bool true)) 0 []:=
 Fz [] [Cf hf [0],.k,.t false,.t false,.t true,Cf hal []]
  tI (Co hf [0] 3 (Ai h20 (Ai hz (Ai hl (Co hal [] 3 tI)))))
abbrev qx2 (d:Int) (d':Int) (n:Int) (n':Int) (qs:List AskQ) (rs:List Rep) (s:List Pt) (s':List Pt):HpL:=[(2,0,.pv (iV n)),(2,1,.pv (iV d)),(2,2,.ls 0 s.length),(4,0,.pv (iV n')),(4,1,.pv (iV d')),(4,2,.ls 3 s'.length),(0,0,qad s),(1,0,qb7 qs),(3,0,qad s'),(12,0,.rrow 38 6 qs.length (qaz rs))]
abbrev quV (k:Nat) (qs:List AskQ):TmL:=[(1,.ls 1 qs.length),(3,.pp 2 0),(7,.pp 4 0),(8,.ls 12 qs.length),(16,.pv (iV (k:Int)))]
abbrev qyk (k:Nat) (qs:List AskQ):TmL:=[(1,.ls 1 qs.length),(3,.pp 2 0),(7,.pp 4 0),(8,.ls 12 qs.length),(16,.pv (iV ((k+1:Nat):Int)))]
abbrev qA9 (e1:Int):Prop:=Fn 26 0 [.ag (qb2 (qeX e1)),.pv (.agg #[iV e1,iV 0,iV 0,iV 0,iV 0,.slice none 0 0])] [] (.pv (.bool true)) 0 []
theorem qw4 {n d n' d' e1:Int} {s s':List Pt} {rs:List Rep} {qs:List AskQ} {aq:AskQ} {k:Nat} (hlt:decide ((k:Int)<(qs.length:Int))=true) (hin:0≤(k:Int)∧(k:Int)<(qs.length:Int)) (hk:qs[k]?=some aq) (hk2:rs[k]?=some (qeX e1)) (hd:Fn 12 1 [moS 0 s n d,.pv (qci aq)] [(0,0,qad s)] (.tu [mo1 1 s n d,.ag (qb2 (qeX e1)),.one (.pv (iV 0))]) 1 [(1,0,qad s)]) (hc:Fn 25 1 [moS 0 s n d] [(0,0,qad s)] (.pv (iV (0))) 0 []) (hsm:Fn 26 0 [.ag (qb2 (qeX e1)),.ag (qb2 (qeX e1))] [] (.pv (.bool true)) 0 []) (he:(e1 !=0)=true) (hsd:Fn 24 2 [moS 0 s n d,moS 1 s n d] [(0,0,qad s),(1,0,qad s)] (.pv (.bool true)) 0 []) (hsn:qA9 e1) (hs:iV (IntKind.i64.wrap ((k:Int)+1))=iV (((k+1:Nat):Int))) {e:Exit} {tm2:TmL} {hp2:HpL}
 (r:Rl 2 2 8 0 155 13 (qyk k qs) ([(2,0,.pv (iV n)),(2,1,.pv (iV d)),(2,2,.ls 9 s.length),(4,0,.pv (iV n')),(4,1,.pv (iV d')),(4,2,.ls 3 s'.length),(0,0,qad s),(1,0,qb7 qs),(9,0,qad s),(3,0,qad s'),(12,0,.rrow 38 6 qs.length (qaz rs))]) e tm2 hp2):Rl 2 2 8 0 155 13 (quV k qs) (qx2 d d' n n' qs rs s s') e tm2 hp2:=
 RunsL.next [(9,13)] 300 [.t true,.md,.r (qci aq),Cf hd [0],.md,.k,Cf hc [13],.k,.dr (qb2 (qeX e1)),Cf hsm [],.k,.t true,Cf hsd [13,0],.k,Cf hsn [],.k,Re hs]
  (Ro (Ai hlt (Ai hin (Ai (qcI hk) (Co hd [0] 13 (Co hc [13] 16 (Ai hin (Ai (qdS hk2) (Co hsm [] 16 (Ai he (Co hsd [13,0] 16 (Co hsn [] 16 (Ai hs tI))))))))))))) r
theorem qwA {n d n' d' y na:Int} {s s':List Pt} {rp:Rep} {rs:List Rep} {qs:List AskQ} {aq:AskQ} {k:Nat} {sb:List Pt} (hlt:decide ((k:Int)<(qs.length:Int))=true) (hin:0≤(k:Int)∧(k:Int)<(qs.length:Int)) (hk:qs[k]?=some aq) (hk2:rs[k]?=some rp) (hd:Fn 12 1 [moS 0 s n d,.pv (qci aq)] [(0,0,qad s)] (.tu [mo1 1 sb na y,.ag (qb2 rp),.one (.pv (iV 0))]) 1 [(1,0,qad sb)]) (hc:Fn 25 1 [moS 0 sb na y] [(0,0,qad sb)] (.pv (iV (0))) 0 []) (hsm:Fn 26 0 [.ag (qb2 rp),.ag (qb2 rp)] [] (.pv (.bool true)) 0 []) (he:(rp.e !=0)=false) (hs:iV (IntKind.i64.wrap ((k:Int)+1))=iV (((k+1:Nat):Int))) {e:Exit} {tm2:TmL} {hp2:HpL}
 (r:Rl 2 2 8 0 155 13 (qyk k qs) ([(2,0,.pv (iV na)),(2,1,.pv (iV y)),(2,2,.ls 9 sb.length),(4,0,.pv (iV n')),(4,1,.pv (iV d')),(4,2,.ls 3 s'.length),(0,0,qad s),(1,0,qb7 qs),(9,0,qad sb),(3,0,qad s'),(12,0,.rrow 38 6 qs.length (qaz rs))]) e tm2 hp2):Rl 2 2 8 0 155 13 (quV k qs) (qx2 d d' n n' qs rs s s') e tm2 hp2:=
 RunsL.next [(9,13)] 300 [.t true,.md,.r (qci aq),Cf hd [0],.md,.k,Cf hc [13],.k,.dr (qb2 rp),Cf hsm [],.k,.t false,Re hs]
  (Ro (Ai hlt (Ai hin (Ai (qcI hk) (Co hd [0] 13 (Co hc [13] 16 (Ai hin (Ai (qdS hk2) (Co hsm [] 16 (Ai he (Ai hs tI))))))))))) r
abbrev qv5 (d:Int) (d':Int) (n:Int) (n':Int) (qs:List AskQ) (rs:List Rep) (s:List Pt) (s':List Pt) (s0:List Pt):HpL:=[(2,0,.pv (iV n)),(2,1,.pv (iV d)),(2,2,.ls 9 s.length),(4,0,.pv (iV n')),(4,1,.pv (iV d')),(4,2,.ls 3 s'.length),(0,0,qad s0),(1,0,qb7 qs),(9,0,qad s),(3,0,qad s'),(12,0,.rrow 38 6 qs.length (qaz rs))]
theorem qxk {n d n' d' e1:Int} {s s' s0:List Pt} {rs:List Rep} {qs:List AskQ} {aq:AskQ} {k:Nat} (hlt:decide ((k:Int)<(qs.length:Int))=true) (hin:0≤(k:Int)∧(k:Int)<(qs.length:Int)) (hk:qs[k]?=some aq) (hk2:rs[k]?=some (qeX e1)) (hd:Fn 12 1 [moS 0 s n d,.pv (qci aq)] [(0,0,qad s)] (.tu [mo1 1 s n d,.ag (qb2 (qeX e1)),.one (.pv (iV 0))]) 1 [(1,0,qad s)]) (hc:Fn 25 1 [moS 0 s n d] [(0,0,qad s)] (.pv (iV (0))) 0 []) (hsm:Fn 26 0 [.ag (qb2 (qeX e1)),.ag (qb2 (qeX e1))] [] (.pv (.bool true)) 0 []) (he:(e1 !=0)=true) (hsd:Fn 24 2 [moS 0 s n d,moS 1 s n d] [(0,0,qad s),(1,0,qad s)] (.pv (.bool true)) 0 []) (hsn:qA9 e1) (hs:iV (IntKind.i64.wrap ((k:Int)+1))=iV (((k+1:Nat):Int))) {e:Exit} {tm2:TmL} {hp2:HpL}
 (r:Rl 2 2 8 0 155 13 (qyk k qs) (qv5 d d' n n' qs rs s s' s0) e tm2 hp2):Rl 2 2 8 0 155 13 (quV k qs) (qv5 d d' n n' qs rs s s' s0) e tm2 hp2:=
 RunsL.next [(9,13)] 300 [.t true,.md,.r (qci aq),Cf hd [9],.md,.k,Cf hc [13],.k,.dr (qb2 (qeX e1)),Cf hsm [],.k,.t true,Cf hsd [13,9],.k,Cf hsn [],.k,Re hs]
  (Ro (Ai hlt (Ai hin (Ai (qcI hk) (Co hd [9] 13 (Co hc [13] 16 (Ai hin (Ai (qdS hk2) (Co hsm [] 16 (Ai he (Co hsd [13,9] 16 (Co hsn [] 16 (Ai hs tI))))))))))))) r
theorem qvm {n d n' d' y na:Int} {s s' s0:List Pt} {rp:Rep} {rs:List Rep} {qs:List AskQ} {aq:AskQ} {k:Nat} {sb:List Pt} (hlt:decide ((k:Int)<(qs.length:Int))=true) (hin:0≤(k:Int)∧(k:Int)<(qs.length:Int)) (hk:qs[k]?=some aq) (hk2:rs[k]?=some rp) (hd:Fn 12 1 [moS 0 s n d,.pv (qci aq)] [(0,0,qad s)] (.tu [mo1 1 sb na y,.ag (qb2 rp),.one (.pv (iV 0))]) 1 [(1,0,qad sb)]) (hc:Fn 25 1 [moS 0 sb na y] [(0,0,qad sb)] (.pv (iV (0))) 0 []) (hsm:Fn 26 0 [.ag (qb2 rp),.ag (qb2 rp)] [] (.pv (.bool true)) 0 []) (he:(rp.e !=0)=false) (hs:iV (IntKind.i64.wrap ((k:Int)+1))=iV (((k+1:Nat):Int))) {e:Exit} {tm2:TmL} {hp2:HpL}
 (r:Rl 2 2 8 0 155 13 (qyk k qs) ([(2,0,.pv (iV na)),(2,1,.pv (iV y)),(2,2,.ls 9 sb.length),(4,0,.pv (iV n')),(4,1,.pv (iV d')),(4,2,.ls 3 s'.length),(0,0,qad s0),(1,0,qb7 qs),(9,0,qad sb),(3,0,qad s'),(12,0,.rrow 38 6 qs.length (qaz rs))]) e tm2 hp2):Rl 2 2 8 0 155 13 (quV k qs) (qv5 d d' n n' qs rs s s' s0) e tm2 hp2:=
 RunsL.next [(9,13)] 300 [.t true,.md,.r (qci aq),Cf hd [9],.md,.k,Cf hc [13],.k,.dr (qb2 rp),Cf hsm [],.k,.t false,Re hs]
  (Ro (Ai hlt (Ai hin (Ai (qcI hk) (Co hd [9] 13 (Co hc [13] 16 (Ai hin (Ai (qdS hk2) (Co hsm [] 16 (Ai he (Ai hs tI))))))))))) r
theorem qzD {n d n' d':Int} {s s':List Pt} {rs:List Rep} {qs:List AskQ} {k:Nat} (hlt:decide ((k:Int)<(qs.length:Int))=false):Rl 2 2 8 0 155 13 (quV k qs) (qx2 d d' n n' qs rs s s') (.exit 0) ([(3,.pp 2 0),(7,.pp 4 0)]) (qx2 d d' n n' qs rs s s'):=
 RunsL.stop [] 300 [.t false] (fun h=>by cases h)
  (Ro (Ai hlt tI))
theorem qzk {n d n' d':Int} {s s' s0:List Pt} {rs:List Rep} {qs:List AskQ} {k:Nat} (hlt:decide ((k:Int)<(qs.length:Int))=false):Rl 2 2 8 0 155 13 (quV k qs) (qv5 d d' n n' qs rs s s' s0) (.exit 0) ([(3,.pp 2 0),(7,.pp 4 0)]) (qv5 d d' n n' qs rs s s' s0):=
 RunsL.stop [] 300 [.t false] (fun h=>by cases h)
  (Ro (Ai hlt tI))
abbrev qzt (d':Int) (n':Int) (qs:List AskQ) (rs:List Rep) (s:List Pt) (s':List Pt) (td:Int) (tn:Int):HpL:=[(2,0,.pv (iV tn)),(2,1,.pv (iV td)),(2,2,.ls 0 s.length),(4,0,.pv (iV n')),(4,1,.pv (iV d')),(4,2,.ls 3 s'.length),(0,0,qad s),(1,0,qb7 qs),(3,0,qad s'),(12,0,.rrow 38 6 qs.length (qaz rs))]
abbrev qyH (d':Int) (n':Int) (s':List Pt):Prop:=Fn 24 2 [moS 0 s' n' d',moS 1 s' n' d'] [(0,0,qad s'),(1,0,qad s')] (.pv (.bool true)) 0 []
theorem qAt {tn td n' d' y na:Int} {s s':List Pt} {rs:List Rep} {qs:List AskQ} {ta:Nat} {sa:List Pt} {rs1:List Rep} {rs2:List Rep} (hf:qvF s td tn) (h20:decide ((qs.length:Int)>20)=false) (hz:decide ((ta:Int)<0)=false) (hl:decide ((ta:Int)>(qs.length:Int))=false) (hr1:Fn 13 2 [moS 0 s tn td,.ls 1 qs.length] [(0,0,qad s),(1,0,qb7 qs)] (.tu [mo1 2 s' n' d',.one (.dv 6 qs.length (qaz rs)),.one (.pv (iV 0))]) 1 [(2,0,qad s')]) (h0t:0≤(ta:Int)) (htl:ta≤qs.length) (hr2:Fn 13 2 [moS 0 s tn td,.lq 1 7 0 ta] [(0,0,qad s),(1,0,qb7 qs)] (.tu [mo1 2 sa na y,.one (.dv 6 ta (qaz rs1)),.one (.pv (iV 0))]) 1 [(2,0,qad sa)]) (hr3:Fn 13 2 [moS 0 sa na y,.lq 1 7 (0+ta) (qs.length-ta)] [(0,0,qad sa),(1,0,qb7 qs)] (.tu [mo1 2 s' n' d',.one (.dv 6 (qs.length-ta) (qaz rs2)),.one (.pv (iV 0))]) 1 [(2,0,qad s')]) (hs1:qyH d' n' s') (m1:0+ta≤1000000) (m2:0+ta+(qs.length-ta)≤1000000) (hs2:Fn 28 1 [.dv 6 qs.length (qaz rs),.ls 0 (0+ta+(qs.length-ta))] [(0,0,.drow 38 6 (0+ta+(qs.length-ta)) ([]++qaz rs1++qaz rs2))] (.pv (.bool true)) 0 []) (r0:Rl 2 2 8 0 155 13 ([(1,.ls 1 qs.length),(3,.pp 2 0),(7,.pp 4 0),(8,.ls 12 qs.length),(16,.pv (iV ((0:Nat):Int)))]) (qzt d' n' qs rs s s' td tn) (.exit 0) ([(3,.pp 2 0),(7,.pp 4 0)]) (qzt d' n' qs rs s s' td tn)) (hs3:Fn 24 2 [moS 0 s tn td,moS 1 s' n' d'] [(0,0,qad s),(1,0,qad s')] (.pv (.bool true)) 0 []) (hal:qu6) :
 Fn 8 2 [moS 0 s tn td,.ls 1 qs.length,.pv (iV (ta:Int))] [(0,0,qad s),(1,0,qb7 qs)] (.pv (.bool true)) 0 []:=
 Fz [] [Cf hf [0],.k,.t false,.t false,.t false,Cf hr1 [0,1],.md,.k,Cf hr2 [0,1],.md,.k,Cf hr3 [5,1],.k,.k,.k,.t false,Cf hs1 [3,7],.k,Cf hs2 [11],.k,.od true 8 0 0 38 none,Lf r0,Cf hs3 [0,3],Cf hal []]
  tI (Co hf [0] 3 (Ai h20 (Ai hz (Ai hl (Co hr1 [0,1] 3 (Ai tI (Ai h0t (Ai (Nat.zero_le ta) (Ai htl (Co hr2 [0,1] 5 (Ai h0t (Ai tI (Ai htl (Ai (Nat.le_refl qs.length) (Co hr3 [5,1] 7 (Ai (qeQ (qs.length:Int)) (Co hs1 [3,7] 9 (Ai m1 (Ai m2 (Co hs2 [11] 12 (Lo r0 [] (Co hs3 [0,3] 13 (Co hal [] 13 tI)))))))))))))))))))))))
theorem qz0 {tn td n' d' y na:Int} {s s':List Pt} {rs:List Rep} {qs:List AskQ} {ta:Nat} {sa:List Pt} {rs1:List Rep} {rs2:List Rep} (hf:qvF s td tn) (h20:decide ((qs.length:Int)>20)=false) (hz:decide ((ta:Int)<0)=false) (hl:decide ((ta:Int)>(qs.length:Int))=false) (hr1:Fn 13 2 [moS 0 s tn td,.ls 1 qs.length] [(0,0,qad s),(1,0,qb7 qs)] (.tu [mo1 2 s' n' d',.one (.dv 6 qs.length (qaz rs)),.one (.pv (iV 0))]) 1 [(2,0,qad s')]) (h0t:0≤(ta:Int)) (htl:ta≤qs.length) (hr2:Fn 13 2 [moS 0 s tn td,.lq 1 7 0 ta] [(0,0,qad s),(1,0,qb7 qs)] (.tu [mo1 2 sa na y,.one (.dv 6 ta (qaz rs1)),.one (.pv (iV 0))]) 1 [(2,0,qad sa)]) (hr3:Fn 13 2 [moS 0 sa na y,.lq 1 7 (0+ta) (qs.length-ta)] [(0,0,qad sa),(1,0,qb7 qs)] (.tu [mo1 2 s' n' d',.one (.dv 6 (qs.length-ta) (qaz rs2)),.one (.pv (iV 0))]) 1 [(2,0,qad s')]) (hs1:qyH d' n' s') (m1:0+ta≤1000000) (m2:0+ta+(qs.length-ta)≤1000000) (hs2:Fn 28 1 [.dv 6 qs.length (qaz rs),.ls 0 (0+ta+(qs.length-ta))] [(0,0,.drow 38 6 (0+ta+(qs.length-ta)) ([]++qaz rs1++qaz rs2))] (.pv (.bool true)) 0 []) (r0:Rl 2 2 8 0 155 13 ([(1,.ls 1 qs.length),(3,.pp 2 0),(7,.pp 4 0),(8,.ls 12 qs.length),(16,.pv (iV ((0:Nat):Int)))]) (qzt d' n' qs rs s s' td tn) (.exit 0) ([(3,.pp 2 0),(7,.pp 4 0)]) ([(2,0,.pv (iV n')),(2,1,.pv (iV d')),(2,2,.ls 9 s'.length),(4,0,.pv (iV n')),(4,1,.pv (iV d')),(4,2,.ls 3 s'.length),(0,0,qad s),(1,0,qb7 qs),(9,0,qad s'),(3,0,qad s'),(12,0,.rrow 38 6 qs.length (qaz rs))])) (hs3:qyH d' n' s') (hal:qu6) :
 Fn 8 2 [moS 0 s tn td,.ls 1 qs.length,.pv (iV (ta:Int))] [(0,0,qad s),(1,0,qb7 qs)] (.pv (.bool true)) 0 []:=
 Fz [] [Cf hf [0],.k,.t false,.t false,.t false,Cf hr1 [0,1],.md,.k,Cf hr2 [0,1],.md,.k,Cf hr3 [5,1],.k,.k,.k,.t false,Cf hs1 [3,7],.k,Cf hs2 [11],.k,.od true 8 0 0 38 none,Lf r0,Cf hs1 [9,3],Cf hal []]
  tI (Co hf [0] 3 (Ai h20 (Ai hz (Ai hl (Co hr1 [0,1] 3 (Ai tI (Ai h0t (Ai (Nat.zero_le ta) (Ai htl (Co hr2 [0,1] 5 (Ai h0t (Ai tI (Ai htl (Ai (Nat.le_refl qs.length) (Co hr3 [5,1] 7 (Ai (qeQ (qs.length:Int)) (Co hs1 [3,7] 9 (Ai m1 (Ai m2 (Co hs2 [11] 12 (Lo r0 [] (Co hs3 [9,3] 13 (Co hal [] 13 tI)))))))))))))))))))))))
end Go.Proofs.YtleaeldgaflmkaaGreat
