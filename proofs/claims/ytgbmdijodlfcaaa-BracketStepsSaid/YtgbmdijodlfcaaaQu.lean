/-
  BracketSteps holds. Conditions: none.
-/
import Derived.Test.YtgbmdijodlfcaaaW36
import Derived.Test.YtgbmdijodlfcaaaW21
namespace Go.Proofs.Ytgbmdijodlfcaaa
set_option maxRecDepth 100000
open Go.RowKit
def emF (n:Nat):Nat→List Int
 | 0=>List.replicate n 0
 | k+1=>(emF n k).set k (-1)
theorem qeo (n:Nat):∀ k,(emF n k).length=n
 | 0=>List.length_replicate
 | k+1=>by show ((emF n k).set k (-1)).length=n;rw[List.length_set];exact qeo n k
theorem qlR (n:Nat):∀ (k i:Nat),i<n→(emF n k)[i]?=some (if i<k then -1 else 0)
 | 0,i,h=>by show (List.replicate n (0:Int))[i]?=_;rw[List.getElem?_replicate,if_pos h,if_neg (by omega)]
 | k+1,i,h=>by
  show ((emF n k).set k (-1))[i]?=_
  rw[List.getElem?_set]
  by_cases e:k=i
  ·rw[if_pos e,if_pos (by rw[qeo];omega),if_pos (by omega)]
  ·rw[if_neg e,qlR n k i h]
   by_cases e2:i<k
   ·rw[if_pos e2,if_pos (by omega)]
   ·rw[if_neg e2,if_neg (by omega)]
theorem qf0 (n:Nat):emF n n=List.replicate n (-1):=by
 refine List.ext_getElem? fun i=>?_
 rcases Nat.lt_or_ge i n with h | h
 ·rw[qlR n n i h,if_pos h,List.getElem?_replicate,if_pos h]
 ·rw[List.getElem?_eq_none (by rw[qeo];exact h),List.getElem?_eq_none (by rw[List.length_replicate];exact h)]
section
variable {s:List Pt} {tn td:Int}
def stB (s:List Pt) (tn td:Int) (p:List Int) (t:Nat):Nat→Br
 | 0=>bld s tn td (List.replicate p.length (-1))
 | k+1=>plc s tn td (stB s tn td p t k) ((k+t)%p.length) (p.getD ((k+t)%p.length) 0)
theorem qhK {p:List Int} {i:Nat} (h:i<p.length):p[i]?=some (p.getD i 0):=by rw[List.getD_eq_getElem?_getD,List.getElem?_eq_getElem h];rfl
theorem qfW {p:List Int} (n1:1≤p.length) (n2:p.length≤64) (t:Nat):∀ k,StepI s tn td p t k (stB s tn td p t k)
 | 0=>qhM n1 t
 | k+1=>qju n1 n2 (qfW n1 n2 t k) (qhK (Nat.mod_lt _ n1))
theorem StepI.vb {p:List Int} {t i:Nat} {b:Br} (I:StepI s tn td p t i b) (n1:1≤p.length) (n2:p.length≤64) (hs:Val s) (hk:KnB s p) (h1:OneB p):VB b:=
 qoE (by rw[I.part.1];exact n1) (by rw[I.part.1];exact n2) I.w (qiB hs (I.part.kn hk)) (I.part.one h1) fun i hi=>by rw[I.right i hi];exact qio _ _
variable (htn:I64 tn) (htd:I64 td)
include htn htd in
theorem qnw (l:List Int) (x:Int):Fn 8 2 [qaQ 0 s,.pv (qad tn td),.ls 1 l.length,.pv (iV x)] [(0,0,qan s),(1,0,zrI l)] (.pv (.bool true)) 0 []:=by
 rcases qjj s with ⟨_,hg⟩ | ⟨_,hg⟩
 ·exact qid (hg:=hg) (hal:=qcg)
 have c2:=qi4 htn htd s
 by_cases ht:tE s tn td=0
 ·rw[ht] at c2
  by_cases h16:16<l.length
  ·exact qoh (hg:=hg) (ht:=c2) (h16:=dt (by omega)) (hal:=qcg)
  have h16':decide ((l.length:Int)>16)=false:=df (by omega)
  by_cases hx0:x<0
  ·exact qmO (hg:=hg) (ht:=c2) (h16:=h16') (hx0:=dt hx0) (hal:=qcg)
  by_cases hxl:x≥(l.length:Int)
  ·exact qmL (hg:=hg) (ht:=c2) (h16:=h16') (hx0:=df hx0) (hxl:=dt hxl) (hal:=qcg)
  have c1:=qi3 htn htd (s:=s) l (by omega)
  unfold qbP at c1
  by_cases h0:buE s tn td l=0
  ·obtain⟨hs,hok,n1,n2,hk,ho⟩:=qn4 h0
   have er:buR s tn td l=bld s tn td l:=(qiI ht ⟨n1,n2⟩ hk ho).2
   rw[h0,er] at c1
   have hrl:(List.replicate l.length (-1:Int)).length=l.length:=List.length_replicate
   obtain⟨e1,e2⟩:=qiI (p:=List.replicate l.length (-1)) ht (by rw[hrl];exact⟨n1,n2⟩) ((qdk l).kn hk) ((qdk l).one ho)
   have c3:=qi3 htn htd (s:=s) (List.replicate l.length (-1)) (by omega)
   unfold qbP at c3
   rw[e1,e2,hrl] at c3
   obtain⟨t,rfl⟩:∃ t:Nat,x=(t:Int):=⟨x.toNat,by omega⟩
   have bl:(bld s tn td l).w.length=l.length-1:=qbL l
   refine qka (b:=bld s tn td (List.replicate l.length (-1))) (hg:=hg) (ht:=c2) (h16:=h16') (hx0:=df hx0) (hxl:=df hxl) (hb1:=c1) (n0:=by omega) (n1:=by omega) (g:=List.replicate l.length (-1)) (r0:=?_) (hb2:=?_) (r1:=?_) (hs:=ql1 (by show l.length≤_;omega) (by omega)) (hal:=qcg)
   ·have last:=qkx (s:=s) (tn:=tn) (td:=td) (o:=bld s tn td l) (l:=l) (g:=emF l.length l.length) (x:=(t:Int)) (k:=l.length) (hlt:=df (by omega))
    rw[qf0] at last
    rw[← qf0] at last
    have:=RunsL.roundsZ (N:=l.length) (fun k=>stE l (t:Int) k) (fun k=>qq3 s tn td (bld s tn td l) l (emF l.length k)) l.length 0 (by omega) (fun k _ hk r=>by
     exact qqF (g:=emF l.length k) (hlt:=dt (by omega)) (hin:=⟨by omega,by omega⟩) (hgl:=by rw[qeo];exact hk) (hs:=qay (by omega)) r) last
    rw[qf0] at this
    exact this
   ·unfold zrI at c3
    rw[hrl] at c3
    exact c3
   ·have last:=qk7 (s:=s) (tn:=tn) (td:=td) (o:=bld s tn td l) (l:=l) (b:=stB s tn td l t l.length) (x:=(t:Int)) (k:=l.length) (hlt:=df (by omega))
    have:=RunsL.roundsZ (N:=l.length) (fun k=>stS l (t:Int) k) (fun k=>qq8 s tn td (bld s tn td l) (stB s tn td l t k) l) l.length 0 (by omega) (fun k _ hkl r=>by
     have I:=qfW (s:=s) (tn:=tn) (td:=td) n1 n2 t k
     have V:=I.vb n1 n2 hs hk ho
     have hpl:=I.part.1
     have hw:=I.w
     have hm:(k+t)%l.length<l.length:=Nat.mod_lt _ n1
     have hv:=qhK hm
     have hP:=I.part.set hv
     have cs:=qqQ htn htd (s:=s) (b:=stB s tn td l t k) (z:=(((k+t)%l.length:Nat):Int)) (x:=l.getD ((k+t)%l.length) 0) (by omega) (by omega)
     obtain⟨f1,f2⟩:=qlN (s:=s) (tn:=tn) (td:=td) (b:=stB s tn td l t k) (z:=(((k+t)%l.length:Nat):Int)) (x:=l.getD ((k+t)%l.length) 0) V ht ⟨by omega,by omega⟩ (hP.kn hk) (hP.one ho)
     have f3:(seR s tn td (stB s tn td l t k) (((k+t)%l.length:Nat):Int) (l.getD ((k+t)%l.length) 0)).1=stB s tn td l t (k+1):=by rw[f2,qg1];rfl
     unfold qe4 at cs
     rw[f1,f3] at cs
     exact qp0 (hlt:=dt (by omega)) (y:=((k+t:Nat):Int)) (ha:=by rw[qcL (by omega) (by omega)];congr 1) (nz:=by omega) (z:=(((k+t)%l.length:Nat):Int)) (hw:=rfl) (hix:=⟨by omega,by omega⟩) (hk:=hv) (h1:=cs) (hs:=qay (by omega)) r) last
    rw[qjF n1 (by omega) (qfW (s:=s) (tn:=tn) (td:=td) n1 n2 t l.length)] at this
    exact this
  ·exact qnn (hg:=hg) (ht:=c2) (h16:=h16') (hx0:=df hx0) (hxl:=df hxl) (hb1:=c1) (he:=by simpa using h0) (hal:=qcg)
 ·exact qkr (hg:=hg) (ht:=c2) (he:=by simpa using ht) (hal:=qcg)
end
theorem qhf (s:List Pt) (tn td:Int) (htn:I64 tn) (htd:I64 td) (l:List Int) (_:∀ p∈l,(Lit.int .i64 p).wf=true) (x:Int):Fn 8 2 [qaQ 0 s,.pv (qad tn td),.ls 1 l.length,.pv (iV x)] [(0,0,qan s),(1,0,zrI l)] (.pv (.bool true)) 0 []:=qnw htn htd l x
end Go.Proofs.Ytgbmdijodlfcaaa
