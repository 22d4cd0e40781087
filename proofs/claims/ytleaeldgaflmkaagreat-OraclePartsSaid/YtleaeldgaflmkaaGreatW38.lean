/-
  Joined: Fx, Fz. Conditions: none.
-/
import Derived.Test.YtleaeldgaflmkaaGreatW37
import Derived.Test.YtleaeldgaflmkaaGreatW25
namespace Go.Proofs.YtleaeldgaflmkaaGreat
set_option maxRecDepth 100000
open Go.RowKit
theorem qf0 {l:List Pt}:Up l↔l.Pairwise (fun p q=>p.id<q.id):=by
 constructor
 ·intro h
  rw[List.pairwise_iff_getElem]
  intro i j hi hj hij
  exact h.mono hij (List.getElem?_eq_getElem hi) (List.getElem?_eq_getElem hj)
 ·intro h k p q h1 h2
  rw[List.pairwise_iff_getElem] at h
  obtain⟨hk,rfl⟩:=List.getElem?_eq_some_iff.1 h1
  obtain⟨hk2,rfl⟩:=List.getElem?_eq_some_iff.1 h2
  exact h k (k+1) hk hk2 (by omega)
theorem qjR {l:List Pt} {k:Nat} {p:Pt} (hk:l[k]?=some p):l=l.take k++p::l.drop (k+1):=by
 have hl:=qaw hk
 conv=>lhs;rw[← List.take_append_drop k l]
 rw[List.drop_eq_getElem_cons hl]
 have:l[k]=p:=by rw[List.getElem?_eq_getElem hl] at hk;exact Option.some.inj hk
 rw[this]
theorem qsP {l:List Pt} (hv:Val l) {k:Nat} {p:Pt} (hk:l[k]?=some p) {pi pa pb:Int} (he:p.id=pi) (hp:okP pi pa pb=true):Val (l.set k ⟨pi,pa,pb⟩):=by
 have hl:=qaw hk
 refine⟨by rw[List.length_set];exact hv.len,fun q hq=>?_,?_⟩
 ·rcases List.mem_or_eq_of_mem_set hq with h | rfl
  ·exact hv.ok q h
  ·exact hp
 ·rw[qri hl,qf0]
  have h:=qf0.1 hv.up
  rw[qjR hk,List.pairwise_append,List.pairwise_cons] at h
  rw[List.pairwise_append,List.pairwise_cons]
  refine⟨h.1,⟨fun q hq=>by have:=h.2.1.1 q hq;simp only;omega,h.2.1.2⟩,fun a ha b hb=>?_⟩
  rcases List.mem_cons.1 hb with rfl | hb
  ·have:=h.2.2 a ha p (List.mem_cons_self ..);simp only;omega
  ·exact h.2.2 a ha b (List.mem_cons_of_mem _ hb)
theorem qt2 {l:List Pt} (hv:Val l) {k:Nat} (hn:l.length<64) {pi pa pb:Int} (hp:okP pi pa pb=true) (hkl:k≤l.length) (hlo:∀ (t:Nat) (p:Pt),t<k→l[t]?=some p→p.id<pi) (hhi:∀ (t:Nat) (p:Pt),k≤t→l[t]?=some p→pi<p.id) :
 Val (l.take k++⟨pi,pa,pb⟩::l.drop k):=by
 refine⟨by simp only[List.length_append,List.length_cons,List.length_take,List.length_drop];omega,fun q hq=>?_,?_⟩
 ·rcases List.mem_append.1 hq with h | h
  ·exact hv.ok q (List.mem_of_mem_take h)
  ·rcases List.mem_cons.1 h with rfl | h
   ·exact hp
   ·exact hv.ok q (List.mem_of_mem_drop h)
 ·rw[qf0,List.pairwise_append,List.pairwise_cons]
  have h:=qf0.1 hv.up
  rw[← List.take_append_drop k l,List.pairwise_append] at h
  refine⟨h.1,⟨fun q hq=>?_,h.2.1⟩,fun a ha b hb=>?_⟩
  ·obtain⟨j,hj,rfl⟩:=List.getElem_of_mem hq
   rw[List.getElem_drop]
   exact hhi (k+j) _ (by omega) (List.getElem?_eq_getElem _)
  ·rcases List.mem_cons.1 hb with rfl | hb
   ·obtain⟨j,hj,rfl⟩:=List.getElem_of_mem ha
    have hjk:j<k:=by rw[List.length_take] at hj;omega
    rw[List.getElem_take]
    exact hlo j _ hjk (List.getElem?_eq_getElem _)
   ·exact h.2.2 a ha b hb
theorem qxt {l:List Pt} (hv:Val l) {k:Nat} {p:Pt} {id:Int} (hk:l[k]?=some p) (he:p.id=id):qxL 36 l id p 0:=by
 have c:=qaO l
 rw[qbI.2 hv] at c
 exact qic hk (qaA (qaw hk)) c (qcY hv hk he)
end Go.Proofs.YtleaeldgaflmkaaGreat

namespace Go.Proofs.YtleaeldgaflmkaaGreat
set_option maxRecDepth 100000
open Go.RowKit
theorem qpl {l:List Pt} (hv:Val l) {k:Nat} (hk:k<l.length):Val (l.take k++l.drop (k+1)):=by
 refine⟨by have:=hv.len;simp only[List.length_append,List.length_take,List.length_drop];omega,fun q hq=>?_,?_⟩
 ·rcases List.mem_append.1 hq with h | h
  ·exact hv.ok q (List.mem_of_mem_take h)
  ·exact hv.ok q (List.mem_of_mem_drop h)
 ·obtain⟨p,hp⟩:=qal hk
  have h:=qf0.1 hv.up
  rw[qjR hp] at h
  rw[qf0]
  exact h.sublist ((List.sublist_cons_self p (l.drop (k+1))).append_left (l.take k))
end Go.Proofs.YtleaeldgaflmkaaGreat
