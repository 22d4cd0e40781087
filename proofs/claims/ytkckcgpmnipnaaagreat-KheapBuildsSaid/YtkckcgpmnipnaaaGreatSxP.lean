/-
  Nil slices that a call returns, as empty lists of the run's own. Conditions: none.
-/
import Derived.Test.YtkckcgpmnipnaaaGreatW21
namespace Go.Proofs.YtkckcgpmnipnaaaGreat
set_option maxRecDepth 100000
open Go.RowKit
inductive Nil0 (b:Nat):S0→S0→Prop where
 | same (s:S0):Nil0 b s s
 | nil:Nil0 b (.pv (.slice none 0 0)) (.ls b 0)
inductive NilL (b:Nat):List S0→List S0→Prop where
 | nil:NilL b [] []
 | cons {s t:S0} {ss ts:List S0}:Nil0 b s t→NilL b ss ts→NilL b (s::ss) (t::ts)
inductive Nil1 (b:Nat):S1→S1→Prop where
 | one {s t:S0}:Nil0 b s t→Nil1 b (.one s) (.one t)
 | ag {ss ts:List S0}:NilL b ss ts→Nil1 b (.ag ss) (.ag ts)
 | un {vs:List Value} {ts:List S0}:NilL b (vs.map .pv) ts→Nil1 b (.one (.pv (.agg vs.toArray))) (.ag ts)
inductive NilM (b:Nat):List S1→List S1→Prop where
 | nil:NilM b [] []
 | cons {s t:S1} {ss ts:List S1}:Nil1 b s t→NilM b ss ts→NilM b (s::ss) (t::ts)
inductive NilS (b:Nat):SV→SV→Prop where
 | ls:NilS b (.pv (.slice none 0 0)) (.ls b 0)
 | ag {ss ts:List S0}:NilL b ss ts→NilS b (.ag ss) (.ag ts)
 | un {vs:List Value} {ts:List S0}:NilL b (vs.map .pv) ts→NilS b (.pv (.agg vs.toArray)) (.ag ts)
 | tu {ss ts:List S1}:NilM b ss ts→NilS b (.tu ss) (.tu ts)
section
variable {β:Bl} {b:Nat} (hg:β.g b=some (.slice none 0 0))
include hg
theorem Nil0.is {s t:S0} {v:Value} (h:Nil0 b s t) (k:s.is β v):t.is β v:=by
 cases h with
 | same=>exact k
 | nil=>
  have e:v=.slice none 0 0:=k
  subst e
  exact⟨hg,none,0,rfl⟩
theorem NilL.is {ss ts:List S0} (h:NilL b ss ts):∀ {vs:List Value},S0.isl β ss vs→S0.isl β ts vs:=by
 induction h with
 | nil=>intro vs k;exact k
 | cons h0 _ ih=>
  intro vs k
  match vs,k with
  | v::r,⟨k0,kr⟩=>exact⟨h0.is hg k0,ih kr⟩
theorem Nil1.is {s t:S1} {v:Value} (h:Nil1 b s t) (k:s.is β v):t.is β v:=by
 cases h with
 | one h=>exact h.is hg k
 | ag h=>
  obtain⟨vs,h1,h2⟩:=k
  exact⟨vs,h.is hg h1,h2⟩
 | un h=>
  have e:v=_:=k
  exact⟨_,h.is hg (S0.isl_v _),e⟩
theorem NilM.is {ss ts:List S1} (h:NilM b ss ts):∀ {vs:List Value},S1.isl β ss vs→S1.isl β ts vs:=by
 induction h with
 | nil=>intro vs k;exact k
 | cons h0 _ ih=>
  intro vs k
  match vs,k with
  | v::r,⟨k0,kr⟩=>exact⟨h0.is hg k0,ih kr⟩
theorem NilS.is {s t:SV} {v:Value} (h:NilS b s t) (k:s.is β v):t.is β v:=by
 cases h with
 | ls=>
  have e:v=.slice none 0 0:=k
  subst e
  exact⟨hg,none,0,rfl⟩
 | ag h=>
  obtain⟨vs,h1,h2⟩:=k
  exact⟨vs,h.is hg h1,h2⟩
 | un h=>
  have e:v=_:=k
  exact⟨_,h.is hg (S0.isl_v _),e⟩
 | tu h=>
  obtain⟨vs,h1,h2⟩:=k
  exact⟨vs,h.is hg h1,h2⟩
end
theorem qjJ {P:Program} {f:FuncId} {k m:Nat} {args:List SV} {pre post:List (Nat×Nat×SV)} {x x':SV} (e:TypeId) (es:Nat) (h:FnL P f k args pre x m post) (hx:NilS (k+m) x x'):FnL P f k args pre x' (m+1) ((k+m,0,.row e es 0 [])::post):=by
 intro w β us hH hd hi
 refine (h w β us hH hd hi).mono fun ex w' ⟨v,β',he,hle,hv,hh,hd'⟩=>?_
 have hd0:=hd' (k+m) (Nat.le_refl _)
 have hle0:β'.le (β'.setG (k+m) (.slice none 0 0)):=Bl.le_setG hd0.1 hd0.2
 have hg:(β'.setG (k+m) (.slice none 0 0)).g (k+m)=some (.slice none 0 0):=Bl.setG_same _ _ _
 have ho:w'.ownsRow w.heap.size e es (.slice none 0 0) 0 []:=⟨by simp,Or.inl ⟨rfl,rfl⟩⟩
 have look:∀ {c o:Nat} {s:SV},qaf ((k+m,0,SV.row e es 0 [])::post) c o=some s→(c=k+m∧s=.row e es 0 [])∨(qaf post c o=some s):=by
  intro c o s hs
  rw[qag] at hs
  split at hs
  ·rename_i e1
   exact Or.inl ⟨e1.1.symm,(Option.some.inj hs).symm⟩
  ·exact Or.inr hs
 have ne:∀ {c o:Nat} {e2:TypeId} {es2 n2:Nat} {xs:List Value},qaf post c o=some (.row e2 es2 n2 xs)→c≠k+m:=by
  intro c o e2 es2 n2 xs hs hc
  obtain⟨u,h1,_⟩:=hh.rows c o _ _ _ _ hs
  rw[hc,hd0.2] at h1
  cases h1
 have ge:∀ {c:Nat} {u:Value},c≠k+m→(β'.setG (k+m) (.slice none 0 0)).g c=some u→β'.g c=some u:=by
  intro c u hc h1
  have g':(if c=k+m then some (Value.slice none 0 0) else β'.g c)=some u:=h1
  rwa [if_neg hc] at g'
 refine⟨v,β'.setG (k+m) (.slice none 0 0),he,Bl.le_trans hle hle0,hx.is hg (SV.is_mono hle0 hv),?_,fun c hc=>?_⟩
 ·refine⟨hh.gr,hh.live,hh.inj,hh.new,fun c r hc=>?_,fun c o s hs hsr=>?_,fun c o e2 es2 n2 xs hs=>?_,fun c o e2 es2 n2 xs c' o' e3 es3 n3 xs' u u' hs hs' h1 h2 hne gu gv q hu=>?_,fun c o xs hs=>?_⟩
  ·have hc':β' c=some r:=hc
   have:c≠k+m:=fun e=>by subst e;rw[hd0.1] at hc';cases hc'
   show (if c=k+m then _ else β'.g c)=none
   rw[if_neg this]
   exact hh.sep c r hc'
  ·rcases look hs with ⟨_,rfl⟩ | hs
   ·cases hsr
   ·obtain⟨r,uu,g1,g2,g3⟩:=hh.cells c o s hs hsr
    exact⟨r,uu,g1,SV.is_mono hle0 g2,g3⟩
  ·rcases look hs with ⟨rfl,e1⟩ | hs
   ·cases e1
    exact⟨_,hg,qdF ho,(fun v hv=>by cases hv),fun _ hx=>(hx rfl).elim,fun _=>ho,fun _ c r hc hu=>by cases hu⟩
   ·obtain⟨uu,g1,g2⟩:=hh.rows c o _ _ _ _ hs
    exact⟨uu,hle0.g g1,g2.rd,g2.one,g2.low,g2.own,fun h c' r hc' hu=>g2.apart h c' r hc' hu⟩
  ·rcases look hs with ⟨rfl,e1⟩ | hs
   ·rw[hg] at gu
    cases gu
    cases hu
   ·rcases look hs' with ⟨rfl,e1⟩ | hs'
    ·rw[hg] at gv
     cases gv
     intro hv
     cases hv
    ·exact hh.rinj c o _ _ _ _ c' o' _ _ _ _ u u' hs hs' h1 h2 hne (ge (ne hs) gu) (ge (ne hs') gv) q hu
  ·rcases look hs with ⟨_,e1⟩ | hs
   ·cases e1
   ·exact hh.maps c o xs hs
 ·obtain⟨d1,d2⟩:=hd' c (by omega)
  refine⟨d1,?_⟩
  unfold Bl.setG
  simp only[if_neg (show c≠k+m by omega)]
  exact d2
end Go.Proofs.YtkckcgpmnipnaaaGreat
