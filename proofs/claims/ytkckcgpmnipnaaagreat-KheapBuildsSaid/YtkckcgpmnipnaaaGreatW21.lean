/-
  Joined: SxN, SxQ. Conditions: none.
-/
import Derived.Test.YtkckcgpmnipnaaaGreatSxJ
import Derived.MapKept
import Derived.Test.YtkckcgpmnipnaaaGreatProg
namespace Go.Proofs.YtkckcgpmnipnaaaGreat
set_option maxRecDepth 100000
open Go.RowKit
def kvL (ps:List (Value×Value)):List Value:=ps.flatMap fun p=>[p.1,p.2]
theorem qld (a b:List (Value×Value)):kvL (a++b)=kvL a++kvL b:=by simp[kvL]
theorem qmS:∀ (en:List MapEntry) (ps:List (Value×Value)),(en.flatMap fun e=>[e.key,e.val])=kvL ps→en.map (fun e=>(e.key,e.val))=ps
 | [],[],_=>rfl
 | [],p::r,h=>by simp[kvL] at h
 | e::r,[],h=>by simp[kvL] at h
 | e::r,p::q,h=>by
  simp only[kvL,List.flatMap_cons,List.cons_append,List.nil_append,List.cons.injEq] at h
  rw[List.map_cons,qmS r q h.2.2,h.1,h.2.1]
structure MapK (P:Program) (t kt e:TypeId) (k:Value) (K:Value→Prop) (z:Value):Prop where
 ty:P.underlying t=some (.map kt e)
 ck:∀ b w,(Instr.checkKey b 10000 kt k).run P w=.ok () w
 no:∀ (en:List MapEntry) w,(∀ x∈en,K x.key)→(∀ x∈en,x.key≠k)→(Instr.findKey kt k en).run P w=.ok none w
 yes:∀ (en:List MapEntry) w,(∀ x∈en,K x.key)→(∃ x∈en,x.key=k)→∃ j x,x∈en∧x.key=k∧(Instr.findKey kt k en).run P w=.ok (some (j,x.val)) w
 zv:∀ w,(zeroValue e).run P w=.ok z w
section
variable {P:Program} {t kt e:TypeId} {k z:Value} {K:Value→Prop} {ps:List (Value×Value)}
theorem qgi {en:Array MapEntry} (h:(en.toList.flatMap fun e=>[e.key,e.val])=kvL ps) (hK:∀ p∈ps,K p.1):∀ x∈en.toList,K x.key∧(x.key,x.val)∈ps:=by
 intro x hx
 have hm:(x.key,x.val)∈ps:=by
  rw[← qmS _ _ h]
  exact List.mem_map.2 ⟨x,hx,rfl⟩
 exact⟨hK _ hm,hm⟩
theorem qzN {en:Array MapEntry} (h:(en.toList.flatMap fun e=>[e.key,e.val])=kvL ps) {p:Value×Value} (hp:p∈ps):∃ x∈en.toList,x.key=p.1:=by
 rw[← qmS _ _ h] at hp
 obtain⟨x,hx,rfl⟩:=List.mem_map.1 hp
 exact⟨x,hx,rfl⟩
theorem qjT {ok:Bool} {v:Value} {b:Bool} {en:Array MapEntry} {clock r:Nat} {w:World} {f:Option (Nat×Value)} (M:MapK P t kt e k K z) (hb:w.heap[r]?=some (.map en clock)) (hf:(Instr.findKey kt k en.toList).run P w=.ok f w)
 (hv:f=none∧v=z∧b=false∨∃ j,f=some (j,v)∧b=true):(Instr.lookup t (.map (some r)) k ok).run P w=.ok (if ok=true then .tuple #[v,.bool b] else v) w:=by
 unfold Instr.lookup
 rcases hv with ⟨rfl,rfl,rfl⟩ | ⟨j,rfl,rfl⟩
 ·simp[run_underlying M.ty,MapKept.run_getObj_map hb,M.ck,hf,M.zv,Result.andThen]
 ·simp[run_underlying M.ty,MapKept.run_getObj_map hb,M.ck,hf,Result.andThen]
theorem qqx (M:MapK P t kt e k K z) (hK:∀ p∈ps,K p.1) {v:Value} (h:(k,v)∈ps) (hu:∀ p∈ps,p.1=k→p.2=v) (ok:Bool):qcp P t (kvL ps) k ok (if ok=true then .tuple #[v,.bool true] else v):=by
 intro w r ⟨en,clock,hb,hx⟩
 obtain⟨j,x,h1,h2,h3⟩:=M.yes en.toList w (fun x hx'=>(qgi hx hK x hx').1) (qzN hx h)
 have hv:x.val=v:=hu _ (qgi hx hK x h1).2 h2
 exact qjT M hb h3 (Or.inr ⟨j,by rw[hv],rfl⟩)
theorem qy2 (M:MapK P t kt e k K z) (hK:∀ p∈ps,K p.1) (h:∀ p∈ps,p.1≠k) (ok:Bool):qcp P t (kvL ps) k ok (if ok=true then .tuple #[z,.bool false] else z):=by
 intro w r ⟨en,clock,hb,hx⟩
 have h3:=M.no en.toList w (fun x hx'=>(qgi hx hK x hx').1) (fun x hx'=>h _ (qgi hx hK x hx').2)
 exact qjT M hb h3 (Or.inl ⟨rfl,rfl,rfl⟩)
theorem qxA (M:MapK P t kt e k K z) (hK:∀ p∈ps,K p.1) (h:∀ p∈ps,p.1≠k) (v:Value):ql0 P t (kvL ps) k v (kvL (ps++[(k,v)])):=by
 intro w r ⟨en,clock,hb,hx⟩
 have h3:=M.no en.toList w (fun x hx'=>(qgi hx hK x hx').1) (fun x hx'=>h _ (qgi hx hK x hx').2)
 refine⟨en.push { key:=k,val:=v,born:=clock },clock+1,?_,?_⟩
 ·simp[Instr.mapUpdate,run_underlying M.ty,MapKept.run_getObj_map hb,M.ck,h3,MapKept.run_setObj_map _ hb,Result.andThen]
 ·rw[Array.toList_push,List.flatMap_append,hx,qld]
  rfl
end
theorem qif {P:Program} {kt:TypeId} {fs:Array Field} (hk:P.underlying kt=some (.struct fs)) (k:Value) (en:List MapEntry) (w:World):(Instr.findKey kt k en).run P w=(Instr.findAsking kt k en).run P w:=by
 cases en with
 | nil=>simp[Instr.findKey,run_underlying hk,Instr.findNow,Instr.findAsking,Result.andThen]
 | cons x r=>simp[Instr.findKey,run_underlying hk,Instr.findNow,Instr.sameNow,Result.andThen]
theorem qoj {P:Program} {kt:TypeId} {k:Value} {K:Value→Prop} (w:World) (he:∀ x,K x→∃ b,(Op.equal kt k x).run P w=.ok b w∧(b=true↔x=k)):∀ (en:List MapEntry) (i:Nat),(∀ x∈en,K x.key)→
 ((∀ x∈en,x.key≠k)∧(Instr.findAsking kt k en i).run P w=.ok none w)∨∃ j x,x∈en∧x.key=k∧(Instr.findAsking kt k en i).run P w=.ok (some (j,x.val)) w
 | [],i,_=>Or.inl ⟨fun x hx=>by simp at hx,by simp[Instr.findAsking]⟩
 | x::r,i,h=>by
  obtain⟨b,hb,hbk⟩:=he x.key (h x (by simp))
  cases b
  ·have hne:x.key≠k:=fun e=>by have:=hbk.2 e;cases this
   rcases qoj w he r (i+1) (fun y hy=>h y (by simp[hy])) with ⟨h1,h2⟩ | ⟨j,y,h1,h2,h3⟩
   ·refine Or.inl ⟨fun y hy=>?_,by simp[Instr.findAsking,hb,h2,Result.andThen]⟩
    rcases List.mem_cons.1 hy with rfl | hy
    ·exact hne
    ·exact h1 y hy
   ·exact Or.inr ⟨j,y,by simp[h1],h2,by simp[Instr.findAsking,hb,h3,Result.andThen]⟩
  ·exact Or.inr ⟨i,x,by simp,hbk.1 rfl,by simp[Instr.findAsking,hb,Result.andThen]⟩
theorem qkW {P:Program} {t kt e:TypeId} {fs:Array Field} {k z:Value} {K:Value→Prop} (ht:P.underlying t=some (.map kt e)) (hk:P.underlying kt=some (.struct fs)) (hz:∀ w,(zeroValue e).run P w=.ok z w)
 (hc:∀ b w,(Instr.checkKey b 10000 kt k).run P w=.ok () w) (he:∀ w x,K x→∃ b,(Op.equal kt k x).run P w=.ok b w∧(b=true↔x=k)):MapK P t kt e k K z where
 ty:=ht
 ck:=hc
 no:=fun en w hK h=>by
  rw[qif hk]
  rcases qoj w (he w) en 0 hK with ⟨_,h2⟩ | ⟨j,x,h1,h2,_⟩
  ·exact h2
  ·exact (h x h1 h2).elim
 yes:=fun en w hK ⟨y,hy,hy2⟩=>by
  rw[qif hk]
  rcases qoj w (he w) en 0 hK with ⟨h1,_⟩ | ⟨j,x,h1,h2,h3⟩
  ·exact (h1 y hy hy2).elim
  ·exact⟨j,x,h1,h2,h3⟩
 zv:=hz
end Go.Proofs.YtkckcgpmnipnaaaGreat

namespace Go.Proofs.YtkckcgpmnipnaaaGreat
set_option maxRecDepth 100000
open Go.RowKit
abbrev TmL:=List (Nat×SV)
abbrev HpL:=List (Nat×Nat×SV)
theorem Ai {a b:Prop} (x:a) (y:b):a∧b:=⟨x,y⟩
theorem tI:True:=True.intro
abbrev iV (x:Int):Value:=.int .i64 x
abbrev pI (x:Int):SV:=.pv (.int .i64 x)
theorem Er {α:Type} (x:α):some x=some x:=rfl
abbrev Fn (f:FuncId) (k:Nat) (args:List SV) (pre:HpL) (x:SV) (m:Nat) (post:HpL):Prop:=FnL Tryz.prog f k args pre x m post
abbrev Rl (lo fr:Nat) (f:FuncId) (j n nb:Nat) (tm0:TmL) (hp0:HpL) (e:Exit) (tm1:TmL) (hp1:HpL):Prop:=RunsL Tryz.prog lo fr (qga Tryz.prog f j) n nb tm0 hp0 e tm1 hp1
section
variable {P:Program} {f:FuncId} {k m:Nat} {args:List SV} {pre post:HpL} {x:SV}
def Cf (_:FnL P f k args pre x m post) (σ:List Nat):Ch:=.f σ args pre x m post
theorem Ca (_:FnL P f k args pre x m post) (σ:List Nat) (n:Nat):args.map (SV.ren (qbR σ n))=args.map (SV.ren (qbR σ n)):=rfl
theorem Cp (_:FnL P f k args pre x m post) (σ:List Nat) (n:Nat):qaU (pre.map fun e=>some (e.2.2.ren (qbR σ n))=some (e.2.2.ren (qbR σ n))):=qaE (qbR σ n) pre
theorem Co (h:FnL P f k args pre x m post) (σ:List Nat) (n:Nat) {T:Prop} (t:T):FnL P f k args pre x m post∧(args.map (SV.ren (qbR σ n))=args.map (SV.ren (qbR σ n)))∧qaU (pre.map fun e=>some (e.2.2.ren (qbR σ n))=some (e.2.2.ren (qbR σ n)))∧T:=⟨h,Ca h σ n,Cp h σ n,t⟩
end
section
variable {P:Program} {lo fr n nb:Nat} {c:Code} {tm0 tm1:TmL} {hp0 hp1:HpL} {e:Exit}
def Lf (_:RunsL P lo fr c n nb tm0 hp0 e tm1 hp1):Ch:=.l e tm0 hp0 tm1 hp1
def Lr (_:RunsL P lo fr c n nb tm0 hp0 e tm1 hp1) (ρ:List (Nat×Nat)):Ch:=.lr ρ e tm0 hp0 tm1 hp1
theorem Lt (_:RunsL P lo fr c n nb tm0 hp0 e tm1 hp1) (ρ:List (Nat×Nat)):qaU (tm0.map fun e=>e.2.ren (qaK ρ)=e.2.ren (qaK ρ)):=qnx (qaK ρ) tm0
theorem Lh (_:RunsL P lo fr c n nb tm0 hp0 e tm1 hp1) (ρ:List (Nat×Nat)):qaU (hp0.map fun e=>some (e.2.2.ren (qaK ρ))=some (e.2.2.ren (qaK ρ))):=qaE (qaK ρ) hp0
theorem Lo (h:RunsL P lo fr c n nb tm0 hp0 e tm1 hp1) (ρ:List (Nat×Nat)) {T:Prop} (t:T):qaU (tm0.map fun e=>e.2.ren (qaK ρ)=e.2.ren (qaK ρ))∧qaU (hp0.map fun e=>some (e.2.2.ren (qaK ρ))=some (e.2.2.ren (qaK ρ)))∧RunsL P lo fr c n nb tm0 hp0 e tm1 hp1∧T:=⟨Lt h ρ,Lh h ρ,h,t⟩
end
theorem Fz {P:Program} {f:FuncId} {k m:Nat} {args:List SV} {pre post:HpL} {x:SV} (ρ:List (Nat×Nat)) (ch:List Ch) {T H:Prop} (hh:H) (ht:T)
 (h:qlm k m ρ x post (qy6 P 300 f k args pre ch)=(x.ren (qaK ρ)=x.ren (qaK ρ)∧true=true∧H∧T):=by kernel_rfl):FnL P f k args pre x m post:=qfD 300 ρ ch hh ht h
theorem Fx {P:Program} {f:FuncId} {k m:Nat} {args:List SV} {pre post:HpL} {x:SV} (ρ:List (Nat×Nat)) (ch:List Ch) {T H X:Prop} (hx:X) (hh:H) (ht:T)
 (h:qlm k m ρ x post (qy6 P 300 f k args pre ch)=(X∧true=true∧H∧T):=by kernel_rfl):FnL P f k args pre x m post:=qr6 300 ρ ch hx hh ht h
theorem Ro {ρ:List (Nat×Nat)} {lo fr n nb:Nat} {e:Exit} {tm:TmL} {hp:HpL} {r:Option (Exit×St×List Prop)} {T:Prop} (ht:T)
 (h:qcy ρ lo fr n nb e tm hp r=(e=e∧true=true∧qaU (tm.map fun e=>e.2.ren (qaK ρ)=e.2.ren (qaK ρ))∧qaU (hp.map fun e=>some (e.2.2.ren (qaK ρ))=some (e.2.2.ren (qaK ρ)))∧T):=by kernel_rfl):qcy ρ lo fr n nb e tm hp r:=qq5 ht h
theorem Rh {ρ:List (Nat×Nat)} {lo fr n nb:Nat} {e:Exit} {tm:TmL} {hp:HpL} {r:Option (Exit×St×List Prop)} {T H:Prop} (hh:H) (ht:T)
 (h:qcy ρ lo fr n nb e tm hp r=(e=e∧true=true∧qaU (tm.map fun e=>e.2.ren (qaK ρ)=e.2.ren (qaK ρ))∧H∧T):=by kernel_rfl):qcy ρ lo fr n nb e tm hp r:=qpb hh ht h
def Rf {P:Program} {f:FuncId} {args:Array Value} {v:Value} (_:Pure P f args v):Ch:=.r v
def Re {v w:Value} (_:v=w):Ch:=.r w
end Go.Proofs.YtkckcgpmnipnaaaGreat
