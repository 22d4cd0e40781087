/-
  Joined: SxN, SxP, SxQ. Conditions: none.
-/
import Derived.Test.YtkckcgpmnipnaaaGreatSxJ
import Derived.MapKept
import Derived.Test.YtkckcgpmnipnaaaGreatProg
namespace Go.Proofs.YtkckcgpmnipnaaaGreat
set_option maxRecDepth 100000
open Go.RowKit
def kvL (ps:List (Value×Value)):List Value:=ps.flatMap fun p=>[p.1,p.2]
theorem qmq (a b:List (Value×Value)):kvL (a++b)=kvL a++kvL b:=by simp[kvL]
theorem qnE:∀ (en:List MapEntry) (ps:List (Value×Value)),(en.flatMap fun e=>[e.key,e.val])=kvL ps→en.map (fun e=>(e.key,e.val))=ps
 | [],[],_=>rfl
 | [],p::r,h=>by simp[kvL] at h
 | e::r,[],h=>by simp[kvL] at h
 | e::r,p::q,h=>by
  simp only[kvL,List.flatMap_cons,List.cons_append,List.nil_append,List.cons.injEq] at h;rw[List.map_cons,qnE r q h.2.2,h.1,h.2.1]
structure MapK (P:Program) (t kt e:TypeId) (k:Value) (K:Value→Prop) (z:Value):Prop where
 ty:P.underlying t=some (.map kt e)
 ck:∀ b w,(Instr.checkKey b 10000 kt k).run P w=.ok () w
 no:∀ (en:List MapEntry) w,(∀ x∈en,K x.key)→(∀ x∈en,x.key≠k)→(Instr.findKey kt k en).run P w=.ok none w
 yes:∀ (en:List MapEntry) w,(∀ x∈en,K x.key)→(∃ x∈en,x.key=k)→∃ j x,x∈en∧x.key=k∧(Instr.findKey kt k en).run P w=.ok (some (j,x.val)) w
 zv:∀ w,(zeroValue e).run P w=.ok z w
section
variable {P:Program} {t kt e:TypeId} {k z:Value} {K:Value→Prop} {ps:List (Value×Value)}
theorem qeP {en:Array MapEntry} (h:(en.toList.flatMap fun e=>[e.key,e.val])=kvL ps) (hK:∀ p∈ps,K p.1):∀ x∈en.toList,K x.key∧(x.key,x.val)∈ps:=by
 intro x hx
 have hm:(x.key,x.val)∈ps:=by
  rw[← qnE _ _ h];exact List.mem_map.2 ⟨x,hx,rfl⟩
 exact⟨hK _ hm,hm⟩
theorem que {en:Array MapEntry} (h:(en.toList.flatMap fun e=>[e.key,e.val])=kvL ps) {p:Value×Value} (hp:p∈ps):∃ x∈en.toList,x.key=p.1:=by
 rw[← qnE _ _ h] at hp;obtain⟨x,hx,rfl⟩:=List.mem_map.1 hp;exact⟨x,hx,rfl⟩
theorem qkQ {ok:Bool} {v:Value} {b:Bool} {en:Array MapEntry} {clock r:Nat} {w:World} {f:Option (Nat×Value)} (M:MapK P t kt e k K z) (hb:w.heap[r]?=some (.map en clock)) (hf:(Instr.findKey kt k en.toList).run P w=.ok f w)
 (hv:f=none∧v=z∧b=false∨∃ j,f=some (j,v)∧b=true):(Instr.lookup t (.map (some r)) k ok).run P w=.ok (if ok=true then .tuple #[v,.bool b] else v) w:=by
 unfold Instr.lookup
 rcases hv with ⟨rfl,rfl,rfl⟩ | ⟨j,rfl,rfl⟩
 ·simp[run_underlying M.ty,MapKept.run_getObj_map hb,M.ck,hf,M.zv,Result.andThen]
 ·simp[run_underlying M.ty,MapKept.run_getObj_map hb,M.ck,hf,Result.andThen]
theorem qss (M:MapK P t kt e k K z) (hK:∀ p∈ps,K p.1) {v:Value} (h:(k,v)∈ps) (hu:∀ p∈ps,p.1=k→p.2=v) (ok:Bool):qbu P t (kvL ps) k ok (if ok=true then .tuple #[v,.bool true] else v):=by
 intro w r ⟨en,clock,hb,hx⟩;obtain⟨j,x,h1,h2,h3⟩:=M.yes en.toList w (fun x hx'=>(qeP hx hK x hx').1) (que hx h);have hv:x.val=v:=hu _ (qeP hx hK x h1).2 h2;exact qkQ M hb h3 (Or.inr ⟨j,by rw[hv],rfl⟩)
theorem qy7 (M:MapK P t kt e k K z) (hK:∀ p∈ps,K p.1) (h:∀ p∈ps,p.1≠k) (ok:Bool):qbu P t (kvL ps) k ok (if ok=true then .tuple #[z,.bool false] else z):=by
 intro w r ⟨en,clock,hb,hx⟩;have h3:=M.no en.toList w (fun x hx'=>(qeP hx hK x hx').1) (fun x hx'=>h _ (qeP hx hK x hx').2);exact qkQ M hb h3 (Or.inl ⟨rfl,rfl,rfl⟩)
theorem qwJ (M:MapK P t kt e k K z) (hK:∀ p∈ps,K p.1) (h:∀ p∈ps,p.1≠k) (v:Value):qiG P t (kvL ps) k v (kvL (ps++[(k,v)])):=by
 intro w r ⟨en,clock,hb,hx⟩;have h3:=M.no en.toList w (fun x hx'=>(qeP hx hK x hx').1) (fun x hx'=>h _ (qeP hx hK x hx').2);refine⟨en.push { key:=k,val:=v,born:=clock },clock+1,?_,?_⟩
 ·simp[Instr.mapUpdate,run_underlying M.ty,MapKept.run_getObj_map hb,M.ck,h3,MapKept.run_setObj_map _ hb,Result.andThen]
 ·rw[Array.toList_push,List.flatMap_append,hx,qmq];rfl
end
theorem qfq {P:Program} {kt:TypeId} {fs:Array Field} (hk:P.underlying kt=some (.struct fs)) (k:Value) (en:List MapEntry) (w:World):(Instr.findKey kt k en).run P w=(Instr.findAsking kt k en).run P w:=by
 cases en with
 | nil=>simp[Instr.findKey,run_underlying hk,Instr.findNow,Instr.findAsking,Result.andThen]
 | cons x r=>simp[Instr.findKey,run_underlying hk,Instr.findNow,Instr.sameNow,Result.andThen]
theorem qpm {P:Program} {kt:TypeId} {k:Value} {K:Value→Prop} (w:World) (he:∀ x,K x→∃ b,(Op.equal kt k x).run P w=.ok b w∧(b=true↔x=k)):∀ (en:List MapEntry) (i:Nat),(∀ x∈en,K x.key)→
 ((∀ x∈en,x.key≠k)∧(Instr.findAsking kt k en i).run P w=.ok none w)∨∃ j x,x∈en∧x.key=k∧(Instr.findAsking kt k en i).run P w=.ok (some (j,x.val)) w
 | [],i,_=>Or.inl ⟨fun x hx=>by simp at hx,by simp[Instr.findAsking]⟩
 | x::r,i,h=>by
  obtain⟨b,hb,hbk⟩:=he x.key (h x (by simp));cases b
  ·have hne:x.key≠k:=fun e=>by have:=hbk.2 e;cases this
   rcases qpm w he r (i+1) (fun y hy=>h y (by simp[hy])) with ⟨h1,h2⟩ | ⟨j,y,h1,h2,h3⟩
   ·refine Or.inl ⟨fun y hy=>?_,by simp[Instr.findAsking,hb,h2,Result.andThen]⟩
    rcases List.mem_cons.1 hy with rfl | hy
    ·exact hne
    ·exact h1 y hy
   ·exact Or.inr ⟨j,y,by simp[h1],h2,by simp[Instr.findAsking,hb,h3,Result.andThen]⟩
  ·exact Or.inr ⟨i,x,by simp,hbk.1 rfl,by simp[Instr.findAsking,hb,Result.andThen]⟩
theorem qmT {P:Program} {t kt e:TypeId} {fs:Array Field} {k z:Value} {K:Value→Prop} (ht:P.underlying t=some (.map kt e)) (hk:P.underlying kt=some (.struct fs)) (hz:∀ w,(zeroValue e).run P w=.ok z w)
 (hc:∀ b w,(Instr.checkKey b 10000 kt k).run P w=.ok () w) (he:∀ w x,K x→∃ b,(Op.equal kt k x).run P w=.ok b w∧(b=true↔x=k)):MapK P t kt e k K z where
 ty:=ht
 ck:=hc
 no:=fun en w hK h=>by
  rw[qfq hk]
  rcases qpm w (he w) en 0 hK with ⟨_,h2⟩ | ⟨j,x,h1,h2,_⟩
  ·exact h2
  ·exact (h x h1 h2).elim
 yes:=fun en w hK ⟨y,hy,hy2⟩=>by
  rw[qfq hk]
  rcases qpm w (he w) en 0 hK with ⟨h1,_⟩ | ⟨j,x,h1,h2,h3⟩
  ·exact (h1 y hy hy2).elim
  ·exact⟨j,x,h1,h2,h3⟩
 zv:=hz
end Go.Proofs.YtkckcgpmnipnaaaGreat

namespace Go.Proofs.YtkckcgpmnipnaaaGreat
set_option maxRecDepth 100000
open Go.RowKit
section
variable {β:Bl} {b:Nat} (hg:β.g b=some (.slice none 0 0))
include hg
end
end Go.Proofs.YtkckcgpmnipnaaaGreat

namespace Go.Proofs.YtkckcgpmnipnaaaGreat
set_option maxRecDepth 100000
open Go.RowKit
abbrev TmL:=List (Nat×SV)
abbrev HpL:=List (Nat×Nat×SV)
theorem Ai {a b:Prop} (x:a) (y:b):a∧b:=⟨x,y⟩
theorem tI:True:=True.intro
abbrev iV (x:Int):Value:=.int .i64 x
abbrev pI (x:Int):SV:=.pv (.int .i64 x)
theorem Er {α:Type} (x:α):some x=some x:=rfl
abbrev Fn (f:FuncId) (k:Nat) (args:List SV) (pre:HpL) (x:SV) (m:Nat) (post:HpL):Prop:=FnL Tryz.prog f k args pre x m post
abbrev Rl (lo fr:Nat) (f:FuncId) (j n nb:Nat) (tm0:TmL) (hp0:HpL) (e:Exit) (tm1:TmL) (hp1:HpL):Prop:=RunsL Tryz.prog lo fr (qgx Tryz.prog f j) n nb tm0 hp0 e tm1 hp1
section
variable {P:Program} {f:FuncId} {k m:Nat} {args:List SV} {pre post:HpL} {x:SV}
def Cf (_:FnL P f k args pre x m post) (σ:List Nat):Ch:=.f σ args pre x m post
theorem Ca (_:FnL P f k args pre x m post) (σ:List Nat) (n:Nat):args.map (SV.ren (qca σ n))=args.map (SV.ren (qca σ n)):=rfl
theorem Cp (_:FnL P f k args pre x m post) (σ:List Nat) (n:Nat):qba (pre.map fun e=>some (e.2.2.ren (qca σ n))=some (e.2.2.ren (qca σ n))):=qaG (qca σ n) pre
theorem Co (h:FnL P f k args pre x m post) (σ:List Nat) (n:Nat) {T:Prop} (t:T):FnL P f k args pre x m post∧(args.map (SV.ren (qca σ n))=args.map (SV.ren (qca σ n)))∧qba (pre.map fun e=>some (e.2.2.ren (qca σ n))=some (e.2.2.ren (qca σ n)))∧T:=⟨h,Ca h σ n,Cp h σ n,t⟩
end
section
variable {P:Program} {lo fr n nb:Nat} {c:Code} {tm0 tm1:TmL} {hp0 hp1:HpL} {e:Exit}
def Lf (_:RunsL P lo fr c n nb tm0 hp0 e tm1 hp1):Ch:=.l e tm0 hp0 tm1 hp1
def Lr (_:RunsL P lo fr c n nb tm0 hp0 e tm1 hp1) (ρ:List (Nat×Nat)):Ch:=.lr ρ e tm0 hp0 tm1 hp1
theorem Lt (_:RunsL P lo fr c n nb tm0 hp0 e tm1 hp1) (ρ:List (Nat×Nat)):qba (tm0.map fun e=>e.2.ren (qaM ρ)=e.2.ren (qaM ρ)):=qqi (qaM ρ) tm0
theorem Lh (_:RunsL P lo fr c n nb tm0 hp0 e tm1 hp1) (ρ:List (Nat×Nat)):qba (hp0.map fun e=>some (e.2.2.ren (qaM ρ))=some (e.2.2.ren (qaM ρ))):=qaG (qaM ρ) hp0
theorem Lo (h:RunsL P lo fr c n nb tm0 hp0 e tm1 hp1) (ρ:List (Nat×Nat)) {T:Prop} (t:T):qba (tm0.map fun e=>e.2.ren (qaM ρ)=e.2.ren (qaM ρ))∧qba (hp0.map fun e=>some (e.2.2.ren (qaM ρ))=some (e.2.2.ren (qaM ρ)))∧RunsL P lo fr c n nb tm0 hp0 e tm1 hp1∧T:=⟨Lt h ρ,Lh h ρ,h,t⟩
end
theorem Fz {P:Program} {f:FuncId} {k m:Nat} {args:List SV} {pre post:HpL} {x:SV} (ρ:List (Nat×Nat)) (ch:List Ch) {T H:Prop} (hh:H) (ht:T)
 (h:qmp k m ρ x post (qzx P 300 f k args pre ch)=(x.ren (qaM ρ)=x.ren (qaM ρ)∧true=true∧H∧T):=by kernel_rfl):FnL P f k args pre x m post:=qeh 300 ρ ch hh ht h
theorem Fx {P:Program} {f:FuncId} {k m:Nat} {args:List SV} {pre post:HpL} {x:SV} (ρ:List (Nat×Nat)) (ch:List Ch) {T H X:Prop} (hx:X) (hh:H) (ht:T)
 (h:qmp k m ρ x post (qzx P 300 f k args pre ch)=(X∧true=true∧H∧T):=by kernel_rfl):FnL P f k args pre x m post:=qsI 300 ρ ch hx hh ht h
theorem Ro {ρ:List (Nat×Nat)} {lo fr n nb:Nat} {e:Exit} {tm:TmL} {hp:HpL} {r:Option (Exit×St×List Prop)} {T:Prop} (ht:T)
 (h:qeG ρ lo fr n nb e tm hp r=(e=e∧true=true∧qba (tm.map fun e=>e.2.ren (qaM ρ)=e.2.ren (qaM ρ))∧qba (hp.map fun e=>some (e.2.2.ren (qaM ρ))=some (e.2.2.ren (qaM ρ)))∧T):=by kernel_rfl):qeG ρ lo fr n nb e tm hp r:=qsC ht h
theorem Rh {ρ:List (Nat×Nat)} {lo fr n nb:Nat} {e:Exit} {tm:TmL} {hp:HpL} {r:Option (Exit×St×List Prop)} {T H:Prop} (hh:H) (ht:T)
 (h:qeG ρ lo fr n nb e tm hp r=(e=e∧true=true∧qba (tm.map fun e=>e.2.ren (qaM ρ)=e.2.ren (qaM ρ))∧H∧T):=by kernel_rfl):qeG ρ lo fr n nb e tm hp r:=qow hh ht h
def Rf {P:Program} {f:FuncId} {args:Array Value} {v:Value} (_:Pure P f args v):Ch:=.r v
def Re {v w:Value} (_:v=w):Ch:=.r w
theorem A2 {a0 a1 r:Prop} (x0:a0) (x1:a1) (z:r):a0∧a1∧r:=⟨x0,x1,z⟩
theorem A3 {a0 a1 a2 r:Prop} (x0:a0) (x1:a1) (x2:a2) (z:r):a0∧a1∧a2∧r:=⟨x0,x1,x2,z⟩
theorem A4 {a0 a1 a2 a3 r:Prop} (x0:a0) (x1:a1) (x2:a2) (x3:a3) (z:r):a0∧a1∧a2∧a3∧r:=⟨x0,x1,x2,x3,z⟩
theorem A5 {a0 a1 a2 a3 a4 r:Prop} (x0:a0) (x1:a1) (x2:a2) (x3:a3) (x4:a4) (z:r):a0∧a1∧a2∧a3∧a4∧r:=⟨x0,x1,x2,x3,x4,z⟩
theorem A6 {a0 a1 a2 a3 a4 a5 r:Prop} (x0:a0) (x1:a1) (x2:a2) (x3:a3) (x4:a4) (x5:a5) (z:r):a0∧a1∧a2∧a3∧a4∧a5∧r:=⟨x0,x1,x2,x3,x4,x5,z⟩
theorem A7 {a0 a1 a2 a3 a4 a5 a6 r:Prop} (x0:a0) (x1:a1) (x2:a2) (x3:a3) (x4:a4) (x5:a5) (x6:a6) (z:r):a0∧a1∧a2∧a3∧a4∧a5∧a6∧r:=⟨x0,x1,x2,x3,x4,x5,x6,z⟩
theorem A8 {a0 a1 a2 a3 a4 a5 a6 a7 r:Prop} (x0:a0) (x1:a1) (x2:a2) (x3:a3) (x4:a4) (x5:a5) (x6:a6) (x7:a7) (z:r):a0∧a1∧a2∧a3∧a4∧a5∧a6∧a7∧r:=⟨x0,x1,x2,x3,x4,x5,x6,x7,z⟩
theorem A9 {a0 a1 a2 a3 a4 a5 a6 a7 a8 r:Prop} (x0:a0) (x1:a1) (x2:a2) (x3:a3) (x4:a4) (x5:a5) (x6:a6) (x7:a7) (x8:a8) (z:r):a0∧a1∧a2∧a3∧a4∧a5∧a6∧a7∧a8∧r:=⟨x0,x1,x2,x3,x4,x5,x6,x7,x8,z⟩
theorem El (b n:Nat):some (SV.ls b n)=some (SV.ls b n):=rfl
abbrev Dt (p:Prop) [Decidable p]:Prop:=decide p=true
abbrev Df (p:Prop) [Decidable p]:Prop:=decide p=false
abbrev Bd (k n:Nat):Prop:=0≤(k:Int)∧(k:Int)<(n:Int)
abbrev yt:TmL:=[(2,.pp 2 0),(3,.pp 3 0),(5,.pv (iV ((0:Nat):Int)))]
abbrev yy:TmL:=[(2,.pp 9 0),(3,.pp 10 0),(4,.pp 11 0),(6,.pp 20 0),(7,.pv (iV ((0:Nat):Int)))]
abbrev yab:TmL:=[(1,.pp 5 0),(3,.pv (iV ((0:Nat):Int)))]
end Go.Proofs.YtkckcgpmnipnaaaGreat
