/-
  Short words for what printed paths say again and again. Conditions: none.
-/
import Derived.Test.YtleaeldgaflmkaaSxJ
import Derived.Test.YtleaeldgaflmkaaProg
namespace Go.Proofs.Ytleaeldgaflmkaa
set_option maxRecDepth 100000
open Go.RowKit
abbrev TmL:=List (Nat×SV)
abbrev HpL:=List (Nat×Nat×SV)
theorem Ai {a b:Prop} (x:a) (y:b):a∧b:=⟨x,y⟩
theorem tI:True:=True.intro
abbrev iV (x:Int):Value:=.int .i64 x
abbrev pI (x:Int):SV:=.pv (.int .i64 x)
theorem Er {α:Type} (x:α):some x=some x:=rfl
abbrev Fn (f:FuncId) (k:Nat) (args:List SV) (pre:HpL) (x:SV) (m:Nat) (post:HpL):Prop:=FnL Try.prog f k args pre x m post
abbrev Rl (lo fr:Nat) (f:FuncId) (j n nb:Nat) (tm0:TmL) (hp0:HpL) (e:Exit) (tm1:TmL) (hp1:HpL):Prop:=RunsL Try.prog lo fr (qkx Try.prog f j) n nb tm0 hp0 e tm1 hp1
section
variable {P:Program} {f:FuncId} {k m:Nat} {args:List SV} {pre post:HpL} {x:SV}
def Cf (_:FnL P f k args pre x m post) (σ:List Nat):Ch:=.f σ args pre x m post
theorem Ca (_:FnL P f k args pre x m post) (σ:List Nat) (n:Nat):args.map (SV.ren (qaK σ n))=args.map (SV.ren (qaK σ n)):=rfl
theorem Cp (_:FnL P f k args pre x m post) (σ:List Nat) (n:Nat):qaB (pre.map fun e=>some (e.2.2.ren (qaK σ n))=some (e.2.2.ren (qaK σ n))):=qh2 (qaK σ n) pre
theorem Co (h:FnL P f k args pre x m post) (σ:List Nat) (n:Nat) {T:Prop} (t:T):FnL P f k args pre x m post∧(args.map (SV.ren (qaK σ n))=args.map (SV.ren (qaK σ n)))∧qaB (pre.map fun e=>some (e.2.2.ren (qaK σ n))=some (e.2.2.ren (qaK σ n)))∧T:=⟨h,Ca h σ n,Cp h σ n,t⟩
end
section
variable {P:Program} {lo fr n nb:Nat} {c:Code} {tm0 tm1:TmL} {hp0 hp1:HpL} {e:Exit}
def Lf (_:RunsL P lo fr c n nb tm0 hp0 e tm1 hp1):Ch:=.l e tm0 hp0 tm1 hp1
def Lr (_:RunsL P lo fr c n nb tm0 hp0 e tm1 hp1) (ρ:List (Nat×Nat)):Ch:=.lr ρ e tm0 hp0 tm1 hp1
theorem Lt (_:RunsL P lo fr c n nb tm0 hp0 e tm1 hp1) (ρ:List (Nat×Nat)):qaB (tm0.map fun e=>e.2.ren (qba ρ)=e.2.ren (qba ρ)):=qji (qba ρ) tm0
theorem Lh (_:RunsL P lo fr c n nb tm0 hp0 e tm1 hp1) (ρ:List (Nat×Nat)):qaB (hp0.map fun e=>some (e.2.2.ren (qba ρ))=some (e.2.2.ren (qba ρ))):=qh2 (qba ρ) hp0
theorem Lo (h:RunsL P lo fr c n nb tm0 hp0 e tm1 hp1) (ρ:List (Nat×Nat)) {T:Prop} (t:T):qaB (tm0.map fun e=>e.2.ren (qba ρ)=e.2.ren (qba ρ))∧qaB (hp0.map fun e=>some (e.2.2.ren (qba ρ))=some (e.2.2.ren (qba ρ)))∧RunsL P lo fr c n nb tm0 hp0 e tm1 hp1∧T:=⟨Lt h ρ,Lh h ρ,h,t⟩
end
theorem Fz {P:Program} {f:FuncId} {k m:Nat} {args:List SV} {pre post:HpL} {x:SV} (ρ:List (Nat×Nat)) (ch:List Ch) {T H:Prop} (hh:H) (ht:T)
 (h:qg3 k m ρ x post (qlS P 300 f k args pre ch)=(x.ren (qba ρ)=x.ren (qba ρ)∧true=true∧H∧T):=by kernel_rfl):FnL P f k args pre x m post:=qdG 300 ρ ch hh ht h
theorem Fx {P:Program} {f:FuncId} {k m:Nat} {args:List SV} {pre post:HpL} {x:SV} (ρ:List (Nat×Nat)) (ch:List Ch) {T H X:Prop} (hx:X) (hh:H) (ht:T)
 (h:qg3 k m ρ x post (qlS P 300 f k args pre ch)=(X∧true=true∧H∧T):=by kernel_rfl):FnL P f k args pre x m post:=qj8 300 ρ ch hx hh ht h
theorem Ro {ρ:List (Nat×Nat)} {lo fr n nb:Nat} {e:Exit} {tm:TmL} {hp:HpL} {r:Option (Exit×St×List Prop)} {T:Prop} (ht:T)
 (h:qcT ρ lo fr n nb e tm hp r=(e=e∧true=true∧qaB (tm.map fun e=>e.2.ren (qba ρ)=e.2.ren (qba ρ))∧qaB (hp.map fun e=>some (e.2.2.ren (qba ρ))=some (e.2.2.ren (qba ρ)))∧T):=by kernel_rfl):qcT ρ lo fr n nb e tm hp r:=qiY ht h
theorem Rh {ρ:List (Nat×Nat)} {lo fr n nb:Nat} {e:Exit} {tm:TmL} {hp:HpL} {r:Option (Exit×St×List Prop)} {T H:Prop} (hh:H) (ht:T)
 (h:qcT ρ lo fr n nb e tm hp r=(e=e∧true=true∧qaB (tm.map fun e=>e.2.ren (qba ρ)=e.2.ren (qba ρ))∧H∧T):=by kernel_rfl):qcT ρ lo fr n nb e tm hp r:=qir hh ht h
def Rf {P:Program} {f:FuncId} {args:Array Value} {v:Value} (_:Pure P f args v):Ch:=.r v
def Re {v w:Value} (_:v=w):Ch:=.r w
end Go.Proofs.Ytleaeldgaflmkaa
