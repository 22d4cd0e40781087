/-
  Those of an iterator's meetings that a closure keeps. Conditions: none.
-/
import Derived.Test.YtgbmdijodlfcaaaSxT
import Derived.Test.YtgbmdijodlfcaaaW2
import Derived.Test.YtgbmdijodlfcaaaW21
namespace Go.Proofs.Ytgbmdijodlfcaaa
set_option maxRecDepth 100000
open Go.RowKit
structure Mt where
 n:Int
 d:Int
 i:Int
 j:Int
theorem qjH {α:Type} {X:List α} {k:Nat} {x:α} (h:X[k]?=some x):X.take (k+1)=X.take k++[x]:=by rw[List.take_add_one,h];rfl
section
variable (y:Nat) (ga gk:FuncId) (ca ck:Array Value) (m:Mt)
end
end Go.Proofs.Ytgbmdijodlfcaaa
