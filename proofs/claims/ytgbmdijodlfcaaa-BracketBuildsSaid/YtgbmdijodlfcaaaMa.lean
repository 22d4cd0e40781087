/-
  All pairs of a field's points: what the iterator gives. Conditions: none.
-/
import Derived.Test.YtgbmdijodlfcaaaSxT
import Derived.Test.YtgbmdijodlfcaaaW26
import Derived.Test.YtgbmdijodlfcaaaW21
namespace Go.Proofs.Ytgbmdijodlfcaaa
set_option maxRecDepth 100000
open Go.RowKit
def qjh:List Pt→List (Pt×Pt)
 | []=>[]
 | p::r=>r.map (fun q=>(p,q))++qjh r
def qrs (x:Pt×Pt):Array Value:=#[ptV x.1,ptV x.2]
abbrev qp0 (l:List Pt):List (Array Value):=(qjh l).map qrs
section
end
end Go.Proofs.Ytgbmdijodlfcaaa
