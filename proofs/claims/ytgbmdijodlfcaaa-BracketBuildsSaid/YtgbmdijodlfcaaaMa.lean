/-
  All pairs of a field's points: what the iterator gives. Conditions: none.
-/
import Derived.Test.YtgbmdijodlfcaaaSxT
import Derived.Test.YtgbmdijodlfcaaaW26
import Derived.Test.YtgbmdijodlfcaaaW21
namespace Go.Proofs.Ytgbmdijodlfcaaa
set_option maxRecDepth 100000
open Go.RowKit
def qi0:List Pt→List (Pt×Pt)
 | []=>[]
 | p::r=>r.map (fun q=>(p,q))++qi0 r
def qsd (x:Pt×Pt):Array Value:=#[ptV x.1,ptV x.2]
abbrev qp2 (l:List Pt):List (Array Value):=(qi0 l).map qsd
section
end
end Go.Proofs.Ytgbmdijodlfcaaa
