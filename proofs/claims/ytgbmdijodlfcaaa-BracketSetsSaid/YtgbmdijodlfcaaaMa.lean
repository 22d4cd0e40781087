/-
  All pairs of a field's points: what the iterator gives. Conditions: none.
-/
import Derived.Test.YtgbmdijodlfcaaaSxT
import Derived.Test.YtgbmdijodlfcaaaW26
import Derived.Test.YtgbmdijodlfcaaaW21
namespace Go.Proofs.Ytgbmdijodlfcaaa
set_option maxRecDepth 100000
open Go.RowKit
def qjK:List Pt→List (Pt×Pt)
 | []=>[]
 | p::r=>r.map (fun q=>(p,q))++qjK r
def qrF (x:Pt×Pt):Array Value:=#[ptV x.1,ptV x.2]
abbrev qpb (l:List Pt):List (Array Value):=(qjK l).map qrF
section
end
end Go.Proofs.Ytgbmdijodlfcaaa
