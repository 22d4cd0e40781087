/-
  All pairs of a field's points: what the iterator gives. Conditions: none.
-/
import Derived.Test.YtgbmdijodlfcaaaSxT
import Derived.Test.YtgbmdijodlfcaaaW24
import Derived.Test.YtgbmdijodlfcaaaW21
namespace Go.Proofs.Ytgbmdijodlfcaaa
set_option maxRecDepth 100000
open Go.RowKit
def qjz:List Pt→List (Pt×Pt)
 | []=>[]
 | p::r=>r.map (fun q=>(p,q))++qjz r
def qq7 (x:Pt×Pt):Array Value:=#[ptV x.1,ptV x.2]
abbrev qox (l:List Pt):List (Array Value):=(qjz l).map qq7
section
end
end Go.Proofs.Ytgbmdijodlfcaaa
