/-
  All pairs of a field's points: what the iterator gives. Conditions: none.
-/
import Derived.Test.YtgbmdijodlfcaaaSxT
import Derived.Test.YtgbmdijodlfcaaaW24
import Derived.Test.YtgbmdijodlfcaaaW21
namespace Go.Proofs.Ytgbmdijodlfcaaa
set_option maxRecDepth 100000
open Go.RowKit
def qjv:List Pt→List (Pt×Pt)
 | []=>[]
 | p::r=>r.map (fun q=>(p,q))++qjv r
def qqv (x:Pt×Pt):Array Value:=#[ptV x.1,ptV x.2]
abbrev qox (l:List Pt):List (Array Value):=(qjv l).map qqv
section
end
end Go.Proofs.Ytgbmdijodlfcaaa
