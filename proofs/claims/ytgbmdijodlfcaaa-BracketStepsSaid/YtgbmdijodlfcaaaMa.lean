/-
  All pairs of a field's points: what the iterator gives. Conditions: none.
-/
import Derived.Test.YtgbmdijodlfcaaaSxT
import Derived.Test.YtgbmdijodlfcaaaW24
import Derived.Test.YtgbmdijodlfcaaaW21
namespace Go.Proofs.Ytgbmdijodlfcaaa
set_option maxRecDepth 100000
open Go.RowKit
def qiP:List Pt→List (Pt×Pt)
 | []=>[]
 | p::r=>r.map (fun q=>(p,q))++qiP r
def qqc (x:Pt×Pt):Array Value:=#[ptV x.1,ptV x.2]
abbrev qn9 (l:List Pt):List (Array Value):=(qiP l).map qqc
section
end
end Go.Proofs.Ytgbmdijodlfcaaa
