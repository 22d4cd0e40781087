/-
  All pairs of a field's points: what the iterator gives. Conditions: none.
-/
import Derived.Test.YtgbmdijodlfcaaaSxT
import Derived.Test.YtgbmdijodlfcaaaW26
import Derived.Test.YtgbmdijodlfcaaaW21
namespace Go.Proofs.Ytgbmdijodlfcaaa
set_option maxRecDepth 100000
open Go.RowKit
def qjn:List Pt→List (Pt×Pt)
 | []=>[]
 | p::r=>r.map (fun q=>(p,q))++qjn r
def qqV (x:Pt×Pt):Array Value:=#[ptV x.1,ptV x.2]
abbrev qpf (l:List Pt):List (Array Value):=(qjn l).map qqV
section
end
end Go.Proofs.Ytgbmdijodlfcaaa
