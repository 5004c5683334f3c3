/-
 sort.Search at this program, by the library's contract.
-/
import Derived.Test.YtikfgnmljpjnbaaDoorZzpob
import Derived.Shelf.SlSorted.Search
import Derived.RegionTactic
namespace Go.Proofs.YtikfgnmljpjnbaaDoor
open Go.RowKit Go.Extern.Stop Go.Stop Go.Extern Go.Shelf Go.Lib Go.Sort Go.Proofs.YtikfgnmljpjnbaaDoor.Sy
set_option linter.unusedVariables false
set_option linter.unusedSimpArgs false
abbrev KR : SK := .cons (.int .i64) (.cons (.int .i64) (.cons .str .nil))
def srchN (l : List Value) (sec : Int) : Nat := (List.range (l.length / 3)).countP fun i => !decide (sec < Go.RowKit.intOf (l.getD (i * 3) Go.undef))
end Go.Proofs.YtikfgnmljpjnbaaDoor
