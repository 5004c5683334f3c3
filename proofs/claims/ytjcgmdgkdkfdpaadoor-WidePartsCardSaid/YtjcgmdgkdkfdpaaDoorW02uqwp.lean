/-
  What grows, rounded up, by the references of the layers 14 and 17.
-/
import Derived.Test.YtjcgmdgkdkfdpaaDoorW02sqwp
import Derived.Test.YtjcgmdgkdkfdpaaDoorW02kqwp
import Derived.Test.YtjcgmdgkdkfdpaaDoorW17qwp
namespace Go.Proofs.YtjcgmdgkdkfdpaaDoor
open Go.RowKit Go.Extern.Stop Go.Stop Go.Extern
set_option linter.unusedVariables false
set_option linter.unusedSimpArgs false
theorem power_i (n z : Int) (w : World) (h0 : 0 ≤ n) (hn : n ≤ 200) (hz : z = 2 ^ n.toNat) : Calls Tryd.prog 33 #[.int .i64 n] w fun e w' => e = .returned (bigV z) ∧ Below w.heap.size w w' := by
  obtain ⟨k, rfl⟩ := Int.eq_ofNat_of_zero_le h0
  exact power_b k z w (by omega) hz
end Go.Proofs.YtjcgmdgkdkfdpaaDoor
