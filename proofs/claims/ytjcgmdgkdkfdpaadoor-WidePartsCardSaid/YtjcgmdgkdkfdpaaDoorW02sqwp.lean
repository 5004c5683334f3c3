/-
  Numbers of digits: a product divided.
-/
import Derived.Test.YtjcgmdgkdkfdpaaDoorW02rqwp
import Derived.Test.YtjcgmdgkdkfdpaaDoorW02nqwp
import Derived.Test.YtjcgmdgkdkfdpaaDoorW02jqwp
import Derived.Test.YtjcgmdgkdkfdpaaDoorW02eqwp
namespace Go.Proofs.YtjcgmdgkdkfdpaaDoor
open Go.RowKit Go.Extern.Stop Go.Stop Go.Extern
set_option linter.unusedVariables false
set_option linter.unusedSimpArgs false
theorem div_qp (x d q r : Int) (w : World) (hx0 : -170141183460469231731687303715884105728 ≤ x) (hx1 : x ≤ 170141183460469231731687303715884105728) (hd0 : 1 ≤ d) (hd1 : d ≤ 170141183460469231731687303715884105728) (hq : x / d = q) (hr : x % d = r) (h0 : 0 ≤ q) :
    Calls Tryd.prog 32 #[bigV x, bigV d] w fun e w' => e = .returned (.tuple #[.agg #[.bool false, .int .u64 (dg (q) 0), .int .u64 (dg (q) 1), .int .u64 (dg (q) 2), .int .u64 (dg (q) 3), .int .u64 (dg (q) 4), .int .u64 (dg (q) 5), .int .u64 (dg (q) 6), .int .u64 (dg (q) 7)], .agg #[.bool false, .int .u64 (dg (r) 0), .int .u64 (dg (r) 1), .int .u64 (dg (r) 2), .int .u64 (dg (r) 3), .int .u64 (dg (r) 4), .int .u64 (dg (r) 5), .int .u64 (dg (r) 6), .int .u64 (dg (r) 7)]]) ∧ Below w.heap.size w w' := by
  have hx : 0 ≤ x := by
    by_cases h : 0 ≤ x
    · exact h
    · exact absurd (Int.ediv_neg_of_neg_of_pos (show x < 0 by omega) (show 0 < d by omega)) (by omega)
  rw [bigV_pos x hx, bigV_pos d (by omega), ← hq, ← hr]
  exact div_pos_raw x d w hx (by unfold B8; omega) (by omega) (by omega)
theorem div_qn (x d y r : Int) (w : World) (hx0 : -170141183460469231731687303715884105728 ≤ x) (hx1 : x ≤ 170141183460469231731687303715884105728) (hd0 : 1 ≤ d) (hd1 : d ≤ 170141183460469231731687303715884105728) (hq : x / d = -y) (hr : x % d = r) (h0 : 1 ≤ y) :
    Calls Tryd.prog 32 #[bigV x, bigV d] w fun e w' => e = .returned (.tuple #[.agg #[.bool true, .int .u64 (dg (y) 0), .int .u64 (dg (y) 1), .int .u64 (dg (y) 2), .int .u64 (dg (y) 3), .int .u64 (dg (y) 4), .int .u64 (dg (y) 5), .int .u64 (dg (y) 6), .int .u64 (dg (y) 7)], .agg #[.bool false, .int .u64 (dg (r) 0), .int .u64 (dg (r) 1), .int .u64 (dg (r) 2), .int .u64 (dg (r) 3), .int .u64 (dg (r) 4), .int .u64 (dg (r) 5), .int .u64 (dg (r) 6), .int .u64 (dg (r) 7)]]) ∧ Below w.heap.size w w' := by
  have hx : x < 0 := by
    by_cases h : 0 ≤ x
    · exact absurd (Int.ediv_nonneg h (show 0 ≤ d by omega)) (by omega)
    · omega
  obtain ⟨X, hX⟩ : ∃ X, X = -x := ⟨_, rfl⟩
  rw [bigV_neg x X hx hX, bigV_pos d (by omega)]
  obtain rfl : x = -X := by omega
  have hd : 0 < d := by omega
  by_cases hm : X % d = 0
  · have h1 := neg_div0 hd hm
    rw [h1.2] at hr
    have hqy : X / d = y := by omega
    subst hr
    rw [← hqy, ← hm]
    exact div_neg_N0 X d w (by omega) (by unfold B8; omega) hd (by omega) (Lib.hid hm) (Lib.hid (by omega))
  · have h1 := neg_div1 hd hm
    rw [h1.2] at hr
    by_cases hz : X / d = 0
    · have hqy : y = 1 := by omega
      rw [← hr, hqy]
      exact div_neg_N1 X d w (by omega) (by unfold B8; omega) hd (by omega) (Lib.hid hm) (Lib.hid hz)
    · have hqy : X / d + 1 = y := by omega
      rw [← hr, ← hqy]
      exact div_neg_N2 X d w (by omega) (by unfold B8; omega) hd (by omega) (Lib.hid hm) (Lib.hid hz) (by unfold B8; omega)
end Go.Proofs.YtjcgmdgkdkfdpaaDoor
