/-
  Layer 13: the statement SpanMeets.
-/
import Derived.Test.YtgkpbokipnfddaaDoorV13ma
import Derived.Test.YtgkpbokipnfddaaDoorV13mb
import Derived.Test.YtgkpbokipnfddaaDoorV13mc
import Derived.Test.YtgkpbokipnfddaaDoorV13md
import Derived.Test.YtgkpbokipnfddaaDoorV13me
namespace Go.Proofs.YtgkpbokipnfddaaDoor
open Go.RowKit Go.Extern.Stop Go.Stop Go.Extern
set_option linter.unusedVariables false
set_option linter.unusedSimpArgs false
theorem walkSpanMeets (a0 a1 b0 b1 o0 o1 : Int) (i1 : InR a0) (i2 : InR a1) (i3 : InR b0) (i4 : InR b1) (j1 : -2147483648 ≤ o0 ∧ o0 ≤ 2147483647) (j2 : -2147483648 ≤ o1 ∧ o1 ≤ 2147483647) (w : World) (hg : w.cell? ⟨0, 0, none⟩ = some asHandle) :
    Calls Tryd.prog 6 #[.agg #[.int .i64 a0, .int .i64 a1], .agg #[.int .i64 b0, .int .i64 b1], .agg #[.int .i32 o0, .int .i32 o1]] w fun e w' => e = .returned (.bool true) ∧ Below w.heap.size w w' := by
  by_cases h1 : a0 ≤ a1
  · by_cases h2 : b0 ≤ b1
    · by_cases g : o1 < 0
      · by_cases h3 : mx a0 b0 ≤ mn a1 b1
        · by_cases h4 : a0 ≤ o0 ∧ o0 ≤ a1
          · by_cases h5 : b0 ≤ o0 ∧ o0 ≤ b1
            · exact meets_D3_neg a0 a1 b0 b1 o0 o1 i1 i2 i3 i4 j1 j2 h1 h2 h3 h4 h5 g w hg
            · exact meets_D2_neg a0 a1 b0 b1 o0 o1 i1 i2 i3 i4 j1 j2 h1 h2 h3 h4 h5 g w hg
          · exact meets_D1_neg a0 a1 b0 b1 o0 o1 i1 i2 i3 i4 j1 j2 h1 h2 h3 h4 g w hg
        · have h3' : mn a1 b1 < mx a0 b0 := Int.not_le.1 h3
          by_cases h4 : a0 ≤ o0 ∧ o0 ≤ a1
          · have h5 : ¬ (b0 ≤ o0 ∧ o0 ≤ b1) := by
              intro h5
              unfold mn mx at h3'
              split at h3' <;> split at h3' <;> omega
            exact meets_C2_neg a0 a1 b0 b1 o0 o1 i1 i2 i3 i4 j1 j2 h1 h2 h3' h4 h5 g w hg
          · exact meets_C1_neg a0 a1 b0 b1 o0 o1 i1 i2 i3 i4 j1 j2 h1 h2 h3' h4 g w hg
      · by_cases h3 : mx a0 b0 ≤ mn a1 b1
        · by_cases h4 : a0 ≤ o0 ∧ o0 ≤ a1
          · by_cases h5 : b0 ≤ o0 ∧ o0 ≤ b1
            · exact meets_D3_pos a0 a1 b0 b1 o0 o1 i1 i2 i3 i4 j1 j2 h1 h2 h3 h4 h5 (by omega) w hg
            · exact meets_D2_pos a0 a1 b0 b1 o0 o1 i1 i2 i3 i4 j1 j2 h1 h2 h3 h4 h5 (by omega) w hg
          · exact meets_D1_pos a0 a1 b0 b1 o0 o1 i1 i2 i3 i4 j1 j2 h1 h2 h3 h4 (by omega) w hg
        · have h3' : mn a1 b1 < mx a0 b0 := Int.not_le.1 h3
          by_cases h4 : a0 ≤ o0 ∧ o0 ≤ a1
          · have h5 : ¬ (b0 ≤ o0 ∧ o0 ≤ b1) := by
              intro h5
              unfold mn mx at h3'
              split at h3' <;> split at h3' <;> omega
            exact meets_C2_pos a0 a1 b0 b1 o0 o1 i1 i2 i3 i4 j1 j2 h1 h2 h3' h4 h5 (by omega) w hg
          · exact meets_C1_pos a0 a1 b0 b1 o0 o1 i1 i2 i3 i4 j1 j2 h1 h2 h3' h4 (by omega) w hg
    · by_cases g : o1 < 0
      · exact meets_B_neg a0 a1 b0 b1 o0 o1 i1 i2 i3 i4 j1 j2 h1 (by omega) g w hg
      · exact meets_B_pos a0 a1 b0 b1 o0 o1 i1 i2 i3 i4 j1 j2 h1 (by omega) (by omega) w hg
  · exact meets_A a0 a1 b0 b1 o0 o1 i1 i2 i3 i4 j1 j2 (by omega) w hg
end Go.Proofs.YtgkpbokipnfddaaDoor
