/-
  Layer 13: the statement SpanSteps.
-/
import Derived.Test.YtgkpbokipnfddaaDoorV13sa
import Derived.Test.YtgkpbokipnfddaaDoorV13sb
import Derived.Test.YtgkpbokipnfddaaDoorV13sc
namespace Go.Proofs.YtgkpbokipnfddaaDoor
open Go.RowKit Go.Extern.Stop Go.Stop Go.Extern
set_option linter.unusedVariables false
set_option linter.unusedSimpArgs false
theorem walkSpanSteps (a0 a1 b0 b1 n : Int) (i1 : InR a0) (i2 : InR a1) (i3 : InR b0) (i4 : InR b1) (i5 : InR n) (w : World) (hg : w.cell? ⟨0, 0, none⟩ = some asHandle) :
    Calls Tryd.prog 3 #[.agg #[.int .i64 a0, .int .i64 a1], .agg #[.int .i64 b0, .int .i64 b1], .int .i64 n] w fun e w' => e = .returned (.bool true) ∧ Below w.heap.size w w' := by
  by_cases h1 : a0 ≤ a1
  · by_cases g : n < 0
    · by_cases h2 : b0 ≤ b1
      · by_cases h3 : a0 ≤ b1
        · by_cases h4 : b0 ≤ a1
          · exact steps_D_neg a0 a1 b0 b1 n i1 i2 i3 i4 i5 h1 h2 h3 h4 g w hg
          · exact steps_C2_neg a0 a1 b0 b1 n i1 i2 i3 i4 i5 h1 h2 h3 (by omega) g w hg
        · exact steps_C1_neg a0 a1 b0 b1 n i1 i2 i3 i4 i5 h1 h2 (by omega) g w hg
      · exact steps_B_neg a0 a1 b0 b1 n i1 i2 i3 i4 i5 h1 (by omega) g w hg
    · by_cases h2 : b0 ≤ b1
      · by_cases h3 : a0 ≤ b1
        · by_cases h4 : b0 ≤ a1
          · exact steps_D_pos a0 a1 b0 b1 n i1 i2 i3 i4 i5 h1 h2 h3 h4 (by omega) w hg
          · exact steps_C2_pos a0 a1 b0 b1 n i1 i2 i3 i4 i5 h1 h2 h3 (by omega) (by omega) w hg
        · exact steps_C1_pos a0 a1 b0 b1 n i1 i2 i3 i4 i5 h1 h2 (by omega) (by omega) w hg
      · exact steps_B_pos a0 a1 b0 b1 n i1 i2 i3 i4 i5 h1 (by omega) (by omega) w hg
  · exact steps_A a0 a1 b0 b1 n i1 i2 i3 i4 i5 (by omega) w hg
end Go.Proofs.YtgkpbokipnfddaaDoor
