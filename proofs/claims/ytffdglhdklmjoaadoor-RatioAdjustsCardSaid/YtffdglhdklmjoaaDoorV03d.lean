/-
  Layer 3: RatioAdjusts, all cases.
-/
import Derived.Test.YtffdglhdklmjoaaDoorV03a111
import Derived.Test.YtffdglhdklmjoaaDoorV03a110
import Derived.Test.YtffdglhdklmjoaaDoorV03a101
import Derived.Test.YtffdglhdklmjoaaDoorV03a100
import Derived.Test.YtffdglhdklmjoaaDoorV03a011
import Derived.Test.YtffdglhdklmjoaaDoorV03a010
import Derived.Test.YtffdglhdklmjoaaDoorV03a001
import Derived.Test.YtffdglhdklmjoaaDoorV03a000
namespace Go.Proofs.YtffdglhdklmjoaaDoor
open Go.RowKit Go.Extern.Stop Go.Stop Go.Extern
set_option linter.unusedVariables false
set_option linter.unusedSimpArgs false
theorem walkRatioAdjusts (m s b0 b1 : Int) (hm : 0 ≤ m ∧ m ≤ 4294967295) (hs : InR s) (h0 : -2147483648 ≤ b0 ∧ b0 ≤ 2147483647) (h1 : -2147483648 ≤ b1 ∧ b1 ≤ 2147483647) (w : World) (hg : w.cell? ⟨0, 0, none⟩ = some asHandle) :
    Calls Tryd.prog 9 #[.agg #[.int .u32 m, .int .i64 s], .agg #[.int .i32 b0, .int .i32 b1]] w fun e w' => e = .returned (.bool true) ∧ Below w.heap.size w w' := by
  by_cases hc : 1 ≤ m ∧ 0 ≤ s ∧ s ≤ 31
  · obtain ⟨m0, s0, s1⟩ := hc
    have m1 : m < 4294967296 := by omega
    obtain ⟨lo, hi, hmn, hmx, hlo, l0, l1⟩ : ∃ lo hi : Int, (if b1 < b0 then b1 else b0) = lo ∧ (if b0 < b1 then b1 else b0) = hi ∧ lo ≤ hi ∧ -2147483648 ≤ lo ∧ hi ≤ 2147483647 := by
      refine ⟨_, _, rfl, rfl, ?_, ?_, ?_⟩
      · split <;> split <;> omega
      · split <;> omega
      · split <;> omega
    by_cases g : 1 ≤ adjF m lo ∧ adjF m lo ≤ 4294967295
    all_goals by_cases h : 1 ≤ adjF m hi ∧ adjF m hi ≤ 4294967295
    all_goals by_cases i : m < 2147483648
    · exact adj_111 m s b0 b1 w m0 m1 s0 s1 h0.1 h0.2 h1.1 h1.2 lo hi hmn hmx hlo l0 l1 g h i hg
    · exact adj_110 m s b0 b1 w m0 m1 s0 s1 h0.1 h0.2 h1.1 h1.2 lo hi hmn hmx hlo l0 l1 g h (by omega) hg
    · exact adj_101 m s b0 b1 w m0 m1 s0 s1 h0.1 h0.2 h1.1 h1.2 lo hi hmn hmx hlo l0 l1 g h i hg
    · exact adj_100 m s b0 b1 w m0 m1 s0 s1 h0.1 h0.2 h1.1 h1.2 lo hi hmn hmx hlo l0 l1 g h (by omega) hg
    · exact adj_011 m s b0 b1 w m0 m1 s0 s1 h0.1 h0.2 h1.1 h1.2 lo hi hmn hmx hlo l0 l1 g h i hg
    · exact adj_010 m s b0 b1 w m0 m1 s0 s1 h0.1 h0.2 h1.1 h1.2 lo hi hmn hmx hlo l0 l1 g h (by omega) hg
    · exact adj_001 m s b0 b1 w m0 m1 s0 s1 h0.1 h0.2 h1.1 h1.2 lo hi hmn hmx hlo l0 l1 g h i hg
    · exact adj_000 m s b0 b1 w m0 m1 s0 s1 h0.1 h0.2 h1.1 h1.2 lo hi hmn hmx hlo l0 l1 g h (by omega) hg
  · exact adj_bad m s b0 b1 w hc hm.1 hg
end Go.Proofs.YtffdglhdklmjoaaDoor
