/-
  Layer 13: spans that are met, lemmas.
-/
import Derived.Test.YtgkpbokipnfddaaDoorV13
namespace Go.Proofs.YtgkpbokipnfddaaDoor
open Go.RowKit Go.Extern.Stop Go.Stop Go.Extern
set_option linter.unusedVariables false
set_option linter.unusedSimpArgs false
/-- A block of so many cells is there, and holds these. -/
abbrev B1 (b : Nat) (x : Value) (wx : World) : Prop := b < wx.heap.size ∧ wx.cell? ⟨b, 0, none⟩ = some x
abbrev B2 (b : Nat) (x y : Value) (wx : World) : Prop := b < wx.heap.size ∧ wx.cell? ⟨b, 0, none⟩ = some x ∧ wx.cell? ⟨b, 1, none⟩ = some y
abbrev B3 (b : Nat) (x y z : Value) (wx : World) : Prop := b < wx.heap.size ∧ wx.cell? ⟨b, 0, none⟩ = some x ∧ wx.cell? ⟨b, 1, none⟩ = some y ∧ wx.cell? ⟨b, 2, none⟩ = some z
theorem B1.step {b : Nat} {x : Value} {wx w' : World} (h : B1 b x wx) (hb : Below wx.heap.size wx w') : B1 b x w' :=
  ⟨Nat.lt_of_lt_of_le h.1 hb.size, by rw [hb.cell (p := ⟨b, 0, none⟩) h.1]; exact h.2⟩
theorem B2.step {b : Nat} {x y : Value} {wx w' : World} (h : B2 b x y wx) (hb : Below wx.heap.size wx w') : B2 b x y w' :=
  ⟨Nat.lt_of_lt_of_le h.1 hb.size, by rw [hb.cell (p := ⟨b, 0, none⟩) h.1]; exact h.2.1, by rw [hb.cell (p := ⟨b, 1, none⟩) h.1]; exact h.2.2⟩
theorem B3.step {b : Nat} {x y z : Value} {wx w' : World} (h : B3 b x y z wx) (hb : Below wx.heap.size wx w') : B3 b x y z w' :=
  ⟨Nat.lt_of_lt_of_le h.1 hb.size, by rw [hb.cell (p := ⟨b, 0, none⟩) h.1]; exact h.2.1, by rw [hb.cell (p := ⟨b, 1, none⟩) h.1]; exact h.2.2.1, by rw [hb.cell (p := ⟨b, 2, none⟩) h.1]; exact h.2.2.2⟩
theorem sp_has_is (lo hi n : Int) (w : World) (h : lo ≤ n ∧ n ≤ hi) : Calls Tryd.prog 17 #[.agg #[.int .i64 lo, .int .i64 hi], .int .i64 n] w fun e w' => e = .returned (.bool true) ∧ Below w.heap.size w w' := sp_has_yes lo hi n w h.1 h.2
theorem sp_has_not (lo hi n : Int) (w : World) (h : ¬ (lo ≤ n ∧ n ≤ hi)) : Calls Tryd.prog 17 #[.agg #[.int .i64 lo, .int .i64 hi], .int .i64 n] w fun e w' => e = .returned (.bool false) ∧ Below w.heap.size w w' := by
  by_cases h1 : lo ≤ n
  · exact sp_has_hi lo hi n w h1 (by omega)
  · exact sp_has_lo lo hi n w (by omega)
theorem sp_meet_sw_a (a b c d : Int) (w : World) (h : d < c) : Calls Tryd.prog 14 #[.agg #[.int .i64 a, .int .i64 b], .agg #[.int .i64 c, .int .i64 d]] w fun e w' => e = .returned (.tuple #[.agg #[.int .i64 0, .int .i64 0], .bool false]) ∧ Below w.heap.size w w' := by
  by_cases h1 : a ≤ b
  · exact sp_meet_b a b c d _ _ w rfl rfl h1 h
  · exact sp_meet_a a b c d _ _ w rfl rfl (by omega)
theorem sp_meet_cc (a b c d : Int) (w : World) (h1 : a ≤ b) (h2 : c ≤ d) (h3 : mn b d < mx a c) : Calls Tryd.prog 14 #[.agg #[.int .i64 a, .int .i64 b], .agg #[.int .i64 c, .int .i64 d]] w fun e w' => e = .returned (.tuple #[.agg #[.int .i64 0, .int .i64 0], .bool false]) ∧ Below w.heap.size w w' := sp_meet_c a b c d _ _ w rfl rfl h1 h2 h3
theorem mid_tri (a0 a1 M : Int) (h0 : a0 ≤ M) (h1 : M ≤ a1) (hM : a0 + (a1 - a0) / 2 = M) : a0 < -2305843009213693952 ∨ (-2305843009213693952 ≤ a0 ∧ 2305843009213693952 < a1) ∨ (-2305843009213693952 ≤ a0 ∧ a1 ≤ 2305843009213693952 ∧ M - a0 ≤ sat (a1 - M) ∧ sat (a1 - M) - (M - a0) ≤ 1) := by
  rcases Int.lt_or_le a0 (-2305843009213693952) with h | h
  · exact Or.inl h
  · rcases Int.lt_or_le 2305843009213693952 a1 with h2 | h2
    · exact Or.inr (Or.inl ⟨h, h2⟩)
    · have hs : sat (a1 - M) = a1 - M := sat_i (by omega)
      rw [hs]
      exact Or.inr (Or.inr ⟨h, h2, by omega, by omega⟩)
theorem mx_sw {a0 a1 b0 b1 : Int} (h : mn a1 b1 < mx a0 b0) : mn b1 a1 < mx b0 a0 := by
  unfold mn mx at *
  split at h <;> split at h <;> split <;> split <;> omega
theorem sat_dn (a n : Int) (h : 0 ≤ n) (i : InR a) : sat (a - n) ≤ a := by unfold sat; split; omega; split <;> omega
theorem sat_up (a n : Int) (h : 0 ≤ n) (i : InR a) : a ≤ sat (a + n) := by unfold sat; split; omega; split <;> omega
end Go.Proofs.YtgkpbokipnfddaaDoor
