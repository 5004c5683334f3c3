/-
  Layer 3: factors, checked, scaled, adjusted.
-/
import Derived.Test.YtffdglhdklmjoaaDoorW03
namespace Go.Proofs.YtffdglhdklmjoaaDoor
open Go.RowKit Go.Extern.Stop Go.Stop Go.Extern
set_option linter.unusedVariables false
set_option linter.unusedSimpArgs false
theorem near_nums {n0 n1 M a b p : Int} (hp : 0 < p) (hb : 0 < b) (ha : 0 ≤ a) (hM : M = a * p / b) (h0 : 0 ≤ n0) (h1 : n0 ≤ n1) :
    0 ≤ n0 * M / p ∧ n0 * M / p ≤ n1 * M / p ∧ n0 * M / p ≤ n0 * a / b ∧ n0 * a / b - n0 * M / p ≤ n0 / p + 2 ∧ 0 ≤ n0 / p := by
  have M0 : 0 ≤ M := by rw [hM]; exact Int.ediv_nonneg (Int.mul_nonneg ha (by omega)) (by omega)
  have m1 : M * b ≤ a * p := by rw [hM]; exact Int.ediv_mul_le _ (by omega)
  have m2 : a * p < (M + 1) * b := by rw [hM]; exact Int.lt_ediv_add_one_mul_self _ hb
  have x1 : n0 * M / p * p ≤ n0 * M := Int.ediv_mul_le _ (by omega)
  have x2 : n0 * M < (n0 * M / p + 1) * p := Int.lt_ediv_add_one_mul_self _ hp
  have x3 : n0 < (n0 / p + 1) * p := Int.lt_ediv_add_one_mul_self _ hp
  have e1 : n0 * a / b * b ≤ n0 * a := Int.ediv_mul_le _ (by omega)
  refine ⟨Int.ediv_nonneg (Int.mul_nonneg h0 M0) (by omega), Int.ediv_le_ediv hp (Int.mul_le_mul_of_nonneg_right h1 M0), ?_, ?_, Int.ediv_nonneg h0 (by omega)⟩
  · refine Int.le_ediv_of_mul_le hb ?_
    refine Int.le_of_mul_le_mul_right (a := p) ?_ hp
    have s1 : n0 * M / p * p * b ≤ n0 * M * b := Int.mul_le_mul_of_nonneg_right x1 (by omega)
    have s2 : n0 * (M * b) ≤ n0 * (a * p) := Int.mul_le_mul_of_nonneg_left m1 h0
    rw [Int.mul_right_comm (n0 * M / p) b p, Int.mul_assoc n0 a p]
    rw [Int.mul_assoc n0 M b] at s1
    omega
  · have s1 : n0 * a / b * b * p ≤ n0 * a * p := Int.mul_le_mul_of_nonneg_right e1 (by omega)
    have s2 : n0 * (a * p) ≤ n0 * ((M + 1) * b) := Int.mul_le_mul_of_nonneg_left (by omega) h0
    have s7 : n0 * ((M + 1) * b) = (n0 * M + n0) * b := by rw [← Int.mul_assoc, Int.mul_add, Int.mul_one]
    have s3 : n0 * a / b * p * b ≤ (n0 * M + n0) * b := by
      rw [Int.mul_right_comm (n0 * a / b) p b]
      rw [Int.mul_assoc n0 a p] at s1
      omega
    have s4 : n0 * a / b * p ≤ n0 * M + n0 := Int.le_of_mul_le_mul_right s3 hb
    have s5 : n0 * a / b * p < (n0 * M / p + n0 / p + 2) * p := by
      have : (n0 * M / p + n0 / p + 2) * p = (n0 * M / p + 1) * p + (n0 / p + 1) * p := by rw [← Int.add_mul]; congr 1; omega
      omega
    have s6 : n0 * a / b < n0 * M / p + n0 / p + 2 := Int.lt_of_mul_lt_mul_right s5 (by omega)
    omega
set_option maxHeartbeats 1000000 in
theorem rcheck_ok (m s : Int) (w : World) (m0 : 1 ≤ m) (m1 : m < 4294967296) (s0 : 0 ≤ s) (s1 : s ≤ 31) : Calls Tryd.prog 52 #[.agg #[.int .u32 m, .int .i64 s]] w fun e w' => e = .returned (.nilIface) ∧ Below w.heap.size w w' := by
  have hB := Below.refl w.heap.size w
  have z1 : (m == 0) = false := by rw [beq_eq_false_iff_ne]; omega
  go_enter Tryd.func52, Tryd.ntmps52
  go_wp2_with (fail)
  go_ret
  exact ⟨rfl, by repeat (first | with_reducible assumption | exact Below.refl _ _ | refine Below.drew ?_ | refine Below.setCell ?_ (by first | omega | (simp; done) | (simp; omega)) _ | refine Below.alloc ?_ (by first | omega | (simp; done) | (simp; omega)) _)⟩
set_option maxHeartbeats 1000000 in
theorem rcheck_no (m s : Int) (w : World) (h : ¬ (1 ≤ m ∧ 0 ≤ s ∧ s ≤ 31)) (m0 : 0 ≤ m) : Calls Tryd.prog 52 #[.agg #[.int .u32 m, .int .i64 s]] w fun e w' => e = .returned (errV 1) ∧ Below w.heap.size w w' := by
  have hB := Below.refl w.heap.size w
  have hz : (m == 0) = true ∨ (m == 0) = false := by cases (m == 0) <;> simp
  by_cases h1 : s < 0
  all_goals by_cases h2 : 31 < s
  all_goals rcases hz with hz | hz
  all_goals try (exfalso; simp at hz; omega)
  all_goals
    go_enter Tryd.func52, Tryd.ntmps52
    go_wp2_with (fail)
    go_ret
    exact ⟨rfl, by repeat (first | with_reducible assumption | exact Below.refl _ _ | refine Below.drew ?_ | refine Below.setCell ?_ (by first | omega | (simp; done) | (simp; omega)) _ | refine Below.alloc ?_ (by first | omega | (simp; done) | (simp; omega)) _)⟩
set_option maxHeartbeats 1000000 in
theorem rscale (m s n : Int) (w : World) (m0 : 1 ≤ m) (m1 : m < 4294967296) (s0 : 0 ≤ s) (s1 : s ≤ 31) (hn : InR n) (hq : InR (n * m / 2 ^ s.toNat)) : Calls Tryd.prog 45 #[.agg #[.int .u32 m, .int .i64 s], .int .i64 n] w fun e w' => e = .returned (.tuple #[.int .i64 (n * m / 2 ^ s.toNat), .nilIface]) ∧ Below w.heap.size w w' := by
  have hB := Below.refl w.heap.size w
  go_enter Tryd.func45, Tryd.ntmps45
  go_wp2_with (fail)
  go_at_call 52
  (with_reducible refine (rcheck_ok _ _ _ m0 m1 s0 s1).mono ?_)
  rintro e w1 ⟨rfl, HB⟩
  obtain ⟨hc1, hf1⟩ := bcell HB
  have hz1 := HB.size
  try simp at hz1
  replace hB := Below.trans (show Below w.heap.size w _ from by repeat (first | with_reducible assumption | exact Below.refl _ _ | refine Below.drew ?_ | refine Below.setCell ?_ (by first | omega | (simp; done) | (simp; omega)) _ | refine Below.alloc ?_ (by first | omega | (simp; done) | (simp; omega)) _)) (Below.mono (B' := w.heap.size) HB (by first | omega | (simp; done) | (simp; omega)))
  try (have z1w0 : w.heap.size < w1.heap.size := (by omega))
  try (have z1w1 : w.heap.size + 1 < w1.heap.size := (by omega))
  try (have z1w2 : w.heap.size + 1 + 1 < w1.heap.size := (by omega))
  clear HB
  go_wp2_with (fail)
  go_at_call 41
  (with_reducible refine (wmulshift_i _ _ _ _ hn (by omega) m1 s0 s1 hq).mono ?_)
  rintro e w2 ⟨rfl, HB⟩
  obtain ⟨hc2, hf2⟩ := bcell HB
  have hz2 := HB.size
  try simp at hz2
  replace hB := Below.trans (show Below w.heap.size w _ from by repeat (first | with_reducible assumption | exact Below.refl _ _ | refine Below.drew ?_ | refine Below.setCell ?_ (by first | omega | (simp; done) | (simp; omega)) _ | refine Below.alloc ?_ (by first | omega | (simp; done) | (simp; omega)) _)) (Below.mono (B' := w.heap.size) HB (by first | omega | (simp; done) | (simp; omega)))
  try (have z2w0 : w.heap.size < w2.heap.size := (by omega))
  try (have z2w1 : w.heap.size + 1 < w2.heap.size := (by omega))
  try (have z2w2 : w.heap.size + 1 + 1 < w2.heap.size := (by omega))
  try (have z2w10 : w1.heap.size < w2.heap.size := (by omega))
  try (have z2w11 : w1.heap.size + 1 < w2.heap.size := (by omega))
  try (have z2w12 : w1.heap.size + 1 + 1 < w2.heap.size := (by omega))
  clear HB
  go_wp2_with (fail)
  go_ret2
  exact ⟨rfl, by repeat (first | with_reducible assumption | exact Below.refl _ _ | refine Below.drew ?_ | refine Below.setCell ?_ (by first | omega | (simp; done) | (simp; omega)) _ | refine Below.alloc ?_ (by first | omega | (simp; done) | (simp; omega)) _)⟩
set_option maxHeartbeats 1000000 in
theorem rscale_big (m s n : Int) (w : World) (m0 : 1 ≤ m) (m1 : m < 4294967296) (s0 : 0 ≤ s) (s1 : s ≤ 31) (hn : InR n) (hq : ¬ InR (n * m / 2 ^ s.toNat)) : Calls Tryd.prog 45 #[.agg #[.int .u32 m, .int .i64 s], .int .i64 n] w fun e w' => e = .returned (.tuple #[.int .i64 0, errV 2]) ∧ Below w.heap.size w w' := by
  have hB := Below.refl w.heap.size w
  go_enter Tryd.func45, Tryd.ntmps45
  go_wp2_with (fail)
  go_at_call 52
  (with_reducible refine (rcheck_ok _ _ _ m0 m1 s0 s1).mono ?_)
  rintro e w1 ⟨rfl, HB⟩
  obtain ⟨hc1, hf1⟩ := bcell HB
  have hz1 := HB.size
  try simp at hz1
  replace hB := Below.trans (show Below w.heap.size w _ from by repeat (first | with_reducible assumption | exact Below.refl _ _ | refine Below.drew ?_ | refine Below.setCell ?_ (by first | omega | (simp; done) | (simp; omega)) _ | refine Below.alloc ?_ (by first | omega | (simp; done) | (simp; omega)) _)) (Below.mono (B' := w.heap.size) HB (by first | omega | (simp; done) | (simp; omega)))
  try (have z1w0 : w.heap.size < w1.heap.size := (by omega))
  try (have z1w1 : w.heap.size + 1 < w1.heap.size := (by omega))
  try (have z1w2 : w.heap.size + 1 + 1 < w1.heap.size := (by omega))
  clear HB
  go_wp2_with (fail)
  go_at_call 41
  (with_reducible refine (wmulshift_i_big _ _ _ _ hn (by omega) m1 s0 s1 hq).mono ?_)
  rintro e w2 ⟨rfl, HB⟩
  obtain ⟨hc2, hf2⟩ := bcell HB
  have hz2 := HB.size
  try simp at hz2
  replace hB := Below.trans (show Below w.heap.size w _ from by repeat (first | with_reducible assumption | exact Below.refl _ _ | refine Below.drew ?_ | refine Below.setCell ?_ (by first | omega | (simp; done) | (simp; omega)) _ | refine Below.alloc ?_ (by first | omega | (simp; done) | (simp; omega)) _)) (Below.mono (B' := w.heap.size) HB (by first | omega | (simp; done) | (simp; omega)))
  try (have z2w0 : w.heap.size < w2.heap.size := (by omega))
  try (have z2w1 : w.heap.size + 1 < w2.heap.size := (by omega))
  try (have z2w2 : w.heap.size + 1 + 1 < w2.heap.size := (by omega))
  try (have z2w10 : w1.heap.size < w2.heap.size := (by omega))
  try (have z2w11 : w1.heap.size + 1 < w2.heap.size := (by omega))
  try (have z2w12 : w1.heap.size + 1 + 1 < w2.heap.size := (by omega))
  clear HB
  go_wp2_with (fail)
  go_ret2
  exact ⟨rfl, by repeat (first | with_reducible assumption | exact Below.refl _ _ | refine Below.drew ?_ | refine Below.setCell ?_ (by first | omega | (simp; done) | (simp; omega)) _ | refine Below.alloc ?_ (by first | omega | (simp; done) | (simp; omega)) _)⟩
set_option maxHeartbeats 1000000 in
theorem roff (m s n : Int) (w : World) (m0 : 1 ≤ m) (m1 : m < 4294967296) (s0 : 0 ≤ s) (s1 : s ≤ 31) (hn : 0 ≤ n) (hn1 : n ≤ 4611686018427387904) : Calls Tryd.prog 47 #[.agg #[.int .u32 m, .int .i64 s], .int .i64 n] w fun e w' => e = .returned (.tuple #[.int .i64 (n / 2 ^ s.toNat + 2), .nilIface]) ∧ Below w.heap.size w w' := by
  have hB := Below.refl w.heap.size w
  have hp : (0 : Int) < 2 ^ s.toNat := Int.pow_pos (by omega)
  have h1 : 0 ≤ n / 2 ^ s.toNat := Int.ediv_nonneg hn (by omega)
  have h2 : n / 2 ^ s.toNat ≤ n := Int.ediv_le_self _ hn
  go_enter Tryd.func47, Tryd.ntmps47
  go_wp2_with (fail)
  go_at_call 52
  (with_reducible refine (rcheck_ok _ _ _ m0 m1 s0 s1).mono ?_)
  rintro e w1 ⟨rfl, HB⟩
  obtain ⟨hc1, hf1⟩ := bcell HB
  have hz1 := HB.size
  try simp at hz1
  replace hB := Below.trans (show Below w.heap.size w _ from by repeat (first | with_reducible assumption | exact Below.refl _ _ | refine Below.drew ?_ | refine Below.setCell ?_ (by first | omega | (simp; done) | (simp; omega)) _ | refine Below.alloc ?_ (by first | omega | (simp; done) | (simp; omega)) _)) (Below.mono (B' := w.heap.size) HB (by first | omega | (simp; done) | (simp; omega)))
  try (have z1w0 : w.heap.size < w1.heap.size := (by omega))
  try (have z1w1 : w.heap.size + 1 < w1.heap.size := (by omega))
  try (have z1w2 : w.heap.size + 1 + 1 < w1.heap.size := (by omega))
  clear HB
  go_wp2_with (fail)
  go_at_call 110
  (with_reducible refine (add_c _ _ _ (by omega) (by omega)).mono ?_)
  rintro e w2 (⟨h1, rfl, rfl⟩ | ⟨h1, rfl, rfl⟩) <;> try (exfalso; omega)
  go_wp2_with (fail)
  go_ret2
  exact ⟨rfl, by repeat (first | with_reducible assumption | exact Below.refl _ _ | refine Below.drew ?_ | refine Below.setCell ?_ (by first | omega | (simp; done) | (simp; omega)) _ | refine Below.alloc ?_ (by first | omega | (simp; done) | (simp; omega)) _)⟩
set_option maxHeartbeats 1000000 in
theorem radj_no (m s p : Int) (w : World) (h : ¬ (1 ≤ m ∧ 0 ≤ s ∧ s ≤ 31)) (m0 : 0 ≤ m) : Calls Tryd.prog 49 #[.agg #[.int .u32 m, .int .i64 s], .int .i64 p] w fun e w' => e = .returned (.tuple #[.agg #[.int .u32 0, .int .i64 0], errV 1]) ∧ Below w.heap.size w w' := by
  have hB := Below.refl w.heap.size w
  go_enter Tryd.func49, Tryd.ntmps49
  go_wp2_with (fail)
  go_at_call 52
  (with_reducible refine (rcheck_no _ _ _ h m0).mono ?_)
  rintro e w1 ⟨rfl, HB⟩
  obtain ⟨hc1, hf1⟩ := bcell HB
  have hz1 := HB.size
  try simp at hz1
  replace hB := Below.trans (show Below w.heap.size w _ from by repeat (first | with_reducible assumption | exact Below.refl _ _ | refine Below.drew ?_ | refine Below.setCell ?_ (by first | omega | (simp; done) | (simp; omega)) _ | refine Below.alloc ?_ (by first | omega | (simp; done) | (simp; omega)) _)) (Below.mono (B' := w.heap.size) HB (by first | omega | (simp; done) | (simp; omega)))
  try (have z1w0 : w.heap.size < w1.heap.size := (by omega))
  try (have z1w1 : w.heap.size + 1 < w1.heap.size := (by omega))
  try (have z1w2 : w.heap.size + 1 + 1 < w1.heap.size := (by omega))
  clear HB
  go_wp2_with (fail)
  refine bodyPost_ret (v := .tuple #[.agg #[.int .u32 0, .int .i64 0], errV 1]) (by first | (simp [results, Tryd.results49, go_sem]; done) | (simp only [results, Tryd.results49]; go_simp; done) | (simp only [results, Tryd.results49]; go_simp; omega)) rfl (⟨rfl, by repeat (first | with_reducible assumption | exact Below.refl _ _ | refine Below.drew ?_ | refine Below.setCell ?_ (by first | omega | (simp; done) | (simp; omega)) _ | refine Below.alloc ?_ (by first | omega | (simp; done) | (simp; omega)) _)⟩)
abbrev SQ (w : World) (b0 : Nat) (x0 y0 : Value) (b1 : Nat) (x1 y1 : Value) (wx : World) : Prop := R2 b0 x0 y0 wx ∧ R2 b1 x1 y1 wx ∧ Below w.heap.size w wx
theorem SQ.step {w : World} {b0 : Nat} {x0 y0 : Value} {b1 : Nat} {x1 y1 : Value} {wx w' : World} (h : SQ w b0 x0 y0 b1 x1 y1 wx) (hb : Below wx.heap.size wx w') : SQ w b0 x0 y0 b1 x1 y1 w' := ⟨h.1.step hb, h.2.1.step hb, h.2.2.trans (hb.mono h.2.2.size)⟩
theorem SQ.drew {w : World} {b0 : Nat} {x0 y0 : Value} {b1 : Nat} {x1 y1 : Value} {wx : World} (h : SQ w b0 x0 y0 b1 x1 y1 wx) : SQ w b0 x0 y0 b1 x1 y1 wx.drew := h.step (Below.refl _ _).drew
def adjF (m p : Int) : Int := m * (1073741824 + clampS p (-1073741824) 1073741824) / 1073741824
theorem clampK (p : Int) : -1073741824 ≤ clampS p (-1073741824) 1073741824 ∧ clampS p (-1073741824) 1073741824 ≤ 1073741824 := by
  unfold clampS; split
  · omega
  · split <;> omega
theorem clamp_b (a b c : Int) (w : World) (ha : InR a) (hb : InR b) (hc : InR c) : Calls Tryd.prog 111 #[.int .i64 a, .int .i64 b, .int .i64 c] w fun e w' => e = .returned (.int .i64 (clampS a b c)) ∧ Below w.heap.size w w' :=
  (clamp_c a b c w ha hb hc).mono fun _ _ ⟨h1, h2⟩ => ⟨h1, by rw [← h2]; exact Below.refl _ _⟩
set_option maxHeartbeats 1000000 in
theorem radj_ok (m s p : Int) (w : World) (m0 : 1 ≤ m) (m1 : m < 4294967296) (s0 : 0 ≤ s) (s1 : s ≤ 31) (hp : InR p) (v0 : 1 ≤ adjF m p) (v1 : adjF m p ≤ 4294967295) : Calls Tryd.prog 49 #[.agg #[.int .u32 m, .int .i64 s], .int .i64 p] w fun e w' => e = .returned (.tuple #[.agg #[.int .u32 (adjF m p), .int .i64 s], .nilIface]) ∧ Below w.heap.size w w' := by
  have hB := Below.refl w.heap.size w
  have hk := clampK p
  have he : adjF m p = m * (1073741824 + clampS p (-1073741824) 1073741824) / 1073741824 := rfl
  generalize adjF m p = v at *
  generalize hcs : clampS p (-1073741824) 1073741824 = c at *
  have a1 : wrap64 m = m := IntWalk.wrap64_in _ (by omega)
  have a2 : wrap64 (1073741824 + c) = 1073741824 + c := IntWalk.wrap64_in _ (by omega)
  have a3 : 0 ≤ m * (1073741824 + c) ∧ m * (1073741824 + c) ≤ 9223372034707292160 := by
    refine ⟨Int.mul_nonneg (by omega) (by omega), ?_⟩
    have h1 : m * (1073741824 + c) ≤ 4294967295 * (1073741824 + c) := Int.mul_le_mul_of_nonneg_right (by omega) (by omega)
    omega
  have a4 : wrap64 (m * (1073741824 + c)) = m * (1073741824 + c) := IntWalk.wrap64_in _ (by omega)
  have he' := he.symm
  clear he
  have a5 : IntKind.u32.wrap v = v := by rw [IntKind.wrap_u32]; omega
  go_enter Tryd.func49, Tryd.ntmps49
  go_wp2_with (fail)
  go_at_call 52
  (with_reducible refine (rcheck_ok _ _ _ m0 m1 s0 s1).mono ?_)
  rintro e w1 ⟨rfl, HB⟩
  obtain ⟨hc1, hf1⟩ := bcell HB
  have hz1 := HB.size
  try simp at hz1
  replace hB := Below.trans (show Below w.heap.size w _ from by repeat (first | with_reducible assumption | exact Below.refl _ _ | refine Below.drew ?_ | refine Below.setCell ?_ (by first | omega | (simp; done) | (simp; omega)) _ | refine Below.alloc ?_ (by first | omega | (simp; done) | (simp; omega)) _)) (Below.mono (B' := w.heap.size) HB (by first | omega | (simp; done) | (simp; omega)))
  try (have z1w0 : w.heap.size < w1.heap.size := (by omega))
  try (have z1w1 : w.heap.size + 1 < w1.heap.size := (by omega))
  try (have z1w2 : w.heap.size + 1 + 1 < w1.heap.size := (by omega))
  clear HB
  go_wp2_with (fail)
  have hS0 : SQ w w.heap.size (.int .u32 m) (.int .i64 s) (w.heap.size + 1) (.int .u32 0) (.int .i64 0) w1 := ⟨⟨(by first | omega | (simp; done) | (simp; omega)), by go_simp, by go_simp, by go_simp, by go_simp⟩, ⟨(by first | omega | (simp; done) | (simp; omega)), by go_simp, by go_simp, by go_simp, by go_simp⟩, hB⟩
  clear hc1 hf1
  go_region_held3 (fun wx => SQ w w.heap.size (.int .u32 m) (.int .i64 s) (w.heap.size + 1) (.int .u32 0) (.int .i64 0) wx) (first | assumption | exact SQ.drew (by assumption)) (first | (go_at_call 111; (with_reducible refine (clamp_b _ _ _ _ hp (by omega) (by omega)).mono ?_); rw [hcs]; rintro e w' ⟨rfl, hb'⟩; have hS' := SQ.step (by assumption) hb'; clear hb'))
  obtain ⟨⟨r0, r1, r2, r3, r4⟩, ⟨q0, q1, q2, q3, q4⟩, hB2⟩ := hS'
  go_wp2_with (fail)
  refine bodyPost_ret (v := .tuple #[.agg #[.int .u32 v, .int .i64 s], .nilIface]) (by first | (simp [results, Tryd.results49, go_sem]; done) | (simp only [results, Tryd.results49]; go_simp; done) | (simp only [results, Tryd.results49]; go_simp; omega)) rfl (⟨rfl, by repeat (first | with_reducible assumption | exact Below.refl _ _ | refine Below.drew ?_ | refine Below.setCell ?_ (by first | omega | (simp; done) | (simp; omega)) _ | refine Below.alloc ?_ (by first | omega | (simp; done) | (simp; omega)) _)⟩)
set_option maxHeartbeats 1000000 in
theorem radj_big (m s p : Int) (w : World) (m0 : 1 ≤ m) (m1 : m < 4294967296) (s0 : 0 ≤ s) (s1 : s ≤ 31) (hp : InR p) (hv : ¬ (1 ≤ adjF m p ∧ adjF m p ≤ 4294967295)) : Calls Tryd.prog 49 #[.agg #[.int .u32 m, .int .i64 s], .int .i64 p] w fun e w' => e = .returned (.tuple #[.agg #[.int .u32 0, .int .i64 0], errV 2]) ∧ Below w.heap.size w w' := by
  have hB := Below.refl w.heap.size w
  have hk := clampK p
  have he : adjF m p = m * (1073741824 + clampS p (-1073741824) 1073741824) / 1073741824 := rfl
  generalize adjF m p = v at *
  generalize hcs : clampS p (-1073741824) 1073741824 = c at *
  have a1 : wrap64 m = m := IntWalk.wrap64_in _ (by omega)
  have a2 : wrap64 (1073741824 + c) = 1073741824 + c := IntWalk.wrap64_in _ (by omega)
  have a3 : 0 ≤ m * (1073741824 + c) ∧ m * (1073741824 + c) ≤ 9223372034707292160 := by
    refine ⟨Int.mul_nonneg (by omega) (by omega), ?_⟩
    have h1 : m * (1073741824 + c) ≤ 4294967295 * (1073741824 + c) := Int.mul_le_mul_of_nonneg_right (by omega) (by omega)
    omega
  have a4 : wrap64 (m * (1073741824 + c)) = m * (1073741824 + c) := IntWalk.wrap64_in _ (by omega)
  have he' := he.symm
  clear he
  have hv' : v < 1 ∨ 4294967295 < v := by omega
  rcases hv' with hv' | hv'
  all_goals
    go_enter Tryd.func49, Tryd.ntmps49
    go_wp2_with (fail)
    go_at_call 52
    (with_reducible refine (rcheck_ok _ _ _ m0 m1 s0 s1).mono ?_)
    rintro e w1 ⟨rfl, HB⟩
    obtain ⟨hc1, hf1⟩ := bcell HB
    have hz1 := HB.size
    try simp at hz1
    replace hB := Below.trans (show Below w.heap.size w _ from by repeat (first | with_reducible assumption | exact Below.refl _ _ | refine Below.drew ?_ | refine Below.setCell ?_ (by first | omega | (simp; done) | (simp; omega)) _ | refine Below.alloc ?_ (by first | omega | (simp; done) | (simp; omega)) _)) (Below.mono (B' := w.heap.size) HB (by first | omega | (simp; done) | (simp; omega)))
    try (have z1w0 : w.heap.size < w1.heap.size := (by omega))
    try (have z1w1 : w.heap.size + 1 < w1.heap.size := (by omega))
    try (have z1w2 : w.heap.size + 1 + 1 < w1.heap.size := (by omega))
    clear HB
    go_wp2_with (fail)
    have hS0 : SQ w w.heap.size (.int .u32 m) (.int .i64 s) (w.heap.size + 1) (.int .u32 0) (.int .i64 0) w1 := ⟨⟨(by first | omega | (simp; done) | (simp; omega)), by go_simp, by go_simp, by go_simp, by go_simp⟩, ⟨(by first | omega | (simp; done) | (simp; omega)), by go_simp, by go_simp, by go_simp, by go_simp⟩, hB⟩
    clear hc1 hf1
    go_region_held3 (fun wx => SQ w w.heap.size (.int .u32 m) (.int .i64 s) (w.heap.size + 1) (.int .u32 0) (.int .i64 0) wx) (first | assumption | exact SQ.drew (by assumption)) (first | (go_at_call 111; (with_reducible refine (clamp_b _ _ _ _ hp (by omega) (by omega)).mono ?_); rw [hcs]; rintro e w' ⟨rfl, hb'⟩; have hS' := SQ.step (by assumption) hb'; clear hb'))
    obtain ⟨⟨r0, r1, r2, r3, r4⟩, ⟨q0, q1, q2, q3, q4⟩, hB2⟩ := hS'
    go_wp2_with (fail)
    refine bodyPost_ret (v := .tuple #[.agg #[.int .u32 0, .int .i64 0], errV 2]) (by first | (simp [results, Tryd.results49, go_sem]; done) | (simp only [results, Tryd.results49]; go_simp; done) | (simp only [results, Tryd.results49]; go_simp; omega)) rfl (⟨rfl, by repeat (first | with_reducible assumption | exact Below.refl _ _ | refine Below.drew ?_ | refine Below.setCell ?_ (by first | omega | (simp; done) | (simp; omega)) _ | refine Below.alloc ?_ (by first | omega | (simp; done) | (simp; omega)) _)⟩)
end Go.Proofs.YtffdglhdklmjoaaDoor
