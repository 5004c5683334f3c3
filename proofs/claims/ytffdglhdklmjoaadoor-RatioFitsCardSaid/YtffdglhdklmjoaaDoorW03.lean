/-
  Layer 3: the factor of a fraction.
-/
import Derived.Test.YtffdglhdklmjoaaDoorW02e
import Derived.Test.YtffdglhdklmjoaaDoorV01
import Derived.Deep.RegionHeld3
import Derived.ScopeJumps
import Derived.WalkMore
namespace Go.Proofs.YtffdglhdklmjoaaDoor
open Go.RowKit Go.Extern.Stop Go.Stop Go.Extern
set_option linter.unusedVariables false
set_option linter.unusedSimpArgs false
def intOfV : Value → Int | .int _ q => q | _ => 0
theorem pow31 {s : Nat} (h : s ≤ 31) : InR ((2 : Int) ^ s) := by
  have h1 : (2 : Nat) ^ s ≤ 2 ^ 31 := Nat.pow_le_pow_right (by omega) h
  have h2 : ((2 : Int) ^ s) = ((2 ^ s : Nat) : Int) := by rw [Int.natCast_pow]; rfl
  obtain ⟨k, hk⟩ : ∃ k : Nat, (2 : Nat) ^ s = k := ⟨_, rfl⟩
  rw [hk] at h1 h2
  rw [h2]
  omega
theorem two31 : (2 : Int) ^ 31 = 2147483648 := rfl
set_option maxRecDepth 100000 in
set_option maxHeartbeats 8000000 in
theorem fit_at (a b : Int) (w : World) (a0 : 1 ≤ a) (a1 : a ≤ 1099511627776) (b0 : 1 ≤ b) (b1 : b ≤ 1099511627776) (S : Nat) (hS : S ≤ 31) (hbig : ∀ T : Nat, S < T → T ≤ 31 → 4294967295 < a * 2 ^ T / b) (hfit : a * 2 ^ S / b ≤ 4294967295) (h1 : 1 ≤ a * 2 ^ S / b) : Calls Tryd.prog 43 #[.int .u64 a, .int .u64 b] w fun e w' => e = .returned (.tuple #[.agg #[.int .u32 (a * 2 ^ S / b), .int .i64 S], .nilIface]) ∧ Below w.heap.size w w' := by
  have hB := Below.refl w.heap.size w
  have z1 : (a == 0) = false := by rw [beq_eq_false_iff_ne]; omega
  have z2 : (b == 0) = false := by rw [beq_eq_false_iff_ne]; omega
  have v1 : wrap64 a = a := IntWalk.wrap64_in _ (by omega)
  have v2 : wrap64 b = b := IntWalk.wrap64_in _ (by omega)
  go_enter Tryd.func43, Tryd.ntmps43
  go_wp2_with (fail)
  refine wp_scope_jumps 0 (fun a' w' => ∃ (s : Nat) (u7 u8 u9 u10 u11 u12 u13 u14 u15 u16 u17 u18 u19 u20 u21 u22 u23 u24 u25 u26 u27 u28 u29 u30 u31 u32 u33 u34 u35 u36 u37 u38 u39 u40 u41 u42 u43 u44 u45 u46 u47 u48 u49 u50 u51 u52 u53 u54 : Value), a' = { tmps := #[.int .u64 a, .int .u64 b, undef, undef, .pointer (some ⟨w.heap.size, 0, none⟩), .nilIface, .int .i64 s, u7, u8, u9, u10, u11, u12, u13, u14, u15, u16, u17, u18, u19, u20, u21, u22, u23, u24, u25, u26, u27, u28, u29, u30, u31, u32, u33, u34, u35, u36, u37, u38, u39, u40, u41, u42, u43, u44, u45, u46, u47, u48, u49, u50, u51, u52, u53, u54], defers := [] } ∧ s ≤ 31 ∧ S ≤ s ∧ Below w.heap.size w w' ∧ R2 w.heap.size (.int .u32 0) (.int .i64 0) w') (fun a' _ => (intOfV (a'.tmps.getD 6 undef)).toNat) rfl ?_ ?_
  · go_wp2_with (fail)
    go_step3
    have hR : R2 w.heap.size (.int .u32 0) (.int .i64 0) (w.alloc (.cells #[.int .u32 0, .int .i64 0] 72)) := ⟨by simp, by simp, by simp, by simp, by simp⟩
    have hB0 : Below w.heap.size w (w.alloc (.cells #[.int .u32 0, .int .i64 0] 72)) := hB.alloc (Nat.le_refl _) _
    rcases Nat.lt_or_ge S 31 with hs0 | hs0
    · have hb31 := hbig 31 hs0 (by omega)
      rw [two31] at hb31
      by_cases hq : InR (a * 2147483648 / b)
      · go_wp2_with (fail)
        go_at_call 39
        (with_reducible refine (wmuldiv a (2147483648) b _ (by omega) (by omega) b0 (by omega) hq).mono ?_)
        rintro e w1 ⟨rfl, HB⟩
        have hR1 := R2.step hR HB
        obtain ⟨r0, r1, r2, r3, r4⟩ := id hR1
        have hz1 := HB.size
        try simp at hz1
        have hB1 := Below.trans hB0 (Below.mono (B' := w.heap.size) HB (by first | omega | (simp; done) | (simp; omega)))
        clear HB
        go_wp2_with (fail)
        go_step3
        exact ⟨rfl, ⟨31 - 1, _, _, _, _, _, _, _, _, _, _, _, _, _, _, _, _, _, _, _, _, _, _, _, _, _, _, _, _, _, _, _, _, _, _, _, _, _, _, _, _, _, _, _, _, _, _, _, _, rfl, by omega, by omega, hB1, hR1⟩⟩
      · go_wp2_with (fail)
        go_at_call 39
        (with_reducible refine (wmuldiv_big a (2147483648) b _ (by omega) (by omega) b0 (by omega) hq).mono ?_)
        rintro e w1 ⟨rfl, HB⟩
        have hR1 := R2.step hR HB
        obtain ⟨r0, r1, r2, r3, r4⟩ := id hR1
        have hz1 := HB.size
        try simp at hz1
        have hB1 := Below.trans hB0 (Below.mono (B' := w.heap.size) HB (by first | omega | (simp; done) | (simp; omega)))
        clear HB
        go_wp2_with (fail)
        go_step3
        exact ⟨rfl, ⟨31 - 1, _, _, _, _, _, _, _, _, _, _, _, _, _, _, _, _, _, _, _, _, _, _, _, _, _, _, _, _, _, _, _, _, _, _, _, _, _, _, _, _, _, _, _, _, _, _, _, _, rfl, by omega, by omega, hB1, hR1⟩⟩
    · obtain rfl : S = 31 := by omega
      rw [two31] at hfit h1
      have hq : InR (a * 2147483648 / b) := by omega
      have hm0 : (a * 2147483648 / b == 0) = false := by rw [beq_eq_false_iff_ne]; omega
      have hmw : IntKind.u32.wrap (a * 2147483648 / b) = a * 2147483648 / b := by rw [IntKind.wrap_u32]; omega
      go_wp2_with (fail)
      go_at_call 39
      (with_reducible refine (wmuldiv a (2147483648) b _ (by omega) (by omega) b0 (by omega) hq).mono ?_)
      rintro e w1 ⟨rfl, HB⟩
      have hR1 := R2.step hR HB
      obtain ⟨r0, r1, r2, r3, r4⟩ := id hR1
      have hz1 := HB.size
      try simp at hz1
      have hB1 := Below.trans hB0 (Below.mono (B' := w.heap.size) HB (by first | omega | (simp; done) | (simp; omega)))
      clear HB
      go_wp2_with (fail)
      simp only [Exit.jump]
      refine bodyPost_ret (v := .tuple #[.agg #[.int .u32 (a * 2147483648 / b), .int .i64 31], .nilIface]) (by first | (simp [results, Tryd.results43, go_sem]; done) | (simp only [results, Tryd.results43]; go_simp; done) | (simp only [results, Tryd.results43]; go_simp; omega)) rfl (⟨rfl, by repeat (first | with_reducible assumption | exact Below.refl _ _ | refine Below.drew ?_ | refine Below.setCell ?_ (by first | omega | (simp; done) | (simp; omega)) _ | refine Below.alloc ?_ (by first | omega | (simp; done) | (simp; omega)) _)⟩)
  · rintro a' w' ⟨s, u7, u8, u9, u10, u11, u12, u13, u14, u15, u16, u17, u18, u19, u20, u21, u22, u23, u24, u25, u26, u27, u28, u29, u30, u31, u32, u33, u34, u35, u36, u37, u38, u39, u40, u41, u42, u43, u44, u45, u46, u47, u48, u49, u50, u51, u52, u53, u54, rfl, hs, hlow, hB0, hR⟩
    obtain ⟨q0, q1, q2, q3, q4⟩ := id hR
    have hsp : InR ((2 : Int) ^ s) := pow31 hs
    rcases Nat.lt_or_ge S s with hs0 | hs0
    · have hbs := hbig s hs0 hs
      have hs1 : ((s : Int) == 0) = false := by rw [beq_eq_false_iff_ne]; omega
      have hsw : wrap64 ((s : Int) - 1) = ((s - 1 : Nat) : Int) := by rw [IntWalk.wrap64_in _ (by omega)]; omega
      by_cases hq : InR (a * 2 ^ s / b)
      · go_wp2_with (fail)
        go_at_call 39
        (with_reducible refine (wmuldiv a (2 ^ s) b _ (by omega) (by omega) b0 (by omega) hq).mono ?_)
        rintro e w1 ⟨rfl, HB⟩
        have hR1 := R2.step hR HB
        obtain ⟨r0, r1, r2, r3, r4⟩ := id hR1
        have hz1 := HB.size
        try simp at hz1
        have hB1 := Below.trans hB0 (Below.mono (B' := w.heap.size) HB (by first | omega | (simp; done) | (simp; omega)))
        clear HB
        go_wp2_with (fail)
        go_step3
        rw [show (s : Int) - 1 = ((s - 1 : Nat) : Int) by omega]
        refine ⟨rfl, ⟨s - 1, _, _, _, _, _, _, _, _, _, _, _, _, _, _, _, _, _, _, _, _, _, _, _, _, _, _, _, _, _, _, _, _, _, _, _, _, _, _, _, _, _, _, _, _, _, _, _, _, rfl, by omega, by omega, hB1, hR1⟩, ?_⟩
        simp [intOfV]
        omega
      · go_wp2_with (fail)
        go_at_call 39
        (with_reducible refine (wmuldiv_big a (2 ^ s) b _ (by omega) (by omega) b0 (by omega) hq).mono ?_)
        rintro e w1 ⟨rfl, HB⟩
        have hR1 := R2.step hR HB
        obtain ⟨r0, r1, r2, r3, r4⟩ := id hR1
        have hz1 := HB.size
        try simp at hz1
        have hB1 := Below.trans hB0 (Below.mono (B' := w.heap.size) HB (by first | omega | (simp; done) | (simp; omega)))
        clear HB
        go_wp2_with (fail)
        go_step3
        rw [show (s : Int) - 1 = ((s - 1 : Nat) : Int) by omega]
        refine ⟨rfl, ⟨s - 1, _, _, _, _, _, _, _, _, _, _, _, _, _, _, _, _, _, _, _, _, _, _, _, _, _, _, _, _, _, _, _, _, _, _, _, _, _, _, _, _, _, _, _, _, _, _, _, _, rfl, by omega, by omega, hB1, hR1⟩, ?_⟩
        simp [intOfV]
        omega
    · obtain rfl : S = s := by omega
      have hq : InR (a * 2 ^ S / b) := by omega
      have hm0 : (a * 2 ^ S / b == 0) = false := by rw [beq_eq_false_iff_ne]; omega
      have hmw : IntKind.u32.wrap (a * 2 ^ S / b) = a * 2 ^ S / b := by rw [IntKind.wrap_u32]; omega
      go_wp2_with (fail)
      go_at_call 39
      (with_reducible refine (wmuldiv a (2 ^ S) b _ (by omega) (by omega) b0 (by omega) hq).mono ?_)
      rintro e w1 ⟨rfl, HB⟩
      have hR1 := R2.step hR HB
      obtain ⟨r0, r1, r2, r3, r4⟩ := id hR1
      have hz1 := HB.size
      try simp at hz1
      have hB1 := Below.trans hB0 (Below.mono (B' := w.heap.size) HB (by first | omega | (simp; done) | (simp; omega)))
      clear HB
      go_wp2_with (fail)
      simp only [Exit.jump]
      refine bodyPost_ret (v := .tuple #[.agg #[.int .u32 (a * 2 ^ S / b), .int .i64 S], .nilIface]) (by first | (simp [results, Tryd.results43, go_sem]; done) | (simp only [results, Tryd.results43]; go_simp; done) | (simp only [results, Tryd.results43]; go_simp; omega)) rfl (⟨rfl, by repeat (first | with_reducible assumption | exact Below.refl _ _ | refine Below.drew ?_ | refine Below.setCell ?_ (by first | omega | (simp; done) | (simp; omega)) _ | refine Below.alloc ?_ (by first | omega | (simp; done) | (simp; omega)) _)⟩)
set_option maxRecDepth 100000 in
set_option maxHeartbeats 8000000 in
theorem fit_zero (a b : Int) (w : World) (a0 : 1 ≤ a) (a1 : a ≤ 1099511627776) (b0 : 1 ≤ b) (b1 : b ≤ 1099511627776) (S : Nat) (hS : S ≤ 31) (hbig : ∀ T : Nat, S < T → T ≤ 31 → 4294967295 < a * 2 ^ T / b) (h1 : a * 2 ^ S / b = 0) : Calls Tryd.prog 43 #[.int .u64 a, .int .u64 b] w fun e w' => e = .returned (.tuple #[.agg #[.int .u32 0, .int .i64 0], errV 2]) ∧ Below w.heap.size w w' := by
  have hB := Below.refl w.heap.size w
  have z1 : (a == 0) = false := by rw [beq_eq_false_iff_ne]; omega
  have z2 : (b == 0) = false := by rw [beq_eq_false_iff_ne]; omega
  have v1 : wrap64 a = a := IntWalk.wrap64_in _ (by omega)
  have v2 : wrap64 b = b := IntWalk.wrap64_in _ (by omega)
  go_enter Tryd.func43, Tryd.ntmps43
  go_wp2_with (fail)
  refine wp_scope_jumps 0 (fun a' w' => ∃ (s : Nat) (u7 u8 u9 u10 u11 u12 u13 u14 u15 u16 u17 u18 u19 u20 u21 u22 u23 u24 u25 u26 u27 u28 u29 u30 u31 u32 u33 u34 u35 u36 u37 u38 u39 u40 u41 u42 u43 u44 u45 u46 u47 u48 u49 u50 u51 u52 u53 u54 : Value), a' = { tmps := #[.int .u64 a, .int .u64 b, undef, undef, .pointer (some ⟨w.heap.size, 0, none⟩), .nilIface, .int .i64 s, u7, u8, u9, u10, u11, u12, u13, u14, u15, u16, u17, u18, u19, u20, u21, u22, u23, u24, u25, u26, u27, u28, u29, u30, u31, u32, u33, u34, u35, u36, u37, u38, u39, u40, u41, u42, u43, u44, u45, u46, u47, u48, u49, u50, u51, u52, u53, u54], defers := [] } ∧ s ≤ 31 ∧ S ≤ s ∧ Below w.heap.size w w' ∧ R2 w.heap.size (.int .u32 0) (.int .i64 0) w') (fun a' _ => (intOfV (a'.tmps.getD 6 undef)).toNat) rfl ?_ ?_
  · go_wp2_with (fail)
    go_step3
    have hR : R2 w.heap.size (.int .u32 0) (.int .i64 0) (w.alloc (.cells #[.int .u32 0, .int .i64 0] 72)) := ⟨by simp, by simp, by simp, by simp, by simp⟩
    have hB0 : Below w.heap.size w (w.alloc (.cells #[.int .u32 0, .int .i64 0] 72)) := hB.alloc (Nat.le_refl _) _
    rcases Nat.lt_or_ge S 31 with hs0 | hs0
    · have hb31 := hbig 31 hs0 (by omega)
      rw [two31] at hb31
      by_cases hq : InR (a * 2147483648 / b)
      · go_wp2_with (fail)
        go_at_call 39
        (with_reducible refine (wmuldiv a (2147483648) b _ (by omega) (by omega) b0 (by omega) hq).mono ?_)
        rintro e w1 ⟨rfl, HB⟩
        have hR1 := R2.step hR HB
        obtain ⟨r0, r1, r2, r3, r4⟩ := id hR1
        have hz1 := HB.size
        try simp at hz1
        have hB1 := Below.trans hB0 (Below.mono (B' := w.heap.size) HB (by first | omega | (simp; done) | (simp; omega)))
        clear HB
        go_wp2_with (fail)
        go_step3
        exact ⟨rfl, ⟨31 - 1, _, _, _, _, _, _, _, _, _, _, _, _, _, _, _, _, _, _, _, _, _, _, _, _, _, _, _, _, _, _, _, _, _, _, _, _, _, _, _, _, _, _, _, _, _, _, _, _, rfl, by omega, by omega, hB1, hR1⟩⟩
      · go_wp2_with (fail)
        go_at_call 39
        (with_reducible refine (wmuldiv_big a (2147483648) b _ (by omega) (by omega) b0 (by omega) hq).mono ?_)
        rintro e w1 ⟨rfl, HB⟩
        have hR1 := R2.step hR HB
        obtain ⟨r0, r1, r2, r3, r4⟩ := id hR1
        have hz1 := HB.size
        try simp at hz1
        have hB1 := Below.trans hB0 (Below.mono (B' := w.heap.size) HB (by first | omega | (simp; done) | (simp; omega)))
        clear HB
        go_wp2_with (fail)
        go_step3
        exact ⟨rfl, ⟨31 - 1, _, _, _, _, _, _, _, _, _, _, _, _, _, _, _, _, _, _, _, _, _, _, _, _, _, _, _, _, _, _, _, _, _, _, _, _, _, _, _, _, _, _, _, _, _, _, _, _, rfl, by omega, by omega, hB1, hR1⟩⟩
    · obtain rfl : S = 31 := by omega
      rw [two31] at h1
      have hq : InR (a * 2147483648 / b) := by omega
      go_wp2_with (fail)
      go_at_call 39
      (with_reducible refine (wmuldiv a (2147483648) b _ (by omega) (by omega) b0 (by omega) hq).mono ?_)
      rintro e w1 ⟨rfl, HB⟩
      have hR1 := R2.step hR HB
      obtain ⟨r0, r1, r2, r3, r4⟩ := id hR1
      have hz1 := HB.size
      try simp at hz1
      have hB1 := Below.trans hB0 (Below.mono (B' := w.heap.size) HB (by first | omega | (simp; done) | (simp; omega)))
      clear HB
      go_wp2_with (fail)
      simp only [Exit.jump]
      refine bodyPost_ret (v := .tuple #[.agg #[.int .u32 0, .int .i64 0], errV 2]) (by first | (simp [results, Tryd.results43, go_sem]; done) | (simp only [results, Tryd.results43]; go_simp; done) | (simp only [results, Tryd.results43]; go_simp; omega)) rfl (⟨rfl, by repeat (first | with_reducible assumption | exact Below.refl _ _ | refine Below.drew ?_ | refine Below.setCell ?_ (by first | omega | (simp; done) | (simp; omega)) _ | refine Below.alloc ?_ (by first | omega | (simp; done) | (simp; omega)) _)⟩)
  · rintro a' w' ⟨s, u7, u8, u9, u10, u11, u12, u13, u14, u15, u16, u17, u18, u19, u20, u21, u22, u23, u24, u25, u26, u27, u28, u29, u30, u31, u32, u33, u34, u35, u36, u37, u38, u39, u40, u41, u42, u43, u44, u45, u46, u47, u48, u49, u50, u51, u52, u53, u54, rfl, hs, hlow, hB0, hR⟩
    obtain ⟨q0, q1, q2, q3, q4⟩ := id hR
    have hsp : InR ((2 : Int) ^ s) := pow31 hs
    rcases Nat.lt_or_ge S s with hs0 | hs0
    · have hbs := hbig s hs0 hs
      have hs1 : ((s : Int) == 0) = false := by rw [beq_eq_false_iff_ne]; omega
      have hsw : wrap64 ((s : Int) - 1) = ((s - 1 : Nat) : Int) := by rw [IntWalk.wrap64_in _ (by omega)]; omega
      by_cases hq : InR (a * 2 ^ s / b)
      · go_wp2_with (fail)
        go_at_call 39
        (with_reducible refine (wmuldiv a (2 ^ s) b _ (by omega) (by omega) b0 (by omega) hq).mono ?_)
        rintro e w1 ⟨rfl, HB⟩
        have hR1 := R2.step hR HB
        obtain ⟨r0, r1, r2, r3, r4⟩ := id hR1
        have hz1 := HB.size
        try simp at hz1
        have hB1 := Below.trans hB0 (Below.mono (B' := w.heap.size) HB (by first | omega | (simp; done) | (simp; omega)))
        clear HB
        go_wp2_with (fail)
        go_step3
        rw [show (s : Int) - 1 = ((s - 1 : Nat) : Int) by omega]
        refine ⟨rfl, ⟨s - 1, _, _, _, _, _, _, _, _, _, _, _, _, _, _, _, _, _, _, _, _, _, _, _, _, _, _, _, _, _, _, _, _, _, _, _, _, _, _, _, _, _, _, _, _, _, _, _, _, rfl, by omega, by omega, hB1, hR1⟩, ?_⟩
        simp [intOfV]
        omega
      · go_wp2_with (fail)
        go_at_call 39
        (with_reducible refine (wmuldiv_big a (2 ^ s) b _ (by omega) (by omega) b0 (by omega) hq).mono ?_)
        rintro e w1 ⟨rfl, HB⟩
        have hR1 := R2.step hR HB
        obtain ⟨r0, r1, r2, r3, r4⟩ := id hR1
        have hz1 := HB.size
        try simp at hz1
        have hB1 := Below.trans hB0 (Below.mono (B' := w.heap.size) HB (by first | omega | (simp; done) | (simp; omega)))
        clear HB
        go_wp2_with (fail)
        go_step3
        rw [show (s : Int) - 1 = ((s - 1 : Nat) : Int) by omega]
        refine ⟨rfl, ⟨s - 1, _, _, _, _, _, _, _, _, _, _, _, _, _, _, _, _, _, _, _, _, _, _, _, _, _, _, _, _, _, _, _, _, _, _, _, _, _, _, _, _, _, _, _, _, _, _, _, _, rfl, by omega, by omega, hB1, hR1⟩, ?_⟩
        simp [intOfV]
        omega
    · obtain rfl : S = s := by omega
      have hq : InR (a * 2 ^ S / b) := by omega
      go_wp2_with (fail)
      go_at_call 39
      (with_reducible refine (wmuldiv a (2 ^ S) b _ (by omega) (by omega) b0 (by omega) hq).mono ?_)
      rintro e w1 ⟨rfl, HB⟩
      have hR1 := R2.step hR HB
      obtain ⟨r0, r1, r2, r3, r4⟩ := id hR1
      have hz1 := HB.size
      try simp at hz1
      have hB1 := Below.trans hB0 (Below.mono (B' := w.heap.size) HB (by first | omega | (simp; done) | (simp; omega)))
      clear HB
      go_wp2_with (fail)
      simp only [Exit.jump]
      refine bodyPost_ret (v := .tuple #[.agg #[.int .u32 0, .int .i64 0], errV 2]) (by first | (simp [results, Tryd.results43, go_sem]; done) | (simp only [results, Tryd.results43]; go_simp; done) | (simp only [results, Tryd.results43]; go_simp; omega)) rfl (⟨rfl, by repeat (first | with_reducible assumption | exact Below.refl _ _ | refine Below.drew ?_ | refine Below.setCell ?_ (by first | omega | (simp; done) | (simp; omega)) _ | refine Below.alloc ?_ (by first | omega | (simp; done) | (simp; omega)) _)⟩)
set_option maxRecDepth 100000 in
set_option maxHeartbeats 8000000 in
theorem fit_none (a b : Int) (w : World) (a0 : 1 ≤ a) (a1 : a ≤ 1099511627776) (b0 : 1 ≤ b) (b1 : b ≤ 1099511627776) (hbig : ∀ T : Nat, T ≤ 31 → 4294967295 < a * 2 ^ T / b) : Calls Tryd.prog 43 #[.int .u64 a, .int .u64 b] w fun e w' => e = .returned (.tuple #[.agg #[.int .u32 0, .int .i64 0], errV 2]) ∧ Below w.heap.size w w' := by
  have hB := Below.refl w.heap.size w
  have z1 : (a == 0) = false := by rw [beq_eq_false_iff_ne]; omega
  have z2 : (b == 0) = false := by rw [beq_eq_false_iff_ne]; omega
  have v1 : wrap64 a = a := IntWalk.wrap64_in _ (by omega)
  have v2 : wrap64 b = b := IntWalk.wrap64_in _ (by omega)
  go_enter Tryd.func43, Tryd.ntmps43
  go_wp2_with (fail)
  refine wp_scope_jumps 0 (fun a' w' => ∃ (s : Nat) (u7 u8 u9 u10 u11 u12 u13 u14 u15 u16 u17 u18 u19 u20 u21 u22 u23 u24 u25 u26 u27 u28 u29 u30 u31 u32 u33 u34 u35 u36 u37 u38 u39 u40 u41 u42 u43 u44 u45 u46 u47 u48 u49 u50 u51 u52 u53 u54 : Value), a' = { tmps := #[.int .u64 a, .int .u64 b, undef, undef, .pointer (some ⟨w.heap.size, 0, none⟩), .nilIface, .int .i64 s, u7, u8, u9, u10, u11, u12, u13, u14, u15, u16, u17, u18, u19, u20, u21, u22, u23, u24, u25, u26, u27, u28, u29, u30, u31, u32, u33, u34, u35, u36, u37, u38, u39, u40, u41, u42, u43, u44, u45, u46, u47, u48, u49, u50, u51, u52, u53, u54], defers := [] } ∧ s ≤ 31 ∧ 0 ≤ s ∧ Below w.heap.size w w' ∧ R2 w.heap.size (.int .u32 0) (.int .i64 0) w') (fun a' _ => (intOfV (a'.tmps.getD 6 undef)).toNat) rfl ?_ ?_
  · go_wp2_with (fail)
    go_step3
    have hR : R2 w.heap.size (.int .u32 0) (.int .i64 0) (w.alloc (.cells #[.int .u32 0, .int .i64 0] 72)) := ⟨by simp, by simp, by simp, by simp, by simp⟩
    have hB0 : Below w.heap.size w (w.alloc (.cells #[.int .u32 0, .int .i64 0] 72)) := hB.alloc (Nat.le_refl _) _
    have hb31 := hbig 31 (by omega)
    rw [two31] at hb31
    by_cases hq : InR (a * 2147483648 / b)
    · go_wp2_with (fail)
      go_at_call 39
      (with_reducible refine (wmuldiv a (2147483648) b _ (by omega) (by omega) b0 (by omega) hq).mono ?_)
      rintro e w1 ⟨rfl, HB⟩
      have hR1 := R2.step hR HB
      obtain ⟨r0, r1, r2, r3, r4⟩ := id hR1
      have hz1 := HB.size
      try simp at hz1
      have hB1 := Below.trans hB0 (Below.mono (B' := w.heap.size) HB (by first | omega | (simp; done) | (simp; omega)))
      clear HB
      go_wp2_with (fail)
      go_step3
      exact ⟨rfl, ⟨31 - 1, _, _, _, _, _, _, _, _, _, _, _, _, _, _, _, _, _, _, _, _, _, _, _, _, _, _, _, _, _, _, _, _, _, _, _, _, _, _, _, _, _, _, _, _, _, _, _, _, rfl, by omega, by omega, hB1, hR1⟩⟩
    · go_wp2_with (fail)
      go_at_call 39
      (with_reducible refine (wmuldiv_big a (2147483648) b _ (by omega) (by omega) b0 (by omega) hq).mono ?_)
      rintro e w1 ⟨rfl, HB⟩
      have hR1 := R2.step hR HB
      obtain ⟨r0, r1, r2, r3, r4⟩ := id hR1
      have hz1 := HB.size
      try simp at hz1
      have hB1 := Below.trans hB0 (Below.mono (B' := w.heap.size) HB (by first | omega | (simp; done) | (simp; omega)))
      clear HB
      go_wp2_with (fail)
      go_step3
      exact ⟨rfl, ⟨31 - 1, _, _, _, _, _, _, _, _, _, _, _, _, _, _, _, _, _, _, _, _, _, _, _, _, _, _, _, _, _, _, _, _, _, _, _, _, _, _, _, _, _, _, _, _, _, _, _, _, rfl, by omega, by omega, hB1, hR1⟩⟩
  · rintro a' w' ⟨s, u7, u8, u9, u10, u11, u12, u13, u14, u15, u16, u17, u18, u19, u20, u21, u22, u23, u24, u25, u26, u27, u28, u29, u30, u31, u32, u33, u34, u35, u36, u37, u38, u39, u40, u41, u42, u43, u44, u45, u46, u47, u48, u49, u50, u51, u52, u53, u54, rfl, hs, hlow, hB0, hR⟩
    obtain ⟨q0, q1, q2, q3, q4⟩ := id hR
    have hsp : InR ((2 : Int) ^ s) := pow31 hs
    rcases Nat.eq_zero_or_pos s with hs0 | hs0
    · subst hs0
      have hbs := hbig 0 (by omega)
      rw [Int.pow_zero, Int.mul_one] at hbs
      by_cases hq : InR (a * 1 / b)
      · go_wp2_with (fail)
        go_at_call 39
        (with_reducible refine (wmuldiv a (1) b _ (by omega) (by omega) b0 (by omega) hq).mono ?_)
        rintro e w1 ⟨rfl, HB⟩
        have hR1 := R2.step hR HB
        obtain ⟨r0, r1, r2, r3, r4⟩ := id hR1
        have hz1 := HB.size
        try simp at hz1
        have hB1 := Below.trans hB0 (Below.mono (B' := w.heap.size) HB (by first | omega | (simp; done) | (simp; omega)))
        clear HB
        go_wp2_with (fail)
        simp only [Exit.jump]
        refine bodyPost_ret (v := .tuple #[.agg #[.int .u32 0, .int .i64 0], errV 2]) (by first | (simp [results, Tryd.results43, go_sem]; done) | (simp only [results, Tryd.results43]; go_simp; done) | (simp only [results, Tryd.results43]; go_simp; omega)) rfl (⟨rfl, by repeat (first | with_reducible assumption | exact Below.refl _ _ | refine Below.drew ?_ | refine Below.setCell ?_ (by first | omega | (simp; done) | (simp; omega)) _ | refine Below.alloc ?_ (by first | omega | (simp; done) | (simp; omega)) _)⟩)
      · go_wp2_with (fail)
        go_at_call 39
        (with_reducible refine (wmuldiv_big a (1) b _ (by omega) (by omega) b0 (by omega) hq).mono ?_)
        rintro e w1 ⟨rfl, HB⟩
        have hR1 := R2.step hR HB
        obtain ⟨r0, r1, r2, r3, r4⟩ := id hR1
        have hz1 := HB.size
        try simp at hz1
        have hB1 := Below.trans hB0 (Below.mono (B' := w.heap.size) HB (by first | omega | (simp; done) | (simp; omega)))
        clear HB
        go_wp2_with (fail)
        simp only [Exit.jump]
        refine bodyPost_ret (v := .tuple #[.agg #[.int .u32 0, .int .i64 0], errV 2]) (by first | (simp [results, Tryd.results43, go_sem]; done) | (simp only [results, Tryd.results43]; go_simp; done) | (simp only [results, Tryd.results43]; go_simp; omega)) rfl (⟨rfl, by repeat (first | with_reducible assumption | exact Below.refl _ _ | refine Below.drew ?_ | refine Below.setCell ?_ (by first | omega | (simp; done) | (simp; omega)) _ | refine Below.alloc ?_ (by first | omega | (simp; done) | (simp; omega)) _)⟩)
    · have hbs := hbig s hs
      have hs1 : ((s : Int) == 0) = false := by rw [beq_eq_false_iff_ne]; omega
      have hsw : wrap64 ((s : Int) - 1) = ((s - 1 : Nat) : Int) := by rw [IntWalk.wrap64_in _ (by omega)]; omega
      by_cases hq : InR (a * 2 ^ s / b)
      · go_wp2_with (fail)
        go_at_call 39
        (with_reducible refine (wmuldiv a (2 ^ s) b _ (by omega) (by omega) b0 (by omega) hq).mono ?_)
        rintro e w1 ⟨rfl, HB⟩
        have hR1 := R2.step hR HB
        obtain ⟨r0, r1, r2, r3, r4⟩ := id hR1
        have hz1 := HB.size
        try simp at hz1
        have hB1 := Below.trans hB0 (Below.mono (B' := w.heap.size) HB (by first | omega | (simp; done) | (simp; omega)))
        clear HB
        go_wp2_with (fail)
        go_step3
        rw [show (s : Int) - 1 = ((s - 1 : Nat) : Int) by omega]
        refine ⟨rfl, ⟨s - 1, _, _, _, _, _, _, _, _, _, _, _, _, _, _, _, _, _, _, _, _, _, _, _, _, _, _, _, _, _, _, _, _, _, _, _, _, _, _, _, _, _, _, _, _, _, _, _, _, rfl, by omega, by omega, hB1, hR1⟩, ?_⟩
        simp [intOfV]
        omega
      · go_wp2_with (fail)
        go_at_call 39
        (with_reducible refine (wmuldiv_big a (2 ^ s) b _ (by omega) (by omega) b0 (by omega) hq).mono ?_)
        rintro e w1 ⟨rfl, HB⟩
        have hR1 := R2.step hR HB
        obtain ⟨r0, r1, r2, r3, r4⟩ := id hR1
        have hz1 := HB.size
        try simp at hz1
        have hB1 := Below.trans hB0 (Below.mono (B' := w.heap.size) HB (by first | omega | (simp; done) | (simp; omega)))
        clear HB
        go_wp2_with (fail)
        go_step3
        rw [show (s : Int) - 1 = ((s - 1 : Nat) : Int) by omega]
        refine ⟨rfl, ⟨s - 1, _, _, _, _, _, _, _, _, _, _, _, _, _, _, _, _, _, _, _, _, _, _, _, _, _, _, _, _, _, _, _, _, _, _, _, _, _, _, _, _, _, _, _, _, _, _, _, _, rfl, by omega, by omega, hB1, hR1⟩, ?_⟩
        simp [intOfV]
        omega
theorem fit_arg (a b : Int) (w : World) (a0 : 0 ≤ a) (b0 : 0 ≤ b) (h : a = 0 ∨ b = 0 ∨ 1099511627776 < a ∨ 1099511627776 < b) : Calls Tryd.prog 43 #[.int .u64 a, .int .u64 b] w fun e w' => e = .returned (.tuple #[.agg #[.int .u32 0, .int .i64 0], errV 1]) ∧ Below w.heap.size w w' := by
  have hB := Below.refl w.heap.size w
  have hz : (a == 0) = true ∨ (a == 0) = false := by cases (a == 0) <;> simp
  have hy : (b == 0) = true ∨ (b == 0) = false := by cases (b == 0) <;> simp
  by_cases ha : 1099511627776 < a
  all_goals by_cases hb : 1099511627776 < b
  all_goals rcases hz with hz | hz
  all_goals rcases hy with hy | hy
  all_goals try (exfalso; simp at hz hy; omega)
  all_goals
    go_enter Tryd.func43, Tryd.ntmps43
    go_wp2_with (fail)
    go_step3
    go_wp2_with (fail)
    rw [Exit.noGoto_ret]
    refine bodyPost_ret (v := .tuple #[.agg #[.int .u32 0, .int .i64 0], errV 1]) (by first | (simp [results, Tryd.results43, go_sem]; done) | (simp only [results, Tryd.results43]; go_simp; done) | (simp only [results, Tryd.results43]; go_simp; omega)) rfl (⟨rfl, by repeat (first | with_reducible assumption | exact Below.refl _ _ | refine Below.drew ?_ | refine Below.setCell ?_ (by first | omega | (simp; done) | (simp; omega)) _ | refine Below.alloc ?_ (by first | omega | (simp; done) | (simp; omega)) _)⟩)
theorem fit_cases (a b : Int) : (∃ S : Nat, S ≤ 31 ∧ (∀ T : Nat, S < T → T ≤ 31 → 4294967295 < a * 2 ^ T / b) ∧ a * 2 ^ S / b ≤ 4294967295) ∨ (∀ T : Nat, T ≤ 31 → 4294967295 < a * 2 ^ T / b) := by
  have key : ∀ n : Nat, n ≤ 32 → (∃ S : Nat, S ≤ 31 ∧ (∀ T : Nat, S < T → T ≤ 31 → 4294967295 < a * 2 ^ T / b) ∧ a * 2 ^ S / b ≤ 4294967295) ∨ (∀ T : Nat, 32 - n ≤ T → T ≤ 31 → 4294967295 < a * 2 ^ T / b) := by
    intro n
    induction n with
    | zero => intro _; right; intro T h1 h2; omega
    | succ n ih =>
      intro hn
      rcases ih (by omega) with h | h
      · exact Or.inl h
      · by_cases hq : a * 2 ^ (32 - (n + 1)) / b ≤ 4294967295
        · exact Or.inl ⟨32 - (n + 1), by omega, fun T h1 h2 => h T (by omega) h2, hq⟩
        · right
          intro T h1 h2
          rcases Nat.lt_or_ge T (32 - n) with h3 | h3
          · rw [show T = 32 - (n + 1) by omega]; omega
          · exact h T h3 h2
  rcases key 32 (by omega) with h | h
  · exact Or.inl h
  · exact Or.inr fun T hT => h T (by omega) hT
end Go.Proofs.YtffdglhdklmjoaaDoor
