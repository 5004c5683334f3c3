/-
  Layer 3: the factor of a fraction, by the reference.
-/
import Derived.Test.YtffdglhdklmjoaaDoorW03c
namespace Go.Proofs.YtffdglhdklmjoaaDoor
open Go.RowKit Go.Extern.Stop Go.Stop Go.Extern
set_option linter.unusedVariables false
set_option linter.unusedSimpArgs false
theorem badfit {a b : Int} (a0 : 0 ≤ a) (b0 : 0 ≤ b) (h : a = 0 ∨ b = 0 ∨ 1099511627776 < a ∨ 1099511627776 < b) : a = 0 ∨ (a ≠ 0 ∧ b = 0) ∨ (a ≠ 0 ∧ b ≠ 0 ∧ 1099511627776 < a) ∨ (a ≠ 0 ∧ b ≠ 0 ∧ a ≤ 1099511627776 ∧ 1099511627776 < b) := by omega
set_option maxRecDepth 100000 in
theorem rfit_arg (a b : Int) (w : World) (a0 : 0 ≤ a) (b0 : 0 ≤ b) (h : a = 0 ∨ b = 0 ∨ 1099511627776 < a ∨ 1099511627776 < b) : Calls Tryd.prog 44 #[.int .u64 a, .int .u64 b] w fun e w' => e = .returned (.tuple #[.agg #[.int .u32 0, .int .i64 0], .int .i64 1]) ∧ Below w.heap.size w w' := by
  have hB := Below.refl w.heap.size w
  rcases badfit a0 b0 h with h1 | ⟨h1, h2⟩ | ⟨h1, h2, h3⟩ | ⟨h1, h2, h3, h4⟩
  · subst h1
    clear h
    go_enter Tryd.func44, Tryd.ntmps44
    go_wp2_with (fail)
    refine bodyPost_ret (v := .tuple #[.agg #[.int .u32 0, .int .i64 0], .int .i64 1]) (by first | (simp [results, Tryd.results44, go_sem]; done) | (simp only [results, Tryd.results44]; go_simp; done) | (simp only [results, Tryd.results44]; go_simp; omega)) rfl (⟨rfl, (by repeat (first | with_reducible assumption | exact Below.refl _ _ | refine Below.drew ?_ | refine Below.setCell ?_ (by first | omega | (simp; done) | (simp; omega)) _ | refine Below.alloc ?_ (by first | omega | (simp; done) | (simp; omega)) _))⟩)
  · subst h2
    clear h
    have hd1 : (a == 0) = false := beq_false_of_ne h1
    go_enter Tryd.func44, Tryd.ntmps44
    go_wp2_with (fail)
    refine bodyPost_ret (v := .tuple #[.agg #[.int .u32 0, .int .i64 0], .int .i64 1]) (by first | (simp [results, Tryd.results44, go_sem]; done) | (simp only [results, Tryd.results44]; go_simp; done) | (simp only [results, Tryd.results44]; go_simp; omega)) rfl (⟨rfl, (by repeat (first | with_reducible assumption | exact Below.refl _ _ | refine Below.drew ?_ | refine Below.setCell ?_ (by first | omega | (simp; done) | (simp; omega)) _ | refine Below.alloc ?_ (by first | omega | (simp; done) | (simp; omega)) _))⟩)
  · have hd1 : (a == 0) = false := beq_false_of_ne h1
    have hd2 : (b == 0) = false := beq_false_of_ne h2
    have hd3 : decide (a ≤ 1099511627776) = false := decide_eq_false (by omega)
    clear h h1 h2
    go_enter Tryd.func44, Tryd.ntmps44
    go_wp2_with (fail)
    refine bodyPost_ret (v := .tuple #[.agg #[.int .u32 0, .int .i64 0], .int .i64 1]) (by first | (simp [results, Tryd.results44, go_sem]; done) | (simp only [results, Tryd.results44]; go_simp; done) | (simp only [results, Tryd.results44]; go_simp; omega)) rfl (⟨rfl, (by repeat (first | with_reducible assumption | exact Below.refl _ _ | refine Below.drew ?_ | refine Below.setCell ?_ (by first | omega | (simp; done) | (simp; omega)) _ | refine Below.alloc ?_ (by first | omega | (simp; done) | (simp; omega)) _))⟩)
  · have hd1 : (a == 0) = false := beq_false_of_ne h1
    have hd2 : (b == 0) = false := beq_false_of_ne h2
    have hd3 : decide (a ≤ 1099511627776) = true := decide_eq_true (by omega)
    have hd4 : decide (b ≤ 1099511627776) = false := decide_eq_false (by omega)
    clear h h1 h2
    go_enter Tryd.func44, Tryd.ntmps44
    go_wp2_with (fail)
    refine bodyPost_ret (v := .tuple #[.agg #[.int .u32 0, .int .i64 0], .int .i64 1]) (by first | (simp [results, Tryd.results44, go_sem]; done) | (simp only [results, Tryd.results44]; go_simp; done) | (simp only [results, Tryd.results44]; go_simp; omega)) rfl (⟨rfl, (by repeat (first | with_reducible assumption | exact Below.refl _ _ | refine Below.drew ?_ | refine Below.setCell ?_ (by first | omega | (simp; done) | (simp; omega)) _ | refine Below.alloc ?_ (by first | omega | (simp; done) | (simp; omega)) _))⟩)
set_option maxRecDepth 100000 in
set_option maxHeartbeats 400000 in
theorem rfit_at (a b : Int) (w : World) (a0 : 1 ≤ a) (a1 : a ≤ 1099511627776) (b0 : 1 ≤ b) (b1 : b ≤ 1099511627776) (S : Int) (hS0 : -1 ≤ S) (hS1 : S ≤ 31) (hbig : ∀ T : Nat, S < (T : Int) → T ≤ 31 → 4294967295 < a * 2 ^ T / b) (h0 : 0 ≤ S) (M : Int) (hM0 : 1 ≤ M) (hM1 : M ≤ 4294967295) (hfit : a * 2 ^ S.toNat / b = M) : Calls Tryd.prog 44 #[.int .u64 a, .int .u64 b] w fun e w' => e = .returned (.tuple #[.agg #[.int .u32 M, .int .i64 S], .int .i64 0]) ∧ Below w.heap.size w w' := by
  have hB := Below.refl w.heap.size w
  have HBG := Lib.hid hbig
  clear hbig
  have hd1 : (a == 0) = false := beq_false_of_ne (by omega)
  have hd2 : (b == 0) = false := beq_false_of_ne (by omega)
  have hd3 : decide (a ≤ 1099511627776) = true := decide_eq_true a1
  have hd4 : decide (b ≤ 1099511627776) = true := decide_eq_true b1
  have hwa : wrap64 a = a := IntWalk.wrap64_in _ (by omega)
  have hwb : wrap64 b = b := IntWalk.wrap64_in _ (by omega)
  have HFT := Lib.hid hfit
  clear hfit
  have hdm : (M == 0) = false := beq_false_of_ne (by omega)
  have k9 : IntKind.u32.wrap M = M := by rw [IntKind.wrap_u32]; omega
  go_enter Tryd.func44, Tryd.ntmps44
  go_wp2_with (fail)
  go_loopw [6] (fun i wr => ∃ k : Int, S ≤ k ∧ k ≤ 31 ∧ i = .int .i64 k ∧ R2 w.heap.size (.int .u32 0) (.int .i64 0) wr ∧ Below w.heap.size w wr) (fun i _ => (intOf i + 1).toNat)
  case atStart => exact ⟨31, hS1, by omega, rfl, ⟨by simp, by go_simp, by go_simp, by go_simp, by go_simp⟩, (by repeat (first | with_reducible assumption | exact Below.refl _ _ | refine Below.drew ?_ | refine Below.setCell ?_ (by first | omega | (simp; done) | (simp; omega)) _ | refine Below.alloc ?_ (by first | omega | (simp; done) | (simp; omega)) _))⟩
  case round =>
    obtain ⟨k, hk0, hk1, rfl, hR, hB⟩ := hrel
    by_cases hlt : S < k
    · have hpr := pow_rng (n := k) (by omega) hk1
      have hbg := HBG.out k.toNat (by omega) (by omega)
      obtain ⟨p, hp⟩ : ∃ p : Int, p = 2 ^ k.toNat := ⟨_, rfl⟩
      rw [← hp] at hpr hbg
      have hs : wrap64 (2 ^ k.toNat) = p := by rw [← hp]; exact IntWalk.wrap64_in _ (by omega)
      have hk00 : 0 ≤ k := by omega
      have HS := Lib.hid hs
      clear hp hs
      have ia : InR a := by omega
      have ip : InR p := by omega
      have ib : InR b := by omega
      have nb : ¬ b < 1 := by omega
      have hMM := fun w : World => rmuldiv a p b w ia ip ib
      by_cases hq : InR (a * p / b)
      · obtain ⟨q, hqe⟩ : ∃ q, a * p / b = q := ⟨_, rfl⟩
        rw [hqe] at hq hbg
        have e1 : mdN a p b = q := by unfold mdN; rw [if_neg nb, hqe, if_pos hq]
        have e2 : mdE a p b = 0 := by unfold mdE; rw [if_neg nb, hqe, if_pos hq]
        have hM : ∀ w : World, Calls Tryd.prog 40 #[.int .i64 a, .int .i64 p, .int .i64 b] w fun e w' => e = .returned (.tuple #[.int .i64 q, .int .i64 0]) ∧ Below w.heap.size w w' := fun w => by have h := hMM w; rw [e1, e2] at h; exact h
        have HM := Lib.hid hM
        have hd5 : decide (q ≤ 4294967295) = false := decide_eq_false (by omega)
        clear hMM hM e1 e2 hqe
        have hs := HS.out
        go_wp2_with (go_at_call 40; (with_reducible refine (HM.out _).mono ?_); rintro e w1 ⟨rfl, hb1⟩)
        clear hs
        go_roundw
        case rel => exact ⟨k - 1, by omega, by omega, rfl, hR.step hb1, hB.trans (hb1.mono hB.size)⟩
        case measure => simp [intOf]; omega
      · have e1 : mdN a p b = 0 := by unfold mdN; rw [if_neg nb, if_neg hq]
        have e2 : mdE a p b = 2 := by unfold mdE; rw [if_neg nb, if_neg hq]
        have hM : ∀ w : World, Calls Tryd.prog 40 #[.int .i64 a, .int .i64 p, .int .i64 b] w fun e w' => e = .returned (.tuple #[.int .i64 0, .int .i64 2]) ∧ Below w.heap.size w w' := fun w => by have h := hMM w; rw [e1, e2] at h; exact h
        have HM := Lib.hid hM
        clear hMM hM e1 e2 hbg
        have hs := HS.out
        go_wp2_with (go_at_call 40; (with_reducible refine (HM.out _).mono ?_); rintro e w1 ⟨rfl, hb1⟩)
        clear hs
        go_roundw
        case rel => exact ⟨k - 1, by omega, by omega, rfl, hR.step hb1, hB.trans (hb1.mono hB.size)⟩
        case measure => simp [intOf]; omega
    · obtain rfl : k = S := by omega
      have hpr := pow_rng (n := k) (by omega) hk1
      obtain ⟨p, hp⟩ : ∃ p : Int, p = 2 ^ k.toNat := ⟨_, rfl⟩
      have hqe := HFT.out
      rw [← hp] at hpr hqe
      have hs : wrap64 (2 ^ k.toNat) = p := by rw [← hp]; exact IntWalk.wrap64_in _ (by omega)
      have HS := Lib.hid hs
      clear hp hs
      have ia : InR a := by omega
      have ip : InR p := by omega
      have ib : InR b := by omega
      have nb : ¬ b < 1 := by omega
      have e1 : mdN a p b = M := by unfold mdN; rw [if_neg nb, hqe, if_pos (by omega)]
      have e2 : mdE a p b = 0 := by unfold mdE; rw [if_neg nb, hqe, if_pos (by omega)]
      have hM : ∀ w : World, Calls Tryd.prog 40 #[.int .i64 a, .int .i64 p, .int .i64 b] w fun e w' => e = .returned (.tuple #[.int .i64 M, .int .i64 0]) ∧ Below w.heap.size w w' := fun w => by have h := rmuldiv a p b w ia ip ib; rw [e1, e2] at h; exact h
      have HM := Lib.hid hM
      have hd5 : decide (M ≤ 4294967295) = true := decide_eq_true (by omega)
      clear hM e1 e2 hqe
      have HR := Lib.hid hR
      clear hR
      have hs := HS.out
      go_wp2_with (go_at_call 40; (with_reducible refine (HM.out _).mono ?_); rintro e w1 ⟨rfl, hb1⟩; obtain ⟨r0, r1, r2, r3, r4⟩ := HR.out.step hb1)
      have hBB : Below w.heap.size w w1 := hB.trans (hb1.mono hB.size)
      refine bodyPost_ret (v := .tuple #[.agg #[.int .u32 M, .int .i64 k], .int .i64 0]) (by first | (simp [results, Tryd.results44, go_sem]; done) | (simp only [results, Tryd.results44]; go_simp; done) | (simp only [results, Tryd.results44]; go_simp; omega)) rfl (⟨rfl, by repeat (first | with_reducible assumption | exact hBB | exact Below.refl _ _ | refine Below.drew ?_ | refine Below.setCell ?_ (by first | omega | (simp; done) | (simp; omega)) _ | refine Below.alloc ?_ (by first | omega | (simp; done) | (simp; omega)) _)⟩)
set_option maxRecDepth 100000 in
set_option maxHeartbeats 400000 in
theorem rfit_zero (a b : Int) (w : World) (a0 : 1 ≤ a) (a1 : a ≤ 1099511627776) (b0 : 1 ≤ b) (b1 : b ≤ 1099511627776) (S : Int) (hS0 : -1 ≤ S) (hS1 : S ≤ 31) (hbig : ∀ T : Nat, S < (T : Int) → T ≤ 31 → 4294967295 < a * 2 ^ T / b) (h0 : 0 ≤ S) (hfit : a * 2 ^ S.toNat / b = 0) : Calls Tryd.prog 44 #[.int .u64 a, .int .u64 b] w fun e w' => e = .returned (.tuple #[.agg #[.int .u32 0, .int .i64 0], .int .i64 2]) ∧ Below w.heap.size w w' := by
  have hB := Below.refl w.heap.size w
  have HBG := Lib.hid hbig
  clear hbig
  have hd1 : (a == 0) = false := beq_false_of_ne (by omega)
  have hd2 : (b == 0) = false := beq_false_of_ne (by omega)
  have hd3 : decide (a ≤ 1099511627776) = true := decide_eq_true a1
  have hd4 : decide (b ≤ 1099511627776) = true := decide_eq_true b1
  have hwa : wrap64 a = a := IntWalk.wrap64_in _ (by omega)
  have hwb : wrap64 b = b := IntWalk.wrap64_in _ (by omega)
  obtain ⟨M, hMz⟩ : ∃ M : Int, M = 0 := ⟨_, rfl⟩
  rw [← hMz] at hfit
  have HFT := Lib.hid hfit
  have hM0 : 0 ≤ M := by omega
  have hM1 : M ≤ 0 := by omega
  have hdm : (M == 0) = true := beq_iff_eq.2 hMz
  clear hfit hMz
  go_enter Tryd.func44, Tryd.ntmps44
  go_wp2_with (fail)
  go_loopw [6] (fun i wr => ∃ k : Int, S ≤ k ∧ k ≤ 31 ∧ i = .int .i64 k ∧ R2 w.heap.size (.int .u32 0) (.int .i64 0) wr ∧ Below w.heap.size w wr) (fun i _ => (intOf i + 1).toNat)
  case atStart => exact ⟨31, hS1, by omega, rfl, ⟨by simp, by go_simp, by go_simp, by go_simp, by go_simp⟩, (by repeat (first | with_reducible assumption | exact Below.refl _ _ | refine Below.drew ?_ | refine Below.setCell ?_ (by first | omega | (simp; done) | (simp; omega)) _ | refine Below.alloc ?_ (by first | omega | (simp; done) | (simp; omega)) _))⟩
  case round =>
    obtain ⟨k, hk0, hk1, rfl, hR, hB⟩ := hrel
    by_cases hlt : S < k
    · have hpr := pow_rng (n := k) (by omega) hk1
      have hbg := HBG.out k.toNat (by omega) (by omega)
      obtain ⟨p, hp⟩ : ∃ p : Int, p = 2 ^ k.toNat := ⟨_, rfl⟩
      rw [← hp] at hpr hbg
      have hs : wrap64 (2 ^ k.toNat) = p := by rw [← hp]; exact IntWalk.wrap64_in _ (by omega)
      have hk00 : 0 ≤ k := by omega
      have HS := Lib.hid hs
      clear hp hs
      have ia : InR a := by omega
      have ip : InR p := by omega
      have ib : InR b := by omega
      have nb : ¬ b < 1 := by omega
      have hMM := fun w : World => rmuldiv a p b w ia ip ib
      by_cases hq : InR (a * p / b)
      · obtain ⟨q, hqe⟩ : ∃ q, a * p / b = q := ⟨_, rfl⟩
        rw [hqe] at hq hbg
        have e1 : mdN a p b = q := by unfold mdN; rw [if_neg nb, hqe, if_pos hq]
        have e2 : mdE a p b = 0 := by unfold mdE; rw [if_neg nb, hqe, if_pos hq]
        have hM : ∀ w : World, Calls Tryd.prog 40 #[.int .i64 a, .int .i64 p, .int .i64 b] w fun e w' => e = .returned (.tuple #[.int .i64 q, .int .i64 0]) ∧ Below w.heap.size w w' := fun w => by have h := hMM w; rw [e1, e2] at h; exact h
        have HM := Lib.hid hM
        have hd5 : decide (q ≤ 4294967295) = false := decide_eq_false (by omega)
        clear hMM hM e1 e2 hqe
        have hs := HS.out
        go_wp2_with (go_at_call 40; (with_reducible refine (HM.out _).mono ?_); rintro e w1 ⟨rfl, hb1⟩)
        clear hs
        go_roundw
        case rel => exact ⟨k - 1, by omega, by omega, rfl, hR.step hb1, hB.trans (hb1.mono hB.size)⟩
        case measure => simp [intOf]; omega
      · have e1 : mdN a p b = 0 := by unfold mdN; rw [if_neg nb, if_neg hq]
        have e2 : mdE a p b = 2 := by unfold mdE; rw [if_neg nb, if_neg hq]
        have hM : ∀ w : World, Calls Tryd.prog 40 #[.int .i64 a, .int .i64 p, .int .i64 b] w fun e w' => e = .returned (.tuple #[.int .i64 0, .int .i64 2]) ∧ Below w.heap.size w w' := fun w => by have h := hMM w; rw [e1, e2] at h; exact h
        have HM := Lib.hid hM
        clear hMM hM e1 e2 hbg
        have hs := HS.out
        go_wp2_with (go_at_call 40; (with_reducible refine (HM.out _).mono ?_); rintro e w1 ⟨rfl, hb1⟩)
        clear hs
        go_roundw
        case rel => exact ⟨k - 1, by omega, by omega, rfl, hR.step hb1, hB.trans (hb1.mono hB.size)⟩
        case measure => simp [intOf]; omega
    · obtain rfl : k = S := by omega
      have hpr := pow_rng (n := k) (by omega) hk1
      obtain ⟨p, hp⟩ : ∃ p : Int, p = 2 ^ k.toNat := ⟨_, rfl⟩
      have hqe := HFT.out
      rw [← hp] at hpr hqe
      have hs : wrap64 (2 ^ k.toNat) = p := by rw [← hp]; exact IntWalk.wrap64_in _ (by omega)
      have HS := Lib.hid hs
      clear hp hs
      have ia : InR a := by omega
      have ip : InR p := by omega
      have ib : InR b := by omega
      have nb : ¬ b < 1 := by omega
      have e1 : mdN a p b = M := by unfold mdN; rw [if_neg nb, hqe, if_pos (by omega)]
      have e2 : mdE a p b = 0 := by unfold mdE; rw [if_neg nb, hqe, if_pos (by omega)]
      have hM : ∀ w : World, Calls Tryd.prog 40 #[.int .i64 a, .int .i64 p, .int .i64 b] w fun e w' => e = .returned (.tuple #[.int .i64 M, .int .i64 0]) ∧ Below w.heap.size w w' := fun w => by have h := rmuldiv a p b w ia ip ib; rw [e1, e2] at h; exact h
      have HM := Lib.hid hM
      have hd5 : decide (M ≤ 4294967295) = true := decide_eq_true (by omega)
      clear hM e1 e2 hqe
      have HR := Lib.hid hR
      clear hR
      have hs := HS.out
      go_wp2_with (go_at_call 40; (with_reducible refine (HM.out _).mono ?_); rintro e w1 ⟨rfl, hb1⟩; obtain ⟨r0, r1, r2, r3, r4⟩ := HR.out.step hb1)
      have hBB : Below w.heap.size w w1 := hB.trans (hb1.mono hB.size)
      refine bodyPost_ret (v := .tuple #[.agg #[.int .u32 0, .int .i64 0], .int .i64 2]) (by first | (simp [results, Tryd.results44, go_sem]; done) | (simp only [results, Tryd.results44]; go_simp; done) | (simp only [results, Tryd.results44]; go_simp; omega)) rfl (⟨rfl, by repeat (first | with_reducible assumption | exact hBB | exact Below.refl _ _ | refine Below.drew ?_ | refine Below.setCell ?_ (by first | omega | (simp; done) | (simp; omega)) _ | refine Below.alloc ?_ (by first | omega | (simp; done) | (simp; omega)) _)⟩)
set_option maxRecDepth 100000 in
set_option maxHeartbeats 400000 in
theorem rfit_none (a b : Int) (w : World) (a0 : 1 ≤ a) (a1 : a ≤ 1099511627776) (b0 : 1 ≤ b) (b1 : b ≤ 1099511627776) (S : Int) (hS0 : -1 ≤ S) (hS1 : S ≤ 31) (hbig : ∀ T : Nat, S < (T : Int) → T ≤ 31 → 4294967295 < a * 2 ^ T / b) (h0 : S = -1) : Calls Tryd.prog 44 #[.int .u64 a, .int .u64 b] w fun e w' => e = .returned (.tuple #[.agg #[.int .u32 0, .int .i64 0], .int .i64 2]) ∧ Below w.heap.size w w' := by
  have hB := Below.refl w.heap.size w
  have HBG := Lib.hid hbig
  clear hbig
  have hd1 : (a == 0) = false := beq_false_of_ne (by omega)
  have hd2 : (b == 0) = false := beq_false_of_ne (by omega)
  have hd3 : decide (a ≤ 1099511627776) = true := decide_eq_true a1
  have hd4 : decide (b ≤ 1099511627776) = true := decide_eq_true b1
  have hwa : wrap64 a = a := IntWalk.wrap64_in _ (by omega)
  have hwb : wrap64 b = b := IntWalk.wrap64_in _ (by omega)
  go_enter Tryd.func44, Tryd.ntmps44
  go_wp2_with (fail)
  go_loopw [6] (fun i wr => ∃ k : Int, S ≤ k ∧ k ≤ 31 ∧ i = .int .i64 k ∧ R2 w.heap.size (.int .u32 0) (.int .i64 0) wr ∧ Below w.heap.size w wr) (fun i _ => (intOf i + 1).toNat)
  case atStart => exact ⟨31, hS1, by omega, rfl, ⟨by simp, by go_simp, by go_simp, by go_simp, by go_simp⟩, (by repeat (first | with_reducible assumption | exact Below.refl _ _ | refine Below.drew ?_ | refine Below.setCell ?_ (by first | omega | (simp; done) | (simp; omega)) _ | refine Below.alloc ?_ (by first | omega | (simp; done) | (simp; omega)) _))⟩
  case round =>
    obtain ⟨k, hk0, hk1, rfl, hR, hB⟩ := hrel
    by_cases hlt : S < k
    · have hpr := pow_rng (n := k) (by omega) hk1
      have hbg := HBG.out k.toNat (by omega) (by omega)
      obtain ⟨p, hp⟩ : ∃ p : Int, p = 2 ^ k.toNat := ⟨_, rfl⟩
      rw [← hp] at hpr hbg
      have hs : wrap64 (2 ^ k.toNat) = p := by rw [← hp]; exact IntWalk.wrap64_in _ (by omega)
      have hk00 : 0 ≤ k := by omega
      have HS := Lib.hid hs
      clear hp hs
      have ia : InR a := by omega
      have ip : InR p := by omega
      have ib : InR b := by omega
      have nb : ¬ b < 1 := by omega
      have hMM := fun w : World => rmuldiv a p b w ia ip ib
      by_cases hq : InR (a * p / b)
      · obtain ⟨q, hqe⟩ : ∃ q, a * p / b = q := ⟨_, rfl⟩
        rw [hqe] at hq hbg
        have e1 : mdN a p b = q := by unfold mdN; rw [if_neg nb, hqe, if_pos hq]
        have e2 : mdE a p b = 0 := by unfold mdE; rw [if_neg nb, hqe, if_pos hq]
        have hM : ∀ w : World, Calls Tryd.prog 40 #[.int .i64 a, .int .i64 p, .int .i64 b] w fun e w' => e = .returned (.tuple #[.int .i64 q, .int .i64 0]) ∧ Below w.heap.size w w' := fun w => by have h := hMM w; rw [e1, e2] at h; exact h
        have HM := Lib.hid hM
        have hd5 : decide (q ≤ 4294967295) = false := decide_eq_false (by omega)
        clear hMM hM e1 e2 hqe
        have hs := HS.out
        go_wp2_with (go_at_call 40; (with_reducible refine (HM.out _).mono ?_); rintro e w1 ⟨rfl, hb1⟩)
        clear hs
        go_roundw
        case rel => exact ⟨k - 1, by omega, by omega, rfl, hR.step hb1, hB.trans (hb1.mono hB.size)⟩
        case measure => simp [intOf]; omega
      · have e1 : mdN a p b = 0 := by unfold mdN; rw [if_neg nb, if_neg hq]
        have e2 : mdE a p b = 2 := by unfold mdE; rw [if_neg nb, if_neg hq]
        have hM : ∀ w : World, Calls Tryd.prog 40 #[.int .i64 a, .int .i64 p, .int .i64 b] w fun e w' => e = .returned (.tuple #[.int .i64 0, .int .i64 2]) ∧ Below w.heap.size w w' := fun w => by have h := hMM w; rw [e1, e2] at h; exact h
        have HM := Lib.hid hM
        clear hMM hM e1 e2 hbg
        have hs := HS.out
        go_wp2_with (go_at_call 40; (with_reducible refine (HM.out _).mono ?_); rintro e w1 ⟨rfl, hb1⟩)
        clear hs
        go_roundw
        case rel => exact ⟨k - 1, by omega, by omega, rfl, hR.step hb1, hB.trans (hb1.mono hB.size)⟩
        case measure => simp [intOf]; omega
    · obtain rfl : k = S := by omega
      obtain ⟨r0, r1, r2, r3, r4⟩ := hR
      have hlt2 : k < 0 := by omega
      clear h0
      go_wp2_with (fail)
      refine bodyPost_ret (v := .tuple #[.agg #[.int .u32 0, .int .i64 0], .int .i64 2]) (by first | (simp [results, Tryd.results44, go_sem]; done) | (simp only [results, Tryd.results44]; go_simp; done) | (simp only [results, Tryd.results44]; go_simp; omega)) rfl (⟨rfl, (by repeat (first | with_reducible assumption | exact Below.refl _ _ | refine Below.drew ?_ | refine Below.setCell ?_ (by first | omega | (simp; done) | (simp; omega)) _ | refine Below.alloc ?_ (by first | omega | (simp; done) | (simp; omega)) _))⟩)
/-- the same factor, or the same error -/
theorem fit_both (a b : Int) (a0 : 0 ≤ a) (b0 : 0 ≤ b) : ∃ M S E : Int, (∀ w : World, Calls Tryd.prog 43 #[.int .u64 a, .int .u64 b] w fun e w' => e = .returned (.tuple #[.agg #[.int .u32 M, .int .i64 S], errOf E]) ∧ Below w.heap.size w w') ∧ (∀ w : World, Calls Tryd.prog 44 #[.int .u64 a, .int .u64 b] w fun e w' => e = .returned (.tuple #[.agg #[.int .u32 M, .int .i64 S], .int .i64 E]) ∧ Below w.heap.size w w') := by
  by_cases h : a = 0 ∨ b = 0 ∨ 1099511627776 < a ∨ 1099511627776 < b
  · exact ⟨0, 0, 1, fun w => fit_arg a b w a0 b0 h, fun w => rfit_arg a b w a0 b0 h⟩
  · have h1 : 1 ≤ a := by omega
    have h2 : a ≤ 1099511627776 := by omega
    have h3 : 1 ≤ b := by omega
    have h4 : b ≤ 1099511627776 := by omega
    rcases fit_cases a b with ⟨S, hS, hb, hf⟩ | hb
    · have hp : (0 : Int) < 2 ^ S := Int.pow_pos (by decide)
      have hn : 0 ≤ a * 2 ^ S / b := Int.ediv_nonneg (Int.mul_nonneg (by omega) (by omega)) (by omega)
      by_cases hz : a * 2 ^ S / b = 0
      · exact ⟨0, 0, 2, fun w => fit_zero a b w h1 h2 h3 h4 S hS hb hz, fun w => rfit_zero a b w h1 h2 h3 h4 S (by omega) (by omega) (fun T hT hT1 => hb T (by omega) hT1) (by omega) (by rw [Int.toNat_natCast]; exact hz)⟩
      · exact ⟨_, S, 0, fun w => fit_at a b w h1 h2 h3 h4 S hS hb hf (by omega), fun w => rfit_at a b w h1 h2 h3 h4 S (by omega) (by omega) (fun T hT hT1 => hb T (by omega) hT1) (by omega) _ (by omega) hf (by rw [Int.toNat_natCast])⟩
    · exact ⟨0, 0, 2, fun w => fit_none a b w h1 h2 h3 h4 hb, fun w => rfit_none a b w h1 h2 h3 h4 (-1) (by omega) (by omega) (fun T _ hT1 => hb T hT1) rfl⟩
theorem scale_both (m s n : Int) (m1 : m < 4294967296) (mm : 0 ≤ m) (hn : InR n) : ∃ N E : Int, (∀ w : World, Calls Tryd.prog 45 #[.agg #[.int .u32 m, .int .i64 s], .int .i64 n] w fun e w' => e = .returned (.tuple #[.int .i64 N, errOf E]) ∧ Below w.heap.size w w') ∧ (∀ w : World, Calls Tryd.prog 46 #[.agg #[.int .u32 m, .int .i64 s], .int .i64 n] w fun e w' => e = .returned (.tuple #[.int .i64 N, .int .i64 E]) ∧ Below w.heap.size w w') := by
  by_cases h : 1 ≤ m ∧ 0 ≤ s ∧ s ≤ 31
  · obtain ⟨m0, s0, s1⟩ := h
    exact ⟨_, _, fun w => pscale3 m s n w m0 m1 s0 s1 hn, fun w => rscale3 m s n w m0 m1 s0 s1 hn⟩
  · exact ⟨0, 1, fun w => pscale3_no m s n w h mm, fun w => rscale3_no m s n w h mm⟩
theorem off_both (m s n : Int) (m1 : m < 4294967296) (mm : 0 ≤ m) (hn : InR n) : ∃ N E : Int, (∀ w : World, Calls Tryd.prog 47 #[.agg #[.int .u32 m, .int .i64 s], .int .i64 n] w fun e w' => e = .returned (.tuple #[.int .i64 N, errOf E]) ∧ Below w.heap.size w w') ∧ (∀ w : World, Calls Tryd.prog 48 #[.agg #[.int .u32 m, .int .i64 s], .int .i64 n] w fun e w' => e = .returned (.tuple #[.int .i64 N, .int .i64 E]) ∧ Below w.heap.size w w') := by
  by_cases h : 1 ≤ m ∧ 0 ≤ s ∧ s ≤ 31
  · obtain ⟨m0, s0, s1⟩ := h
    by_cases h0 : n < 0
    · exact ⟨0, 1, fun w => poff3_neg m s n w m0 m1 s0 s1 h0, fun w => roff3_neg m s n w m0 m1 s0 s1 h0⟩
    · by_cases hv : n / 2 ^ s.toNat + 2 ≤ 9223372036854775807
      · exact ⟨_, 0, fun w => poff3 m s n w m0 m1 s0 s1 (by omega) (by omega) hv, fun w => roff3 m s n w m0 m1 s0 s1 (by omega) (by omega) hv⟩
      · exact ⟨0, 2, fun w => poff3_big m s n w m0 m1 s0 s1 (by omega) (by omega) (by omega), fun w => roff3_big m s n w m0 m1 s0 s1 (by omega) (by omega) (by omega)⟩
  · exact ⟨0, 1, fun w => poff3_no m s n w h mm, fun w => roff3_no m s n w h mm⟩
theorem adj_both (m s p : Int) (m1 : m < 4294967296) (mm : 0 ≤ m) (hp : InR p) : ∃ A T E : Int, (∀ w : World, Calls Tryd.prog 49 #[.agg #[.int .u32 m, .int .i64 s], .int .i64 p] w fun e w' => e = .returned (.tuple #[.agg #[.int .u32 A, .int .i64 T], errOf E]) ∧ Below w.heap.size w w') ∧ (∀ w : World, Calls Tryd.prog 50 #[.agg #[.int .u32 m, .int .i64 s], .int .i64 p] w fun e w' => e = .returned (.tuple #[.agg #[.int .u32 A, .int .i64 T], .int .i64 E]) ∧ Below w.heap.size w w') := by
  by_cases h : 1 ≤ m ∧ 0 ≤ s ∧ s ≤ 31
  · obtain ⟨m0, s0, s1⟩ := h
    by_cases hv : 1 ≤ adjF m p ∧ adjF m p ≤ 4294967295
    · exact ⟨_, s, 0, fun w => radj_ok m s p w m0 m1 s0 s1 hp hv.1 hv.2, fun w => radj3 m s p w m0 m1 s0 s1 hp hv.1 hv.2⟩
    · exact ⟨0, 0, 2, fun w => radj_big m s p w m0 m1 s0 s1 hp hv, fun w => radj3_big m s p w m0 m1 s0 s1 hp hv⟩
  · exact ⟨0, 0, 1, fun w => radj_no m s p w h mm, fun w => radj3_no m s p w h mm⟩
end Go.Proofs.YtffdglhdklmjoaaDoor
