/-
  Layer 2: the statement WideTimes.
-/
import Derived.Test.YtffdglhdklmjoaaDoorW02s
import Derived.Test.YtffdglhdklmjoaaDoorV02
namespace Go.Proofs.YtffdglhdklmjoaaDoor
open Go.RowKit Go.Extern.Stop Go.Stop Go.Extern
set_option linter.unusedVariables false
set_option linter.unusedSimpArgs false
set_option maxRecDepth 100000 in
set_option maxHeartbeats 1000000 in
theorem rms_ok (a m n : Int) (w : World) (ha : InR a) (hm0 : 0 ≤ m) (hm1 : m < 4294967296) (h0 : 0 ≤ n) (h1 : n ≤ 31) : Calls Tryd.prog 42 #[.int .i64 a, .int .u32 m, .int .i64 n] w fun e w' => e = .returned (.tuple #[.int .i64 (mdN a m (2 ^ n.toNat)), .int .i64 (mdE a m (2 ^ n.toNat))]) ∧ Below w.heap.size w w' := by
  have hp := pow_rng h0 h1
  obtain ⟨p, hpe⟩ : ∃ p : Int, p = 2 ^ n.toNat := ⟨_, rfl⟩
  rw [← hpe] at hp ⊢
  have hs : wrap64 (2 ^ n.toNat) = p := by rw [← hpe]; exact IntWalk.wrap64_in _ (by omega)
  have HP := Lib.hid hpe
  clear hpe
  have hmr : InR m := by omega
  have hpr : InR p := by omega
  go_enter Tryd.func42, Tryd.ntmps42
  go_wp2_with (fail)
  (with_reducible refine (rmuldiv a m p _ ha hmr hpr).mono ?_)
  rintro e w1 ⟨rfl, hb1⟩
  go_wp2_with (fail)
  go_ret2
  exact ⟨rfl, hb1⟩
theorem rms_any (a m n : Int) (w : World) (ha : InR a) (hm0 : 0 ≤ m) (hm1 : m < 4294967296) (hn : InR n) : Calls Tryd.prog 42 #[.int .i64 a, .int .u32 m, .int .i64 n] w fun e w' => e = .returned (.tuple #[.int .i64 (msN a m n), .int .i64 (msE a m n)]) ∧ Below w.heap.size w w' := by
  by_cases h : n < 0 ∨ 31 < n
  · have e1 : msN a m n = 0 := by unfold msN; rw [if_pos h]
    have e2 : msE a m n = 1 := by unfold msE; rw [if_pos h]
    rw [e1, e2]; exact rms_no a m n w h
  · have e1 : msN a m n = mdN a m (2 ^ n.toNat) := by unfold msN; rw [if_neg h]
    have e2 : msE a m n = mdE a m (2 ^ n.toNat) := by unfold msE; rw [if_neg h]
    rw [e1, e2]; exact rms_ok a m n w ha hm0 hm1 (by omega) (by omega)
theorem num02_any (n : Int) (w : World) (hg : w.cell? ⟨0, 0, none⟩ = some asHandle) : Calls Tryd.prog 28 #[errOf n] w fun e w' => e = .returned (.int .i64 n) ∧ Below w.heap.size w w' := by
  by_cases h : n = 0
  · subst h; rw [errOf_zero]; exact num02_nil _
  · rw [errOf_ne h]; exact num02_err _ _ hg
set_option maxRecDepth 100000 in
set_option maxHeartbeats 8000000 in
theorem walkWideTimes (a b c : Int) (ha : InR a) (hb : InR b) (hc : InR c) (w : World) (hg : w.cell? ⟨0, 0, none⟩ = some asHandle) :
    Calls Tryd.prog 5 #[.int .i64 a, .int .i64 b, .int .i64 c] w fun e w' => e = .returned (.bool true) ∧ Below w.heap.size w w' := by
  have hH := Held.start hg
  have hm : 0 ≤ b % 4294967296 ∧ b % 4294967296 < 4294967296 := by omega
  go_enter Tryd.func5, Tryd.ntmps5
  go_wp2_with (fail)
  go_at_call 39
  (with_reducible refine (wmuldiv_any a b c _ ha hb hc).mono ?_)
  rintro e w1 ⟨rfl, HB⟩
  obtain ⟨hc1, hf1⟩ := bcell HB
  obtain ⟨hd1, hh1⟩ := bcell2 (U := w) (by repeat (first | exact Below.refl _ _ | refine Below.setCell ?_ (by simp <;> omega) _ | refine Below.alloc ?_ (by simp <;> omega) _ | refine Below.drew ?_)) HB
  have hz1 := HB.size
  try simp at hz1
  (try (have z1w0 : w.heap.size < w1.heap.size := (by omega)))
  (try (have z1w1 : w.heap.size + 1 < w1.heap.size := (by omega)))
  (try (have z1w2 : w.heap.size + 1 + 1 < w1.heap.size := (by omega)))
  (try (have z1w3 : w.heap.size + 1 + 1 + 1 < w1.heap.size := (by omega)))
  have hH1 := Held.step (w0 := w) (by repeat (first | assumption | refine Held.alloc ?_ _ | refine Held.drew ?_)) HB
  clear HB
  go_wp2_with (fail)
  go_at_call 40
  (with_reducible refine (rmuldiv a b c _ ha hb hc).mono ?_)
  rintro e w2 ⟨rfl, HB⟩
  obtain ⟨hc2, hf2⟩ := bcell HB
  obtain ⟨hd2, hh2⟩ := bcell2 (U := w1) (by repeat (first | exact Below.refl _ _ | refine Below.setCell ?_ (by simp <;> omega) _ | refine Below.alloc ?_ (by simp <;> omega) _ | refine Below.drew ?_)) HB
  have hz2 := HB.size
  try simp at hz2
  (try (have z2w0 : w.heap.size < w2.heap.size := (by omega)))
  (try (have z2w1 : w.heap.size + 1 < w2.heap.size := (by omega)))
  (try (have z2w2 : w.heap.size + 1 + 1 < w2.heap.size := (by omega)))
  (try (have z2w3 : w.heap.size + 1 + 1 + 1 < w2.heap.size := (by omega)))
  (try (have z2w10 : w1.heap.size < w2.heap.size := (by omega)))
  (try (have z2w11 : w1.heap.size + 1 < w2.heap.size := (by omega)))
  (try (have z2w12 : w1.heap.size + 1 + 1 < w2.heap.size := (by omega)))
  (try (have z2w13 : w1.heap.size + 1 + 1 + 1 < w2.heap.size := (by omega)))
  have hH2 := Held.step (w0 := w) (by repeat (first | assumption | refine Held.alloc ?_ _ | refine Held.drew ?_)) HB
  clear HB
  go_wp2_with (fail)
  go_at_call 41
  (with_reducible refine (wmulshift_any a (b % 4294967296) c _ ha hm.1 hm.2 hc).mono ?_)
  rintro e w3 ⟨rfl, HB⟩
  obtain ⟨hc3, hf3⟩ := bcell HB
  obtain ⟨hd3, hh3⟩ := bcell2 (U := w2) (by repeat (first | exact Below.refl _ _ | refine Below.setCell ?_ (by simp <;> omega) _ | refine Below.alloc ?_ (by simp <;> omega) _ | refine Below.drew ?_)) HB
  have hz3 := HB.size
  try simp at hz3
  (try (have z3w0 : w.heap.size < w3.heap.size := (by omega)))
  (try (have z3w1 : w.heap.size + 1 < w3.heap.size := (by omega)))
  (try (have z3w2 : w.heap.size + 1 + 1 < w3.heap.size := (by omega)))
  (try (have z3w3 : w.heap.size + 1 + 1 + 1 < w3.heap.size := (by omega)))
  (try (have z3w10 : w1.heap.size < w3.heap.size := (by omega)))
  (try (have z3w11 : w1.heap.size + 1 < w3.heap.size := (by omega)))
  (try (have z3w12 : w1.heap.size + 1 + 1 < w3.heap.size := (by omega)))
  (try (have z3w13 : w1.heap.size + 1 + 1 + 1 < w3.heap.size := (by omega)))
  (try (have z3w20 : w2.heap.size < w3.heap.size := (by omega)))
  (try (have z3w21 : w2.heap.size + 1 < w3.heap.size := (by omega)))
  (try (have z3w22 : w2.heap.size + 1 + 1 < w3.heap.size := (by omega)))
  (try (have z3w23 : w2.heap.size + 1 + 1 + 1 < w3.heap.size := (by omega)))
  have hH3 := Held.step (w0 := w) (by repeat (first | assumption | refine Held.alloc ?_ _ | refine Held.drew ?_)) HB
  clear HB
  go_wp2_with (fail)
  go_at_call 42
  (with_reducible refine (rms_any a (b % 4294967296) c _ ha hm.1 hm.2 hc).mono ?_)
  rintro e w4 ⟨rfl, HB⟩
  obtain ⟨hc4, hf4⟩ := bcell HB
  obtain ⟨hd4, hh4⟩ := bcell2 (U := w3) (by repeat (first | exact Below.refl _ _ | refine Below.setCell ?_ (by simp <;> omega) _ | refine Below.alloc ?_ (by simp <;> omega) _ | refine Below.drew ?_)) HB
  have hz4 := HB.size
  try simp at hz4
  (try (have z4w0 : w.heap.size < w4.heap.size := (by omega)))
  (try (have z4w1 : w.heap.size + 1 < w4.heap.size := (by omega)))
  (try (have z4w2 : w.heap.size + 1 + 1 < w4.heap.size := (by omega)))
  (try (have z4w3 : w.heap.size + 1 + 1 + 1 < w4.heap.size := (by omega)))
  (try (have z4w10 : w1.heap.size < w4.heap.size := (by omega)))
  (try (have z4w11 : w1.heap.size + 1 < w4.heap.size := (by omega)))
  (try (have z4w12 : w1.heap.size + 1 + 1 < w4.heap.size := (by omega)))
  (try (have z4w13 : w1.heap.size + 1 + 1 + 1 < w4.heap.size := (by omega)))
  (try (have z4w20 : w2.heap.size < w4.heap.size := (by omega)))
  (try (have z4w21 : w2.heap.size + 1 < w4.heap.size := (by omega)))
  (try (have z4w22 : w2.heap.size + 1 + 1 < w4.heap.size := (by omega)))
  (try (have z4w23 : w2.heap.size + 1 + 1 + 1 < w4.heap.size := (by omega)))
  (try (have z4w30 : w3.heap.size < w4.heap.size := (by omega)))
  (try (have z4w31 : w3.heap.size + 1 < w4.heap.size := (by omega)))
  (try (have z4w32 : w3.heap.size + 1 + 1 < w4.heap.size := (by omega)))
  (try (have z4w33 : w3.heap.size + 1 + 1 + 1 < w4.heap.size := (by omega)))
  have hH4 := Held.step (w0 := w) (by repeat (first | assumption | refine Held.alloc ?_ _ | refine Held.drew ?_)) HB
  clear HB
  go_wp2_with (fail)
  go_at_call 41
  (with_reducible refine (wmulshift_any a (b % 4294967296) _ _ ha hm.1 hm.2 (by omega)).mono ?_)
  rintro e w5 ⟨rfl, HB⟩
  obtain ⟨hc5, hf5⟩ := bcell HB
  obtain ⟨hd5, hh5⟩ := bcell2 (U := w4) (by repeat (first | exact Below.refl _ _ | refine Below.setCell ?_ (by simp <;> omega) _ | refine Below.alloc ?_ (by simp <;> omega) _ | refine Below.drew ?_)) HB
  have hz5 := HB.size
  try simp at hz5
  (try (have z5w0 : w.heap.size < w5.heap.size := (by omega)))
  (try (have z5w1 : w.heap.size + 1 < w5.heap.size := (by omega)))
  (try (have z5w2 : w.heap.size + 1 + 1 < w5.heap.size := (by omega)))
  (try (have z5w3 : w.heap.size + 1 + 1 + 1 < w5.heap.size := (by omega)))
  (try (have z5w10 : w1.heap.size < w5.heap.size := (by omega)))
  (try (have z5w11 : w1.heap.size + 1 < w5.heap.size := (by omega)))
  (try (have z5w12 : w1.heap.size + 1 + 1 < w5.heap.size := (by omega)))
  (try (have z5w13 : w1.heap.size + 1 + 1 + 1 < w5.heap.size := (by omega)))
  (try (have z5w20 : w2.heap.size < w5.heap.size := (by omega)))
  (try (have z5w21 : w2.heap.size + 1 < w5.heap.size := (by omega)))
  (try (have z5w22 : w2.heap.size + 1 + 1 < w5.heap.size := (by omega)))
  (try (have z5w23 : w2.heap.size + 1 + 1 + 1 < w5.heap.size := (by omega)))
  (try (have z5w30 : w3.heap.size < w5.heap.size := (by omega)))
  (try (have z5w31 : w3.heap.size + 1 < w5.heap.size := (by omega)))
  (try (have z5w32 : w3.heap.size + 1 + 1 < w5.heap.size := (by omega)))
  (try (have z5w33 : w3.heap.size + 1 + 1 + 1 < w5.heap.size := (by omega)))
  (try (have z5w40 : w4.heap.size < w5.heap.size := (by omega)))
  (try (have z5w41 : w4.heap.size + 1 < w5.heap.size := (by omega)))
  (try (have z5w42 : w4.heap.size + 1 + 1 < w5.heap.size := (by omega)))
  (try (have z5w43 : w4.heap.size + 1 + 1 + 1 < w5.heap.size := (by omega)))
  have hH5 := Held.step (w0 := w) (by repeat (first | assumption | refine Held.alloc ?_ _ | refine Held.drew ?_)) HB
  clear HB
  go_wp2_with (fail)
  go_at_call 42
  (with_reducible refine (rms_any a (b % 4294967296) _ _ ha hm.1 hm.2 (by omega)).mono ?_)
  rintro e w6 ⟨rfl, HB⟩
  obtain ⟨hc6, hf6⟩ := bcell HB
  obtain ⟨hd6, hh6⟩ := bcell2 (U := w5) (by repeat (first | exact Below.refl _ _ | refine Below.setCell ?_ (by simp <;> omega) _ | refine Below.alloc ?_ (by simp <;> omega) _ | refine Below.drew ?_)) HB
  have hz6 := HB.size
  try simp at hz6
  (try (have z6w0 : w.heap.size < w6.heap.size := (by omega)))
  (try (have z6w1 : w.heap.size + 1 < w6.heap.size := (by omega)))
  (try (have z6w2 : w.heap.size + 1 + 1 < w6.heap.size := (by omega)))
  (try (have z6w3 : w.heap.size + 1 + 1 + 1 < w6.heap.size := (by omega)))
  (try (have z6w10 : w1.heap.size < w6.heap.size := (by omega)))
  (try (have z6w11 : w1.heap.size + 1 < w6.heap.size := (by omega)))
  (try (have z6w12 : w1.heap.size + 1 + 1 < w6.heap.size := (by omega)))
  (try (have z6w13 : w1.heap.size + 1 + 1 + 1 < w6.heap.size := (by omega)))
  (try (have z6w20 : w2.heap.size < w6.heap.size := (by omega)))
  (try (have z6w21 : w2.heap.size + 1 < w6.heap.size := (by omega)))
  (try (have z6w22 : w2.heap.size + 1 + 1 < w6.heap.size := (by omega)))
  (try (have z6w23 : w2.heap.size + 1 + 1 + 1 < w6.heap.size := (by omega)))
  (try (have z6w30 : w3.heap.size < w6.heap.size := (by omega)))
  (try (have z6w31 : w3.heap.size + 1 < w6.heap.size := (by omega)))
  (try (have z6w32 : w3.heap.size + 1 + 1 < w6.heap.size := (by omega)))
  (try (have z6w33 : w3.heap.size + 1 + 1 + 1 < w6.heap.size := (by omega)))
  (try (have z6w40 : w4.heap.size < w6.heap.size := (by omega)))
  (try (have z6w41 : w4.heap.size + 1 < w6.heap.size := (by omega)))
  (try (have z6w42 : w4.heap.size + 1 + 1 < w6.heap.size := (by omega)))
  (try (have z6w43 : w4.heap.size + 1 + 1 + 1 < w6.heap.size := (by omega)))
  (try (have z6w50 : w5.heap.size < w6.heap.size := (by omega)))
  (try (have z6w51 : w5.heap.size + 1 < w6.heap.size := (by omega)))
  (try (have z6w52 : w5.heap.size + 1 + 1 < w6.heap.size := (by omega)))
  (try (have z6w53 : w5.heap.size + 1 + 1 + 1 < w6.heap.size := (by omega)))
  have hH6 := Held.step (w0 := w) (by repeat (first | assumption | refine Held.alloc ?_ _ | refine Held.drew ?_)) HB
  clear HB
  go_wp2_with (first | (go_at_call 28; (with_reducible refine (num02_any _ _ (Held.handle (w0 := w) (by repeat (first | assumption | refine Held.alloc ?_ _ | refine Held.drew ?_ | refine Held.set1 ?_ (by first | omega | (simp; done) | (simp; omega)) (handle_lt hg) _)))).mono ?_); rintro e w' ⟨rfl, hb'⟩; obtain ⟨hc, hf⟩ := bcell hb'; have hz := hb'.size; (try (simp at hz)); have hH' := Held.step (w0 := w) (by repeat (first | assumption | refine Held.alloc ?_ _ | refine Held.drew ?_ | refine Held.set1 ?_ (by first | omega | (simp; done) | (simp; omega)) (handle_lt hg) _)) hb'; clear hb') | (go_at_call 34; (with_reducible refine (sure02 _ (Held.handle (w0 := w) (by repeat (first | assumption | refine Held.alloc ?_ _ | refine Held.drew ?_ | refine Held.set1 ?_ (by first | omega | (simp; done) | (simp; omega)) (handle_lt hg) _)))).mono ?_); rintro e w' ⟨rfl, hb'⟩; obtain ⟨hc, hf⟩ := bcell hb'; have hz := hb'.size; (try (simp at hz)); have hH' := Held.step (w0 := w) (by repeat (first | assumption | refine Held.alloc ?_ _ | refine Held.drew ?_ | refine Held.set1 ?_ (by first | omega | (simp; done) | (simp; omega)) (handle_lt hg) _)) hb'; clear hb') | go_in)
  go_ret
  exact ⟨rfl, Held.below (w0 := w) (by assumption)⟩
end Go.Proofs.YtffdglhdklmjoaaDoor
