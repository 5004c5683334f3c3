/-
  Layer 14: what the program tells of samples, in all cases.
-/
import Derived.Test.YtffdglhdklmjoaaDoorW14b
namespace Go.Proofs.YtffdglhdklmjoaaDoor
open Go.RowKit Go.Extern.Stop Go.Stop Go.Extern
set_option linter.unusedVariables false
set_option linter.unusedSimpArgs false
def OkS (A C S G E : Int) : Prop := OkT A ∧ OkT C ∧ OkT S ∧ OkT G ∧ 0 ≤ E ∧ E ≤ 1099511627776 ∧ 0 ≤ G - A ∧ 0 ≤ S - C ∧ G - A ≤ 1099511627776 ∧ S - C ≤ G - A
theorem scheck_no (A C S G E : Int) (w : World) (iA : InR A) (iC : InR C) (iS : InR S) (iG : InR G) (iE : InR E) (h : ¬ OkS A C S G E) : Calls Tryd.prog 88 #[.agg #[.int .i64 A, .int .i64 C, .int .i64 S, .int .i64 G, .int .i64 E]] w fun e w' => e = .returned (errV 1) ∧ Below w.heap.size w w' := by
  by_cases hA : OkT A
  · by_cases hC : OkT C
    · by_cases hS : OkT S
      · by_cases hG : OkT G
        · exact scheck_e A C S G E w iA iC iS iG iE hA hC hS hG (bad_e fun h' => h ⟨hA, hC, hS, hG, h'.1, h'.2.1, h'.2.2.1, h'.2.2.2.1, h'.2.2.2.2.1, h'.2.2.2.2.2⟩)
        · exact scheck_t3 A C S G E w iA iC iS iG iE hA hC hS hG
      · exact scheck_t2 A C S G E w iA iC iS iG iE hA hC hS
    · exact scheck_t1 A C S G E w iA iC iS iG iE hA hC
  · exact scheck_t0 A C S G E w iA iC iS iG iE hA
theorem scheck_yes (A C S G E : Int) (w : World) (h : OkS A C S G E) : Calls Tryd.prog 88 #[.agg #[.int .i64 A, .int .i64 C, .int .i64 S, .int .i64 G, .int .i64 E]] w fun e w' => e = .returned (.nilIface) ∧ Below w.heap.size w w' :=
  scheck_ok A C S G E w h.1 h.2.1 h.2.2.1 h.2.2.2.1 ⟨h.2.2.2.2.1, h.2.2.2.2.2.1⟩ h.2.2.2.2.2.2.1 h.2.2.2.2.2.2.2.2.1 h.2.2.2.2.2.2.2.1 h.2.2.2.2.2.2.2.2.2
set_option maxHeartbeats 1000000 in
theorem check2_lo (A C S G E rho : Int) (w : World) (hr : rho < 0) : Calls Tryd.prog 115 #[.agg #[.int .i64 A, .int .i64 C, .int .i64 S, .int .i64 G, .int .i64 E], .int .i64 rho] w fun e w' => e = .returned (errV 1) ∧ Below w.heap.size w w' := by
  have hB := Below.refl w.heap.size w
  go_enter Tryd.func115, Tryd.ntmps115
  go_wp2_with (fail)
  go_ret
  exact ⟨rfl, by repeat (first | with_reducible assumption | exact Below.refl _ _ | refine Below.drew ?_ | refine Below.setCell ?_ (by first | omega | (simp; done) | (simp; omega)) _ | refine Below.alloc ?_ (by first | omega | (simp; done) | (simp; omega)) _)⟩
set_option maxHeartbeats 1000000 in
theorem check2_hi (A C S G E rho : Int) (w : World) (hr0 : 0 ≤ rho) (hr : 1048576 < rho) : Calls Tryd.prog 115 #[.agg #[.int .i64 A, .int .i64 C, .int .i64 S, .int .i64 G, .int .i64 E], .int .i64 rho] w fun e w' => e = .returned (errV 1) ∧ Below w.heap.size w w' := by
  have hB := Below.refl w.heap.size w
  go_enter Tryd.func115, Tryd.ntmps115
  go_wp2_with (fail)
  go_ret
  exact ⟨rfl, by repeat (first | with_reducible assumption | exact Below.refl _ _ | refine Below.drew ?_ | refine Below.setCell ?_ (by first | omega | (simp; done) | (simp; omega)) _ | refine Below.alloc ?_ (by first | omega | (simp; done) | (simp; omega)) _)⟩
set_option maxHeartbeats 1000000 in
theorem check2_s (A C S G E rho : Int) (w : World) (iA : InR A) (iC : InR C) (iS : InR S) (iG : InR G) (iE : InR E) (r0 : 0 ≤ rho) (r1 : rho ≤ 1048576) (h : ¬ OkS A C S G E) : Calls Tryd.prog 115 #[.agg #[.int .i64 A, .int .i64 C, .int .i64 S, .int .i64 G, .int .i64 E], .int .i64 rho] w fun e w' => e = .returned (errV 1) ∧ Below w.heap.size w w' := by
  have hB := Below.refl w.heap.size w
  have HN := Lib.hid h
  clear h
  go_enter Tryd.func115, Tryd.ntmps115
  go_wp2_with (fail)
  go_at_call 88
  (with_reducible refine (scheck_no _ _ _ _ _ _ iA iC iS iG iE HN.out).mono ?_)
  rintro e w1 ⟨rfl, HB⟩
  obtain ⟨hc1, hf1⟩ := bcell HB
  have hz1 := HB.size
  try simp at hz1
  replace hB := Below.trans (show Below w.heap.size w _ from by repeat (first | with_reducible assumption | exact Below.refl _ _ | refine Below.drew ?_ | refine Below.setCell ?_ (by first | omega | (simp; done) | (simp; omega)) _ | refine Below.alloc ?_ (by first | omega | (simp; done) | (simp; omega)) _)) (Below.mono (B' := w.heap.size) HB (by first | omega | (simp; done) | (simp; omega)))
  try (have z1w0 : w.heap.size < w1.heap.size := (by omega))
  try (have z1w1 : w.heap.size + 1 < w1.heap.size := (by omega))
  try (have z1w2 : w.heap.size + 1 + 1 < w1.heap.size := (by omega))
  clear HB
  go_wp2_with (fail)
  go_ret
  exact ⟨rfl, by repeat (first | with_reducible assumption | exact Below.refl _ _ | refine Below.drew ?_ | refine Below.setCell ?_ (by first | omega | (simp; done) | (simp; omega)) _ | refine Below.alloc ?_ (by first | omega | (simp; done) | (simp; omega)) _)⟩
def OkR (A C S G E rho : Int) : Prop := OkS A C S G E ∧ 0 ≤ rho ∧ rho ≤ 1048576
theorem check2_no (A C S G E rho : Int) (w : World) (iA : InR A) (iC : InR C) (iS : InR S) (iG : InR G) (iE : InR E) (h : ¬ OkR A C S G E rho) : Calls Tryd.prog 115 #[.agg #[.int .i64 A, .int .i64 C, .int .i64 S, .int .i64 G, .int .i64 E], .int .i64 rho] w fun e w' => e = .returned (errV 1) ∧ Below w.heap.size w w' := by
  by_cases r0 : 0 ≤ rho
  · by_cases r1 : rho ≤ 1048576
    · exact check2_s A C S G E rho w iA iC iS iG iE r0 r1 (fun h' => h ⟨h', r0, r1⟩)
    · exact check2_hi A C S G E rho w r0 (by omega)
  · exact check2_lo A C S G E rho w (by omega)
theorem check2_yes (A C S G E rho : Int) (w : World) (h : OkR A C S G E rho) : Calls Tryd.prog 115 #[.agg #[.int .i64 A, .int .i64 C, .int .i64 S, .int .i64 G, .int .i64 E], .int .i64 rho] w fun e w' => e = .returned (.nilIface) ∧ Below w.heap.size w w' := by
  obtain ⟨h, r0, r1⟩ := h
  exact check2_ok A C S G E rho w h.1 h.2.1 h.2.2.1 h.2.2.2.1 ⟨h.2.2.2.2.1, h.2.2.2.2.2.1⟩ h.2.2.2.2.2.2.1 h.2.2.2.2.2.2.2.2.1 h.2.2.2.2.2.2.2.1 h.2.2.2.2.2.2.2.2.2 r0 r1
set_option maxHeartbeats 1000000 in
theorem delay_no (A C S G E : Int) (w : World) (iA : InR A) (iC : InR C) (iS : InR S) (iG : InR G) (iE : InR E) (h : ¬ OkS A C S G E) : Calls Tryd.prog 87 #[.agg #[.int .i64 A, .int .i64 C, .int .i64 S, .int .i64 G, .int .i64 E]] w fun e w' => e = .returned (.tuple #[.int .i64 0, errV 1]) ∧ Below w.heap.size w w' := by
  have hB := Below.refl w.heap.size w
  have HN := Lib.hid h
  clear h
  go_enter Tryd.func87, Tryd.ntmps87
  go_wp2_with (fail)
  go_at_call 88
  (with_reducible refine (scheck_no _ _ _ _ _ _ iA iC iS iG iE HN.out).mono ?_)
  rintro e w1 ⟨rfl, HB⟩
  obtain ⟨hc1, hf1⟩ := bcell HB
  have hz1 := HB.size
  try simp at hz1
  replace hB := Below.trans (show Below w.heap.size w _ from by repeat (first | with_reducible assumption | exact Below.refl _ _ | refine Below.drew ?_ | refine Below.setCell ?_ (by first | omega | (simp; done) | (simp; omega)) _ | refine Below.alloc ?_ (by first | omega | (simp; done) | (simp; omega)) _)) (Below.mono (B' := w.heap.size) HB (by first | omega | (simp; done) | (simp; omega)))
  try (have z1w0 : w.heap.size < w1.heap.size := (by omega))
  try (have z1w1 : w.heap.size + 1 < w1.heap.size := (by omega))
  try (have z1w2 : w.heap.size + 1 + 1 < w1.heap.size := (by omega))
  clear HB
  go_wp2_with (fail)
  go_ret2
  exact ⟨rfl, by repeat (first | with_reducible assumption | exact Below.refl _ _ | refine Below.drew ?_ | refine Below.setCell ?_ (by first | omega | (simp; done) | (simp; omega)) _ | refine Below.alloc ?_ (by first | omega | (simp; done) | (simp; omega)) _)⟩
set_option maxHeartbeats 1000000 in
theorem of_no (A C S G E rho : Int) (w : World) (iA : InR A) (iC : InR C) (iS : InR S) (iG : InR G) (iE : InR E) (h : ¬ OkR A C S G E rho) : Calls Tryd.prog 83 #[.agg #[.int .i64 A, .int .i64 C, .int .i64 S, .int .i64 G, .int .i64 E], .int .i64 rho] w fun e w' => e = .returned (.tuple #[.agg #[.int .i64 0, .int .i64 0], errV 1]) ∧ Below w.heap.size w w' := by
  have hB := Below.refl w.heap.size w
  have HN := Lib.hid h
  clear h
  go_enter Tryd.func83, Tryd.ntmps83
  go_wp2_with (fail)
  go_at_call 115
  (with_reducible refine (check2_no _ _ _ _ _ _ _ iA iC iS iG iE HN.out).mono ?_)
  rintro e w1 ⟨rfl, HB⟩
  obtain ⟨hc1, hf1⟩ := bcell HB
  have hz1 := HB.size
  try simp at hz1
  replace hB := Below.trans (show Below w.heap.size w _ from by repeat (first | with_reducible assumption | exact Below.refl _ _ | refine Below.drew ?_ | refine Below.setCell ?_ (by first | omega | (simp; done) | (simp; omega)) _ | refine Below.alloc ?_ (by first | omega | (simp; done) | (simp; omega)) _)) (Below.mono (B' := w.heap.size) HB (by first | omega | (simp; done) | (simp; omega)))
  try (have z1w0 : w.heap.size < w1.heap.size := (by omega))
  try (have z1w1 : w.heap.size + 1 < w1.heap.size := (by omega))
  try (have z1w2 : w.heap.size + 1 + 1 < w1.heap.size := (by omega))
  clear HB
  go_wp2_with (fail)
  refine bodyPost_ret (v := .tuple #[.agg #[.int .i64 0, .int .i64 0], errV 1]) (by first | (simp [results, Tryd.results83, go_sem]; done) | (simp only [results, Tryd.results83]; go_simp; done) | (simp only [results, Tryd.results83]; go_simp; omega)) rfl (⟨rfl, by repeat (first | with_reducible assumption | exact Below.refl _ _ | refine Below.drew ?_ | refine Below.setCell ?_ (by first | omega | (simp; done) | (simp; omega)) _ | refine Below.alloc ?_ (by first | omega | (simp; done) | (simp; omega)) _)⟩)
set_option maxHeartbeats 1000000 in
theorem told_no (A C S G E rho now : Int) (w : World) (iA : InR A) (iC : InR C) (iS : InR S) (iG : InR G) (iE : InR E) (iN : InR now) (h : ¬ OkR A C S G E rho) : Calls Tryd.prog 85 #[.agg #[.int .i64 A, .int .i64 C, .int .i64 S, .int .i64 G, .int .i64 E], .int .i64 rho, .int .i64 now] w fun e w' => e = .returned (.tuple #[.agg #[.int .i64 0, .int .i64 0], errV 1]) ∧ Below w.heap.size w w' := by
  have hB := Below.refl w.heap.size w
  have HN := Lib.hid h
  clear h
  go_enter Tryd.func85, Tryd.ntmps85
  go_wp2_with (fail)
  go_at_call 115
  (with_reducible refine (check2_no _ _ _ _ _ _ _ iA iC iS iG iE HN.out).mono ?_)
  rintro e w1 ⟨rfl, HB⟩
  obtain ⟨hc1, hf1⟩ := bcell HB
  have hz1 := HB.size
  try simp at hz1
  replace hB := Below.trans (show Below w.heap.size w _ from by repeat (first | with_reducible assumption | exact Below.refl _ _ | refine Below.drew ?_ | refine Below.setCell ?_ (by first | omega | (simp; done) | (simp; omega)) _ | refine Below.alloc ?_ (by first | omega | (simp; done) | (simp; omega)) _)) (Below.mono (B' := w.heap.size) HB (by first | omega | (simp; done) | (simp; omega)))
  try (have z1w0 : w.heap.size < w1.heap.size := (by omega))
  try (have z1w1 : w.heap.size + 1 < w1.heap.size := (by omega))
  try (have z1w2 : w.heap.size + 1 + 1 < w1.heap.size := (by omega))
  clear HB
  go_wp2_with (fail)
  refine bodyPost_ret (v := .tuple #[.agg #[.int .i64 0, .int .i64 0], errV 1]) (by first | (simp [results, Tryd.results85, go_sem]; done) | (simp only [results, Tryd.results85]; go_simp; done) | (simp only [results, Tryd.results85]; go_simp; omega)) rfl (⟨rfl, by repeat (first | with_reducible assumption | exact Below.refl _ _ | refine Below.drew ?_ | refine Below.setCell ?_ (by first | omega | (simp; done) | (simp; omega)) _ | refine Below.alloc ?_ (by first | omega | (simp; done) | (simp; omega)) _)⟩)
set_option maxHeartbeats 1000000 in
theorem told_late (A C S G E rho now : Int) (w : World) (iA : InR A) (iC : InR C) (iS : InR S) (iG : InR G) (iE : InR E) (iN : InR now) (h : OkR A C S G E rho) (hn : 4611686018427387904 ≤ now) : Calls Tryd.prog 85 #[.agg #[.int .i64 A, .int .i64 C, .int .i64 S, .int .i64 G, .int .i64 E], .int .i64 rho, .int .i64 now] w fun e w' => e = .returned (.tuple #[.agg #[.int .i64 0, .int .i64 0], errV 1]) ∧ Below w.heap.size w w' := by
  have hB := Below.refl w.heap.size w
  have HN := Lib.hid h
  clear h
  go_enter Tryd.func85, Tryd.ntmps85
  go_wp2_with (fail)
  go_at_call 115
  (with_reducible refine (check2_yes _ _ _ _ _ _ _ HN.out).mono ?_)
  rintro e w1 ⟨rfl, HB⟩
  obtain ⟨hc1, hf1⟩ := bcell HB
  have hz1 := HB.size
  try simp at hz1
  replace hB := Below.trans (show Below w.heap.size w _ from by repeat (first | with_reducible assumption | exact Below.refl _ _ | refine Below.drew ?_ | refine Below.setCell ?_ (by first | omega | (simp; done) | (simp; omega)) _ | refine Below.alloc ?_ (by first | omega | (simp; done) | (simp; omega)) _)) (Below.mono (B' := w.heap.size) HB (by first | omega | (simp; done) | (simp; omega)))
  try (have z1w0 : w.heap.size < w1.heap.size := (by omega))
  try (have z1w1 : w.heap.size + 1 < w1.heap.size := (by omega))
  try (have z1w2 : w.heap.size + 1 + 1 < w1.heap.size := (by omega))
  clear HB
  go_wp2_with (fail)
  refine bodyPost_ret (v := .tuple #[.agg #[.int .i64 0, .int .i64 0], errV 1]) (by first | (simp [results, Tryd.results85, go_sem]; done) | (simp only [results, Tryd.results85]; go_simp; done) | (simp only [results, Tryd.results85]; go_simp; omega)) rfl (⟨rfl, by repeat (first | with_reducible assumption | exact Below.refl _ _ | refine Below.drew ?_ | refine Below.setCell ?_ (by first | omega | (simp; done) | (simp; omega)) _ | refine Below.alloc ?_ (by first | omega | (simp; done) | (simp; omega)) _)⟩)
end Go.Proofs.YtffdglhdklmjoaaDoor
