/-
  Layer 3: RatioAdjusts, one case.
-/
import Derived.Test.YtffdglhdklmjoaaDoorV03
namespace Go.Proofs.YtffdglhdklmjoaaDoor
open Go.RowKit Go.Extern.Stop Go.Stop Go.Extern
set_option linter.unusedVariables false
set_option linter.unusedSimpArgs false
set_option maxRecDepth 100000 in
set_option maxHeartbeats 16000000 in
theorem adj_011 (m s b0 b1 : Int) (w : World) (m0 : 1 ≤ m) (m1 : m < 4294967296) (s0 : 0 ≤ s) (s1 : s ≤ 31) (r0 : -2147483648 ≤ b0) (r1 : b0 ≤ 2147483647) (r2 : -2147483648 ≤ b1) (r3 : b1 ≤ 2147483647) (lo hi : Int) (hmn : (if b1 < b0 then b1 else b0) = lo) (hmx : (if b0 < b1 then b1 else b0) = hi) (hlo : lo ≤ hi) (l0 : -2147483648 ≤ lo) (l1 : hi ≤ 2147483647) (hVg : (¬ (1 ≤ adjF m lo ∧ adjF m lo ≤ 4294967295))) (hVh : ((1 ≤ adjF m hi ∧ adjF m hi ≤ 4294967295))) (hVi : m < 2147483648) (hg : w.cell? ⟨0, 0, none⟩ = some asHandle) :
    Calls Tryd.prog 9 #[.agg #[.int .u32 m, .int .i64 s], .agg #[.int .i32 b0, .int .i32 b1]] w fun e w' => e = .returned (.bool true) ∧ Below w.heap.size w w' := by
  have hH := Held.start hg
  have k1 : wrap64 lo = lo := IntWalk.wrap64_in _ (by omega)
  have k2 : wrap64 hi = hi := IntWalk.wrap64_in _ (by omega)
  have hmo : adjF m lo ≤ adjF m hi := adj_mono (by omega) hlo
  have ha := adj_zero m
  have ht := adj_one m
  have k3 : IntKind.u32.wrap (2 * m) = 2 * m := by rw [IntKind.wrap_u32]; omega
  go_enter Tryd.func9, Tryd.ntmps9
  go_wp2_with (fail)
  go_at_call 52
  (with_reducible refine (rcheck_ok _ _ _ m0 m1 s0 s1).mono ?_)
  rintro e w1 ⟨rfl, HB⟩
  obtain ⟨hc1, hf1⟩ := bcell HB
  obtain ⟨hd1, hh1⟩ := bcell2 (U := w) (by repeat (first | exact Below.refl _ _ | refine Below.setCell ?_ (by simp <;> omega) _ | refine Below.alloc ?_ (by simp <;> omega) _ | refine Below.drew ?_)) HB
  have hz1 := HB.size
  try simp at hz1
  (try (have z1w0 : w.heap.size < w1.heap.size := (by omega)))
  (try (have z1w1 : w.heap.size + 1 < w1.heap.size := (by omega)))
  (try (have z1w2 : w.heap.size + 1 + 1 < w1.heap.size := (by omega)))
  (try (have z1w3 : w.heap.size + 1 + 1 + 1 < w1.heap.size := (by omega)))
  have hH1 := Held.step (w0 := w) (by repeat (first | assumption | refine Held.alloc ?_ _ | refine Held.drew ?_)) HB
  clear HB
  go_wp2_with (fail)
  go_at_call 49
  (with_reducible refine (radj_ok _ _ 0 _ m0 m1 s0 s1 (by omega) (by omega) (by omega)).mono ?_)
  rintro e w2 ⟨rfl, HB⟩
  obtain ⟨hc2, hf2⟩ := bcell HB
  obtain ⟨hd2, hh2⟩ := bcell2 (U := w1) (by repeat (first | exact Below.refl _ _ | refine Below.setCell ?_ (by simp <;> omega) _ | refine Below.alloc ?_ (by simp <;> omega) _ | refine Below.drew ?_)) HB
  have hz2 := HB.size
  try simp at hz2
  (try (have z2w0 : w.heap.size < w2.heap.size := (by omega)))
  (try (have z2w1 : w.heap.size + 1 < w2.heap.size := (by omega)))
  (try (have z2w2 : w.heap.size + 1 + 1 < w2.heap.size := (by omega)))
  (try (have z2w3 : w.heap.size + 1 + 1 + 1 < w2.heap.size := (by omega)))
  (try (have z2w10 : w1.heap.size < w2.heap.size := (by omega)))
  (try (have z2w11 : w1.heap.size + 1 < w2.heap.size := (by omega)))
  (try (have z2w12 : w1.heap.size + 1 + 1 < w2.heap.size := (by omega)))
  (try (have z2w13 : w1.heap.size + 1 + 1 + 1 < w2.heap.size := (by omega)))
  have hH2 := Held.step (w0 := w) (by repeat (first | assumption | refine Held.alloc ?_ _ | refine Held.drew ?_)) HB
  clear HB
  go_wp2_with (fail)
  go_at_call 49
  (with_reducible refine (radj_big _ _ (lo) _ m0 m1 s0 s1 (by omega) hVg).mono ?_)
  rintro e w3 ⟨rfl, HB⟩
  obtain ⟨hc3, hf3⟩ := bcell HB
  obtain ⟨hd3, hh3⟩ := bcell2 (U := w2) (by repeat (first | exact Below.refl _ _ | refine Below.setCell ?_ (by simp <;> omega) _ | refine Below.alloc ?_ (by simp <;> omega) _ | refine Below.drew ?_)) HB
  have hz3 := HB.size
  try simp at hz3
  (try (have z3w0 : w.heap.size < w3.heap.size := (by omega)))
  (try (have z3w1 : w.heap.size + 1 < w3.heap.size := (by omega)))
  (try (have z3w2 : w.heap.size + 1 + 1 < w3.heap.size := (by omega)))
  (try (have z3w3 : w.heap.size + 1 + 1 + 1 < w3.heap.size := (by omega)))
  (try (have z3w10 : w1.heap.size < w3.heap.size := (by omega)))
  (try (have z3w11 : w1.heap.size + 1 < w3.heap.size := (by omega)))
  (try (have z3w12 : w1.heap.size + 1 + 1 < w3.heap.size := (by omega)))
  (try (have z3w13 : w1.heap.size + 1 + 1 + 1 < w3.heap.size := (by omega)))
  (try (have z3w20 : w2.heap.size < w3.heap.size := (by omega)))
  (try (have z3w21 : w2.heap.size + 1 < w3.heap.size := (by omega)))
  (try (have z3w22 : w2.heap.size + 1 + 1 < w3.heap.size := (by omega)))
  (try (have z3w23 : w2.heap.size + 1 + 1 + 1 < w3.heap.size := (by omega)))
  have hH3 := Held.step (w0 := w) (by repeat (first | assumption | refine Held.alloc ?_ _ | refine Held.drew ?_)) HB
  clear HB
  go_wp2_with (fail)
  go_at_call 49
  (with_reducible refine (radj_ok _ _ (hi) _ m0 m1 s0 s1 (by omega) hVh.1 hVh.2).mono ?_)
  rintro e w4 ⟨rfl, HB⟩
  obtain ⟨hc4, hf4⟩ := bcell HB
  obtain ⟨hd4, hh4⟩ := bcell2 (U := w3) (by repeat (first | exact Below.refl _ _ | refine Below.setCell ?_ (by simp <;> omega) _ | refine Below.alloc ?_ (by simp <;> omega) _ | refine Below.drew ?_)) HB
  have hz4 := HB.size
  try simp at hz4
  (try (have z4w0 : w.heap.size < w4.heap.size := (by omega)))
  (try (have z4w1 : w.heap.size + 1 < w4.heap.size := (by omega)))
  (try (have z4w2 : w.heap.size + 1 + 1 < w4.heap.size := (by omega)))
  (try (have z4w3 : w.heap.size + 1 + 1 + 1 < w4.heap.size := (by omega)))
  (try (have z4w10 : w1.heap.size < w4.heap.size := (by omega)))
  (try (have z4w11 : w1.heap.size + 1 < w4.heap.size := (by omega)))
  (try (have z4w12 : w1.heap.size + 1 + 1 < w4.heap.size := (by omega)))
  (try (have z4w13 : w1.heap.size + 1 + 1 + 1 < w4.heap.size := (by omega)))
  (try (have z4w20 : w2.heap.size < w4.heap.size := (by omega)))
  (try (have z4w21 : w2.heap.size + 1 < w4.heap.size := (by omega)))
  (try (have z4w22 : w2.heap.size + 1 + 1 < w4.heap.size := (by omega)))
  (try (have z4w23 : w2.heap.size + 1 + 1 + 1 < w4.heap.size := (by omega)))
  (try (have z4w30 : w3.heap.size < w4.heap.size := (by omega)))
  (try (have z4w31 : w3.heap.size + 1 < w4.heap.size := (by omega)))
  (try (have z4w32 : w3.heap.size + 1 + 1 < w4.heap.size := (by omega)))
  (try (have z4w33 : w3.heap.size + 1 + 1 + 1 < w4.heap.size := (by omega)))
  have hH4 := Held.step (w0 := w) (by repeat (first | assumption | refine Held.alloc ?_ _ | refine Held.drew ?_)) HB
  clear HB
  go_wp2_with (fail)
  go_at_call 49
  (with_reducible refine (radj_ok _ _ 1073741824 _ m0 m1 s0 s1 (by omega) (by omega) (by omega)).mono ?_)
  rintro e w5 ⟨rfl, HB⟩
  obtain ⟨hc5, hf5⟩ := bcell HB
  obtain ⟨hd5, hh5⟩ := bcell2 (U := w4) (by repeat (first | exact Below.refl _ _ | refine Below.setCell ?_ (by simp <;> omega) _ | refine Below.alloc ?_ (by simp <;> omega) _ | refine Below.drew ?_)) HB
  have hz5 := HB.size
  try simp at hz5
  (try (have z5w0 : w.heap.size < w5.heap.size := (by omega)))
  (try (have z5w1 : w.heap.size + 1 < w5.heap.size := (by omega)))
  (try (have z5w2 : w.heap.size + 1 + 1 < w5.heap.size := (by omega)))
  (try (have z5w3 : w.heap.size + 1 + 1 + 1 < w5.heap.size := (by omega)))
  (try (have z5w10 : w1.heap.size < w5.heap.size := (by omega)))
  (try (have z5w11 : w1.heap.size + 1 < w5.heap.size := (by omega)))
  (try (have z5w12 : w1.heap.size + 1 + 1 < w5.heap.size := (by omega)))
  (try (have z5w13 : w1.heap.size + 1 + 1 + 1 < w5.heap.size := (by omega)))
  (try (have z5w20 : w2.heap.size < w5.heap.size := (by omega)))
  (try (have z5w21 : w2.heap.size + 1 < w5.heap.size := (by omega)))
  (try (have z5w22 : w2.heap.size + 1 + 1 < w5.heap.size := (by omega)))
  (try (have z5w23 : w2.heap.size + 1 + 1 + 1 < w5.heap.size := (by omega)))
  (try (have z5w30 : w3.heap.size < w5.heap.size := (by omega)))
  (try (have z5w31 : w3.heap.size + 1 < w5.heap.size := (by omega)))
  (try (have z5w32 : w3.heap.size + 1 + 1 < w5.heap.size := (by omega)))
  (try (have z5w33 : w3.heap.size + 1 + 1 + 1 < w5.heap.size := (by omega)))
  (try (have z5w40 : w4.heap.size < w5.heap.size := (by omega)))
  (try (have z5w41 : w4.heap.size + 1 < w5.heap.size := (by omega)))
  (try (have z5w42 : w4.heap.size + 1 + 1 < w5.heap.size := (by omega)))
  (try (have z5w43 : w4.heap.size + 1 + 1 + 1 < w5.heap.size := (by omega)))
  have hH5 := Held.step (w0 := w) (by repeat (first | assumption | refine Held.alloc ?_ _ | refine Held.drew ?_)) HB
  clear HB
  go_wp2_with (fail)
  have hS0 : SA w (w.heap.size) (.int .u32 m) (.int .i64 s) (w.heap.size + 1 + 1) (.int .u32 m) (.int .i64 s) (w2.heap.size) (.int .u32 m) (.int .i64 s) (w3.heap.size) (.int .u32 0) (.int .i64 0) (w4.heap.size) (.int .u32 (adjF m hi)) (.int .i64 s) (w5.heap.size) (.int .u32 (2 * m)) (.int .i64 s) (w5.alloc (.cells #[.int .u32 (2 * m), .int .i64 s] 72)) := ⟨Held.alloc hH5 _, ⟨by first | omega | (simp; done) | (simp; omega), by go_simp, by go_simp⟩, ⟨by first | omega | (simp; done) | (simp; omega), by go_simp, by go_simp⟩, ⟨by first | omega | (simp; done) | (simp; omega), by go_simp, by go_simp⟩, ⟨by first | omega | (simp; done) | (simp; omega), by go_simp, by go_simp⟩, ⟨by first | omega | (simp; done) | (simp; omega), by go_simp, by go_simp⟩, ⟨by first | omega | (simp; done) | (simp; omega), by go_simp, by go_simp⟩⟩
  clear hc1 hc2 hc3 hc4 hc5 hf1 hf2 hf3 hf4 hf5 hd1 hd2 hd3 hd4 hd5 hh1 hh2 hh3 hh4 hh5
  refine wp_region_S (S := (fun wx => SA w (w.heap.size) (.int .u32 m) (.int .i64 s) (w.heap.size + 1 + 1) (.int .u32 m) (.int .i64 s) (w2.heap.size) (.int .u32 m) (.int .i64 s) (w3.heap.size) (.int .u32 0) (.int .i64 0) (w4.heap.size) (.int .u32 (adjF m hi)) (.int .i64 s) (w5.heap.size) (.int .u32 (2 * m)) (.int .i64 s) wx)) (by kernel_rfl) (SA.drew hS0) ?_
  refine anyS_take (i := 0) (v := ?v0) rfl (by kernel_rfl) (by kernel_rfl) (by kernel_rfl) ?hy0 ?rest0
  case hy0 => first | (refine StepS.read (by rfl) (fun wx hSw => ?_); (try dsimp only at hSw); obtain ⟨hHx, ⟨c00, c01, c02⟩, ⟨c10, c11, c12⟩, ⟨c20, c21, c22⟩, ⟨c30, c31, c32⟩, ⟨c40, c41, c42⟩, c50, c51, c52⟩ := hSw; go_simp; first | done | with_reducible rfl) | exact Or.inr ⟨by rfl, rfl⟩
  try simp only [List.getElem_toArray, List.getElem_cons_succ, List.getElem_cons_zero, Act.put, List.setIfInBounds_toArray, List.set_cons_zero, List.set_cons_succ]
  refine anyS_take (i := 1) (v := ?v1) rfl (by kernel_rfl) (by kernel_rfl) (by kernel_rfl) ?hy1 ?rest1
  case hy1 => first | (refine StepS.read (by rfl) (fun wx hSw => ?_); (try dsimp only at hSw); obtain ⟨hHx, ⟨c00, c01, c02⟩, ⟨c10, c11, c12⟩, ⟨c20, c21, c22⟩, ⟨c30, c31, c32⟩, ⟨c40, c41, c42⟩, c50, c51, c52⟩ := hSw; go_simp; first | done | with_reducible rfl) | exact Or.inr ⟨by rfl, rfl⟩
  try simp only [List.getElem_toArray, List.getElem_cons_succ, List.getElem_cons_zero, Act.put, List.setIfInBounds_toArray, List.set_cons_zero, List.set_cons_succ]
  refine anyS_take (i := 2) (v := ?v2) rfl (by kernel_rfl) (by kernel_rfl) (by kernel_rfl) ?hy2 ?rest2
  case hy2 => first | (refine StepS.read (by rfl) (fun wx hSw => ?_); (try dsimp only at hSw); obtain ⟨hHx, ⟨c00, c01, c02⟩, ⟨c10, c11, c12⟩, ⟨c20, c21, c22⟩, ⟨c30, c31, c32⟩, ⟨c40, c41, c42⟩, c50, c51, c52⟩ := hSw; go_simp; first | done | with_reducible rfl) | exact Or.inr ⟨by rfl, rfl⟩
  try simp only [List.getElem_toArray, List.getElem_cons_succ, List.getElem_cons_zero, Act.put, List.setIfInBounds_toArray, List.set_cons_zero, List.set_cons_succ]
  refine anyS_take (i := 3) (v := ?v3) rfl (by kernel_rfl) (by kernel_rfl) (by kernel_rfl) ?hy3 ?rest3
  case hy3 => first | (refine StepS.read (by rfl) (fun wx hSw => ?_); (try dsimp only at hSw); obtain ⟨hHx, ⟨c00, c01, c02⟩, ⟨c10, c11, c12⟩, ⟨c20, c21, c22⟩, ⟨c30, c31, c32⟩, ⟨c40, c41, c42⟩, c50, c51, c52⟩ := hSw; go_simp; first | done | with_reducible rfl) | exact Or.inr ⟨by rfl, rfl⟩
  try simp only [List.getElem_toArray, List.getElem_cons_succ, List.getElem_cons_zero, Act.put, List.setIfInBounds_toArray, List.set_cons_zero, List.set_cons_succ]
  refine anyS_take (i := 4) (v := ?v4) rfl (by kernel_rfl) (by kernel_rfl) (by kernel_rfl) ?hy4 ?rest4
  case hy4 => first | (refine StepS.read (by rfl) (fun wx hSw => ?_); (try dsimp only at hSw); obtain ⟨hHx, ⟨c00, c01, c02⟩, ⟨c10, c11, c12⟩, ⟨c20, c21, c22⟩, ⟨c30, c31, c32⟩, ⟨c40, c41, c42⟩, c50, c51, c52⟩ := hSw; go_simp; first | done | with_reducible rfl) | exact Or.inr ⟨by rfl, rfl⟩
  try simp only [List.getElem_toArray, List.getElem_cons_succ, List.getElem_cons_zero, Act.put, List.setIfInBounds_toArray, List.set_cons_zero, List.set_cons_succ]
  refine anyS_take (i := 5) (v := ?v5) rfl (by kernel_rfl) (by kernel_rfl) (by kernel_rfl) ?hy5 ?rest5
  case hy5 => first | (refine StepS.read (by rfl) (fun wx hSw => ?_); (try dsimp only at hSw); obtain ⟨hHx, ⟨c00, c01, c02⟩, ⟨c10, c11, c12⟩, ⟨c20, c21, c22⟩, ⟨c30, c31, c32⟩, ⟨c40, c41, c42⟩, c50, c51, c52⟩ := hSw; go_simp; first | done | with_reducible rfl) | exact Or.inr ⟨by rfl, rfl⟩
  try simp only [List.getElem_toArray, List.getElem_cons_succ, List.getElem_cons_zero, Act.put, List.setIfInBounds_toArray, List.set_cons_zero, List.set_cons_succ]
  refine anyS_take (i := 6) (v := ?v6) rfl (by kernel_rfl) (by kernel_rfl) (by kernel_rfl) ?hy6 ?rest6
  case hy6 => first | (refine StepS.read (by rfl) (fun wx hSw => ?_); (try dsimp only at hSw); obtain ⟨hHx, ⟨c00, c01, c02⟩, ⟨c10, c11, c12⟩, ⟨c20, c21, c22⟩, ⟨c30, c31, c32⟩, ⟨c40, c41, c42⟩, c50, c51, c52⟩ := hSw; go_simp; first | done | with_reducible rfl) | exact Or.inr ⟨by rfl, rfl⟩
  try simp only [List.getElem_toArray, List.getElem_cons_succ, List.getElem_cons_zero, Act.put, List.setIfInBounds_toArray, List.set_cons_zero, List.set_cons_succ]
  refine anyS_take (i := 7) (v := ?v7) rfl (by kernel_rfl) (by kernel_rfl) (by kernel_rfl) ?hy7 ?rest7
  case hy7 => first | (refine StepS.read (by rfl) (fun wx hSw => ?_); (try dsimp only at hSw); obtain ⟨hHx, ⟨c00, c01, c02⟩, ⟨c10, c11, c12⟩, ⟨c20, c21, c22⟩, ⟨c30, c31, c32⟩, ⟨c40, c41, c42⟩, c50, c51, c52⟩ := hSw; go_simp; first | done | with_reducible rfl) | exact Or.inr ⟨by rfl, rfl⟩
  try simp only [List.getElem_toArray, List.getElem_cons_succ, List.getElem_cons_zero, Act.put, List.setIfInBounds_toArray, List.set_cons_zero, List.set_cons_succ]
  refine anyS_take (i := 8) (v := ?v8) rfl (by kernel_rfl) (by kernel_rfl) (by kernel_rfl) ?hy8 ?rest8
  case hy8 => first | (refine StepS.read (by rfl) (fun wx hSw => ?_); (try dsimp only at hSw); obtain ⟨hHx, ⟨c00, c01, c02⟩, ⟨c10, c11, c12⟩, ⟨c20, c21, c22⟩, ⟨c30, c31, c32⟩, ⟨c40, c41, c42⟩, c50, c51, c52⟩ := hSw; go_simp; first | done | with_reducible rfl) | exact Or.inr ⟨by rfl, rfl⟩
  try simp only [List.getElem_toArray, List.getElem_cons_succ, List.getElem_cons_zero, Act.put, List.setIfInBounds_toArray, List.set_cons_zero, List.set_cons_succ]
  refine anyS_take (i := 9) (v := ?v9) rfl (by kernel_rfl) (by kernel_rfl) (by kernel_rfl) ?hy9 ?rest9
  case hy9 => first | (refine StepS.read (by rfl) (fun wx hSw => ?_); (try dsimp only at hSw); obtain ⟨hHx, ⟨c00, c01, c02⟩, ⟨c10, c11, c12⟩, ⟨c20, c21, c22⟩, ⟨c30, c31, c32⟩, ⟨c40, c41, c42⟩, c50, c51, c52⟩ := hSw; go_simp; first | done | with_reducible rfl) | exact Or.inr ⟨by rfl, rfl⟩
  try simp only [List.getElem_toArray, List.getElem_cons_succ, List.getElem_cons_zero, Act.put, List.setIfInBounds_toArray, List.set_cons_zero, List.set_cons_succ]
  refine anyS_take (i := 10) (v := ?v10) rfl (by kernel_rfl) (by kernel_rfl) (by kernel_rfl) ?hy10 ?rest10
  case hy10 => first | (refine StepS.read (by rfl) (fun wx hSw => ?_); (try dsimp only at hSw); obtain ⟨hHx, ⟨c00, c01, c02⟩, ⟨c10, c11, c12⟩, ⟨c20, c21, c22⟩, ⟨c30, c31, c32⟩, ⟨c40, c41, c42⟩, c50, c51, c52⟩ := hSw; go_simp; first | done | with_reducible rfl) | exact Or.inr ⟨by rfl, rfl⟩
  try simp only [List.getElem_toArray, List.getElem_cons_succ, List.getElem_cons_zero, Act.put, List.setIfInBounds_toArray, List.set_cons_zero, List.set_cons_succ]
  refine anyS_take (i := 11) (v := undef) rfl (by kernel_rfl) (by kernel_rfl) (by kernel_rfl) (Or.inr ⟨by kernel_rfl, rfl⟩) ?rest11
  try simp only [List.getElem_toArray, List.getElem_cons_succ, List.getElem_cons_zero, Act.put, List.setIfInBounds_toArray, List.set_cons_zero, List.set_cons_succ]
  refine anyS_take (i := 12) (v := undef) rfl (by kernel_rfl) (by kernel_rfl) (by kernel_rfl) (Or.inr ⟨by kernel_rfl, rfl⟩) ?rest12
  try simp only [List.getElem_toArray, List.getElem_cons_succ, List.getElem_cons_zero, Act.put, List.setIfInBounds_toArray, List.set_cons_zero, List.set_cons_succ]
  refine anyS_take (i := 13) (v := ?v13) rfl (by kernel_rfl) (by kernel_rfl) (by kernel_rfl) ?hy13 ?rest13
  case hy13 => first | (refine StepS.read (by rfl) (fun wx hSw => ?_); (try dsimp only at hSw); obtain ⟨hHx, ⟨c00, c01, c02⟩, ⟨c10, c11, c12⟩, ⟨c20, c21, c22⟩, ⟨c30, c31, c32⟩, ⟨c40, c41, c42⟩, c50, c51, c52⟩ := hSw; go_simp; first | done | with_reducible rfl) | exact Or.inr ⟨by rfl, rfl⟩
  try simp only [List.getElem_toArray, List.getElem_cons_succ, List.getElem_cons_zero, Act.put, List.setIfInBounds_toArray, List.set_cons_zero, List.set_cons_succ]
  refine anyS_take (i := 14) (v := ?v14) rfl (by kernel_rfl) (by kernel_rfl) (by kernel_rfl) ?hy14 ?rest14
  case hy14 => first | (refine StepS.read (by rfl) (fun wx hSw => ?_); (try dsimp only at hSw); obtain ⟨hHx, ⟨c00, c01, c02⟩, ⟨c10, c11, c12⟩, ⟨c20, c21, c22⟩, ⟨c30, c31, c32⟩, ⟨c40, c41, c42⟩, c50, c51, c52⟩ := hSw; go_simp; first | done | with_reducible rfl) | exact Or.inr ⟨by rfl, rfl⟩
  try simp only [List.getElem_toArray, List.getElem_cons_succ, List.getElem_cons_zero, Act.put, List.setIfInBounds_toArray, List.set_cons_zero, List.set_cons_succ]
  refine anyS_take (i := 15) (v := undef) rfl (by kernel_rfl) (by kernel_rfl) (by kernel_rfl) (Or.inr ⟨by kernel_rfl, rfl⟩) ?rest15
  try simp only [List.getElem_toArray, List.getElem_cons_succ, List.getElem_cons_zero, Act.put, List.setIfInBounds_toArray, List.set_cons_zero, List.set_cons_succ]
  refine anyS_take (i := 16) (v := undef) rfl (by kernel_rfl) (by kernel_rfl) (by kernel_rfl) (Or.inr ⟨by kernel_rfl, rfl⟩) ?rest16
  try simp only [List.getElem_toArray, List.getElem_cons_succ, List.getElem_cons_zero, Act.put, List.setIfInBounds_toArray, List.set_cons_zero, List.set_cons_succ]
  refine anyS_take (i := 17) (v := undef) rfl (by kernel_rfl) (by kernel_rfl) (by kernel_rfl) (Or.inr ⟨by kernel_rfl, rfl⟩) ?rest17
  try simp only [List.getElem_toArray, List.getElem_cons_succ, List.getElem_cons_zero, Act.put, List.setIfInBounds_toArray, List.set_cons_zero, List.set_cons_succ]
  refine anyS_take (i := 18) (v := undef) rfl (by kernel_rfl) (by kernel_rfl) (by kernel_rfl) (Or.inr ⟨by kernel_rfl, rfl⟩) ?rest18
  try simp only [List.getElem_toArray, List.getElem_cons_succ, List.getElem_cons_zero, Act.put, List.setIfInBounds_toArray, List.set_cons_zero, List.set_cons_succ]
  refine anyS_take (i := 19) (v := undef) rfl (by kernel_rfl) (by kernel_rfl) (by kernel_rfl) (Or.inr ⟨by kernel_rfl, rfl⟩) ?rest19
  try simp only [List.getElem_toArray, List.getElem_cons_succ, List.getElem_cons_zero, Act.put, List.setIfInBounds_toArray, List.set_cons_zero, List.set_cons_succ]
  refine anyS_take (i := 20) (v := undef) rfl (by kernel_rfl) (by kernel_rfl) (by kernel_rfl) (Or.inr ⟨by kernel_rfl, rfl⟩) ?rest20
  try simp only [List.getElem_toArray, List.getElem_cons_succ, List.getElem_cons_zero, Act.put, List.setIfInBounds_toArray, List.set_cons_zero, List.set_cons_succ]
  refine anyS_take (i := 21) (v := undef) rfl (by kernel_rfl) (by kernel_rfl) (by kernel_rfl) (Or.inr ⟨by kernel_rfl, rfl⟩) ?rest21
  try simp only [List.getElem_toArray, List.getElem_cons_succ, List.getElem_cons_zero, Act.put, List.setIfInBounds_toArray, List.set_cons_zero, List.set_cons_succ]
  refine anyS_take (i := 22) (v := undef) rfl (by kernel_rfl) (by kernel_rfl) (by kernel_rfl) (Or.inr ⟨by kernel_rfl, rfl⟩) ?rest22
  try simp only [List.getElem_toArray, List.getElem_cons_succ, List.getElem_cons_zero, Act.put, List.setIfInBounds_toArray, List.set_cons_zero, List.set_cons_succ]
  refine anyS_take (i := 23) (v := undef) rfl (by kernel_rfl) (by kernel_rfl) (by kernel_rfl) (Or.inr ⟨by kernel_rfl, rfl⟩) ?rest23
  try simp only [List.getElem_toArray, List.getElem_cons_succ, List.getElem_cons_zero, Act.put, List.setIfInBounds_toArray, List.set_cons_zero, List.set_cons_succ]
  refine anyS_take (i := 24) (v := undef) rfl (by kernel_rfl) (by kernel_rfl) (by kernel_rfl) (Or.inr ⟨by kernel_rfl, rfl⟩) ?rest24
  try simp only [List.getElem_toArray, List.getElem_cons_succ, List.getElem_cons_zero, Act.put, List.setIfInBounds_toArray, List.set_cons_zero, List.set_cons_succ]
  refine anyS_take (i := 25) (v := undef) rfl (by kernel_rfl) (by kernel_rfl) (by kernel_rfl) (Or.inr ⟨by kernel_rfl, rfl⟩) ?rest25
  try simp only [List.getElem_toArray, List.getElem_cons_succ, List.getElem_cons_zero, Act.put, List.setIfInBounds_toArray, List.set_cons_zero, List.set_cons_succ]
  refine anyS_take (i := 26) (v := undef) rfl (by kernel_rfl) (by kernel_rfl) (by kernel_rfl) (Or.inr ⟨by kernel_rfl, rfl⟩) ?rest26
  try simp only [List.getElem_toArray, List.getElem_cons_succ, List.getElem_cons_zero, Act.put, List.setIfInBounds_toArray, List.set_cons_zero, List.set_cons_succ]
  refine anyS_take (i := 27) (v := ?v27) rfl (by kernel_rfl) (by kernel_rfl) (by kernel_rfl) ?hy27 ?rest27
  case hy27 => first | (refine StepS.read (by rfl) (fun wx hSw => ?_); (try dsimp only at hSw); obtain ⟨hHx, ⟨c00, c01, c02⟩, ⟨c10, c11, c12⟩, ⟨c20, c21, c22⟩, ⟨c30, c31, c32⟩, ⟨c40, c41, c42⟩, c50, c51, c52⟩ := hSw; go_simp; first | done | with_reducible rfl) | exact Or.inr ⟨by rfl, rfl⟩
  try simp only [List.getElem_toArray, List.getElem_cons_succ, List.getElem_cons_zero, Act.put, List.setIfInBounds_toArray, List.set_cons_zero, List.set_cons_succ]
  refine anyS_take (i := 28) (v := ?v28) rfl (by kernel_rfl) (by kernel_rfl) (by kernel_rfl) ?hy28 ?rest28
  case hy28 => first | (refine StepS.read (by rfl) (fun wx hSw => ?_); (try dsimp only at hSw); obtain ⟨hHx, ⟨c00, c01, c02⟩, ⟨c10, c11, c12⟩, ⟨c20, c21, c22⟩, ⟨c30, c31, c32⟩, ⟨c40, c41, c42⟩, c50, c51, c52⟩ := hSw; go_simp; first | done | with_reducible rfl) | exact Or.inr ⟨by rfl, rfl⟩
  try simp only [List.getElem_toArray, List.getElem_cons_succ, List.getElem_cons_zero, Act.put, List.setIfInBounds_toArray, List.set_cons_zero, List.set_cons_succ]
  refine anyS_take (i := 29) (v := ?v29) rfl (by kernel_rfl) (by kernel_rfl) (by kernel_rfl) ?hy29 ?rest29
  case hy29 => first | (refine StepS.read (by rfl) (fun wx hSw => ?_); (try dsimp only at hSw); obtain ⟨hHx, ⟨c00, c01, c02⟩, ⟨c10, c11, c12⟩, ⟨c20, c21, c22⟩, ⟨c30, c31, c32⟩, ⟨c40, c41, c42⟩, c50, c51, c52⟩ := hSw; go_simp; first | done | with_reducible rfl) | exact Or.inr ⟨by rfl, rfl⟩
  try simp only [List.getElem_toArray, List.getElem_cons_succ, List.getElem_cons_zero, Act.put, List.setIfInBounds_toArray, List.set_cons_zero, List.set_cons_succ]
  refine anyS_take (i := 30) (v := ?v30) rfl (by kernel_rfl) (by kernel_rfl) (by kernel_rfl) ?hy30 ?rest30
  case hy30 => first | (refine StepS.read (by rfl) (fun wx hSw => ?_); (try dsimp only at hSw); obtain ⟨hHx, ⟨c00, c01, c02⟩, ⟨c10, c11, c12⟩, ⟨c20, c21, c22⟩, ⟨c30, c31, c32⟩, ⟨c40, c41, c42⟩, c50, c51, c52⟩ := hSw; go_simp; first | done | with_reducible rfl) | exact Or.inr ⟨by rfl, rfl⟩
  try simp only [List.getElem_toArray, List.getElem_cons_succ, List.getElem_cons_zero, Act.put, List.setIfInBounds_toArray, List.set_cons_zero, List.set_cons_succ]
  refine anyS_take (i := 31) (v := ?v31) rfl (by kernel_rfl) (by kernel_rfl) (by kernel_rfl) ?hy31 ?rest31
  case hy31 => first | (refine StepS.read (by rfl) (fun wx hSw => ?_); (try dsimp only at hSw); obtain ⟨hHx, ⟨c00, c01, c02⟩, ⟨c10, c11, c12⟩, ⟨c20, c21, c22⟩, ⟨c30, c31, c32⟩, ⟨c40, c41, c42⟩, c50, c51, c52⟩ := hSw; go_simp; first | done | with_reducible rfl) | exact Or.inr ⟨by rfl, rfl⟩
  try simp only [List.getElem_toArray, List.getElem_cons_succ, List.getElem_cons_zero, Act.put, List.setIfInBounds_toArray, List.set_cons_zero, List.set_cons_succ]
  refine anyS_take (i := 32) (v := ?v32) rfl (by kernel_rfl) (by kernel_rfl) (by kernel_rfl) ?hy32 ?rest32
  case hy32 => first | (refine StepS.read (by rfl) (fun wx hSw => ?_); (try dsimp only at hSw); obtain ⟨hHx, ⟨c00, c01, c02⟩, ⟨c10, c11, c12⟩, ⟨c20, c21, c22⟩, ⟨c30, c31, c32⟩, ⟨c40, c41, c42⟩, c50, c51, c52⟩ := hSw; go_simp; first | done | with_reducible rfl) | exact Or.inr ⟨by rfl, rfl⟩
  try simp only [List.getElem_toArray, List.getElem_cons_succ, List.getElem_cons_zero, Act.put, List.setIfInBounds_toArray, List.set_cons_zero, List.set_cons_succ]
  refine anyS_take (i := 33) (v := ?v33) rfl (by kernel_rfl) (by kernel_rfl) (by kernel_rfl) ?hy33 ?rest33
  case hy33 => first | (refine StepS.read (by rfl) (fun wx hSw => ?_); (try dsimp only at hSw); obtain ⟨hHx, ⟨c00, c01, c02⟩, ⟨c10, c11, c12⟩, ⟨c20, c21, c22⟩, ⟨c30, c31, c32⟩, ⟨c40, c41, c42⟩, c50, c51, c52⟩ := hSw; go_simp; first | done | with_reducible rfl) | exact Or.inr ⟨by rfl, rfl⟩
  try simp only [List.getElem_toArray, List.getElem_cons_succ, List.getElem_cons_zero, Act.put, List.setIfInBounds_toArray, List.set_cons_zero, List.set_cons_succ]
  refine anyS_take (i := 34) (v := ?v34) rfl (by kernel_rfl) (by kernel_rfl) (by kernel_rfl) ?hy34 ?rest34
  case hy34 => first | (refine StepS.read (by rfl) (fun wx hSw => ?_); (try dsimp only at hSw); obtain ⟨hHx, ⟨c00, c01, c02⟩, ⟨c10, c11, c12⟩, ⟨c20, c21, c22⟩, ⟨c30, c31, c32⟩, ⟨c40, c41, c42⟩, c50, c51, c52⟩ := hSw; go_simp; first | done | with_reducible rfl) | exact Or.inr ⟨by rfl, rfl⟩
  try simp only [List.getElem_toArray, List.getElem_cons_succ, List.getElem_cons_zero, Act.put, List.setIfInBounds_toArray, List.set_cons_zero, List.set_cons_succ]
  refine anyS_take (i := 35) (v := ?v35) rfl (by kernel_rfl) (by kernel_rfl) (by kernel_rfl) ?hy35 ?rest35
  case hy35 => first | (refine StepS.read (by rfl) (fun wx hSw => ?_); (try dsimp only at hSw); obtain ⟨hHx, ⟨c00, c01, c02⟩, ⟨c10, c11, c12⟩, ⟨c20, c21, c22⟩, ⟨c30, c31, c32⟩, ⟨c40, c41, c42⟩, c50, c51, c52⟩ := hSw; go_simp; first | done | with_reducible rfl) | exact Or.inr ⟨by rfl, rfl⟩
  try simp only [List.getElem_toArray, List.getElem_cons_succ, List.getElem_cons_zero, Act.put, List.setIfInBounds_toArray, List.set_cons_zero, List.set_cons_succ]
  refine anyS_take (i := 36) (v := ?v36) rfl (by kernel_rfl) (by kernel_rfl) (by kernel_rfl) ?hy36 ?rest36
  case hy36 => first | (refine StepS.read (by rfl) (fun wx hSw => ?_); (try dsimp only at hSw); obtain ⟨hHx, ⟨c00, c01, c02⟩, ⟨c10, c11, c12⟩, ⟨c20, c21, c22⟩, ⟨c30, c31, c32⟩, ⟨c40, c41, c42⟩, c50, c51, c52⟩ := hSw; go_simp; first | done | with_reducible rfl) | exact Or.inr ⟨by rfl, rfl⟩
  try simp only [List.getElem_toArray, List.getElem_cons_succ, List.getElem_cons_zero, Act.put, List.setIfInBounds_toArray, List.set_cons_zero, List.set_cons_succ]
  refine anyS_take (i := 37) (v := ?v37) rfl (by kernel_rfl) (by kernel_rfl) (by kernel_rfl) ?hy37 ?rest37
  case hy37 => first | (refine StepS.read (by rfl) (fun wx hSw => ?_); (try dsimp only at hSw); obtain ⟨hHx, ⟨c00, c01, c02⟩, ⟨c10, c11, c12⟩, ⟨c20, c21, c22⟩, ⟨c30, c31, c32⟩, ⟨c40, c41, c42⟩, c50, c51, c52⟩ := hSw; go_simp; first | done | with_reducible rfl) | exact Or.inr ⟨by rfl, rfl⟩
  try simp only [List.getElem_toArray, List.getElem_cons_succ, List.getElem_cons_zero, Act.put, List.setIfInBounds_toArray, List.set_cons_zero, List.set_cons_succ]
  refine anyS_take (i := 38) (v := ?v38) rfl (by kernel_rfl) (by kernel_rfl) (by kernel_rfl) ?hy38 ?rest38
  case hy38 => first | (refine StepS.read (by rfl) (fun wx hSw => ?_); (try dsimp only at hSw); obtain ⟨hHx, ⟨c00, c01, c02⟩, ⟨c10, c11, c12⟩, ⟨c20, c21, c22⟩, ⟨c30, c31, c32⟩, ⟨c40, c41, c42⟩, c50, c51, c52⟩ := hSw; go_simp; first | done | with_reducible rfl) | exact Or.inr ⟨by rfl, rfl⟩
  try simp only [List.getElem_toArray, List.getElem_cons_succ, List.getElem_cons_zero, Act.put, List.setIfInBounds_toArray, List.set_cons_zero, List.set_cons_succ]
  refine anyS_take (i := 39) (v := ?v39) rfl (by kernel_rfl) (by kernel_rfl) (by kernel_rfl) ?hy39 ?rest39
  case hy39 => first | (refine StepS.read (by rfl) (fun wx hSw => ?_); (try dsimp only at hSw); obtain ⟨hHx, ⟨c00, c01, c02⟩, ⟨c10, c11, c12⟩, ⟨c20, c21, c22⟩, ⟨c30, c31, c32⟩, ⟨c40, c41, c42⟩, c50, c51, c52⟩ := hSw; go_simp; first | done | with_reducible rfl) | exact Or.inr ⟨by rfl, rfl⟩
  try simp only [List.getElem_toArray, List.getElem_cons_succ, List.getElem_cons_zero, Act.put, List.setIfInBounds_toArray, List.set_cons_zero, List.set_cons_succ]
  refine anyS_take (i := 40) (v := ?v40) rfl (by kernel_rfl) (by kernel_rfl) (by kernel_rfl) ?hy40 ?rest40
  case hy40 => first | (refine StepS.read (by rfl) (fun wx hSw => ?_); (try dsimp only at hSw); obtain ⟨hHx, ⟨c00, c01, c02⟩, ⟨c10, c11, c12⟩, ⟨c20, c21, c22⟩, ⟨c30, c31, c32⟩, ⟨c40, c41, c42⟩, c50, c51, c52⟩ := hSw; go_simp; first | done | with_reducible rfl) | exact Or.inr ⟨by rfl, rfl⟩
  try simp only [List.getElem_toArray, List.getElem_cons_succ, List.getElem_cons_zero, Act.put, List.setIfInBounds_toArray, List.set_cons_zero, List.set_cons_succ]
  refine anyS_take (i := 41) (v := ?v41) rfl (by kernel_rfl) (by kernel_rfl) (by kernel_rfl) ?hy41 ?rest41
  case hy41 => first | (refine StepS.read (by rfl) (fun wx hSw => ?_); (try dsimp only at hSw); obtain ⟨hHx, ⟨c00, c01, c02⟩, ⟨c10, c11, c12⟩, ⟨c20, c21, c22⟩, ⟨c30, c31, c32⟩, ⟨c40, c41, c42⟩, c50, c51, c52⟩ := hSw; go_simp; first | done | with_reducible rfl) | exact Or.inr ⟨by rfl, rfl⟩
  try simp only [List.getElem_toArray, List.getElem_cons_succ, List.getElem_cons_zero, Act.put, List.setIfInBounds_toArray, List.set_cons_zero, List.set_cons_succ]
  refine anyS_take (i := 42) (v := ?v42) rfl (by kernel_rfl) (by kernel_rfl) (by kernel_rfl) ?hy42 ?rest42
  case hy42 => first | (refine StepS.read (by rfl) (fun wx hSw => ?_); (try dsimp only at hSw); obtain ⟨hHx, ⟨c00, c01, c02⟩, ⟨c10, c11, c12⟩, ⟨c20, c21, c22⟩, ⟨c30, c31, c32⟩, ⟨c40, c41, c42⟩, c50, c51, c52⟩ := hSw; go_simp; first | done | with_reducible rfl) | exact Or.inr ⟨by rfl, rfl⟩
  try simp only [List.getElem_toArray, List.getElem_cons_succ, List.getElem_cons_zero, Act.put, List.setIfInBounds_toArray, List.set_cons_zero, List.set_cons_succ]
  refine anyS_take (i := 43) (v := ?v43) rfl (by kernel_rfl) (by kernel_rfl) (by kernel_rfl) ?hy43 ?rest43
  case hy43 => first | (refine StepS.read (by rfl) (fun wx hSw => ?_); (try dsimp only at hSw); obtain ⟨hHx, ⟨c00, c01, c02⟩, ⟨c10, c11, c12⟩, ⟨c20, c21, c22⟩, ⟨c30, c31, c32⟩, ⟨c40, c41, c42⟩, c50, c51, c52⟩ := hSw; go_simp; first | done | with_reducible rfl) | exact Or.inr ⟨by rfl, rfl⟩
  try simp only [List.getElem_toArray, List.getElem_cons_succ, List.getElem_cons_zero, Act.put, List.setIfInBounds_toArray, List.set_cons_zero, List.set_cons_succ]
  refine anyS_take (i := 44) (v := ?v44) rfl (by kernel_rfl) (by kernel_rfl) (by kernel_rfl) ?hy44 ?rest44
  case hy44 => first | (refine StepS.read (by rfl) (fun wx hSw => ?_); (try dsimp only at hSw); obtain ⟨hHx, ⟨c00, c01, c02⟩, ⟨c10, c11, c12⟩, ⟨c20, c21, c22⟩, ⟨c30, c31, c32⟩, ⟨c40, c41, c42⟩, c50, c51, c52⟩ := hSw; go_simp; first | done | with_reducible rfl) | exact Or.inr ⟨by rfl, rfl⟩
  try simp only [List.getElem_toArray, List.getElem_cons_succ, List.getElem_cons_zero, Act.put, List.setIfInBounds_toArray, List.set_cons_zero, List.set_cons_succ]
  refine anyS_take (i := 45) (v := ?v45) rfl (by kernel_rfl) (by kernel_rfl) (by kernel_rfl) ?hy45 ?rest45
  case hy45 => first | (refine StepS.read (by rfl) (fun wx hSw => ?_); (try dsimp only at hSw); obtain ⟨hHx, ⟨c00, c01, c02⟩, ⟨c10, c11, c12⟩, ⟨c20, c21, c22⟩, ⟨c30, c31, c32⟩, ⟨c40, c41, c42⟩, c50, c51, c52⟩ := hSw; go_simp; first | done | with_reducible rfl) | exact Or.inr ⟨by rfl, rfl⟩
  try simp only [List.getElem_toArray, List.getElem_cons_succ, List.getElem_cons_zero, Act.put, List.setIfInBounds_toArray, List.set_cons_zero, List.set_cons_succ]
  refine anyS_take (i := 46) (v := ?v46) rfl (by kernel_rfl) (by kernel_rfl) (by kernel_rfl) ?hy46 ?rest46
  case hy46 => first | (refine StepS.read (by rfl) (fun wx hSw => ?_); (try dsimp only at hSw); obtain ⟨hHx, ⟨c00, c01, c02⟩, ⟨c10, c11, c12⟩, ⟨c20, c21, c22⟩, ⟨c30, c31, c32⟩, ⟨c40, c41, c42⟩, c50, c51, c52⟩ := hSw; go_simp; first | done | with_reducible rfl) | exact Or.inr ⟨by rfl, rfl⟩
  try simp only [List.getElem_toArray, List.getElem_cons_succ, List.getElem_cons_zero, Act.put, List.setIfInBounds_toArray, List.set_cons_zero, List.set_cons_succ]
  refine anyS_take (i := 47) (v := ?v47) rfl (by kernel_rfl) (by kernel_rfl) (by kernel_rfl) ?hy47 ?rest47
  case hy47 => first | (refine StepS.read (by rfl) (fun wx hSw => ?_); (try dsimp only at hSw); obtain ⟨hHx, ⟨c00, c01, c02⟩, ⟨c10, c11, c12⟩, ⟨c20, c21, c22⟩, ⟨c30, c31, c32⟩, ⟨c40, c41, c42⟩, c50, c51, c52⟩ := hSw; go_simp; first | done | with_reducible rfl) | exact Or.inr ⟨by rfl, rfl⟩
  try simp only [List.getElem_toArray, List.getElem_cons_succ, List.getElem_cons_zero, Act.put, List.setIfInBounds_toArray, List.set_cons_zero, List.set_cons_succ]
  refine anyS_take (i := 48) (v := ?v48) rfl (by kernel_rfl) (by kernel_rfl) (by kernel_rfl) ?hy48 ?rest48
  case hy48 => first | (refine StepS.read (by rfl) (fun wx hSw => ?_); (try dsimp only at hSw); obtain ⟨hHx, ⟨c00, c01, c02⟩, ⟨c10, c11, c12⟩, ⟨c20, c21, c22⟩, ⟨c30, c31, c32⟩, ⟨c40, c41, c42⟩, c50, c51, c52⟩ := hSw; go_simp; first | done | with_reducible rfl) | exact Or.inr ⟨by rfl, rfl⟩
  try simp only [List.getElem_toArray, List.getElem_cons_succ, List.getElem_cons_zero, Act.put, List.setIfInBounds_toArray, List.set_cons_zero, List.set_cons_succ]
  refine anyS_take (i := 49) (v := ?v49) rfl (by kernel_rfl) (by kernel_rfl) (by kernel_rfl) ?hy49 ?rest49
  case hy49 => first | (refine StepS.read (by rfl) (fun wx hSw => ?_); (try dsimp only at hSw); obtain ⟨hHx, ⟨c00, c01, c02⟩, ⟨c10, c11, c12⟩, ⟨c20, c21, c22⟩, ⟨c30, c31, c32⟩, ⟨c40, c41, c42⟩, c50, c51, c52⟩ := hSw; go_simp; first | done | with_reducible rfl) | exact Or.inr ⟨by rfl, rfl⟩
  try simp only [List.getElem_toArray, List.getElem_cons_succ, List.getElem_cons_zero, Act.put, List.setIfInBounds_toArray, List.set_cons_zero, List.set_cons_succ]
  refine anyS_take (i := 50) (v := .bool true) rfl (by kernel_rfl) (by kernel_rfl) (by kernel_rfl) ?hy50 ?rest50
  case hy50 => (refine Or.inl ⟨by rfl, fun wx hSw => ?_⟩; (try dsimp only at hSw); have hSk := hSw; obtain ⟨hHx, ⟨c00, c01, c02⟩, ⟨c10, c11, c12⟩, ⟨c20, c21, c22⟩, ⟨c30, c31, c32⟩, ⟨c40, c41, c42⟩, c50, c51, c52⟩ := hSw; go_simp; refine Or.inr ⟨_, _, _, rfl, ?_⟩; (with_reducible refine (sure03 _ (Held.handle (w0 := w) (SA.held hSk))).mono ?_); rintro e w' ⟨rfl, hb'⟩; exact ⟨rfl, SA.step hSk hb'⟩)
  try simp only [List.getElem_toArray, List.getElem_cons_succ, List.getElem_cons_zero, Act.put, List.setIfInBounds_toArray, List.set_cons_zero, List.set_cons_succ]
  refine anyS_take (i := 51) (v := ?v51) rfl (by kernel_rfl) (by kernel_rfl) (by kernel_rfl) ?hy51 ?rest51
  case hy51 => first | (refine StepS.read (by rfl) (fun wx hSw => ?_); (try dsimp only at hSw); obtain ⟨hHx, ⟨c00, c01, c02⟩, ⟨c10, c11, c12⟩, ⟨c20, c21, c22⟩, ⟨c30, c31, c32⟩, ⟨c40, c41, c42⟩, c50, c51, c52⟩ := hSw; go_simp; first | done | with_reducible rfl) | exact Or.inr ⟨by rfl, rfl⟩
  try simp only [List.getElem_toArray, List.getElem_cons_succ, List.getElem_cons_zero, Act.put, List.setIfInBounds_toArray, List.set_cons_zero, List.set_cons_succ]
  refine anyS_take (i := 52) (v := ?v52) rfl (by kernel_rfl) (by kernel_rfl) (by kernel_rfl) ?hy52 ?rest52
  case hy52 => first | (refine StepS.read (by rfl) (fun wx hSw => ?_); (try dsimp only at hSw); obtain ⟨hHx, ⟨c00, c01, c02⟩, ⟨c10, c11, c12⟩, ⟨c20, c21, c22⟩, ⟨c30, c31, c32⟩, ⟨c40, c41, c42⟩, c50, c51, c52⟩ := hSw; go_simp; first | done | with_reducible rfl) | exact Or.inr ⟨by rfl, rfl⟩
  try simp only [List.getElem_toArray, List.getElem_cons_succ, List.getElem_cons_zero, Act.put, List.setIfInBounds_toArray, List.set_cons_zero, List.set_cons_succ]
  refine anyS_done (by kernel_rfl) (fun wx hSw => ?_) _
  (try dsimp only at hSw)
  go_wp2_with (fail)
  go_ret
  exact ⟨rfl, Held.below (w0 := w) (SA.held hSw)⟩
end Go.Proofs.YtffdglhdklmjoaaDoor
