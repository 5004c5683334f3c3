/-
  Layer 4: the statement CrcFinds.
-/
import Derived.Test.YtffdglhdklmjoaaDoorW04c
import Derived.Lib.SlBytesConst
namespace Go.Proofs.YtffdglhdklmjoaaDoor
open Go.RowKit Go.Extern.Stop Go.Stop Go.Extern
set_option linter.unusedVariables false
set_option linter.unusedSimpArgs false
set_option maxRecDepth 100000 in
set_option maxHeartbeats 8000000 in
theorem sure04 (w : World) (hg : w.cell? ⟨0, 0, none⟩ = some asHandle) : Calls Tryd.prog 55 #[] w fun e w' => e = .returned (.bool true) ∧ Below w.heap.size w w' := by
  have hH := Held.start hg
  have kc := fun (w : World) (C : Array Value) (n c : Nat) => Lib.run_convert_bytes_const (P := Tryd.prog) w 87 5 C n c Tryd.underlying87 Tryd.underlying5
  go_enter Tryd.func55, Tryd.ntmps55
  go_wp2_with (fail)
  (with_reducible refine (sealed_n _ _ _ [97] _ (by exact Rd.lit _ _ _ _ _ rfl) (by simp [seal_length]) (by simp) (by decide)).mono ?_)
  rintro e w1 ⟨g1, cap1, rfl, hown1, HB⟩
  have hcap1 := own_cap hown1
  have hH1 := Held.step (w0 := w) (by repeat (first | assumption | refine Held.alloc ?_ _ | refine Held.drew ?_)) HB
  clear HB
  go_wp2_with (fail)
  (with_reducible refine (open_seal _ _ _ [97] _ (by exact (Rd.of_own hown1).1) (by simp) (by exact hcap1.1) (by simp)).mono ?_)
  rintro e w2 ⟨A2, c2, rfl, hz2, hr2, HB⟩
  have hH2 := Held.step (w0 := w) hH1 HB
  clear HB
  go_wp2_with (fail)
  (with_reducible refine (open_no _ _ _ [97, 98, 99, 100, 101] _ (by exact Rd.lit _ _ _ _ _ rfl) (by decide +kernel) (by simp) (by decide) (by decide)).mono ?_)
  rintro e w3 ⟨rfl, HB⟩
  have hH3 := Held.step (w0 := w) (by repeat (first | assumption | refine Held.alloc ?_ _ | refine Held.drew ?_)) HB
  have hr3 := hr2.below (Below.trans (Below.alloc (Below.refl _ _) (Nat.le_refl _) _) (HB.mono (by simp)))
  clear HB
  go_wp2_with (fail)
  (with_reducible refine (sum_n _ _ _ [49, 50, 51, 52, 53, 54, 55, 56, 57] _ (by exact Rd.lit _ _ _ _ _ rfl) (by simp) (by decide)).mono ?_)
  rintro e w4 ⟨rfl, rfl⟩
  have hsum : crcMore 0 [49, 50, 51, 52, 53, 54, 55, 56, 57] = 3421780262 := by decide +kernel
  rw [hsum]
  clear hsum
  have kt := fun (W : World) (h : Rd W A2 [97]) => run_text (P := Tryd.prog) W 87 9 5 A2 c2 [97] h Tryd.underlying87 Tryd.underlying5 Tryd.underlying9
  have kt1 := kt _ (hr3.below (Below.alloc (Below.refl _ _) (Nat.le_refl _) (.cells #[.int .u8 49, .int .u8 50, .int .u8 51, .int .u8 52, .int .u8 53, .int .u8 54, .int .u8 55, .int .u8 56, .int .u8 57] 5 (9, 10))))
  clear kt
  rw [show ([97] : List UInt8).length = 1 from rfl] at kt1
  go_wp2_with (go_at_call 63; (with_reducible refine (num04_err _ _ (Held.handle (w0 := w) (by repeat (first | assumption | refine Held.alloc ?_ _ | refine Held.drew ?_)))).mono ?_); rintro e w' ⟨rfl, hb'⟩; obtain ⟨hc, hf⟩ := bcell hb'; have hz := hb'.size; (try (simp at hz)); have hH' := Held.step (w0 := w) (by repeat (first | assumption | refine Held.alloc ?_ _ | refine Held.drew ?_)) hb'; clear hb')
  go_outline
  go_ret
  exact ⟨rfl, Held.below (w0 := w) (by assumption)⟩
end Go.Proofs.YtffdglhdklmjoaaDoor
