/-
  Layer 8: contracts of daytime and of its reference.
-/
import Derived.Test.YtengchkiejpglaaDoorV07
import Derived.Deep.RegionHeld3
namespace Go.Proofs.YtengchkiejpglaaDoor
open Go.RowKit Go.Extern.Stop Go.Stop Go.Extern
set_option linter.unusedVariables false
set_option linter.unusedSimpArgs false
def TimeOK (h m s : Int) : Prop := (0 ≤ h ∧ h ≤ 23 ∧ 0 ≤ m ∧ m ≤ 59 ∧ 0 ≤ s ∧ s ≤ 59) ∨ (h = 23 ∧ m = 59 ∧ s = 60)
def secF (h m s : Int) : Int := 3600 * h + 60 * m + s
theorem leapsec_c (w : World) : Calls Tryd.prog 91 #[] w fun e w' => e = .returned (.agg #[.int .i64 23, .int .i64 59, .int .i64 60]) ∧ Below w.heap.size w w' := by
  go_enter Tryd.func91, Tryd.ntmps91
  go_wp2_with (fail)
  refine bodyPost_ret (v := .agg #[.int .i64 23, .int .i64 59, .int .i64 60]) (by first | (simp [results, Tryd.results91, go_sem]; done) | (simp only [results, Tryd.results91]; go_simp; done) | (simp only [results, Tryd.results91]; go_simp; omega)) rfl ⟨rfl, ?_⟩
  repeat (first | exact Below.refl _ _ | assumption | refine Below.trans ?_ (Below.mono (by assumption) (by simp <;> omega)) | exact Held.below (w0 := w) (by assumption) | refine Below.setCell ?_ (by simp <;> omega) _ | refine Below.alloc ?_ (by simp <;> omega) _ | refine Below.drew ?_ | refine below_drewN ?_ _)
set_option maxHeartbeats 4000000 in
theorem dcheck_plain (h m s : Int) (w : World) (hg : w.cell? ⟨0, 0, none⟩ = some asHandle) (hh : InR h) (hm : InR m) (hs : InR s) (f0 : 0 ≤ h) (f1 : h ≤ 23) (f2 : 0 ≤ m) (f3 : m ≤ 59) (f4 : 0 ≤ s) (f5 : s ≤ 59)  : Calls Tryd.prog 39 #[.agg #[.int .i64 h, .int .i64 m, .int .i64 s]] w fun e w' => e = .returned (.nilIface) ∧ Below w.heap.size w w' := by
  have hH := Held.start hg
  have d0 : decide (0 ≤ h) = true := okDec f0
  have d1 : decide (h ≤ 23) = true := okDec f1
  have d2 : decide (0 ≤ m) = true := okDec f2
  have d3 : decide (m ≤ 59) = true := okDec f3
  have d4 : decide (0 ≤ s) = true := okDec f4
  have d5 : decide (s ≤ 59) = true := okDec f5
  go_enter Tryd.func39, Tryd.ntmps39
  go_wp2
  go_quiet (fail)
  go_wp2
  go_ret
  exact ⟨rfl, by repeat (first | exact Below.refl _ _ | assumption | refine Below.trans ?_ (Below.mono (by assumption) (by simp <;> omega)) | exact Held.below (w0 := w) (by assumption) | refine Below.setCell ?_ (by simp <;> omega) _ | refine Below.alloc ?_ (by simp <;> omega) _ | refine Below.drew ?_ | refine below_drewN ?_ _)⟩
set_option maxHeartbeats 4000000 in
theorem dcheck_n0 (h m s : Int) (w : World) (hg : w.cell? ⟨0, 0, none⟩ = some asHandle) (hh : InR h) (hm : InR m) (hs : InR s) (f0 : h < 0) (n0 : h ≠ 23) : Calls Tryd.prog 39 #[.agg #[.int .i64 h, .int .i64 m, .int .i64 s]] w fun e w' => e = .returned (errV 1) ∧ Below w.heap.size w w' := by
  have hH := Held.start hg
  have d0 : decide (0 ≤ h) = false := noDec (by omega)
  have b0 : (h == 23) = false := beq_false_of_ne n0
  have c0 : decide (h = 23) = false := noDec n0
  go_enter Tryd.func39, Tryd.ntmps39
  go_wp2
  (first | (go_region_held3 (fun wx => S3 w w.heap.size (.int .i64 h) (.int .i64 m) (.int .i64 s) wx) (first | assumption | exact S3.drew (by assumption) | exact S3.drew ⟨Held.alloc (by assumption) _, by simp, by simp, by simp, by simp⟩) (first | (go_at_call 91; (with_reducible refine (leapsec_c _).mono ?_); rintro e w' ⟨rfl, hb'⟩; have hS' := S3.step (w := w) (b := w.heap.size) (by assumption) hb'; clear hb'))))
  go_wp2
  go_ret
  exact ⟨rfl, Held.below (w0 := w) (by first | assumption | exact And.left (by assumption))⟩
set_option maxHeartbeats 4000000 in
theorem dcheck_n1 (h m s : Int) (w : World) (hg : w.cell? ⟨0, 0, none⟩ = some asHandle) (hh : InR h) (hm : InR m) (hs : InR s) (f0 : 0 ≤ h) (f1 : 23 < h) (n0 : h ≠ 23) : Calls Tryd.prog 39 #[.agg #[.int .i64 h, .int .i64 m, .int .i64 s]] w fun e w' => e = .returned (errV 1) ∧ Below w.heap.size w w' := by
  have hH := Held.start hg
  have d0 : decide (0 ≤ h) = true := okDec f0
  have d1 : decide (h ≤ 23) = false := noDec (by omega)
  have b0 : (h == 23) = false := beq_false_of_ne n0
  have c0 : decide (h = 23) = false := noDec n0
  go_enter Tryd.func39, Tryd.ntmps39
  go_wp2
  (first | (go_region_held3 (fun wx => S3 w w.heap.size (.int .i64 h) (.int .i64 m) (.int .i64 s) wx) (first | assumption | exact S3.drew (by assumption) | exact S3.drew ⟨Held.alloc (by assumption) _, by simp, by simp, by simp, by simp⟩) (first | (go_at_call 91; (with_reducible refine (leapsec_c _).mono ?_); rintro e w' ⟨rfl, hb'⟩; have hS' := S3.step (w := w) (b := w.heap.size) (by assumption) hb'; clear hb'))))
  go_wp2
  go_ret
  exact ⟨rfl, Held.below (w0 := w) (by first | assumption | exact And.left (by assumption))⟩
set_option maxHeartbeats 4000000 in
theorem dcheck_n2 (h m s : Int) (w : World) (hg : w.cell? ⟨0, 0, none⟩ = some asHandle) (hh : InR h) (hm : InR m) (hs : InR s) (f0 : 0 ≤ h) (f1 : h ≤ 23) (f2 : m < 0) (n0 : m ≠ 59) : Calls Tryd.prog 39 #[.agg #[.int .i64 h, .int .i64 m, .int .i64 s]] w fun e w' => e = .returned (errV 1) ∧ Below w.heap.size w w' := by
  have hH := Held.start hg
  have d0 : decide (0 ≤ h) = true := okDec f0
  have d1 : decide (h ≤ 23) = true := okDec f1
  have d2 : decide (0 ≤ m) = false := noDec (by omega)
  have b0 : (m == 59) = false := beq_false_of_ne n0
  have c0 : decide (m = 59) = false := noDec n0
  go_enter Tryd.func39, Tryd.ntmps39
  go_wp2
  (first | (go_region_held3 (fun wx => S3 w w.heap.size (.int .i64 h) (.int .i64 m) (.int .i64 s) wx) (first | assumption | exact S3.drew (by assumption) | exact S3.drew ⟨Held.alloc (by assumption) _, by simp, by simp, by simp, by simp⟩) (first | (go_at_call 91; (with_reducible refine (leapsec_c _).mono ?_); rintro e w' ⟨rfl, hb'⟩; have hS' := S3.step (w := w) (b := w.heap.size) (by assumption) hb'; clear hb'))))
  go_wp2
  go_ret
  exact ⟨rfl, Held.below (w0 := w) (by first | assumption | exact And.left (by assumption))⟩
set_option maxHeartbeats 4000000 in
theorem dcheck_n3 (h m s : Int) (w : World) (hg : w.cell? ⟨0, 0, none⟩ = some asHandle) (hh : InR h) (hm : InR m) (hs : InR s) (f0 : 0 ≤ h) (f1 : h ≤ 23) (f2 : 0 ≤ m) (f3 : 59 < m) (n0 : m ≠ 59) : Calls Tryd.prog 39 #[.agg #[.int .i64 h, .int .i64 m, .int .i64 s]] w fun e w' => e = .returned (errV 1) ∧ Below w.heap.size w w' := by
  have hH := Held.start hg
  have d0 : decide (0 ≤ h) = true := okDec f0
  have d1 : decide (h ≤ 23) = true := okDec f1
  have d2 : decide (0 ≤ m) = true := okDec f2
  have d3 : decide (m ≤ 59) = false := noDec (by omega)
  have b0 : (m == 59) = false := beq_false_of_ne n0
  have c0 : decide (m = 59) = false := noDec n0
  go_enter Tryd.func39, Tryd.ntmps39
  go_wp2
  (first | (go_region_held3 (fun wx => S3 w w.heap.size (.int .i64 h) (.int .i64 m) (.int .i64 s) wx) (first | assumption | exact S3.drew (by assumption) | exact S3.drew ⟨Held.alloc (by assumption) _, by simp, by simp, by simp, by simp⟩) (first | (go_at_call 91; (with_reducible refine (leapsec_c _).mono ?_); rintro e w' ⟨rfl, hb'⟩; have hS' := S3.step (w := w) (b := w.heap.size) (by assumption) hb'; clear hb'))))
  go_wp2
  go_ret
  exact ⟨rfl, Held.below (w0 := w) (by first | assumption | exact And.left (by assumption))⟩
set_option maxHeartbeats 4000000 in
theorem dcheck_n4 (h m s : Int) (w : World) (hg : w.cell? ⟨0, 0, none⟩ = some asHandle) (hh : InR h) (hm : InR m) (hs : InR s) (f0 : 0 ≤ h) (f1 : h ≤ 23) (f2 : 0 ≤ m) (f3 : m ≤ 59) (f4 : s < 0) (n0 : s ≠ 60) : Calls Tryd.prog 39 #[.agg #[.int .i64 h, .int .i64 m, .int .i64 s]] w fun e w' => e = .returned (errV 1) ∧ Below w.heap.size w w' := by
  have hH := Held.start hg
  have d0 : decide (0 ≤ h) = true := okDec f0
  have d1 : decide (h ≤ 23) = true := okDec f1
  have d2 : decide (0 ≤ m) = true := okDec f2
  have d3 : decide (m ≤ 59) = true := okDec f3
  have d4 : decide (0 ≤ s) = false := noDec (by omega)
  have b0 : (s == 60) = false := beq_false_of_ne n0
  have c0 : decide (s = 60) = false := noDec n0
  go_enter Tryd.func39, Tryd.ntmps39
  go_wp2
  (first | (go_region_held3 (fun wx => S3 w w.heap.size (.int .i64 h) (.int .i64 m) (.int .i64 s) wx) (first | assumption | exact S3.drew (by assumption) | exact S3.drew ⟨Held.alloc (by assumption) _, by simp, by simp, by simp, by simp⟩) (first | (go_at_call 91; (with_reducible refine (leapsec_c _).mono ?_); rintro e w' ⟨rfl, hb'⟩; have hS' := S3.step (w := w) (b := w.heap.size) (by assumption) hb'; clear hb'))))
  go_wp2
  go_ret
  exact ⟨rfl, Held.below (w0 := w) (by first | assumption | exact And.left (by assumption))⟩
set_option maxHeartbeats 4000000 in
theorem dcheck_n5 (h m s : Int) (w : World) (hg : w.cell? ⟨0, 0, none⟩ = some asHandle) (hh : InR h) (hm : InR m) (hs : InR s) (f0 : 0 ≤ h) (f1 : h ≤ 23) (f2 : 0 ≤ m) (f3 : m ≤ 59) (f4 : 0 ≤ s) (f5 : 59 < s) (n0 : s ≠ 60) : Calls Tryd.prog 39 #[.agg #[.int .i64 h, .int .i64 m, .int .i64 s]] w fun e w' => e = .returned (errV 1) ∧ Below w.heap.size w w' := by
  have hH := Held.start hg
  have d0 : decide (0 ≤ h) = true := okDec f0
  have d1 : decide (h ≤ 23) = true := okDec f1
  have d2 : decide (0 ≤ m) = true := okDec f2
  have d3 : decide (m ≤ 59) = true := okDec f3
  have d4 : decide (0 ≤ s) = true := okDec f4
  have d5 : decide (s ≤ 59) = false := noDec (by omega)
  have b0 : (s == 60) = false := beq_false_of_ne n0
  have c0 : decide (s = 60) = false := noDec n0
  go_enter Tryd.func39, Tryd.ntmps39
  go_wp2
  (first | (go_region_held3 (fun wx => S3 w w.heap.size (.int .i64 h) (.int .i64 m) (.int .i64 s) wx) (first | assumption | exact S3.drew (by assumption) | exact S3.drew ⟨Held.alloc (by assumption) _, by simp, by simp, by simp, by simp⟩) (first | (go_at_call 91; (with_reducible refine (leapsec_c _).mono ?_); rintro e w' ⟨rfl, hb'⟩; have hS' := S3.step (w := w) (b := w.heap.size) (by assumption) hb'; clear hb'))))
  go_wp2
  go_ret
  exact ⟨rfl, Held.below (w0 := w) (by first | assumption | exact And.left (by assumption))⟩
set_option maxHeartbeats 4000000 in
theorem dcheck_n6 (h m s : Int) (w : World) (hg : w.cell? ⟨0, 0, none⟩ = some asHandle) (hh : InR h) (hm : InR m) (hs : InR s) (f0 : 0 ≤ h) (f1 : h ≤ 23) (f2 : 0 ≤ m) (f3 : m ≤ 59) (f4 : 0 ≤ s) (f5 : 59 < s) (n0 : h ≠ 23) : Calls Tryd.prog 39 #[.agg #[.int .i64 h, .int .i64 m, .int .i64 s]] w fun e w' => e = .returned (errV 1) ∧ Below w.heap.size w w' := by
  have hH := Held.start hg
  have d0 : decide (0 ≤ h) = true := okDec f0
  have d1 : decide (h ≤ 23) = true := okDec f1
  have d2 : decide (0 ≤ m) = true := okDec f2
  have d3 : decide (m ≤ 59) = true := okDec f3
  have d4 : decide (0 ≤ s) = true := okDec f4
  have d5 : decide (s ≤ 59) = false := noDec (by omega)
  have b0 : (h == 23) = false := beq_false_of_ne n0
  have c0 : decide (h = 23) = false := noDec n0
  go_enter Tryd.func39, Tryd.ntmps39
  go_wp2
  (first | (go_region_held3 (fun wx => S3 w w.heap.size (.int .i64 h) (.int .i64 m) (.int .i64 s) wx) (first | assumption | exact S3.drew (by assumption) | exact S3.drew ⟨Held.alloc (by assumption) _, by simp, by simp, by simp, by simp⟩) (first | (go_at_call 91; (with_reducible refine (leapsec_c _).mono ?_); rintro e w' ⟨rfl, hb'⟩; have hS' := S3.step (w := w) (b := w.heap.size) (by assumption) hb'; clear hb'))))
  go_wp2
  go_ret
  exact ⟨rfl, Held.below (w0 := w) (by first | assumption | exact And.left (by assumption))⟩
set_option maxHeartbeats 4000000 in
theorem dcheck_n7 (h m s : Int) (w : World) (hg : w.cell? ⟨0, 0, none⟩ = some asHandle) (hh : InR h) (hm : InR m) (hs : InR s) (f0 : 0 ≤ h) (f1 : h ≤ 23) (f2 : 0 ≤ m) (f3 : m ≤ 59) (f4 : 0 ≤ s) (f5 : 59 < s) (n0 : m ≠ 59) : Calls Tryd.prog 39 #[.agg #[.int .i64 h, .int .i64 m, .int .i64 s]] w fun e w' => e = .returned (errV 1) ∧ Below w.heap.size w w' := by
  have hH := Held.start hg
  have d0 : decide (0 ≤ h) = true := okDec f0
  have d1 : decide (h ≤ 23) = true := okDec f1
  have d2 : decide (0 ≤ m) = true := okDec f2
  have d3 : decide (m ≤ 59) = true := okDec f3
  have d4 : decide (0 ≤ s) = true := okDec f4
  have d5 : decide (s ≤ 59) = false := noDec (by omega)
  have b0 : (m == 59) = false := beq_false_of_ne n0
  have c0 : decide (m = 59) = false := noDec n0
  go_enter Tryd.func39, Tryd.ntmps39
  go_wp2
  (first | (go_region_held3 (fun wx => S3 w w.heap.size (.int .i64 h) (.int .i64 m) (.int .i64 s) wx) (first | assumption | exact S3.drew (by assumption) | exact S3.drew ⟨Held.alloc (by assumption) _, by simp, by simp, by simp, by simp⟩) (first | (go_at_call 91; (with_reducible refine (leapsec_c _).mono ?_); rintro e w' ⟨rfl, hb'⟩; have hS' := S3.step (w := w) (b := w.heap.size) (by assumption) hb'; clear hb'))))
  go_wp2
  go_ret
  exact ⟨rfl, Held.below (w0 := w) (by first | assumption | exact And.left (by assumption))⟩
set_option maxHeartbeats 4000000 in
theorem dcheck_leap (w : World) (hg : w.cell? ⟨0, 0, none⟩ = some asHandle) : Calls Tryd.prog 39 #[.agg #[.int .i64 23, .int .i64 59, .int .i64 60]] w fun e w' => e = .returned (.nilIface) ∧ Below w.heap.size w w' := by
  have hH := Held.start hg
  go_enter Tryd.func39, Tryd.ntmps39
  go_wp2
  (first | (go_region_held3 (fun wx => S3 w w.heap.size (.int .i64 23) (.int .i64 59) (.int .i64 60) wx) (first | assumption | exact S3.drew (by assumption) | exact S3.drew ⟨Held.alloc (by assumption) _, by simp, by simp, by simp, by simp⟩) (first | (go_at_call 91; (with_reducible refine (leapsec_c _).mono ?_); rintro e w' ⟨rfl, hb'⟩; have hS' := S3.step (w := w) (b := w.heap.size) (by assumption) hb'; clear hb'))))
  go_wp2
  go_ret
  exact ⟨rfl, Held.below (w0 := w) (by first | assumption | exact And.left (by assumption))⟩
theorem dcheck_ok (h m s : Int) (w : World) (hg : w.cell? ⟨0, 0, none⟩ = some asHandle) (hh : InR h) (hm : InR m) (hs : InR s) (ht : TimeOK h m s) : Calls Tryd.prog 39 #[.agg #[.int .i64 h, .int .i64 m, .int .i64 s]] w fun e w' => e = .returned (.nilIface) ∧ Below w.heap.size w w' := by
  rcases ht with ⟨a, b, c, d, e, f⟩ | ⟨rfl, rfl, rfl⟩
  · exact dcheck_plain h m s w hg hh hm hs a b c d e f
  · exact dcheck_leap w hg
theorem dcheck_no (h m s : Int) (w : World) (hg : w.cell? ⟨0, 0, none⟩ = some asHandle) (hh : InR h) (hm : InR m) (hs : InR s) (ht : ¬ TimeOK h m s) : Calls Tryd.prog 39 #[.agg #[.int .i64 h, .int .i64 m, .int .i64 s]] w fun e w' => e = .returned (errV 1) ∧ Below w.heap.size w w' := by
  have hn1 : ¬ (0 ≤ h ∧ h ≤ 23 ∧ 0 ≤ m ∧ m ≤ 59 ∧ 0 ≤ s ∧ s ≤ 59) := fun g => ht (Or.inl g)
  have hn2 : ¬ (h = 23 ∧ m = 59 ∧ s = 60) := fun g => ht (Or.inr g)
  by_cases a : 0 ≤ h
  · by_cases b : h ≤ 23
    · by_cases c : 0 ≤ m
      · by_cases d : m ≤ 59
        · by_cases e : 0 ≤ s
          · by_cases f : s = 60
            · by_cases g : h = 23
              · exact dcheck_n7 h m s w hg hh hm hs a b c d e (by omega) (by omega)
              · exact dcheck_n6 h m s w hg hh hm hs a b c d e (by omega) g
            · exact dcheck_n5 h m s w hg hh hm hs a b c d e (by omega) f
          · exact dcheck_n4 h m s w hg hh hm hs a b c d (by omega) (by omega)
        · exact dcheck_n3 h m s w hg hh hm hs a b c (by omega) (by omega)
      · exact dcheck_n2 h m s w hg hh hm hs a b (by omega) (by omega)
    · exact dcheck_n1 h m s w hg hh hm hs a (by omega) (by omega)
  · exact dcheck_n0 h m s w hg hh hm hs (by omega) (by omega)
theorem dsec_no (h m s : Int) (w : World) (hg : w.cell? ⟨0, 0, none⟩ = some asHandle) (hh : InR h) (hm : InR m) (hs : InR s) (ht : ¬ TimeOK h m s) : Calls Tryd.prog 36 #[.agg #[.int .i64 h, .int .i64 m, .int .i64 s]] w fun e w' => e = .returned (.tuple #[.int .i64 0, errV 1]) ∧ Below w.heap.size w w' := by
  have hH := Held.start hg
  go_enter Tryd.func36, Tryd.ntmps36
  go_wp2_with (first | (go_at_call 39; (with_reducible refine (dcheck_no _ _ _ _ (Held.handle (w0 := w) (by repeat (first | assumption | refine Held.alloc ?_ _ | refine Held.drew ?_))) hh hm hs ht).mono ?_); rintro e w' ⟨rfl, hb'⟩; obtain ⟨hc, hf⟩ := bcell hb'; have hz := hb'.size; (try (simp at hz)); have hH' := Held.step (w0 := w) (by repeat (first | assumption | refine Held.alloc ?_ _ | refine Held.drew ?_)) hb'; clear hb'))
  go_ret2
  exact ⟨rfl, Held.below (w0 := w) (by assumption)⟩
theorem dsec_ok (h m s : Int) (w : World) (hg : w.cell? ⟨0, 0, none⟩ = some asHandle) (hh : InR h) (hm : InR m) (hs : InR s) (ht : TimeOK h m s) : Calls Tryd.prog 36 #[.agg #[.int .i64 h, .int .i64 m, .int .i64 s]] w fun e w' => e = .returned (.tuple #[.int .i64 (secF h m s), .nilIface]) ∧ Below w.heap.size w w' := by
  have hH := Held.start hg
  have hb : 0 ≤ h ∧ h ≤ 23 ∧ 0 ≤ m ∧ m ≤ 59 ∧ 0 ≤ s ∧ s ≤ 60 := by rcases ht with g | g <;> omega
  go_enter Tryd.func36, Tryd.ntmps36
  go_wp2_with (fail)
  go_at_call 39
  (with_reducible refine (dcheck_ok _ _ _ _ (Held.handle (w0 := w) (by repeat (first | assumption | refine Held.alloc ?_ _ | refine Held.drew ?_))) hh hm hs ht).mono ?_)
  rintro e w1 ⟨rfl, HB⟩
  obtain ⟨hc1, hf1⟩ := bcell HB
  obtain ⟨hd1, hh1⟩ := bcell2 (U := w) (by repeat (first | exact Below.refl _ _ | refine Below.setCell ?_ (by simp <;> omega) _ | refine Below.alloc ?_ (by simp <;> omega) _ | refine Below.drew ?_)) HB
  have hz1 := HB.size
  try simp at hz1
  (try (have z1w0 : w.heap.size < w1.heap.size := (by omega)))
  (try (have z1w1 : w.heap.size + 1 < w1.heap.size := (by omega)))
  have hH1 := Held.step (w0 := w) (by repeat (first | assumption | refine Held.alloc ?_ _ | refine Held.drew ?_)) HB
  clear HB
  go_wp2_with (fail)
  go_ret2
  exact ⟨by unfold secF; exact congrArg (fun z : Int => Ending.returned (.tuple #[.int .i64 z, .nilIface])) (by omega), Held.below (w0 := w) (by assumption)⟩
def OfT (n h m s k : Int) : Prop := (k = 0 ∧ 0 ≤ n ∧ n < 86400 ∧ h = n / 3600 ∧ m = n / 60 % 60 ∧ s = n % 60) ∨ (k = 0 ∧ n = 86400 ∧ h = 23 ∧ m = 59 ∧ s = 60) ∨ (k = 1 ∧ (n < 0 ∨ 86400 < n) ∧ h = 0 ∧ m = 0 ∧ s = 0)
theorem ofT_ex (n : Int) : ∃ h m s k, OfT n h m s k := by
  by_cases a : n < 0 ∨ 86400 < n
  · exact ⟨0, 0, 0, 1, Or.inr (Or.inr ⟨rfl, a, rfl, rfl, rfl⟩)⟩
  · by_cases b : n = 86400
    · exact ⟨23, 59, 60, 0, Or.inr (Or.inl ⟨rfl, b, rfl, rfl, rfl⟩)⟩
    · exact ⟨_, _, _, 0, Or.inl ⟨rfl, by omega, by omega, rfl, rfl, rfl⟩⟩
theorem ofT_bd {n h m s k : Int} (g : OfT n h m s k) : 0 ≤ h ∧ h ≤ 23 ∧ 0 ≤ m ∧ m ≤ 59 ∧ 0 ≤ s ∧ s ≤ 60 := by
  rcases g with ⟨_, a, b, c, d, e⟩ | ⟨_, _, rfl, rfl, rfl⟩ | ⟨_, _, rfl, rfl, rfl⟩ <;> omega
set_option maxHeartbeats 1000000 in
theorem dof_f (n h m s k : Int) (w : World) (hg : w.cell? ⟨0, 0, none⟩ = some asHandle) (hn : InR n) (g : OfT n h m s k) : Calls Tryd.prog 37 #[.int .i64 n] w fun e w' => e = .returned (.tuple #[.agg #[.int .i64 h, .int .i64 m, .int .i64 s], errOf k]) ∧ Below w.heap.size w w' := by
  have hH := Held.start hg
  rcases g with ⟨rfl, a, b, c, d, e⟩ | ⟨rfl, rfl, rfl, rfl, rfl⟩ | ⟨rfl, a, rfl, rfl, rfl⟩
  · have hne : (n == 86400) = false := beq_false_of_ne (by omega)
    rw [errOf_zero]
    subst c d e
    go_enter Tryd.func37, Tryd.ntmps37
    go_wp2_with (fail)
    refine bodyPost_ret (v := .tuple #[.agg #[.int .i64 (n / 3600), .int .i64 (n / 60 % 60), .int .i64 (n % 60)], .nilIface]) (by first | (simp [results, Tryd.results37, go_sem]; done) | (simp only [results, Tryd.results37]; go_simp; done) | (simp only [results, Tryd.results37]; go_simp; omega)) rfl ⟨rfl, ?_⟩
    repeat (first | exact Below.refl _ _ | assumption | refine Below.trans ?_ (Below.mono (by assumption) (by simp <;> omega)) | exact Held.below (w0 := w) (by assumption) | refine Below.setCell ?_ (by simp <;> omega) _ | refine Below.alloc ?_ (by simp <;> omega) _ | refine Below.drew ?_ | refine below_drewN ?_ _)
  · rw [errOf_zero]
    go_enter Tryd.func37, Tryd.ntmps37
    go_wp2_with (first | (go_at_call 91; (with_reducible refine (leapsec_c _).mono ?_); rintro e w' ⟨rfl, hb'⟩; obtain ⟨hc, hf⟩ := bcell hb'; have hz := hb'.size; (try (simp at hz)); have hH' := Held.step (w0 := w) (by repeat (first | assumption | refine Held.alloc ?_ _ | refine Held.drew ?_)) hb'; clear hb'; have hz0 : w.heap.size < w'.heap.size := (by omega)))
    refine bodyPost_ret (v := .tuple #[.agg #[.int .i64 23, .int .i64 59, .int .i64 60], .nilIface]) (by first | (simp [results, Tryd.results37, go_sem]; done) | (simp only [results, Tryd.results37]; go_simp; done) | (simp only [results, Tryd.results37]; go_simp; omega)) rfl ⟨rfl, ?_⟩
    repeat (first | exact Held.below (w0 := w) (by assumption) | refine Below.setCell ?_ (by simp <;> omega) _)
  · rw [errOf_ne (by decide : ¬ (1 : Int) = 0)]
    rcases a with a | a
    all_goals
      go_enter Tryd.func37, Tryd.ntmps37
      go_wp2_with (fail)
      refine bodyPost_ret (v := .tuple #[.agg #[.int .i64 0, .int .i64 0, .int .i64 0], errV 1]) (by first | (simp [results, Tryd.results37, go_sem]; done) | (simp only [results, Tryd.results37]; go_simp; done) | (simp only [results, Tryd.results37]; go_simp; omega)) rfl ⟨rfl, ?_⟩
      repeat (first | exact Below.refl _ _ | assumption | refine Below.trans ?_ (Below.mono (by assumption) (by simp <;> omega)) | exact Held.below (w0 := w) (by assumption) | refine Below.setCell ?_ (by simp <;> omega) _ | refine Below.alloc ?_ (by simp <;> omega) _ | refine Below.drew ?_ | refine below_drewN ?_ _)
theorem rdof_f (n h m s : Int) (w : World) (hn : InR n) (g : OfT n h m s 0) : Calls Tryd.prog 42 #[.int .i64 n] w fun e w' => e = .returned (.agg #[.int .i64 h, .int .i64 m, .int .i64 s]) ∧ Below w.heap.size w w' := by
  rcases g with ⟨_, a, b, c, d, e⟩ | ⟨_, rfl, rfl, rfl, rfl⟩ | ⟨k0, _⟩
  · have hne : (n == 86400) = false := beq_false_of_ne (by omega)
    have hc : h = n / 60 / 60 := by omega
    clear c
    subst hc d e
    go_enter Tryd.func42, Tryd.ntmps42
    go_wp2_with (fail)
    refine bodyPost_ret (v := .agg #[.int .i64 (n / 60 / 60), .int .i64 (n / 60 % 60), .int .i64 (n % 60)]) (by first | (simp [results, Tryd.results42, go_sem]; done) | (simp only [results, Tryd.results42]; go_simp; done) | (simp only [results, Tryd.results42]; go_simp; omega)) rfl ⟨rfl, ?_⟩
    repeat (first | exact Below.refl _ _ | assumption | refine Below.trans ?_ (Below.mono (by assumption) (by simp <;> omega)) | exact Held.below (w0 := w) (by assumption) | refine Below.setCell ?_ (by simp <;> omega) _ | refine Below.alloc ?_ (by simp <;> omega) _ | refine Below.drew ?_ | refine below_drewN ?_ _)
  · go_enter Tryd.func42, Tryd.ntmps42
    go_wp2_with (fail)
    refine bodyPost_ret (v := .agg #[.int .i64 23, .int .i64 59, .int .i64 60]) (by first | (simp [results, Tryd.results42, go_sem]; done) | (simp only [results, Tryd.results42]; go_simp; done) | (simp only [results, Tryd.results42]; go_simp; omega)) rfl ⟨rfl, ?_⟩
    repeat (first | exact Below.refl _ _ | assumption | refine Below.trans ?_ (Below.mono (by assumption) (by simp <;> omega)) | exact Held.below (w0 := w) (by assumption) | refine Below.setCell ?_ (by simp <;> omega) _ | refine Below.alloc ?_ (by simp <;> omega) _ | refine Below.drew ?_ | refine below_drewN ?_ _)
  · omega
end Go.Proofs.YtengchkiejpglaaDoor
