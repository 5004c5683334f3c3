/-
  Layer 8: seconds of the reference, stamps.
-/
import Derived.Test.YtengchkiejpglaaDoorW08
import Derived.Deep.RegionHeld3
namespace Go.Proofs.YtengchkiejpglaaDoor
open Go.RowKit Go.Extern.Stop Go.Stop Go.Extern
set_option linter.unusedVariables false
set_option linter.unusedSimpArgs false
set_option maxHeartbeats 4000000 in
theorem rsec_ok (h m s : Int) (w : World) (hh : InR h) (hm : InR m) (hs : InR s) (ht : TimeOK h m s) : Calls Tryd.prog 38 #[.agg #[.int .i64 h, .int .i64 m, .int .i64 s]] w fun e w' => e = .returned (.int .i64 (secF h m s)) ∧ Below w.heap.size w w' := by
  rcases ht with ⟨a, b, c, d, e, f⟩ | ⟨rfl, rfl, rfl⟩
  · go_enter Tryd.func38, Tryd.ntmps38
    go_wp2_with (fail)
    all_goals first | (exfalso; omega) | (go_ret; exact ⟨ret_i (by unfold secF; omega), by repeat (first | exact Below.refl _ _ | assumption | refine Below.trans ?_ (Below.mono (by assumption) (by simp <;> omega)) | exact Held.below (w0 := w) (by assumption) | refine Below.setCell ?_ (by simp <;> omega) _ | refine Below.alloc ?_ (by simp <;> omega) _ | refine Below.drew ?_ | refine below_drewN ?_ _)⟩)
  · go_enter Tryd.func38, Tryd.ntmps38
    go_wp2_with (fail)
    all_goals first | (exfalso; omega) | (go_ret; exact ⟨ret_i (by unfold secF; omega), by repeat (first | exact Below.refl _ _ | assumption | refine Below.trans ?_ (Below.mono (by assumption) (by simp <;> omega)) | exact Held.below (w0 := w) (by assumption) | refine Below.setCell ?_ (by simp <;> omega) _ | refine Below.alloc ?_ (by simp <;> omega) _ | refine Below.drew ?_ | refine below_drewN ?_ _)⟩)
set_option maxHeartbeats 4000000 in
theorem rsec_n0 (h m s : Int) (w : World) (hh : InR h) (hm : InR m) (hs : InR s) (f0 : h < 0) (n0 : h ≠ 23) : Calls Tryd.prog 38 #[.agg #[.int .i64 h, .int .i64 m, .int .i64 s]] w fun e w' => e = .returned (.int .i64 (-1)) ∧ Below w.heap.size w w' := by
  have b0 : (h == 23) = false := beq_false_of_ne n0
  have c0 : decide (h = 23) = false := noDec n0
  go_enter Tryd.func38, Tryd.ntmps38
  go_wp2_with (fail)
  all_goals first | (exfalso; omega) | (go_ret; exact ⟨rfl, by repeat (first | exact Below.refl _ _ | assumption | refine Below.trans ?_ (Below.mono (by assumption) (by simp <;> omega)) | exact Held.below (w0 := w) (by assumption) | refine Below.setCell ?_ (by simp <;> omega) _ | refine Below.alloc ?_ (by simp <;> omega) _ | refine Below.drew ?_ | refine below_drewN ?_ _)⟩)
set_option maxHeartbeats 4000000 in
theorem rsec_n1 (h m s : Int) (w : World) (hh : InR h) (hm : InR m) (hs : InR s) (f0 : 0 ≤ h) (f1 : 23 < h) (n0 : h ≠ 23) : Calls Tryd.prog 38 #[.agg #[.int .i64 h, .int .i64 m, .int .i64 s]] w fun e w' => e = .returned (.int .i64 (-1)) ∧ Below w.heap.size w w' := by
  have b0 : (h == 23) = false := beq_false_of_ne n0
  have c0 : decide (h = 23) = false := noDec n0
  go_enter Tryd.func38, Tryd.ntmps38
  go_wp2_with (fail)
  all_goals first | (exfalso; omega) | (go_ret; exact ⟨rfl, by repeat (first | exact Below.refl _ _ | assumption | refine Below.trans ?_ (Below.mono (by assumption) (by simp <;> omega)) | exact Held.below (w0 := w) (by assumption) | refine Below.setCell ?_ (by simp <;> omega) _ | refine Below.alloc ?_ (by simp <;> omega) _ | refine Below.drew ?_ | refine below_drewN ?_ _)⟩)
set_option maxHeartbeats 4000000 in
theorem rsec_n2 (h m s : Int) (w : World) (hh : InR h) (hm : InR m) (hs : InR s) (f0 : 0 ≤ h) (f1 : h ≤ 23) (f2 : m < 0) (n0 : m ≠ 59) : Calls Tryd.prog 38 #[.agg #[.int .i64 h, .int .i64 m, .int .i64 s]] w fun e w' => e = .returned (.int .i64 (-1)) ∧ Below w.heap.size w w' := by
  have b0 : (m == 59) = false := beq_false_of_ne n0
  have c0 : decide (m = 59) = false := noDec n0
  go_enter Tryd.func38, Tryd.ntmps38
  go_wp2_with (fail)
  all_goals first | (exfalso; omega) | (go_ret; exact ⟨rfl, by repeat (first | exact Below.refl _ _ | assumption | refine Below.trans ?_ (Below.mono (by assumption) (by simp <;> omega)) | exact Held.below (w0 := w) (by assumption) | refine Below.setCell ?_ (by simp <;> omega) _ | refine Below.alloc ?_ (by simp <;> omega) _ | refine Below.drew ?_ | refine below_drewN ?_ _)⟩)
set_option maxHeartbeats 4000000 in
theorem rsec_n3 (h m s : Int) (w : World) (hh : InR h) (hm : InR m) (hs : InR s) (f0 : 0 ≤ h) (f1 : h ≤ 23) (f2 : 0 ≤ m) (f3 : 59 < m) (n0 : m ≠ 59) : Calls Tryd.prog 38 #[.agg #[.int .i64 h, .int .i64 m, .int .i64 s]] w fun e w' => e = .returned (.int .i64 (-1)) ∧ Below w.heap.size w w' := by
  have b0 : (m == 59) = false := beq_false_of_ne n0
  have c0 : decide (m = 59) = false := noDec n0
  go_enter Tryd.func38, Tryd.ntmps38
  go_wp2_with (fail)
  all_goals first | (exfalso; omega) | (go_ret; exact ⟨rfl, by repeat (first | exact Below.refl _ _ | assumption | refine Below.trans ?_ (Below.mono (by assumption) (by simp <;> omega)) | exact Held.below (w0 := w) (by assumption) | refine Below.setCell ?_ (by simp <;> omega) _ | refine Below.alloc ?_ (by simp <;> omega) _ | refine Below.drew ?_ | refine below_drewN ?_ _)⟩)
set_option maxHeartbeats 4000000 in
theorem rsec_n4 (h m s : Int) (w : World) (hh : InR h) (hm : InR m) (hs : InR s) (f0 : 0 ≤ h) (f1 : h ≤ 23) (f2 : 0 ≤ m) (f3 : m ≤ 59) (f4 : s < 0) (n0 : s ≠ 60) : Calls Tryd.prog 38 #[.agg #[.int .i64 h, .int .i64 m, .int .i64 s]] w fun e w' => e = .returned (.int .i64 (-1)) ∧ Below w.heap.size w w' := by
  have b0 : (s == 60) = false := beq_false_of_ne n0
  have c0 : decide (s = 60) = false := noDec n0
  go_enter Tryd.func38, Tryd.ntmps38
  go_wp2_with (fail)
  all_goals first | (exfalso; omega) | (go_ret; exact ⟨rfl, by repeat (first | exact Below.refl _ _ | assumption | refine Below.trans ?_ (Below.mono (by assumption) (by simp <;> omega)) | exact Held.below (w0 := w) (by assumption) | refine Below.setCell ?_ (by simp <;> omega) _ | refine Below.alloc ?_ (by simp <;> omega) _ | refine Below.drew ?_ | refine below_drewN ?_ _)⟩)
set_option maxHeartbeats 4000000 in
theorem rsec_n5 (h m s : Int) (w : World) (hh : InR h) (hm : InR m) (hs : InR s) (f0 : 0 ≤ h) (f1 : h ≤ 23) (f2 : 0 ≤ m) (f3 : m ≤ 59) (f4 : 0 ≤ s) (f5 : 59 < s) (n0 : s ≠ 60) : Calls Tryd.prog 38 #[.agg #[.int .i64 h, .int .i64 m, .int .i64 s]] w fun e w' => e = .returned (.int .i64 (-1)) ∧ Below w.heap.size w w' := by
  have b0 : (s == 60) = false := beq_false_of_ne n0
  have c0 : decide (s = 60) = false := noDec n0
  go_enter Tryd.func38, Tryd.ntmps38
  go_wp2_with (fail)
  all_goals first | (exfalso; omega) | (go_ret; exact ⟨rfl, by repeat (first | exact Below.refl _ _ | assumption | refine Below.trans ?_ (Below.mono (by assumption) (by simp <;> omega)) | exact Held.below (w0 := w) (by assumption) | refine Below.setCell ?_ (by simp <;> omega) _ | refine Below.alloc ?_ (by simp <;> omega) _ | refine Below.drew ?_ | refine below_drewN ?_ _)⟩)
set_option maxHeartbeats 4000000 in
theorem rsec_n6 (h m s : Int) (w : World) (hh : InR h) (hm : InR m) (hs : InR s) (f0 : 0 ≤ h) (f1 : h ≤ 23) (f2 : 0 ≤ m) (f3 : m ≤ 59) (f4 : 0 ≤ s) (f5 : 59 < s) (n0 : h ≠ 23) : Calls Tryd.prog 38 #[.agg #[.int .i64 h, .int .i64 m, .int .i64 s]] w fun e w' => e = .returned (.int .i64 (-1)) ∧ Below w.heap.size w w' := by
  have b0 : (h == 23) = false := beq_false_of_ne n0
  have c0 : decide (h = 23) = false := noDec n0
  go_enter Tryd.func38, Tryd.ntmps38
  go_wp2_with (fail)
  all_goals first | (exfalso; omega) | (go_ret; exact ⟨rfl, by repeat (first | exact Below.refl _ _ | assumption | refine Below.trans ?_ (Below.mono (by assumption) (by simp <;> omega)) | exact Held.below (w0 := w) (by assumption) | refine Below.setCell ?_ (by simp <;> omega) _ | refine Below.alloc ?_ (by simp <;> omega) _ | refine Below.drew ?_ | refine below_drewN ?_ _)⟩)
set_option maxHeartbeats 4000000 in
theorem rsec_n7 (h m s : Int) (w : World) (hh : InR h) (hm : InR m) (hs : InR s) (f0 : 0 ≤ h) (f1 : h ≤ 23) (f2 : 0 ≤ m) (f3 : m ≤ 59) (f4 : 0 ≤ s) (f5 : 59 < s) (n0 : m ≠ 59) : Calls Tryd.prog 38 #[.agg #[.int .i64 h, .int .i64 m, .int .i64 s]] w fun e w' => e = .returned (.int .i64 (-1)) ∧ Below w.heap.size w w' := by
  have b0 : (m == 59) = false := beq_false_of_ne n0
  have c0 : decide (m = 59) = false := noDec n0
  go_enter Tryd.func38, Tryd.ntmps38
  go_wp2_with (fail)
  all_goals first | (exfalso; omega) | (go_ret; exact ⟨rfl, by repeat (first | exact Below.refl _ _ | assumption | refine Below.trans ?_ (Below.mono (by assumption) (by simp <;> omega)) | exact Held.below (w0 := w) (by assumption) | refine Below.setCell ?_ (by simp <;> omega) _ | refine Below.alloc ?_ (by simp <;> omega) _ | refine Below.drew ?_ | refine below_drewN ?_ _)⟩)
theorem rsec_no (h m s : Int) (w : World) (hh : InR h) (hm : InR m) (hs : InR s) (ht : ¬ TimeOK h m s) : Calls Tryd.prog 38 #[.agg #[.int .i64 h, .int .i64 m, .int .i64 s]] w fun e w' => e = .returned (.int .i64 (-1)) ∧ Below w.heap.size w w' := by
  have hn1 : ¬ (0 ≤ h ∧ h ≤ 23 ∧ 0 ≤ m ∧ m ≤ 59 ∧ 0 ≤ s ∧ s ≤ 59) := fun g => ht (Or.inl g)
  have hn2 : ¬ (h = 23 ∧ m = 59 ∧ s = 60) := fun g => ht (Or.inr g)
  by_cases a : 0 ≤ h
  · by_cases b : h ≤ 23
    · by_cases c : 0 ≤ m
      · by_cases d : m ≤ 59
        · by_cases e : 0 ≤ s
          · by_cases f : s = 60
            · by_cases g : h = 23
              · exact rsec_n7 h m s w hh hm hs a b c d e (by omega) (by omega)
              · exact rsec_n6 h m s w hh hm hs a b c d e (by omega) g
            · exact rsec_n5 h m s w hh hm hs a b c d e (by omega) f
          · exact rsec_n4 h m s w hh hm hs a b c d (by omega) (by omega)
        · exact rsec_n3 h m s w hh hm hs a b c (by omega) (by omega)
      · exact rsec_n2 h m s w hh hm hs a b (by omega) (by omega)
    · exact rsec_n1 h m s w hh hm hs a (by omega) (by omega)
  · exact rsec_n0 h m s w hh hm hs (by omega) (by omega)
def stampL (y m d h mi s n : Int) : List UInt8 := dateL y m d ++ 84 :: (Dig.digs 2 h.toNat ++ 58 :: (Dig.digs 2 mi.toNat ++ 58 :: (Dig.digs 2 s.toNat ++ 46 :: Dig.digs 9 n.toNat)))
theorem dateL_length (y m d : Int) : (dateL y m d).length = 10 := by unfold dateL; simp [Dig.digs_length]
theorem stamp_sec (day sec nano h m s : Int) (w : World) (hg : w.cell? ⟨0, 0, none⟩ = some asHandle) (hd : InR sec) (g : OfT sec h m s 1) : Calls Tryd.prog 43 #[.int .i64 day, .int .i64 sec, .int .i64 nano] w fun e w' => e = .returned (.tuple #[.string ⟨#[]⟩, errV 1]) ∧ Below w.heap.size w w' := by
  have hH := Held.start hg
  have e1 := errOf_ne (by decide : ¬ (1 : Int) = 0)
  go_enter Tryd.func43, Tryd.ntmps43
  go_wp2_with (first | (go_at_call 37; (with_reducible refine (dof_f _ h m s 1 _ (Held.handle (w0 := w) (by repeat (first | assumption | refine Held.alloc ?_ _ | refine Held.drew ?_))) hd g).mono ?_); rintro e w' ⟨rfl, hb'⟩; obtain ⟨hc, hf⟩ := bcell hb'; have hz := hb'.size; (try (simp at hz)); have hH' := Held.step (w0 := w) (by repeat (first | assumption | refine Held.alloc ?_ _ | refine Held.drew ?_)) hb'; clear hb'))
  go_ret2
  exact ⟨rfl, Held.below (w0 := w) (by repeat (first | assumption | refine Held.alloc ?_ _ | refine Held.drew ?_))⟩
theorem stamp_nano (day sec nano h m s : Int) (w : World) (hg : w.cell? ⟨0, 0, none⟩ = some asHandle) (hd : InR sec) (hn : InR nano) (g : OfT sec h m s 0) (hx : nano < 0 ∨ 999999999 < nano) : Calls Tryd.prog 43 #[.int .i64 day, .int .i64 sec, .int .i64 nano] w fun e w' => e = .returned (.tuple #[.string ⟨#[]⟩, errV 1]) ∧ Below w.heap.size w w' := by
  have hH := Held.start hg
  have e1 := errOf_zero
  rcases hx with hx | hx
  all_goals
    go_enter Tryd.func43, Tryd.ntmps43
    go_wp2_with (first | (go_at_call 37; (with_reducible refine (dof_f _ h m s 0 _ (Held.handle (w0 := w) (by repeat (first | assumption | refine Held.alloc ?_ _ | refine Held.drew ?_))) hd g).mono ?_); rintro e w' ⟨rfl, hb'⟩; obtain ⟨hc, hf⟩ := bcell hb'; have hz := hb'.size; (try (simp at hz)); have hH' := Held.step (w0 := w) (by repeat (first | assumption | refine Held.alloc ?_ _ | refine Held.drew ?_)) hb'; clear hb'))
    go_ret2
    exact ⟨rfl, Held.below (w0 := w) (by repeat (first | assumption | refine Held.alloc ?_ _ | refine Held.drew ?_))⟩
theorem stamp_day (day sec nano h m s : Int) (w : World) (hg : w.cell? ⟨0, 0, none⟩ = some asHandle) (hdy : InR day) (hd : InR sec) (hn : InR nano) (g : OfT sec h m s 0) (hx : 0 ≤ nano) (hx2 : nano ≤ 999999999) (ho : IsOf day 0 0 0 2) : Calls Tryd.prog 43 #[.int .i64 day, .int .i64 sec, .int .i64 nano] w fun e w' => e = .returned (.tuple #[.string ⟨#[]⟩, errV 2]) ∧ Below w.heap.size w w' := by
  have hH := Held.start hg
  have e1 := errOf_zero
  have e2 := errOf_ne (by decide : ¬ (2 : Int) = 0)
  go_enter Tryd.func43, Tryd.ntmps43
  go_wp2_with (first | (go_at_call 37; (with_reducible refine (dof_f _ h m s 0 _ (Held.handle (w0 := w) (by repeat (first | assumption | refine Held.alloc ?_ _ | refine Held.drew ?_))) hd g).mono ?_); rintro e w' ⟨rfl, hb'⟩; obtain ⟨hc, hf⟩ := bcell hb'; have hz := hb'.size; (try (simp at hz)); have hH' := Held.step (w0 := w) (by repeat (first | assumption | refine Held.alloc ?_ _ | refine Held.drew ?_)) hb'; clear hb') | (go_at_call 21; (with_reducible refine (of_f _ 0 0 0 2 _ hdy ho).mono ?_); rintro e w' ⟨rfl, hb'⟩; obtain ⟨hc, hf⟩ := bcell hb'; have hz := hb'.size; (try (simp at hz)); have hH' := Held.step (w0 := w) (by repeat (first | assumption | refine Held.alloc ?_ _ | refine Held.drew ?_)) hb'; clear hb'))
  go_ret2
  exact ⟨rfl, Held.below (w0 := w) (by repeat (first | assumption | refine Held.alloc ?_ _ | refine Held.drew ?_))⟩
set_option maxRecDepth 100000 in
set_option maxHeartbeats 8000000 in
theorem stamp_ok (day sec nano h m s y mo d : Int) (w : World) (hg : w.cell? ⟨0, 0, none⟩ = some asHandle) (ht : Tab w) (hdy : InR day) (hd : InR sec) (hn : InR nano) (g : OfT sec h m s 0) (hx : 0 ≤ nano) (hx2 : nano ≤ 999999999) (hM : Cal.may y mo d) (ho : IsOf day y mo d 0) : Calls Tryd.prog 43 #[.int .i64 day, .int .i64 sec, .int .i64 nano] w fun e w' => e = .returned (.tuple #[.string ⟨(stampL y mo d h m s nano).toArray⟩, .nilIface]) ∧ Below w.heap.size w w' := by
  have hH := Held.start hg
  have e1 := errOf_zero
  have tb := ofT_bd g
  have l10 := dateL_length y mo d
  have l2 : (Dig.digs 2 h.toNat).length = 2 := Dig.digs_length _ _
  have l3 : (Dig.digs 2 m.toNat).length = 2 := Dig.digs_length _ _
  have l4 : (Dig.digs 2 s.toNat).length = 2 := Dig.digs_length _ _
  have l9 : (Dig.digs 9 nano.toNat).length = 9 := Dig.digs_length _ _
  have p2 : h.toNat < 10 ^ (2 : Int).toNat := by show h.toNat < 100; omega
  have p3 : m.toNat < 10 ^ (2 : Int).toNat := by show m.toNat < 100; omega
  have p4 : s.toNat < 10 ^ (2 : Int).toNat := by show s.toNat < 100; omega
  have p9 : nano.toNat < 10 ^ (9 : Int).toNat := by show nano.toNat < 1000000000; omega
  go_enter Tryd.func43, Tryd.ntmps43
  go_wp2_with (fail)
  go_at_call 37
  (with_reducible refine (dof_f _ h m s 0 _ (Held.handle (w0 := w) (by repeat (first | assumption | refine Held.alloc ?_ _ | refine Held.drew ?_))) hd g).mono ?_)
  rintro e w1 ⟨rfl, HB⟩
  obtain ⟨hc1, hf1⟩ := bcell HB
  obtain ⟨hd1, hh1⟩ := bcell2 (U := w) (by repeat (first | exact Below.refl _ _ | refine Below.setCell ?_ (by simp <;> omega) _ | refine Below.alloc ?_ (by simp <;> omega) _ | refine Below.drew ?_)) HB
  have hz1 := HB.size
  try simp at hz1
  (try (have z1w0 : w.heap.size < w1.heap.size := (by omega)))
  (try (have z1w1 : w.heap.size + 1 < w1.heap.size := (by omega)))
  have hH1 := Held.step (w0 := w) (by repeat (first | assumption | refine Held.alloc ?_ _ | refine Held.drew ?_)) HB
  clear HB
  rw [errOf_zero]
  go_wp2_with (fail)
  go_at_call 21
  (with_reducible refine (of_f _ y mo d 0 _ hdy ho).mono ?_)
  rintro e w2 ⟨rfl, HB⟩
  obtain ⟨hc2, hf2⟩ := bcell HB
  obtain ⟨hd2, hh2⟩ := bcell2 (U := w1) (by repeat (first | exact Below.refl _ _ | refine Below.setCell ?_ (by simp <;> omega) _ | refine Below.alloc ?_ (by simp <;> omega) _ | refine Below.drew ?_)) HB
  have hz2 := HB.size
  try simp at hz2
  (try (have z2w0 : w.heap.size < w2.heap.size := (by omega)))
  (try (have z2w1 : w.heap.size + 1 < w2.heap.size := (by omega)))
  (try (have z2w10 : w1.heap.size < w2.heap.size := (by omega)))
  (try (have z2w11 : w1.heap.size + 1 < w2.heap.size := (by omega)))
  have hH2 := Held.step (w0 := w) (by repeat (first | assumption | refine Held.alloc ?_ _ | refine Held.drew ?_)) HB
  clear HB
  rw [errOf_zero]
  have t2 : Tab w2 := ht.below (Held.below hH2)
  go_wp2_with (fail)
  go_at_call 30
  (with_reducible refine (text_ok _ _ _ _ (Held.handle (w0 := w) (by repeat (first | assumption | refine Held.alloc ?_ _ | refine Held.drew ?_))) (t2.below ((Below.refl _ _).alloc (Nat.le_refl _) _)) hM).mono ?_)
  rintro e w3 ⟨rfl, HB⟩
  obtain ⟨hc3, hf3⟩ := bcell HB
  obtain ⟨hd3, hh3⟩ := bcell2 (U := w2) (by repeat (first | exact Below.refl _ _ | refine Below.setCell ?_ (by simp <;> omega) _ | refine Below.alloc ?_ (by simp <;> omega) _ | refine Below.drew ?_)) HB
  have hz3 := HB.size
  try simp at hz3
  (try (have z3w0 : w.heap.size < w3.heap.size := (by omega)))
  (try (have z3w1 : w.heap.size + 1 < w3.heap.size := (by omega)))
  (try (have z3w10 : w1.heap.size < w3.heap.size := (by omega)))
  (try (have z3w11 : w1.heap.size + 1 < w3.heap.size := (by omega)))
  (try (have z3w20 : w2.heap.size < w3.heap.size := (by omega)))
  (try (have z3w21 : w2.heap.size + 1 < w3.heap.size := (by omega)))
  have hH3 := Held.step (w0 := w) (by repeat (first | assumption | refine Held.alloc ?_ _ | refine Held.drew ?_)) HB
  clear HB
  go_wp2_with (fail)
  have hS0 : ST3 w w1.heap.size (.int .i64 h) (.int .i64 m) (.int .i64 s) w3 := ⟨ht.below (Held.below hH3), hH3, by omega, by go_simp, by go_simp, by go_simp⟩
  go_region_held3 (fun wx => ST3 w w1.heap.size (.int .i64 h) (.int .i64 m) (.int .i64 s) wx) (first | assumption | exact ST3.drew (by assumption)) (first | (go_at_call 86; (with_reducible refine (pad_c _ _ _ (And.left (by assumption)) (by omega) (by omega) (by omega) (by assumption)).mono ?_); rintro e w' ⟨rfl, hb'⟩; have hS' := ST3.step (by assumption) hb'; clear hb'))
  all_goals go_wp2_with (fail)
  all_goals go_ret2
  all_goals exact ⟨congrArg (fun b => Ending.returned (.tuple #[.string b, .nilIface])) (by apply ByteArray.ext; simp [stampL]), hS'.2.1.below⟩
end Go.Proofs.YtengchkiejpglaaDoor
