/-
  Layer 8: relations, and what must come whatever the input is.
-/
import Derived.Test.YtengchkiejpglaaDoorW08c
import Derived.Test.YtengchkiejpglaaDoorW08d
namespace Go.Proofs.YtengchkiejpglaaDoor
open Go.RowKit Go.Extern.Stop Go.Stop Go.Extern
set_option linter.unusedVariables false
set_option linter.unusedSimpArgs false
def ParseOK8 (s : ByteArray) : Prop := ∃ h : s.size = 29, ((s[10]'(by omega)).toNat : Int) = 84 ∧ ((s[13]'(by omega)).toNat : Int) = 58 ∧ ((s[16]'(by omega)).toNat : Int) = 58 ∧ ((s[19]'(by omega)).toNat : Int) = 46 ∧ ParseOK (s.extract 0 10) ∧ Dig.digB (s.extract 11 13) = true ∧ Dig.digB (s.extract 14 16) = true ∧ Dig.digB (s.extract 17 19) = true ∧ Dig.digB (s.extract 20 29) = true ∧ TimeOK (Dig.numS 0 (s.extract 11 13)) (Dig.numS 0 (s.extract 14 16)) (Dig.numS 0 (s.extract 17 19))
def IsP8 (s : ByteArray) (a b c k : Int) : Prop := (ParseOK8 s ∧ k = 0 ∧ a = (Cal.num (Dig.numS 0 ((s.extract 0 10).extract 0 4)) (Dig.numS 0 ((s.extract 0 10).extract 5 7)) (Dig.numS 0 ((s.extract 0 10).extract 8 10))) ∧ b = secF (Dig.numS 0 (s.extract 11 13)) (Dig.numS 0 (s.extract 14 16)) (Dig.numS 0 (s.extract 17 19)) ∧ c = (Dig.numS 0 (s.extract 20 29))) ∨ (¬ ParseOK8 s ∧ k = 3 ∧ a = 0 ∧ b = 0 ∧ c = 0)
theorem isP8_ex (s : ByteArray) : ∃ a b c k, IsP8 s a b c k := by
  by_cases h : ParseOK8 s
  · exact ⟨_, _, _, 0, Or.inl ⟨h, rfl, rfl, rfl, rfl⟩⟩
  · exact ⟨0, 0, 0, 3, Or.inr ⟨h, rfl, rfl, rfl, rfl⟩⟩
theorem isParse_ok {s : ByteArray} (h : ParseOK s) : IsParse s (Dig.numS 0 (s.extract 0 4)) (Dig.numS 0 (s.extract 5 7)) (Dig.numS 0 (s.extract 8 10)) 0 := Or.inl ⟨h, rfl, rfl, rfl, rfl⟩
theorem isParse_no {s : ByteArray} (h : ¬ ParseOK s) : IsParse s 0 0 0 3 := Or.inr ⟨h, rfl, rfl, rfl, rfl⟩
theorem parseOK_may {s : ByteArray} (h : ParseOK s) : Cal.may (Dig.numS 0 (s.extract 0 4)) (Dig.numS 0 (s.extract 5 7)) (Dig.numS 0 (s.extract 8 10)) := by
  obtain ⟨_, _, _, _, _, _, g⟩ := h; exact g
set_option maxHeartbeats 4000000 in
theorem dparse_f (s : ByteArray) (a b c k : Int) (w : World) (hg : w.cell? ⟨0, 0, none⟩ = some asHandle) (hm : s.size ≤ 9223372036854775807) (h : IsP8 s a b c k) : Calls Tryd.prog 45 #[.string s] w fun e w' => e = .returned (.tuple #[.int .i64 a, .int .i64 b, .int .i64 c, errOf k]) ∧ Below w.heap.size w w' := by
  rcases h with ⟨⟨h, c10, c13, c16, c19, hd, b1, b2, b3, b4, hT⟩, rfl, rfl, rfl, rfl⟩ | ⟨hn, rfl, rfl, rfl, rfl⟩
  · rw [errOf_zero]
    exact dparse_tok s _ _ _ w hg h c10 c13 c16 c19 (parseOK_may hd) (isParse_ok hd) b1 b2 b3 b4 hT
  · rw [errOf_ne (by decide : ¬ (3 : Int) = 0)]
    by_cases h : s.size = 29
    · by_cases c10 : ((s[10]'(by omega)).toNat : Int) = 84
      · by_cases c13 : ((s[13]'(by omega)).toNat : Int) = 58
        · by_cases c16 : ((s[16]'(by omega)).toNat : Int) = 58
          · by_cases c19 : ((s[19]'(by omega)).toNat : Int) = 46
            · by_cases hd : ParseOK (s.extract 0 10)
              · have hM := parseOK_may hd
                have hp := isParse_ok hd
                cases b1 : Dig.digB (s.extract 11 13)
                · exact dparse_d1 s _ _ _ w hg h c10 c13 c16 c19 hM hp b1
                · cases b2 : Dig.digB (s.extract 14 16)
                  · exact dparse_d2 s _ _ _ w hg h c10 c13 c16 c19 hM hp b1 b2
                  · cases b3 : Dig.digB (s.extract 17 19)
                    · exact dparse_d3 s _ _ _ w hg h c10 c13 c16 c19 hM hp b1 b2 b3
                    · cases b4 : Dig.digB (s.extract 20 29)
                      · exact dparse_d4 s _ _ _ w hg h c10 c13 c16 c19 hM hp b1 b2 b3 b4
                      · exact dparse_tno s _ _ _ w hg h c10 c13 c16 c19 hM hp b1 b2 b3 b4 (fun hT => hn ⟨h, c10, c13, c16, c19, hd, b1, b2, b3, b4, hT⟩)
              · exact dparse_date s 0 0 0 w hg h c10 c13 c16 c19 (isParse_no hd)
            · exact dparse_c19 s w h c10 c13 c16 (by omega)
          · exact dparse_c16 s w h c10 c13 (by omega)
        · exact dparse_c13 s w h c10 (by omega)
      · exact dparse_c10 s w h (by omega)
    · exact dparse_size s w hm h
theorem timeOK_neg1 {m s : Int} : ¬ TimeOK (-1) m s := by unfold TimeOK; omega
theorem timeOK_neg2 {h s : Int} : ¬ TimeOK h (-1) s := by unfold TimeOK; omega
theorem timeOK_neg3 {h m : Int} : ¬ TimeOK h m (-1) := by unfold TimeOK; omega
theorem secF_nonneg {h m s : Int} (g : TimeOK h m s) : 0 ≤ secF h m s := by unfold TimeOK at g; unfold secF; omega
set_option maxHeartbeats 4000000 in
theorem rdparse_f (s : ByteArray) (a b c k : Int) (w : World) (hg : w.cell? ⟨0, 0, none⟩ = some asHandle) (hm : s.size ≤ 9223372036854775807) (h : IsP8 s a b c k) : Calls Tryd.prog 46 #[.string s] w fun e w' => e = .returned (.tuple #[.int .i64 a, .int .i64 b, .int .i64 c, .int .i64 k]) ∧ Below w.heap.size w w' := by
  by_cases hs : s.size = 29
  · have d1 := digB_num (s.extract 11 13) (by simp [ByteArray.size_extract]; omega)
    have d2 := digB_num (s.extract 14 16) (by simp [ByteArray.size_extract]; omega)
    have d3 := digB_num (s.extract 17 19) (by simp [ByteArray.size_extract]; omega)
    have d4 := digB_num (s.extract 20 29) (by simp [ByteArray.size_extract]; omega)
    rcases h with ⟨⟨h, c10, c13, c16, c19, hd, b1, b2, b3, b4, hT⟩, rfl, rfl, rfl, rfl⟩ | ⟨hn, rfl, rfl, rfl, rfl⟩
    · have e1 : Dig.numS (-1) (s.extract 11 13) = Dig.numS 0 (s.extract 11 13) := by rcases d1 with q | q; exact q.2; rw [b1] at q; cases q.1
      have e2 : Dig.numS (-1) (s.extract 14 16) = Dig.numS 0 (s.extract 14 16) := by rcases d2 with q | q; exact q.2; rw [b2] at q; cases q.1
      have e3 : Dig.numS (-1) (s.extract 17 19) = Dig.numS 0 (s.extract 17 19) := by rcases d3 with q | q; exact q.2; rw [b3] at q; cases q.1
      have e4 : Dig.numS (-1) (s.extract 20 29) = Dig.numS 0 (s.extract 20 29) := by rcases d4 with q | q; exact q.2; rw [b4] at q; cases q.1
      have hT' : TimeOK (Dig.numS (-1) (s.extract 11 13)) (Dig.numS (-1) (s.extract 14 16)) (Dig.numS (-1) (s.extract 17 19)) := by rw [e1, e2, e3]; exact hT
      have hn : 0 ≤ (Dig.numS (-1) (s.extract 20 29)) := by
        rw [digB_eq] at b4
        have ha : Dig.allD (s.extract 20 29).data.toList = true := by cases hh : Dig.allD (s.extract 20 29).data.toList with | true => rfl | false => rw [hh] at b4; cases b4
        unfold Dig.numS Dig.numOr; rw [if_pos ha]; exact (Dig.val_bd _ ha).1
      have := rdparse_ok s _ _ _ w hg hs c10 c13 c16 c19 (isParse_ok hd) hT' (secF_nonneg hT') hn (parseOK_may hd)
      rw [e1, e2, e3, e4] at this
      exact this
    · by_cases c10 : ((s[10]'(by omega)).toNat : Int) = 84
      · by_cases c13 : ((s[13]'(by omega)).toNat : Int) = 58
        · by_cases c16 : ((s[16]'(by omega)).toNat : Int) = 58
          · by_cases c19 : ((s[19]'(by omega)).toNat : Int) = 46
            · by_cases hT : TimeOK (Dig.numS (-1) (s.extract 11 13)) (Dig.numS (-1) (s.extract 14 16)) (Dig.numS (-1) (s.extract 17 19))
              · by_cases hd : ParseOK (s.extract 0 10)
                · have f1 : Dig.digB (s.extract 11 13) = true ∧ (Dig.numS (-1) (s.extract 11 13)) = (Dig.numS 0 (s.extract 11 13)) := by rcases d1 with q | q; exact q; rw [q.2] at hT; exact absurd hT timeOK_neg1
                  have f2 : Dig.digB (s.extract 14 16) = true ∧ (Dig.numS (-1) (s.extract 14 16)) = (Dig.numS 0 (s.extract 14 16)) := by rcases d2 with q | q; exact q; rw [q.2] at hT; exact absurd hT timeOK_neg2
                  have f3 : Dig.digB (s.extract 17 19) = true ∧ (Dig.numS (-1) (s.extract 17 19)) = (Dig.numS 0 (s.extract 17 19)) := by rcases d3 with q | q; exact q; rw [q.2] at hT; exact absurd hT timeOK_neg3
                  have f4 : (Dig.numS (-1) (s.extract 20 29)) = -1 := by
                    rcases d4 with q | q
                    · exfalso; rw [f1.2, f2.2, f3.2] at hT
                      exact hn ⟨hs, c10, c13, c16, c19, hd, f1.1, f2.1, f3.1, q.1, hT⟩
                    · exact q.2
                  exact rdparse_nno s _ _ _ w hg hs c10 c13 c16 c19 (isParse_ok hd) hT (secF_nonneg hT) (by rw [f4]; omega)
                · exact rdparse_date_t s 0 0 0 w hg hs c10 c13 c16 c19 (isParse_no hd) hT
              · by_cases hd : ParseOK (s.extract 0 10)
                · exact rdparse_tno s _ _ _ w hg hs c10 c13 c16 c19 (isParse_ok hd) hT
                · exact rdparse_date_n s 0 0 0 w hg hs c10 c13 c16 c19 (isParse_no hd) hT
            · exact rdparse_c19 s w hs c10 c13 c16 (by omega)
          · exact rdparse_c16 s w hs c10 c13 (by omega)
        · exact rdparse_c13 s w hs c10 (by omega)
      · exact rdparse_c10 s w hs (by omega)
  · rcases h with ⟨⟨h, _⟩, _⟩ | ⟨hn, rfl, rfl, rfl, rfl⟩
    · exact absurd h hs
    · exact rdparse_size s w hm hs
theorem num08_any (n : Int) (w : World) (hg : w.cell? ⟨0, 0, none⟩ = some asHandle) : Calls Tryd.prog 40 #[errOf n] w fun e w' => e = .returned (.int .i64 n) ∧ Below w.heap.size w w' := by
  by_cases h : n = 0
  · subst h; rw [errOf_zero]; exact num08_nil _
  · rw [errOf_ne h]; exact num08_err _ _ hg
def IsStamp (day sec nano : Int) (t : List UInt8) (k : Int) : Prop := (∃ h m s y mo d, OfT sec h m s 0 ∧ 0 ≤ nano ∧ nano ≤ 999999999 ∧ Cal.may y mo d ∧ IsOf day y mo d 0 ∧ t = stampL y mo d h m s nano ∧ k = 0) ∨ (StampArg sec nano ∧ t = [] ∧ k = 1) ∨ (0 ≤ sec ∧ sec ≤ 86400 ∧ 0 ≤ nano ∧ nano ≤ 999999999 ∧ IsOf day 0 0 0 2 ∧ t = [] ∧ k = 2)
theorem isStamp_ex (day sec nano : Int) : ∃ t k, IsStamp day sec nano t k := by
  by_cases ha : StampArg sec nano
  · exact ⟨[], 1, Or.inr (Or.inl ⟨ha, rfl, rfl⟩)⟩
  · have hb : 0 ≤ sec ∧ sec ≤ 86400 ∧ 0 ≤ nano ∧ nano ≤ 999999999 := by unfold StampArg at ha; omega
    obtain ⟨y, mo, d, k, ho⟩ := isOf_ex day
    rcases ho with ⟨rfl, hM, hN⟩ | ⟨rfl, rfl, rfl, rfl, hout⟩
    · obtain ⟨h, m, s, k, ht⟩ := ofT_ex sec
      have hk : k = 0 := by rcases ht with ⟨q, _⟩ | ⟨q, _⟩ | ⟨_, q, _⟩ <;> omega
      subst hk
      exact ⟨_, 0, Or.inl ⟨h, m, s, y, mo, d, ht, hb.2.2.1, hb.2.2.2, hM, Or.inl ⟨rfl, hM, hN⟩, rfl, rfl⟩⟩
    · exact ⟨[], 2, Or.inr (Or.inr ⟨hb.1, hb.2.1, hb.2.2.1, hb.2.2.2, Or.inr ⟨rfl, rfl, rfl, rfl, hout⟩, rfl, rfl⟩)⟩
theorem ofT_in {n : Int} (h0 : 0 ≤ n) (h1 : n ≤ 86400) : ∃ h m s, OfT n h m s 0 := by
  obtain ⟨h, m, s, k, ht⟩ := ofT_ex n
  have hk : k = 0 := by rcases ht with ⟨q, _⟩ | ⟨q, _⟩ | ⟨_, q, _⟩ <;> omega
  subst hk
  exact ⟨h, m, s, ht⟩
theorem stamp_f (day sec nano : Int) (t : List UInt8) (k : Int) (w : World) (hg : w.cell? ⟨0, 0, none⟩ = some asHandle) (ht : Tab w) (hdy : InR day) (hd : InR sec) (hn : InR nano) (g : IsStamp day sec nano t k) : Calls Tryd.prog 43 #[.int .i64 day, .int .i64 sec, .int .i64 nano] w fun e w' => e = .returned (.tuple #[.string ⟨t.toArray⟩, errOf k]) ∧ Below w.heap.size w w' := by
  rcases g with ⟨h, m, s, y, mo, d, g1, g2, g3, g4, g5, rfl, rfl⟩ | ⟨ha, rfl, rfl⟩ | ⟨a, b, c, d, ho, rfl, rfl⟩
  · rw [errOf_zero]; exact stamp_ok day sec nano h m s y mo d w hg ht hdy hd hn g1 g2 g3 g4 g5
  · rw [errOf_ne (by decide : ¬ (1 : Int) = 0)]
    by_cases hs : 0 ≤ sec ∧ sec ≤ 86400
    · obtain ⟨h, m, s, g⟩ := ofT_in hs.1 hs.2
      exact stamp_nano day sec nano h m s w hg hd hn g (by unfold StampArg at ha; omega)
    · exact stamp_sec day sec nano 0 0 0 w hg hd (Or.inr (Or.inr ⟨rfl, by omega, rfl, rfl, rfl⟩))
  · rw [errOf_ne (by decide : ¬ (2 : Int) = 0)]
    obtain ⟨h, m, s, g⟩ := ofT_in a b
    exact stamp_day day sec nano h m s w hg hdy hd hn g c d ho
theorem rstamp_f (day sec nano : Int) (t : List UInt8) (k : Int) (w : World) (hg : w.cell? ⟨0, 0, none⟩ = some asHandle) (hdy : InR day) (hd : InR sec) (hn : InR nano) (g : IsStamp day sec nano t k) : Calls Tryd.prog 44 #[.int .i64 day, .int .i64 sec, .int .i64 nano] w fun e w' => e = .returned (.tuple #[.string ⟨t.toArray⟩, .int .i64 k]) ∧ Below w.heap.size w w' := by
  rcases g with ⟨h, m, s, y, mo, d, g1, g2, g3, g4, g5, rfl, rfl⟩ | ⟨ha, rfl, rfl⟩ | ⟨a, b, c, d, ho, rfl, rfl⟩
  · exact rstamp_ok day sec nano h m s y mo d w hg hdy hd hn g1 g2 g3 g4 g5
  · exact rstamp_arg day sec nano w hd hn ha
  · exact rstamp_day day sec nano w hdy hd hn a b c d ho
abbrev goodS : ByteArray := ⟨#[50, 48, 49, 54, 45, 49, 50, 45, 51, 49, 84, 50, 51, 58, 53, 57, 58, 54, 48, 46, 53, 48, 48, 48, 48, 48, 48, 48, 48]⟩
theorem good_date : ParseOK (goodS.extract 0 10) := by
  refine ⟨rfl, rfl, rfl, by rw [digB_eq]; decide, by rw [digB_eq]; decide, by rw [digB_eq]; decide, ?_⟩
  rw [show Dig.numS 0 ((goodS.extract 0 10).extract 0 4) = 2016 by decide, show Dig.numS 0 ((goodS.extract 0 10).extract 5 7) = 12 by decide, show Dig.numS 0 ((goodS.extract 0 10).extract 8 10) = 31 by decide]
  unfold Cal.may; rw [show Cal.dim 2016 12 = 31 by decide]; omega
theorem good_p8 : IsP8 goodS 17166 86400 500000000 0 := by
  refine Or.inl ⟨⟨rfl, rfl, rfl, rfl, rfl, good_date, by rw [digB_eq]; decide, by rw [digB_eq]; decide, by rw [digB_eq]; decide, by rw [digB_eq]; decide, ?_⟩, rfl, by decide, by decide, by decide⟩
  right
  exact ⟨by decide, by decide, by decide⟩
theorem good_stamp : IsStamp 0 3661 0 [49, 57, 55, 48, 45, 48, 49, 45, 48, 49, 84, 48, 49, 58, 48, 49, 58, 48, 49, 46, 48, 48, 48, 48, 48, 48, 48, 48, 48] 0 := by
  refine Or.inl ⟨1, 1, 1, 1970, 1, 1, Or.inl ⟨rfl, by omega, by omega, by decide, by decide, by decide⟩, by omega, by omega, may_70, Or.inl ⟨rfl, may_70, by decide⟩, by decide, rfl⟩
theorem good_of : OfT 86401 0 0 0 1 := Or.inr (Or.inr ⟨rfl, by omega, rfl, rfl, rfl⟩)
set_option maxRecDepth 100000 in
set_option maxHeartbeats 8000000 in
theorem sure08 (w : World) (hg : w.cell? ⟨0, 0, none⟩ = some asHandle) (ht : Tab w) : Calls Tryd.prog 41 #[] w fun e w' => e = .returned (.bool true) ∧ Below w.heap.size w w' := by
  have hH := Held.start hg
  have e0 := errOf_zero
  have e1 := errOf_ne (by decide : ¬ (1 : Int) = 0)
  go_enter Tryd.func41, Tryd.ntmps41
  go_wp2_with (fail)
  go_at_call 43
  (with_reducible refine (stamp_f 0 3661 0 _ 0 _ (Held.handle (w0 := w) (by repeat (first | assumption | refine Held.alloc ?_ _ | refine Held.drew ?_))) ht (by omega) (by omega) (by omega) good_stamp).mono ?_)
  rintro e w1 ⟨rfl, HB⟩
  obtain ⟨hc1, hf1⟩ := bcell HB
  obtain ⟨hd1, hh1⟩ := bcell2 (U := w) (by repeat (first | exact Below.refl _ _ | refine Below.setCell ?_ (by simp <;> omega) _ | refine Below.alloc ?_ (by simp <;> omega) _ | refine Below.drew ?_)) HB
  have hz1 := HB.size
  try simp at hz1
  (try (have z1w0 : w.heap.size < w1.heap.size := (by omega)))
  have hH1 := Held.step (w0 := w) (by repeat (first | assumption | refine Held.alloc ?_ _ | refine Held.drew ?_)) HB
  clear HB
  rw [errOf_zero]
  go_wp2_with (fail)
  go_at_call 45
  (with_reducible refine (dparse_f goodS 17166 86400 500000000 0 _ (Held.handle (w0 := w) (by repeat (first | assumption | refine Held.alloc ?_ _ | refine Held.drew ?_))) (by decide) good_p8).mono ?_)
  rintro e w2 ⟨rfl, HB⟩
  obtain ⟨hc2, hf2⟩ := bcell HB
  obtain ⟨hd2, hh2⟩ := bcell2 (U := w1) (by repeat (first | exact Below.refl _ _ | refine Below.setCell ?_ (by simp <;> omega) _ | refine Below.alloc ?_ (by simp <;> omega) _ | refine Below.drew ?_)) HB
  have hz2 := HB.size
  try simp at hz2
  (try (have z2w0 : w.heap.size < w2.heap.size := (by omega)))
  (try (have z2w10 : w1.heap.size < w2.heap.size := (by omega)))
  have hH2 := Held.step (w0 := w) (by repeat (first | assumption | refine Held.alloc ?_ _ | refine Held.drew ?_)) HB
  clear HB
  rw [errOf_zero]
  go_wp2_with (fail)
  go_at_call 37
  (with_reducible refine (dof_f 86401 0 0 0 1 _ (Held.handle (w0 := w) (by repeat (first | assumption | refine Held.alloc ?_ _ | refine Held.drew ?_))) (by omega) good_of).mono ?_)
  rintro e w3 ⟨rfl, HB⟩
  obtain ⟨hc3, hf3⟩ := bcell HB
  obtain ⟨hd3, hh3⟩ := bcell2 (U := w2) (by repeat (first | exact Below.refl _ _ | refine Below.setCell ?_ (by simp <;> omega) _ | refine Below.alloc ?_ (by simp <;> omega) _ | refine Below.drew ?_)) HB
  have hz3 := HB.size
  try simp at hz3
  (try (have z3w0 : w.heap.size < w3.heap.size := (by omega)))
  (try (have z3w10 : w1.heap.size < w3.heap.size := (by omega)))
  (try (have z3w20 : w2.heap.size < w3.heap.size := (by omega)))
  have hH3 := Held.step (w0 := w) (by repeat (first | assumption | refine Held.alloc ?_ _ | refine Held.drew ?_)) HB
  clear HB
  rw [errOf_ne (by decide : ¬ (1 : Int) = 0)]
  go_wp2_with (first | (go_at_call 40; (with_reducible refine (num08_err _ _ (Held.handle (w0 := w) (by repeat (first | assumption | refine Held.alloc ?_ _ | refine Held.drew ?_)))).mono ?_); rintro e w' ⟨rfl, hb'⟩; obtain ⟨hc, hf⟩ := bcell hb'; have hz := hb'.size; (try (simp at hz)); have hH' := Held.step (w0 := w) (by repeat (first | assumption | refine Held.alloc ?_ _ | refine Held.drew ?_)) hb'; clear hb'))
  go_ret
  exact ⟨rfl, Held.below (w0 := w) (by assumption)⟩
end Go.Proofs.YtengchkiejpglaaDoor
