/-
  Layer 7: the statement CivilTexts.
-/
import Derived.Test.YtengchkiejpglaaDoorV07
import Derived.Deep.RegionHeld3
namespace Go.Proofs.YtengchkiejpglaaDoor
open Go.RowKit Go.Extern.Stop Go.Stop Go.Extern
set_option linter.unusedVariables false
set_option linter.unusedSimpArgs false
/-- may a text be a date's? -/
def ParseOK (s : ByteArray) : Prop := ∃ h : s.size = 10, ((s[4]'(by omega)).toNat : Int) = 45 ∧ ((s[7]'(by omega)).toNat : Int) = 45 ∧ Dig.digB (s.extract 0 4) = true ∧ Dig.digB (s.extract 5 7) = true ∧ Dig.digB (s.extract 8 10) = true ∧ Cal.may (Dig.numS 0 (s.extract 0 4)) (Dig.numS 0 (s.extract 5 7)) (Dig.numS 0 (s.extract 8 10))
def IsParse (s : ByteArray) (y m d k : Int) : Prop := (ParseOK s ∧ k = 0 ∧ y = Dig.numS 0 (s.extract 0 4) ∧ m = Dig.numS 0 (s.extract 5 7) ∧ d = Dig.numS 0 (s.extract 8 10)) ∨ (¬ ParseOK s ∧ k = 3 ∧ y = 0 ∧ m = 0 ∧ d = 0)
theorem isParse_ex (s : ByteArray) : ∃ y m d k, IsParse s y m d k := by
  by_cases h : ParseOK s
  · exact ⟨_, _, _, 0, Or.inl ⟨h, rfl, rfl, rfl, rfl⟩⟩
  · exact ⟨0, 0, 0, 3, Or.inr ⟨h, rfl, rfl, rfl, rfl⟩⟩
theorem parse_f (s : ByteArray) (y m d k : Int) (w : World) (hm : s.size ≤ 9223372036854775807) (h : IsParse s y m d k) : Calls Tryd.prog 31 #[.string s] w fun e w' => e = .returned (.tuple #[.agg #[.int .i64 y, .int .i64 m, .int .i64 d], errOf k]) ∧ Below w.heap.size w w' := by
  rcases h with ⟨⟨h, h4, h7, b1, b2, b3, hM⟩, rfl, rfl, rfl, rfl⟩ | ⟨hn, rfl, rfl, rfl, rfl⟩
  · rw [errOf_zero]
    exact parse_may_ok s w h h4 h7 b1 b2 b3 hM
  · rw [errOf_ne (by decide : ¬ (3 : Int) = 0)]
    by_cases h : s.size = 10
    · by_cases h4 : ((s[4]'(by omega)).toNat : Int) = 45
      · by_cases h7 : ((s[7]'(by omega)).toNat : Int) = 45
        · cases b1 : Dig.digB (s.extract 0 4)
          · exact parse_d1 s w h h4 h7 b1
          · cases b2 : Dig.digB (s.extract 5 7)
            · exact parse_d2 s w h h4 h7 b1 b2
            · cases b3 : Dig.digB (s.extract 8 10)
              · exact parse_d3 s w h h4 h7 b1 b2 b3
              · exact parse_may_no s w h h4 h7 b1 b2 b3 (fun hM => hn ⟨h, h4, h7, b1, b2, b3, hM⟩)
        · exact parse_c7 s w h h4 (by omega)
      · exact parse_c4 s w h (by omega)
    · exact parse_size s w hm h
theorem digB_num (s : ByteArray) (hs : 0 < s.size) : (Dig.digB s = true ∧ Dig.numS (-1) s = Dig.numS 0 s) ∨ (Dig.digB s = false ∧ Dig.numS (-1) s = -1) := by
  rw [digB_eq]
  have hl : s.data.toList.length = s.size := by simp
  have he : s.data.toList.isEmpty = false := by
    cases h : s.data.toList with
    | nil => rw [h] at hl; simp at hl; omega
    | cons a b => rfl
  rw [he]
  unfold Dig.numS Dig.numOr
  cases h : Dig.allD s.data.toList
  · right; exact ⟨rfl, rfl⟩
  · left; exact ⟨rfl, rfl⟩
theorem rparse_f (s : ByteArray) (y m d k : Int) (w : World) (hg : w.cell? ⟨0, 0, none⟩ = some asHandle) (hm : s.size ≤ 9223372036854775807) (h : IsParse s y m d k) : Calls Tryd.prog 32 #[.string s] w fun e w' => e = .returned (.tuple #[.agg #[.int .i64 y, .int .i64 m, .int .i64 d], .int .i64 k]) ∧ Below w.heap.size w w' := by
  by_cases hs : s.size = 10
  · have q1 := digB_num (s.extract 0 4) (by simp [ByteArray.size_extract]; omega)
    have q2 := digB_num (s.extract 5 7) (by simp [ByteArray.size_extract]; omega)
    have q3 := digB_num (s.extract 8 10) (by simp [ByteArray.size_extract]; omega)
    rcases h with ⟨⟨h, h4, h7, b1, b2, b3, hM⟩, rfl, rfl, rfl, rfl⟩ | ⟨hn, rfl, rfl, rfl, rfl⟩
    · have e1 : Dig.numS (-1) (s.extract 0 4) = Dig.numS 0 (s.extract 0 4) := by rcases q1 with q | q; exact q.2; rw [b1] at q; cases q.1
      have e2 : Dig.numS (-1) (s.extract 5 7) = Dig.numS 0 (s.extract 5 7) := by rcases q2 with q | q; exact q.2; rw [b2] at q; cases q.1
      have e3 : Dig.numS (-1) (s.extract 8 10) = Dig.numS 0 (s.extract 8 10) := by rcases q3 with q | q; exact q.2; rw [b3] at q; cases q.1
      have := rparse_ok s w hg h h4 h7 (by rw [e1, e2, e3]; exact hM)
      rw [e1, e2, e3] at this
      exact this
    · by_cases h4 : ((s[4]'(by omega)).toNat : Int) = 45
      · by_cases h7 : ((s[7]'(by omega)).toNat : Int) = 45
        · refine rparse_no s w hg hs h4 h7 (fun hM => ?_)
          have g1 := hM.1
          have g2 := hM.2.2.1
          have g3 := hM.2.2.2.2.1
          rcases q1 with q1 | q1
          · rcases q2 with q2 | q2
            · rcases q3 with q3 | q3
              · rw [q1.2, q2.2, q3.2] at hM; exact hn ⟨hs, h4, h7, q1.1, q2.1, q3.1, hM⟩
              · rw [q3.2] at g3; omega
            · rw [q2.2] at g2; omega
          · rw [q1.2] at g1; omega
        · exact rparse_c7 s w hs h4 (by omega)
      · exact rparse_c4 s w hs (by omega)
  · rcases h with ⟨⟨h, _⟩, _⟩ | ⟨hn, rfl, rfl, rfl, rfl⟩
    · exact absurd h hs
    · exact rparse_size s w hm hs
/-- A block of so many cells is there, and holds these. -/
abbrev B1 (b : Nat) (x : Value) (wx : World) : Prop := b < wx.heap.size ∧ wx.cell? ⟨b, 0, none⟩ = some x
abbrev B2 (b : Nat) (x y : Value) (wx : World) : Prop := b < wx.heap.size ∧ wx.cell? ⟨b, 0, none⟩ = some x ∧ wx.cell? ⟨b, 1, none⟩ = some y
abbrev B3 (b : Nat) (x y z : Value) (wx : World) : Prop := b < wx.heap.size ∧ wx.cell? ⟨b, 0, none⟩ = some x ∧ wx.cell? ⟨b, 1, none⟩ = some y ∧ wx.cell? ⟨b, 2, none⟩ = some z
theorem B1.step {b : Nat} {x : Value} {wx w' : World} (h : B1 b x wx) (hb : Below wx.heap.size wx w') : B1 b x w' :=
  ⟨Nat.lt_of_lt_of_le h.1 hb.size, by rw [hb.cell (p := ⟨b, 0, none⟩) h.1]; exact h.2⟩
theorem B2.step {b : Nat} {x y : Value} {wx w' : World} (h : B2 b x y wx) (hb : Below wx.heap.size wx w') : B2 b x y w' :=
  ⟨Nat.lt_of_lt_of_le h.1 hb.size, by rw [hb.cell (p := ⟨b, 0, none⟩) h.1]; exact h.2.1, by rw [hb.cell (p := ⟨b, 1, none⟩) h.1]; exact h.2.2⟩
theorem B3.step {b : Nat} {x y z : Value} {wx w' : World} (h : B3 b x y z wx) (hb : Below wx.heap.size wx w') : B3 b x y z w' :=
  ⟨Nat.lt_of_lt_of_le h.1 hb.size, by rw [hb.cell (p := ⟨b, 0, none⟩) h.1]; exact h.2.1, by rw [hb.cell (p := ⟨b, 1, none⟩) h.1]; exact h.2.2.1, by rw [hb.cell (p := ⟨b, 2, none⟩) h.1]; exact h.2.2.2⟩
abbrev SCD (w : World) (b0 : Nat) (v00 v01 v02 : Value) (b1 : Nat) (v10 v11 v12 : Value) (b2 : Nat) (v20 v21 v22 : Value) (wx : World) : Prop := Held w wx ∧ B3 b0 v00 v01 v02 wx ∧ B3 b1 v10 v11 v12 wx ∧ B3 b2 v20 v21 v22 wx
theorem SCD.step {w : World} {b0 : Nat} {v00 v01 v02 : Value} {b1 : Nat} {v10 v11 v12 : Value} {b2 : Nat} {v20 v21 v22 : Value} {wx w' : World} (h : SCD w b0 v00 v01 v02 b1 v10 v11 v12 b2 v20 v21 v22 wx) (hb : Below wx.heap.size wx w') : SCD w b0 v00 v01 v02 b1 v10 v11 v12 b2 v20 v21 v22 w' := ⟨(h.1).step hb, (h.2.1).step hb, (h.2.2.1).step hb, (h.2.2.2).step hb⟩
theorem SCD.drew {w : World} {b0 : Nat} {v00 v01 v02 : Value} {b1 : Nat} {v10 v11 v12 : Value} {b2 : Nat} {v20 v21 v22 : Value} {wx : World} (h : SCD w b0 v00 v01 v02 b1 v10 v11 v12 b2 v20 v21 v22 wx) : SCD w b0 v00 v01 v02 b1 v10 v11 v12 b2 v20 v21 v22 wx.drew := h.step (Below.refl _ _).drew
set_option maxRecDepth 100000 in
set_option maxHeartbeats 8000000 in
theorem ctexts_long (y m d : Int) (s : ByteArray) (n : Int) (hy : InR y) (hm : InR m) (hd : InR d) (hs : s.size ≤ 9223372036854775807) (hn : InR n) (hl : 100 < s.size) (w : World) (hg : w.cell? ⟨0, 0, none⟩ = some asHandle) (ht : Tab w) :
    Calls Tryd.prog 4 #[.agg #[.int .i64 y, .int .i64 m, .int .i64 d], .string s, .int .i64 n] w fun e w' => e = .returned (.bool true) ∧ Below w.heap.size w w' := by
  have hH := Held.start hg
  go_enter Tryd.func4, Tryd.ntmps4
  go_wp2_with (first | (go_at_call 19; (with_reducible refine (sure07 _ (Held.handle (w0 := w) (by repeat (first | assumption | refine Held.alloc ?_ _ | refine Held.drew ?_))) (ht.below (Held.below (w0 := w) (by repeat (first | assumption | refine Held.alloc ?_ _ | refine Held.drew ?_))))).mono ?_); rintro e w' ⟨rfl, hb'⟩; obtain ⟨hc, hf⟩ := bcell hb'; have hz := hb'.size; (try (simp at hz)); have hH' := Held.step (w0 := w) (by repeat (first | assumption | refine Held.alloc ?_ _ | refine Held.drew ?_)) hb'; clear hb'))
  go_ret
  exact ⟨rfl, Held.below (w0 := w) (by assumption)⟩
set_option maxRecDepth 100000 in
set_option maxHeartbeats 8000000 in
theorem ctexts_may (y m d : Int) (s : ByteArray) (n : Int) (hy : InR y) (hm : InR m) (hd : InR d) (hs : s.size ≤ 9223372036854775807) (hn : InR n) (hM : Cal.may y m d) (hl : s.size ≤ 100) (py pm pd pk : Int) (hp : IsParse s py pm pd pk) (w : World) (hg : w.cell? ⟨0, 0, none⟩ = some asHandle) (ht : Tab w) :
    Calls Tryd.prog 4 #[.agg #[.int .i64 y, .int .i64 m, .int .i64 d], .string s, .int .i64 n] w fun e w' => e = .returned (.bool true) ∧ Below w.heap.size w w' := by
  have hH := Held.start hg
  go_enter Tryd.func4, Tryd.ntmps4
  go_wp2_with (fail)
  go_at_call 30
  (with_reducible refine (text_ok _ _ _ _ (Held.handle (w0 := w) (by repeat (first | assumption | refine Held.alloc ?_ _ | refine Held.drew ?_))) (ht.below ((Below.refl _ _).alloc (Nat.le_refl _) _)) hM).mono ?_)
  rintro e w1 ⟨rfl, HB⟩
  obtain ⟨hc1, hf1⟩ := bcell HB
  obtain ⟨hd1, hh1⟩ := bcell2 (U := w) (by repeat (first | exact Below.refl _ _ | refine Below.setCell ?_ (by simp <;> omega) _ | refine Below.alloc ?_ (by simp <;> omega) _ | refine Below.drew ?_)) HB
  have hz1 := HB.size
  try simp at hz1
  (try (have z1w0 : w.heap.size < w1.heap.size := (by omega)))
  (try (have z1w1 : w.heap.size + 1 < w1.heap.size := (by omega)))
  (try (have z1w2 : w.heap.size + 1 + 1 < w1.heap.size := (by omega)))
  (try (have z1w3 : w.heap.size + 1 + 1 + 1 < w1.heap.size := (by omega)))
  have hH1 := Held.step (w0 := w) (by repeat (first | assumption | refine Held.alloc ?_ _ | refine Held.drew ?_)) HB
  clear HB
  go_wp2_with (fail)
  go_at_call 31
  (with_reducible refine (parse_f s py pm pd pk _ hs hp).mono ?_)
  rintro e w2 ⟨rfl, HB⟩
  obtain ⟨hc2, hf2⟩ := bcell HB
  obtain ⟨hd2, hh2⟩ := bcell2 (U := w1) (by repeat (first | exact Below.refl _ _ | refine Below.setCell ?_ (by simp <;> omega) _ | refine Below.alloc ?_ (by simp <;> omega) _ | refine Below.drew ?_)) HB
  have hz2 := HB.size
  try simp at hz2
  (try (have z2w0 : w.heap.size < w2.heap.size := (by omega)))
  (try (have z2w1 : w.heap.size + 1 < w2.heap.size := (by omega)))
  (try (have z2w2 : w.heap.size + 1 + 1 < w2.heap.size := (by omega)))
  (try (have z2w3 : w.heap.size + 1 + 1 + 1 < w2.heap.size := (by omega)))
  (try (have z2w10 : w1.heap.size < w2.heap.size := (by omega)))
  (try (have z2w11 : w1.heap.size + 1 < w2.heap.size := (by omega)))
  (try (have z2w12 : w1.heap.size + 1 + 1 < w2.heap.size := (by omega)))
  (try (have z2w13 : w1.heap.size + 1 + 1 + 1 < w2.heap.size := (by omega)))
  have hH2 := Held.step (w0 := w) (by repeat (first | assumption | refine Held.alloc ?_ _ | refine Held.drew ?_)) HB
  clear HB
  go_wp2_with (fail)
  go_at_call 32
  (with_reducible refine (rparse_f s py pm pd pk _ (Held.handle (w0 := w) (by repeat (first | assumption | refine Held.alloc ?_ _ | refine Held.drew ?_))) hs hp).mono ?_)
  rintro e w3 ⟨rfl, HB⟩
  obtain ⟨hc3, hf3⟩ := bcell HB
  obtain ⟨hd3, hh3⟩ := bcell2 (U := w2) (by repeat (first | exact Below.refl _ _ | refine Below.setCell ?_ (by simp <;> omega) _ | refine Below.alloc ?_ (by simp <;> omega) _ | refine Below.drew ?_)) HB
  have hz3 := HB.size
  try simp at hz3
  (try (have z3w0 : w.heap.size < w3.heap.size := (by omega)))
  (try (have z3w1 : w.heap.size + 1 < w3.heap.size := (by omega)))
  (try (have z3w2 : w.heap.size + 1 + 1 < w3.heap.size := (by omega)))
  (try (have z3w3 : w.heap.size + 1 + 1 + 1 < w3.heap.size := (by omega)))
  (try (have z3w10 : w1.heap.size < w3.heap.size := (by omega)))
  (try (have z3w11 : w1.heap.size + 1 < w3.heap.size := (by omega)))
  (try (have z3w12 : w1.heap.size + 1 + 1 < w3.heap.size := (by omega)))
  (try (have z3w13 : w1.heap.size + 1 + 1 + 1 < w3.heap.size := (by omega)))
  (try (have z3w20 : w2.heap.size < w3.heap.size := (by omega)))
  (try (have z3w21 : w2.heap.size + 1 < w3.heap.size := (by omega)))
  (try (have z3w22 : w2.heap.size + 1 + 1 < w3.heap.size := (by omega)))
  (try (have z3w23 : w2.heap.size + 1 + 1 + 1 < w3.heap.size := (by omega)))
  have hH3 := Held.step (w0 := w) (by repeat (first | assumption | refine Held.alloc ?_ _ | refine Held.drew ?_)) HB
  clear HB
  go_wp2_with (fail)
  go_at_call 18
  (with_reducible refine (rmay_ok _ _ _ _ (Held.handle (w0 := w) (by repeat (first | assumption | refine Held.alloc ?_ _ | refine Held.drew ?_))) hy hm hd hM).mono ?_)
  rintro e w4 ⟨rfl, HB⟩
  obtain ⟨hc4, hf4⟩ := bcell HB
  obtain ⟨hd4, hh4⟩ := bcell2 (U := w3) (by repeat (first | exact Below.refl _ _ | refine Below.setCell ?_ (by simp <;> omega) _ | refine Below.alloc ?_ (by simp <;> omega) _ | refine Below.drew ?_)) HB
  have hz4 := HB.size
  try simp at hz4
  (try (have z4w0 : w.heap.size < w4.heap.size := (by omega)))
  (try (have z4w1 : w.heap.size + 1 < w4.heap.size := (by omega)))
  (try (have z4w2 : w.heap.size + 1 + 1 < w4.heap.size := (by omega)))
  (try (have z4w3 : w.heap.size + 1 + 1 + 1 < w4.heap.size := (by omega)))
  (try (have z4w10 : w1.heap.size < w4.heap.size := (by omega)))
  (try (have z4w11 : w1.heap.size + 1 < w4.heap.size := (by omega)))
  (try (have z4w12 : w1.heap.size + 1 + 1 < w4.heap.size := (by omega)))
  (try (have z4w13 : w1.heap.size + 1 + 1 + 1 < w4.heap.size := (by omega)))
  (try (have z4w20 : w2.heap.size < w4.heap.size := (by omega)))
  (try (have z4w21 : w2.heap.size + 1 < w4.heap.size := (by omega)))
  (try (have z4w22 : w2.heap.size + 1 + 1 < w4.heap.size := (by omega)))
  (try (have z4w23 : w2.heap.size + 1 + 1 + 1 < w4.heap.size := (by omega)))
  (try (have z4w30 : w3.heap.size < w4.heap.size := (by omega)))
  (try (have z4w31 : w3.heap.size + 1 < w4.heap.size := (by omega)))
  (try (have z4w32 : w3.heap.size + 1 + 1 < w4.heap.size := (by omega)))
  (try (have z4w33 : w3.heap.size + 1 + 1 + 1 < w4.heap.size := (by omega)))
  have hH4 := Held.step (w0 := w) (by repeat (first | assumption | refine Held.alloc ?_ _ | refine Held.drew ?_)) HB
  clear HB
  have hS0 : SCD w (w.heap.size) (.int .i64 y) (.int .i64 m) (.int .i64 d) (w2.heap.size) (.int .i64 py) (.int .i64 pm) (.int .i64 pd) (w3.heap.size) (.int .i64 py) (.int .i64 pm) (.int .i64 pd) w4 := ⟨hH4, ⟨by omega, by go_simp, by go_simp, by go_simp⟩, ⟨by omega, by go_simp, by go_simp, by go_simp⟩, ⟨by omega, by go_simp, by go_simp, by go_simp⟩⟩
  obtain ⟨_, ⟨l0, c00, c01, c02⟩, ⟨l1, c10, c11, c12⟩, ⟨l2, c20, c21, c22⟩⟩ := id hS0
  go_wp2_with (first | (go_at_call 27; (with_reducible refine (num07_any _ _ (Held.handle (w0 := w) (by first | exact And.left (by assumption) | exact Held.alloc (And.left (by assumption)) _))).mono ?_); rintro e w' ⟨rfl, hb'⟩; have hS' := SCD.step (by first | assumption | exact SCD.step (by assumption) ((Below.refl _ _).alloc (Nat.le_refl _) _)) hb'; clear hb'; obtain ⟨_, ⟨l0, c00, c01, c02⟩, ⟨l1, c10, c11, c12⟩, ⟨l2, c20, c21, c22⟩⟩ := id hS') | (go_at_call 27; (with_reducible refine (num07_nil _).mono ?_); rintro e w' ⟨rfl, hb'⟩; have hS' := SCD.step (by first | assumption | exact SCD.step (by assumption) ((Below.refl _ _).alloc (Nat.le_refl _) _)) hb'; clear hb'; obtain ⟨_, ⟨l0, c00, c01, c02⟩, ⟨l1, c10, c11, c12⟩, ⟨l2, c20, c21, c22⟩⟩ := id hS') | (go_at_call 27; (with_reducible refine (num07_err _ _ (Held.handle (w0 := w) (by first | exact And.left (by assumption) | exact Held.alloc (And.left (by assumption)) _))).mono ?_); rintro e w' ⟨rfl, hb'⟩; have hS' := SCD.step (by first | assumption | exact SCD.step (by assumption) ((Below.refl _ _).alloc (Nat.le_refl _) _)) hb'; clear hb'; obtain ⟨_, ⟨l0, c00, c01, c02⟩, ⟨l1, c10, c11, c12⟩, ⟨l2, c20, c21, c22⟩⟩ := id hS') | (go_at_call 19; (with_reducible refine (sure07 _ (Held.handle (w0 := w) (by first | exact And.left (by assumption) | exact Held.alloc (And.left (by assumption)) _)) (ht.below (Held.below (w0 := w) (by first | exact And.left (by assumption) | exact Held.alloc (And.left (by assumption)) _)))).mono ?_); rintro e w' ⟨rfl, hb'⟩; have hS' := SCD.step (by first | assumption | exact SCD.step (by assumption) ((Below.refl _ _).alloc (Nat.le_refl _) _)) hb'; clear hb'; obtain ⟨_, ⟨l0, c00, c01, c02⟩, ⟨l1, c10, c11, c12⟩, ⟨l2, c20, c21, c22⟩⟩ := id hS') | (go_at_call 34; (with_reducible refine (week_c _ _ hn).mono ?_); rintro e w' ⟨rfl, hb'⟩; have hS' := SCD.step (by first | assumption | exact SCD.step (by assumption) ((Below.refl _ _).alloc (Nat.le_refl _) _)) hb'; clear hb'; obtain ⟨_, ⟨l0, c00, c01, c02⟩, ⟨l1, c10, c11, c12⟩, ⟨l2, c20, c21, c22⟩⟩ := id hS') | (go_at_call 35; (with_reducible refine (rweek_c _ _ hn).mono ?_); rintro e w' ⟨rfl, rfl⟩) | (go_at_call 33; (with_reducible refine (rtext_c _ _ _ _ hM).mono ?_); rintro e w' ⟨rfl, hb'⟩; have hS' := SCD.step (by first | assumption | exact SCD.step (by assumption) ((Below.refl _ _).alloc (Nat.le_refl _) _)) hb'; clear hb'; obtain ⟨_, ⟨l0, c00, c01, c02⟩, ⟨l1, c10, c11, c12⟩, ⟨l2, c20, c21, c22⟩⟩ := id hS'))
  go_ret
  exact ⟨rfl, Held.below (w0 := w) (And.left (by assumption))⟩
set_option maxRecDepth 100000 in
set_option maxHeartbeats 8000000 in
theorem ctexts_no (y m d : Int) (s : ByteArray) (n : Int) (hy : InR y) (hm : InR m) (hd : InR d) (hs : s.size ≤ 9223372036854775807) (hn : InR n) (hM : ¬ Cal.may y m d) (hl : s.size ≤ 100) (py pm pd pk : Int) (hp : IsParse s py pm pd pk) (w : World) (hg : w.cell? ⟨0, 0, none⟩ = some asHandle) (ht : Tab w) :
    Calls Tryd.prog 4 #[.agg #[.int .i64 y, .int .i64 m, .int .i64 d], .string s, .int .i64 n] w fun e w' => e = .returned (.bool true) ∧ Below w.heap.size w w' := by
  have hH := Held.start hg
  go_enter Tryd.func4, Tryd.ntmps4
  go_wp2_with (fail)
  go_at_call 30
  (with_reducible refine (text_no _ _ _ _ hy hm hd hM).mono ?_)
  rintro e w1 ⟨rfl, HB⟩
  obtain ⟨hc1, hf1⟩ := bcell HB
  obtain ⟨hd1, hh1⟩ := bcell2 (U := w) (by repeat (first | exact Below.refl _ _ | refine Below.setCell ?_ (by simp <;> omega) _ | refine Below.alloc ?_ (by simp <;> omega) _ | refine Below.drew ?_)) HB
  have hz1 := HB.size
  try simp at hz1
  (try (have z1w0 : w.heap.size < w1.heap.size := (by omega)))
  (try (have z1w1 : w.heap.size + 1 < w1.heap.size := (by omega)))
  (try (have z1w2 : w.heap.size + 1 + 1 < w1.heap.size := (by omega)))
  (try (have z1w3 : w.heap.size + 1 + 1 + 1 < w1.heap.size := (by omega)))
  have hH1 := Held.step (w0 := w) (by repeat (first | assumption | refine Held.alloc ?_ _ | refine Held.drew ?_)) HB
  clear HB
  go_wp2_with (fail)
  go_at_call 31
  (with_reducible refine (parse_f s py pm pd pk _ hs hp).mono ?_)
  rintro e w2 ⟨rfl, HB⟩
  obtain ⟨hc2, hf2⟩ := bcell HB
  obtain ⟨hd2, hh2⟩ := bcell2 (U := w1) (by repeat (first | exact Below.refl _ _ | refine Below.setCell ?_ (by simp <;> omega) _ | refine Below.alloc ?_ (by simp <;> omega) _ | refine Below.drew ?_)) HB
  have hz2 := HB.size
  try simp at hz2
  (try (have z2w0 : w.heap.size < w2.heap.size := (by omega)))
  (try (have z2w1 : w.heap.size + 1 < w2.heap.size := (by omega)))
  (try (have z2w2 : w.heap.size + 1 + 1 < w2.heap.size := (by omega)))
  (try (have z2w3 : w.heap.size + 1 + 1 + 1 < w2.heap.size := (by omega)))
  (try (have z2w10 : w1.heap.size < w2.heap.size := (by omega)))
  (try (have z2w11 : w1.heap.size + 1 < w2.heap.size := (by omega)))
  (try (have z2w12 : w1.heap.size + 1 + 1 < w2.heap.size := (by omega)))
  (try (have z2w13 : w1.heap.size + 1 + 1 + 1 < w2.heap.size := (by omega)))
  have hH2 := Held.step (w0 := w) (by repeat (first | assumption | refine Held.alloc ?_ _ | refine Held.drew ?_)) HB
  clear HB
  go_wp2_with (fail)
  go_at_call 32
  (with_reducible refine (rparse_f s py pm pd pk _ (Held.handle (w0 := w) (by repeat (first | assumption | refine Held.alloc ?_ _ | refine Held.drew ?_))) hs hp).mono ?_)
  rintro e w3 ⟨rfl, HB⟩
  obtain ⟨hc3, hf3⟩ := bcell HB
  obtain ⟨hd3, hh3⟩ := bcell2 (U := w2) (by repeat (first | exact Below.refl _ _ | refine Below.setCell ?_ (by simp <;> omega) _ | refine Below.alloc ?_ (by simp <;> omega) _ | refine Below.drew ?_)) HB
  have hz3 := HB.size
  try simp at hz3
  (try (have z3w0 : w.heap.size < w3.heap.size := (by omega)))
  (try (have z3w1 : w.heap.size + 1 < w3.heap.size := (by omega)))
  (try (have z3w2 : w.heap.size + 1 + 1 < w3.heap.size := (by omega)))
  (try (have z3w3 : w.heap.size + 1 + 1 + 1 < w3.heap.size := (by omega)))
  (try (have z3w10 : w1.heap.size < w3.heap.size := (by omega)))
  (try (have z3w11 : w1.heap.size + 1 < w3.heap.size := (by omega)))
  (try (have z3w12 : w1.heap.size + 1 + 1 < w3.heap.size := (by omega)))
  (try (have z3w13 : w1.heap.size + 1 + 1 + 1 < w3.heap.size := (by omega)))
  (try (have z3w20 : w2.heap.size < w3.heap.size := (by omega)))
  (try (have z3w21 : w2.heap.size + 1 < w3.heap.size := (by omega)))
  (try (have z3w22 : w2.heap.size + 1 + 1 < w3.heap.size := (by omega)))
  (try (have z3w23 : w2.heap.size + 1 + 1 + 1 < w3.heap.size := (by omega)))
  have hH3 := Held.step (w0 := w) (by repeat (first | assumption | refine Held.alloc ?_ _ | refine Held.drew ?_)) HB
  clear HB
  go_wp2_with (fail)
  go_at_call 18
  (with_reducible refine (rmay_no _ _ _ _ (Held.handle (w0 := w) (by repeat (first | assumption | refine Held.alloc ?_ _ | refine Held.drew ?_))) hy hm hd hM).mono ?_)
  rintro e w4 ⟨rfl, HB⟩
  obtain ⟨hc4, hf4⟩ := bcell HB
  obtain ⟨hd4, hh4⟩ := bcell2 (U := w3) (by repeat (first | exact Below.refl _ _ | refine Below.setCell ?_ (by simp <;> omega) _ | refine Below.alloc ?_ (by simp <;> omega) _ | refine Below.drew ?_)) HB
  have hz4 := HB.size
  try simp at hz4
  (try (have z4w0 : w.heap.size < w4.heap.size := (by omega)))
  (try (have z4w1 : w.heap.size + 1 < w4.heap.size := (by omega)))
  (try (have z4w2 : w.heap.size + 1 + 1 < w4.heap.size := (by omega)))
  (try (have z4w3 : w.heap.size + 1 + 1 + 1 < w4.heap.size := (by omega)))
  (try (have z4w10 : w1.heap.size < w4.heap.size := (by omega)))
  (try (have z4w11 : w1.heap.size + 1 < w4.heap.size := (by omega)))
  (try (have z4w12 : w1.heap.size + 1 + 1 < w4.heap.size := (by omega)))
  (try (have z4w13 : w1.heap.size + 1 + 1 + 1 < w4.heap.size := (by omega)))
  (try (have z4w20 : w2.heap.size < w4.heap.size := (by omega)))
  (try (have z4w21 : w2.heap.size + 1 < w4.heap.size := (by omega)))
  (try (have z4w22 : w2.heap.size + 1 + 1 < w4.heap.size := (by omega)))
  (try (have z4w23 : w2.heap.size + 1 + 1 + 1 < w4.heap.size := (by omega)))
  (try (have z4w30 : w3.heap.size < w4.heap.size := (by omega)))
  (try (have z4w31 : w3.heap.size + 1 < w4.heap.size := (by omega)))
  (try (have z4w32 : w3.heap.size + 1 + 1 < w4.heap.size := (by omega)))
  (try (have z4w33 : w3.heap.size + 1 + 1 + 1 < w4.heap.size := (by omega)))
  have hH4 := Held.step (w0 := w) (by repeat (first | assumption | refine Held.alloc ?_ _ | refine Held.drew ?_)) HB
  clear HB
  have hS0 : SCD w (w.heap.size) (.int .i64 y) (.int .i64 m) (.int .i64 d) (w2.heap.size) (.int .i64 py) (.int .i64 pm) (.int .i64 pd) (w3.heap.size) (.int .i64 py) (.int .i64 pm) (.int .i64 pd) w4 := ⟨hH4, ⟨by omega, by go_simp, by go_simp, by go_simp⟩, ⟨by omega, by go_simp, by go_simp, by go_simp⟩, ⟨by omega, by go_simp, by go_simp, by go_simp⟩⟩
  obtain ⟨_, ⟨l0, c00, c01, c02⟩, ⟨l1, c10, c11, c12⟩, ⟨l2, c20, c21, c22⟩⟩ := id hS0
  go_wp2_with (first | (go_at_call 27; (with_reducible refine (num07_any _ _ (Held.handle (w0 := w) (by first | exact And.left (by assumption) | exact Held.alloc (And.left (by assumption)) _))).mono ?_); rintro e w' ⟨rfl, hb'⟩; have hS' := SCD.step (by first | assumption | exact SCD.step (by assumption) ((Below.refl _ _).alloc (Nat.le_refl _) _)) hb'; clear hb'; obtain ⟨_, ⟨l0, c00, c01, c02⟩, ⟨l1, c10, c11, c12⟩, ⟨l2, c20, c21, c22⟩⟩ := id hS') | (go_at_call 27; (with_reducible refine (num07_nil _).mono ?_); rintro e w' ⟨rfl, hb'⟩; have hS' := SCD.step (by first | assumption | exact SCD.step (by assumption) ((Below.refl _ _).alloc (Nat.le_refl _) _)) hb'; clear hb'; obtain ⟨_, ⟨l0, c00, c01, c02⟩, ⟨l1, c10, c11, c12⟩, ⟨l2, c20, c21, c22⟩⟩ := id hS') | (go_at_call 27; (with_reducible refine (num07_err _ _ (Held.handle (w0 := w) (by first | exact And.left (by assumption) | exact Held.alloc (And.left (by assumption)) _))).mono ?_); rintro e w' ⟨rfl, hb'⟩; have hS' := SCD.step (by first | assumption | exact SCD.step (by assumption) ((Below.refl _ _).alloc (Nat.le_refl _) _)) hb'; clear hb'; obtain ⟨_, ⟨l0, c00, c01, c02⟩, ⟨l1, c10, c11, c12⟩, ⟨l2, c20, c21, c22⟩⟩ := id hS') | (go_at_call 19; (with_reducible refine (sure07 _ (Held.handle (w0 := w) (by first | exact And.left (by assumption) | exact Held.alloc (And.left (by assumption)) _)) (ht.below (Held.below (w0 := w) (by first | exact And.left (by assumption) | exact Held.alloc (And.left (by assumption)) _)))).mono ?_); rintro e w' ⟨rfl, hb'⟩; have hS' := SCD.step (by first | assumption | exact SCD.step (by assumption) ((Below.refl _ _).alloc (Nat.le_refl _) _)) hb'; clear hb'; obtain ⟨_, ⟨l0, c00, c01, c02⟩, ⟨l1, c10, c11, c12⟩, ⟨l2, c20, c21, c22⟩⟩ := id hS') | (go_at_call 34; (with_reducible refine (week_c _ _ hn).mono ?_); rintro e w' ⟨rfl, hb'⟩; have hS' := SCD.step (by first | assumption | exact SCD.step (by assumption) ((Below.refl _ _).alloc (Nat.le_refl _) _)) hb'; clear hb'; obtain ⟨_, ⟨l0, c00, c01, c02⟩, ⟨l1, c10, c11, c12⟩, ⟨l2, c20, c21, c22⟩⟩ := id hS') | (go_at_call 35; (with_reducible refine (rweek_c _ _ hn).mono ?_); rintro e w' ⟨rfl, rfl⟩))
  go_ret
  exact ⟨rfl, Held.below (w0 := w) (And.left (by assumption))⟩
theorem walkCivilTexts (y m d : Int) (s : ByteArray) (n : Int) (hy : InR y) (hm : InR m) (hd : InR d) (hs : s.size ≤ 9223372036854775807) (hn : InR n) (w : World) (hg : w.cell? ⟨0, 0, none⟩ = some asHandle) (ht : Tab w) :
    Calls Tryd.prog 4 #[.agg #[.int .i64 y, .int .i64 m, .int .i64 d], .string s, .int .i64 n] w fun e w' => e = .returned (.bool true) ∧ Below w.heap.size w w' := by
  by_cases hl : s.size ≤ 100
  · obtain ⟨py, pm, pd, pk, hp⟩ := isParse_ex s
    by_cases hM : Cal.may y m d
    · exact ctexts_may y m d s n hy hm hd hs hn hM hl py pm pd pk hp w hg ht
    · exact ctexts_no y m d s n hy hm hd hs hn hM hl py pm pd pk hp w hg ht
  · exact ctexts_long y m d s n hy hm hd hs hn (by omega) w hg ht
end Go.Proofs.YtengchkiejpglaaDoor
