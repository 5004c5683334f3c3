/-
  Layer 8: stamps of the reference, parses.
-/
import Derived.Test.YtengchkiejpglaaDoorW08b
import Derived.Test.YtengchkiejpglaaDoorV07e
import Derived.LoopN
import Derived.BigRegion
import Derived.Deep.RegionHeld3
namespace Go.Proofs.YtengchkiejpglaaDoor
open Go.RowKit Go.Extern.Stop Go.Stop Go.Extern
set_option linter.unusedVariables false
set_option linter.unusedSimpArgs false
abbrev SST (w : World) (b0 : Nat) (v00 v01 v02 : Value) (b1 : Nat) (v10 v11 v12 : Value) (wx : World) : Prop := Held w wx ∧ B3 b0 v00 v01 v02 wx ∧ B3 b1 v10 v11 v12 wx
theorem SST.step {w : World} {b0 : Nat} {v00 v01 v02 : Value} {b1 : Nat} {v10 v11 v12 : Value} {wx w' : World} (h : SST w b0 v00 v01 v02 b1 v10 v11 v12 wx) (hb : Below wx.heap.size wx w') : SST w b0 v00 v01 v02 b1 v10 v11 v12 w' := ⟨(h.1).step hb, (h.2.1).step hb, (h.2.2).step hb⟩
theorem SST.drew {w : World} {b0 : Nat} {v00 v01 v02 : Value} {b1 : Nat} {v10 v11 v12 : Value} {wx : World} (h : SST w b0 v00 v01 v02 b1 v10 v11 v12 wx) : SST w b0 v00 v01 v02 b1 v10 v11 v12 wx.drew := h.step (Below.refl _ _).drew
def StampArg (sec nano : Int) : Prop := sec < 0 ∨ 86400 < sec ∨ nano < 0 ∨ 999999999 < nano
set_option maxHeartbeats 2000000 in
theorem rstamp_arg (day sec nano : Int) (w : World) (hd : InR sec) (hn : InR nano) (h : StampArg sec nano) : Calls Tryd.prog 44 #[.int .i64 day, .int .i64 sec, .int .i64 nano] w fun e w' => e = .returned (.tuple #[.string ⟨#[]⟩, .int .i64 1]) ∧ Below w.heap.size w w' := by
  rcases (by unfold StampArg at h; omega : sec < 0 ∨ (0 ≤ sec ∧ 86400 < sec) ∨ (0 ≤ sec ∧ sec ≤ 86400 ∧ nano < 0) ∨ (0 ≤ sec ∧ sec ≤ 86400 ∧ 0 ≤ nano ∧ 999999999 < nano)) with a | ⟨a, b⟩ | ⟨a, b, c⟩ | ⟨a, b, c, d⟩
  all_goals clear h
  all_goals
    go_enter Tryd.func44, Tryd.ntmps44
    go_wp2_with (fail)
    go_ret2
    exact ⟨rfl, by repeat (first | exact Below.refl _ _ | assumption | refine Below.trans ?_ (Below.mono (by assumption) (by simp <;> omega)) | exact Held.below (w0 := w) (by assumption) | refine Below.setCell ?_ (by simp <;> omega) _ | refine Below.alloc ?_ (by simp <;> omega) _ | refine Below.drew ?_ | refine below_drewN ?_ _)⟩
theorem rstamp_day (day sec nano : Int) (w : World) (hdy : InR day) (hd : InR sec) (hn : InR nano) (a : 0 ≤ sec) (b : sec ≤ 86400) (c : 0 ≤ nano) (d : nano ≤ 999999999) (ho : IsOf day 0 0 0 2) : Calls Tryd.prog 44 #[.int .i64 day, .int .i64 sec, .int .i64 nano] w fun e w' => e = .returned (.tuple #[.string ⟨#[]⟩, .int .i64 2]) ∧ Below w.heap.size w w' := by
  go_enter Tryd.func44, Tryd.ntmps44
  go_wp2_with (first | (go_at_call 29; (with_reducible refine (rof_f _ 0 0 0 2 _ hdy ho).mono ?_); rintro e w' ⟨rfl, hb'⟩; have hz := hb'.size))
  go_ret2
  exact ⟨rfl, hb'.alloc hz _⟩
set_option maxRecDepth 100000 in
set_option maxHeartbeats 8000000 in
theorem rstamp_ok (day sec nano h m s y mo d : Int) (w : World) (hg : w.cell? ⟨0, 0, none⟩ = some asHandle) (hdy : InR day) (hd : InR sec) (hn : InR nano) (g : OfT sec h m s 0) (hx : 0 ≤ nano) (hx2 : nano ≤ 999999999) (hM : Cal.may y mo d) (ho : IsOf day y mo d 0) : Calls Tryd.prog 44 #[.int .i64 day, .int .i64 sec, .int .i64 nano] w fun e w' => e = .returned (.tuple #[.string ⟨(stampL y mo d h m s nano).toArray⟩, .int .i64 0]) ∧ Below w.heap.size w w' := by
  have hH := Held.start hg
  have tb := ofT_bd g
  have hs0 : 0 ≤ sec ∧ sec ≤ 86400 := by rcases g with g | g | g <;> omega
  have l10 := dateL_length y mo d
  have l2 : (Dig.digs 2 h.toNat).length = 2 := Dig.digs_length _ _
  have l3 : (Dig.digs 2 m.toNat).length = 2 := Dig.digs_length _ _
  have l4 : (Dig.digs 2 s.toNat).length = 2 := Dig.digs_length _ _
  have l9 : (Dig.digs 9 nano.toNat).length = 9 := Dig.digs_length _ _
  go_enter Tryd.func44, Tryd.ntmps44
  go_wp2_with (fail)
  go_at_call 29
  (with_reducible refine (rof_f _ y mo d 0 _ hdy ho).mono ?_)
  rintro e w1 ⟨rfl, HB⟩
  obtain ⟨hc1, hf1⟩ := bcell HB
  obtain ⟨hd1, hh1⟩ := bcell2 (U := w) (by repeat (first | exact Below.refl _ _ | refine Below.setCell ?_ (by simp <;> omega) _ | refine Below.alloc ?_ (by simp <;> omega) _ | refine Below.drew ?_)) HB
  have hz1 := HB.size
  try simp at hz1
  (try (have z1w0 : w.heap.size < w1.heap.size := (by omega)))
  (try (have z1w1 : w.heap.size + 1 < w1.heap.size := (by omega)))
  have hH1 := Held.step (w0 := w) (by repeat (first | assumption | refine Held.alloc ?_ _ | refine Held.drew ?_)) HB
  clear HB
  go_wp2_with (fail)
  go_at_call 42
  (with_reducible refine (rdof_f _ h m s _ hd g).mono ?_)
  rintro e w2 ⟨rfl, HB⟩
  obtain ⟨hc2, hf2⟩ := bcell HB
  obtain ⟨hd2, hh2⟩ := bcell2 (U := w1) (by repeat (first | exact Below.refl _ _ | refine Below.setCell ?_ (by simp <;> omega) _ | refine Below.alloc ?_ (by simp <;> omega) _ | refine Below.drew ?_)) HB
  have hz2 := HB.size
  try simp at hz2
  (try (have z2w0 : w.heap.size < w2.heap.size := (by omega)))
  (try (have z2w1 : w.heap.size + 1 < w2.heap.size := (by omega)))
  (try (have z2w10 : w1.heap.size < w2.heap.size := (by omega)))
  (try (have z2w11 : w1.heap.size + 1 < w2.heap.size := (by omega)))
  have hH2 := Held.step (w0 := w) (by repeat (first | assumption | refine Held.alloc ?_ _ | refine Held.drew ?_)) HB
  clear HB
  go_wp2_with (fail)
  have hS0 : SST w (w1.heap.size) (.int .i64 y) (.int .i64 mo) (.int .i64 d) (w2.heap.size) (.int .i64 h) (.int .i64 m) (.int .i64 s) (w2.alloc (.cells #[.int .i64 h, .int .i64 m, .int .i64 s] 49)) := ⟨Held.alloc hH2 _, ⟨by simp <;> omega, by go_simp, by go_simp, by go_simp⟩, ⟨by simp <;> omega, by go_simp, by go_simp, by go_simp⟩⟩
  go_region_held3 (fun wx => SST w (w1.heap.size) (.int .i64 y) (.int .i64 mo) (.int .i64 d) (w2.heap.size) (.int .i64 h) (.int .i64 m) (.int .i64 s) wx) (first | assumption | exact SST.drew (by assumption)) (first | (go_at_call 33; (with_reducible refine (rtext_c _ _ _ _ hM).mono ?_); rintro e w' ⟨rfl, hb'⟩; have hS' := SST.step (by assumption) hb'; clear hb') | (go_at_call 89; (with_reducible refine (two_c _ _ _ (by omega) (by omega) (by omega) (by omega)).mono ?_); rintro e w' ⟨rfl, rfl⟩))
  all_goals go_wp2_with (fail)
  all_goals go_ret2
  all_goals exact ⟨congrArg (fun b => Ending.returned (.tuple #[.string b, .int .i64 0])) (by apply ByteArray.ext; simp [stampL]), Held.below (w0 := w) (And.left (by assumption))⟩
set_option maxHeartbeats 2000000 in
theorem dparse_size (s : ByteArray) (w : World) (hm : s.size ≤ 9223372036854775807) (h : s.size ≠ 29) : Calls Tryd.prog 45 #[.string s] w fun e w' => e = .returned (.tuple #[.int .i64 0, .int .i64 0, .int .i64 0, errV 3]) ∧ Below w.heap.size w w' := by
  have hn : ((s.size : Int) != 29) = true := by simp; omega
  go_enter Tryd.func45, Tryd.ntmps45
  go_wp2_with (fail)
  refine bodyPost_ret (v := .tuple #[.int .i64 0, .int .i64 0, .int .i64 0, errV 3]) (by first | (simp [results, Tryd.results45, go_sem]; done) | (simp only [results, Tryd.results45]; go_simp; done)) rfl ⟨rfl, by repeat (first | exact Below.refl _ _ | assumption | refine Below.trans ?_ (Below.mono (by assumption) (by simp <;> omega)) | exact Held.below (w0 := w) (by assumption) | refine Below.setCell ?_ (by simp <;> omega) _ | refine Below.alloc ?_ (by simp <;> omega) _ | refine Below.drew ?_ | refine below_drewN ?_ _)⟩
set_option maxHeartbeats 2000000 in
theorem dparse_c10 (s : ByteArray) (w : World) (h : s.size = 29) (c10 : (s[10]'(by omega)).toNat ≠ 84) : Calls Tryd.prog 45 #[.string s] w fun e w' => e = .returned (.tuple #[.int .i64 0, .int .i64 0, .int .i64 0, errV 3]) ∧ Below w.heap.size w w' := by
  skip
  go_enter Tryd.func45, Tryd.ntmps45
  go_wp2_with (fail)
  refine bodyPost_ret (v := .tuple #[.int .i64 0, .int .i64 0, .int .i64 0, errV 3]) (by first | (simp [results, Tryd.results45, go_sem]; done) | (simp only [results, Tryd.results45]; go_simp; done)) rfl ⟨rfl, by repeat (first | exact Below.refl _ _ | assumption | refine Below.trans ?_ (Below.mono (by assumption) (by simp <;> omega)) | exact Held.below (w0 := w) (by assumption) | refine Below.setCell ?_ (by simp <;> omega) _ | refine Below.alloc ?_ (by simp <;> omega) _ | refine Below.drew ?_ | refine below_drewN ?_ _)⟩
set_option maxHeartbeats 2000000 in
theorem dparse_c13 (s : ByteArray) (w : World) (h : s.size = 29) (c10 : ((s[10]'(by omega)).toNat : Int) = 84) (c13 : (s[13]'(by omega)).toNat ≠ 58) : Calls Tryd.prog 45 #[.string s] w fun e w' => e = .returned (.tuple #[.int .i64 0, .int .i64 0, .int .i64 0, errV 3]) ∧ Below w.heap.size w w' := by
  skip
  go_enter Tryd.func45, Tryd.ntmps45
  go_wp2_with (fail)
  refine bodyPost_ret (v := .tuple #[.int .i64 0, .int .i64 0, .int .i64 0, errV 3]) (by first | (simp [results, Tryd.results45, go_sem]; done) | (simp only [results, Tryd.results45]; go_simp; done)) rfl ⟨rfl, by repeat (first | exact Below.refl _ _ | assumption | refine Below.trans ?_ (Below.mono (by assumption) (by simp <;> omega)) | exact Held.below (w0 := w) (by assumption) | refine Below.setCell ?_ (by simp <;> omega) _ | refine Below.alloc ?_ (by simp <;> omega) _ | refine Below.drew ?_ | refine below_drewN ?_ _)⟩
set_option maxHeartbeats 2000000 in
theorem dparse_c16 (s : ByteArray) (w : World) (h : s.size = 29) (c10 : ((s[10]'(by omega)).toNat : Int) = 84) (c13 : ((s[13]'(by omega)).toNat : Int) = 58) (c16 : (s[16]'(by omega)).toNat ≠ 58) : Calls Tryd.prog 45 #[.string s] w fun e w' => e = .returned (.tuple #[.int .i64 0, .int .i64 0, .int .i64 0, errV 3]) ∧ Below w.heap.size w w' := by
  skip
  go_enter Tryd.func45, Tryd.ntmps45
  go_wp2_with (fail)
  refine bodyPost_ret (v := .tuple #[.int .i64 0, .int .i64 0, .int .i64 0, errV 3]) (by first | (simp [results, Tryd.results45, go_sem]; done) | (simp only [results, Tryd.results45]; go_simp; done)) rfl ⟨rfl, by repeat (first | exact Below.refl _ _ | assumption | refine Below.trans ?_ (Below.mono (by assumption) (by simp <;> omega)) | exact Held.below (w0 := w) (by assumption) | refine Below.setCell ?_ (by simp <;> omega) _ | refine Below.alloc ?_ (by simp <;> omega) _ | refine Below.drew ?_ | refine below_drewN ?_ _)⟩
set_option maxHeartbeats 2000000 in
theorem dparse_c19 (s : ByteArray) (w : World) (h : s.size = 29) (c10 : ((s[10]'(by omega)).toNat : Int) = 84) (c13 : ((s[13]'(by omega)).toNat : Int) = 58) (c16 : ((s[16]'(by omega)).toNat : Int) = 58) (c19 : (s[19]'(by omega)).toNat ≠ 46) : Calls Tryd.prog 45 #[.string s] w fun e w' => e = .returned (.tuple #[.int .i64 0, .int .i64 0, .int .i64 0, errV 3]) ∧ Below w.heap.size w w' := by
  skip
  go_enter Tryd.func45, Tryd.ntmps45
  go_wp2_with (fail)
  refine bodyPost_ret (v := .tuple #[.int .i64 0, .int .i64 0, .int .i64 0, errV 3]) (by first | (simp [results, Tryd.results45, go_sem]; done) | (simp only [results, Tryd.results45]; go_simp; done)) rfl ⟨rfl, by repeat (first | exact Below.refl _ _ | assumption | refine Below.trans ?_ (Below.mono (by assumption) (by simp <;> omega)) | exact Held.below (w0 := w) (by assumption) | refine Below.setCell ?_ (by simp <;> omega) _ | refine Below.alloc ?_ (by simp <;> omega) _ | refine Below.drew ?_ | refine below_drewN ?_ _)⟩
set_option maxHeartbeats 2000000 in
theorem rdparse_size (s : ByteArray) (w : World) (hm : s.size ≤ 9223372036854775807) (h : s.size ≠ 29) : Calls Tryd.prog 46 #[.string s] w fun e w' => e = .returned (.tuple #[.int .i64 0, .int .i64 0, .int .i64 0, .int .i64 3]) ∧ Below w.heap.size w w' := by
  have hn : ((s.size : Int) != 29) = true := by simp; omega
  go_enter Tryd.func46, Tryd.ntmps46
  go_wp2_with (fail)
  refine bodyPost_ret (v := .tuple #[.int .i64 0, .int .i64 0, .int .i64 0, .int .i64 3]) (by first | (simp [results, Tryd.results46, go_sem]; done) | (simp only [results, Tryd.results46]; go_simp; done)) rfl ⟨rfl, by repeat (first | exact Below.refl _ _ | assumption | refine Below.trans ?_ (Below.mono (by assumption) (by simp <;> omega)) | exact Held.below (w0 := w) (by assumption) | refine Below.setCell ?_ (by simp <;> omega) _ | refine Below.alloc ?_ (by simp <;> omega) _ | refine Below.drew ?_ | refine below_drewN ?_ _)⟩
set_option maxHeartbeats 2000000 in
theorem rdparse_c10 (s : ByteArray) (w : World) (h : s.size = 29) (c10 : (s[10]'(by omega)).toNat ≠ 84) : Calls Tryd.prog 46 #[.string s] w fun e w' => e = .returned (.tuple #[.int .i64 0, .int .i64 0, .int .i64 0, .int .i64 3]) ∧ Below w.heap.size w w' := by
  skip
  go_enter Tryd.func46, Tryd.ntmps46
  go_wp2_with (fail)
  refine bodyPost_ret (v := .tuple #[.int .i64 0, .int .i64 0, .int .i64 0, .int .i64 3]) (by first | (simp [results, Tryd.results46, go_sem]; done) | (simp only [results, Tryd.results46]; go_simp; done)) rfl ⟨rfl, by repeat (first | exact Below.refl _ _ | assumption | refine Below.trans ?_ (Below.mono (by assumption) (by simp <;> omega)) | exact Held.below (w0 := w) (by assumption) | refine Below.setCell ?_ (by simp <;> omega) _ | refine Below.alloc ?_ (by simp <;> omega) _ | refine Below.drew ?_ | refine below_drewN ?_ _)⟩
set_option maxHeartbeats 2000000 in
theorem rdparse_c13 (s : ByteArray) (w : World) (h : s.size = 29) (c10 : ((s[10]'(by omega)).toNat : Int) = 84) (c13 : (s[13]'(by omega)).toNat ≠ 58) : Calls Tryd.prog 46 #[.string s] w fun e w' => e = .returned (.tuple #[.int .i64 0, .int .i64 0, .int .i64 0, .int .i64 3]) ∧ Below w.heap.size w w' := by
  skip
  go_enter Tryd.func46, Tryd.ntmps46
  go_wp2_with (fail)
  refine bodyPost_ret (v := .tuple #[.int .i64 0, .int .i64 0, .int .i64 0, .int .i64 3]) (by first | (simp [results, Tryd.results46, go_sem]; done) | (simp only [results, Tryd.results46]; go_simp; done)) rfl ⟨rfl, by repeat (first | exact Below.refl _ _ | assumption | refine Below.trans ?_ (Below.mono (by assumption) (by simp <;> omega)) | exact Held.below (w0 := w) (by assumption) | refine Below.setCell ?_ (by simp <;> omega) _ | refine Below.alloc ?_ (by simp <;> omega) _ | refine Below.drew ?_ | refine below_drewN ?_ _)⟩
set_option maxHeartbeats 2000000 in
theorem rdparse_c16 (s : ByteArray) (w : World) (h : s.size = 29) (c10 : ((s[10]'(by omega)).toNat : Int) = 84) (c13 : ((s[13]'(by omega)).toNat : Int) = 58) (c16 : (s[16]'(by omega)).toNat ≠ 58) : Calls Tryd.prog 46 #[.string s] w fun e w' => e = .returned (.tuple #[.int .i64 0, .int .i64 0, .int .i64 0, .int .i64 3]) ∧ Below w.heap.size w w' := by
  skip
  go_enter Tryd.func46, Tryd.ntmps46
  go_wp2_with (fail)
  refine bodyPost_ret (v := .tuple #[.int .i64 0, .int .i64 0, .int .i64 0, .int .i64 3]) (by first | (simp [results, Tryd.results46, go_sem]; done) | (simp only [results, Tryd.results46]; go_simp; done)) rfl ⟨rfl, by repeat (first | exact Below.refl _ _ | assumption | refine Below.trans ?_ (Below.mono (by assumption) (by simp <;> omega)) | exact Held.below (w0 := w) (by assumption) | refine Below.setCell ?_ (by simp <;> omega) _ | refine Below.alloc ?_ (by simp <;> omega) _ | refine Below.drew ?_ | refine below_drewN ?_ _)⟩
set_option maxHeartbeats 2000000 in
theorem rdparse_c19 (s : ByteArray) (w : World) (h : s.size = 29) (c10 : ((s[10]'(by omega)).toNat : Int) = 84) (c13 : ((s[13]'(by omega)).toNat : Int) = 58) (c16 : ((s[16]'(by omega)).toNat : Int) = 58) (c19 : (s[19]'(by omega)).toNat ≠ 46) : Calls Tryd.prog 46 #[.string s] w fun e w' => e = .returned (.tuple #[.int .i64 0, .int .i64 0, .int .i64 0, .int .i64 3]) ∧ Below w.heap.size w w' := by
  skip
  go_enter Tryd.func46, Tryd.ntmps46
  go_wp2_with (fail)
  refine bodyPost_ret (v := .tuple #[.int .i64 0, .int .i64 0, .int .i64 0, .int .i64 3]) (by first | (simp [results, Tryd.results46, go_sem]; done) | (simp only [results, Tryd.results46]; go_simp; done)) rfl ⟨rfl, by repeat (first | exact Below.refl _ _ | assumption | refine Below.trans ?_ (Below.mono (by assumption) (by simp <;> omega)) | exact Held.below (w0 := w) (by assumption) | refine Below.setCell ?_ (by simp <;> omega) _ | refine Below.alloc ?_ (by simp <;> omega) _ | refine Below.drew ?_ | refine below_drewN ?_ _)⟩
set_option maxHeartbeats 4000000 in
theorem dparse_date (s : ByteArray) (y m d : Int) (w : World) (hg : w.cell? ⟨0, 0, none⟩ = some asHandle) (h : s.size = 29) (c10 : ((s[10]'(by omega)).toNat : Int) = 84) (c13 : ((s[13]'(by omega)).toNat : Int) = 58) (c16 : ((s[16]'(by omega)).toNat : Int) = 58) (c19 : ((s[19]'(by omega)).toNat : Int) = 46) (hp : IsParse (s.extract 0 10) y m d 3) : Calls Tryd.prog 45 #[.string s] w fun e w' => e = .returned (.tuple #[.int .i64 0, .int .i64 0, .int .i64 0, errV 3]) ∧ Below w.heap.size w w' := by
  have hH := Held.start hg
  have e3 := errOf_ne (by decide : ¬ (3 : Int) = 0)
  go_enter Tryd.func45, Tryd.ntmps45
  go_wp2_with (first | (go_at_call 31; (with_reducible refine (parse_f (s.extract 0 10) y m d 3 _ (by simp [ByteArray.size_extract]; try omega) hp).mono ?_); rintro e w' ⟨rfl, hb'⟩; obtain ⟨hc, hf⟩ := bcell hb'; have hz := hb'.size; (try (simp at hz)); have hH' := Held.step (w0 := w) (by repeat (first | assumption | refine Held.alloc ?_ _ | refine Held.drew ?_)) hb'; clear hb'))
  refine bodyPost_ret (v := .tuple #[.int .i64 0, .int .i64 0, .int .i64 0, errV 3]) (by first | (simp [results, Tryd.results45, go_sem]; done) | (simp only [results, Tryd.results45]; go_simp; done)) rfl ⟨rfl, Held.below (w0 := w) (by repeat (first | assumption | refine Held.alloc ?_ _ | refine Held.drew ?_))⟩
set_option maxRecDepth 100000 in
set_option maxHeartbeats 8000000 in
theorem dparse_d1 (s : ByteArray) (y m d : Int) (w : World) (hg : w.cell? ⟨0, 0, none⟩ = some asHandle) (h : s.size = 29) (c10 : ((s[10]'(by omega)).toNat : Int) = 84) (c13 : ((s[13]'(by omega)).toNat : Int) = 58) (c16 : ((s[16]'(by omega)).toNat : Int) = 58) (c19 : ((s[19]'(by omega)).toNat : Int) = 46) (hM : Cal.may y m d) (hp : IsParse (s.extract 0 10) y m d 0) (hd1 : Dig.digB (s.extract 11 13) = false) : Calls Tryd.prog 45 #[.string s] w fun e w' => e = .returned (.tuple #[.int .i64 0, .int .i64 0, .int .i64 0, errV 3]) ∧ Below w.heap.size w w' := by
  have dl := Cal.dim_lo y m
  obtain ⟨q1, q2, q3, q4, q5, q6⟩ := id hM
  have i0 : ∀ (x0 x1 x2 x3 : Value) (w : World), (Instr.index 136 (.agg #[x0, x1, x2, x3]) (.int .i64 0)).run Tryd.prog w = .ok x0 w := fun _ _ _ _ _ => by kernel_rfl
  have i1 : ∀ (x0 x1 x2 x3 : Value) (w : World), (Instr.index 136 (.agg #[x0, x1, x2, x3]) (.int .i64 1)).run Tryd.prog w = .ok x1 w := fun _ _ _ _ _ => by kernel_rfl
  have i2 : ∀ (x0 x1 x2 x3 : Value) (w : World), (Instr.index 136 (.agg #[x0, x1, x2, x3]) (.int .i64 2)).run Tryd.prog w = .ok x2 w := fun _ _ _ _ _ => by kernel_rfl
  have i3 : ∀ (x0 x1 x2 x3 : Value) (w : World), (Instr.index 136 (.agg #[x0, x1, x2, x3]) (.int .i64 3)).run Tryd.prog w = .ok x3 w := fun _ _ _ _ _ => by kernel_rfl
  have hH := Held.start hg
  have e0 := errOf_zero
  go_enter Tryd.func45, Tryd.ntmps45
  go_wp2_with (fail)
  go_at_call 31
  (with_reducible refine (parse_f (s.extract 0 10) y m d 0 _ (by simp [ByteArray.size_extract]; try omega) hp).mono ?_)
  rintro e w1 ⟨rfl, HB⟩
  obtain ⟨hc1, hf1⟩ := bcell HB
  obtain ⟨hd1, hh1⟩ := bcell2 (U := w) (by repeat (first | exact Below.refl _ _ | refine Below.setCell ?_ (by simp <;> omega) _ | refine Below.alloc ?_ (by simp <;> omega) _ | refine Below.drew ?_)) HB
  have hz1 := HB.size
  try simp at hz1
  (try (have z1w0 : w.heap.size < w1.heap.size := (by omega)))
  have hH1 := Held.step (w0 := w) (by repeat (first | assumption | refine Held.alloc ?_ _ | refine Held.drew ?_)) HB
  clear HB
  rw [errOf_zero]
  go_wp2_with (fail)
  go_at_call 20
  (with_reducible refine (days_ok _ _ _ _ (by omega) (by omega) (by omega) hM).mono ?_)
  rintro e w2 ⟨rfl, HB⟩
  obtain ⟨hc2, hf2⟩ := bcell HB
  obtain ⟨hd2, hh2⟩ := bcell2 (U := w1) (by repeat (first | exact Below.refl _ _ | refine Below.setCell ?_ (by simp <;> omega) _ | refine Below.alloc ?_ (by simp <;> omega) _ | refine Below.drew ?_)) HB
  have hz2 := HB.size
  try simp at hz2
  (try (have z2w0 : w.heap.size < w2.heap.size := (by omega)))
  (try (have z2w10 : w1.heap.size < w2.heap.size := (by omega)))
  have hH2 := Held.step (w0 := w) (by repeat (first | assumption | refine Held.alloc ?_ _ | refine Held.drew ?_)) HB
  clear HB
  go_wp2_with (fail)
  go_region
  go_wp2_with (fail)
  refine wp_loop_rounds 5 ?_
  rw [rounds_succ]
  go_wp2_with (first | (go_at_call 87; (with_reducible refine (digits_c _ _ (by simp [ByteArray.size_extract]; try omega)).mono ?_); rintro e w' ⟨rfl, rfl⟩))
  refine bodyPost_ret (v := .tuple #[.int .i64 0, .int .i64 0, .int .i64 0, errV 3]) (by first | (simp [results, Tryd.results45, go_sem]; done) | (simp only [results, Tryd.results45]; go_simp; done)) rfl ⟨rfl, ?_⟩
  first | exact Held.below (w0 := w) (by repeat (first | assumption | refine Held.alloc ?_ _ | refine Held.drew ?_ | refine Held.drewN ?_ _)) | (repeat (first | exact Below.refl _ _ | assumption | refine Below.trans ?_ (Below.mono (by assumption) (by simp <;> omega)) | exact Held.below (w0 := w) (by assumption) | refine Below.setCell ?_ (by simp <;> omega) _ | refine Below.alloc ?_ (by simp <;> omega) _ | refine Below.drew ?_ | refine below_drewN ?_ _))
set_option maxRecDepth 100000 in
set_option maxHeartbeats 8000000 in
theorem dparse_d2 (s : ByteArray) (y m d : Int) (w : World) (hg : w.cell? ⟨0, 0, none⟩ = some asHandle) (h : s.size = 29) (c10 : ((s[10]'(by omega)).toNat : Int) = 84) (c13 : ((s[13]'(by omega)).toNat : Int) = 58) (c16 : ((s[16]'(by omega)).toNat : Int) = 58) (c19 : ((s[19]'(by omega)).toNat : Int) = 46) (hM : Cal.may y m d) (hp : IsParse (s.extract 0 10) y m d 0) (hd1 : Dig.digB (s.extract 11 13) = true) (hd2 : Dig.digB (s.extract 14 16) = false) : Calls Tryd.prog 45 #[.string s] w fun e w' => e = .returned (.tuple #[.int .i64 0, .int .i64 0, .int .i64 0, errV 3]) ∧ Below w.heap.size w w' := by
  have dl := Cal.dim_lo y m
  obtain ⟨q1, q2, q3, q4, q5, q6⟩ := id hM
  have i0 : ∀ (x0 x1 x2 x3 : Value) (w : World), (Instr.index 136 (.agg #[x0, x1, x2, x3]) (.int .i64 0)).run Tryd.prog w = .ok x0 w := fun _ _ _ _ _ => by kernel_rfl
  have i1 : ∀ (x0 x1 x2 x3 : Value) (w : World), (Instr.index 136 (.agg #[x0, x1, x2, x3]) (.int .i64 1)).run Tryd.prog w = .ok x1 w := fun _ _ _ _ _ => by kernel_rfl
  have i2 : ∀ (x0 x1 x2 x3 : Value) (w : World), (Instr.index 136 (.agg #[x0, x1, x2, x3]) (.int .i64 2)).run Tryd.prog w = .ok x2 w := fun _ _ _ _ _ => by kernel_rfl
  have i3 : ∀ (x0 x1 x2 x3 : Value) (w : World), (Instr.index 136 (.agg #[x0, x1, x2, x3]) (.int .i64 3)).run Tryd.prog w = .ok x3 w := fun _ _ _ _ _ => by kernel_rfl
  have hH := Held.start hg
  have e0 := errOf_zero
  go_enter Tryd.func45, Tryd.ntmps45
  go_wp2_with (fail)
  go_at_call 31
  (with_reducible refine (parse_f (s.extract 0 10) y m d 0 _ (by simp [ByteArray.size_extract]; try omega) hp).mono ?_)
  rintro e w1 ⟨rfl, HB⟩
  obtain ⟨hc1, hf1⟩ := bcell HB
  obtain ⟨hd1, hh1⟩ := bcell2 (U := w) (by repeat (first | exact Below.refl _ _ | refine Below.setCell ?_ (by simp <;> omega) _ | refine Below.alloc ?_ (by simp <;> omega) _ | refine Below.drew ?_)) HB
  have hz1 := HB.size
  try simp at hz1
  (try (have z1w0 : w.heap.size < w1.heap.size := (by omega)))
  have hH1 := Held.step (w0 := w) (by repeat (first | assumption | refine Held.alloc ?_ _ | refine Held.drew ?_)) HB
  clear HB
  rw [errOf_zero]
  go_wp2_with (fail)
  go_at_call 20
  (with_reducible refine (days_ok _ _ _ _ (by omega) (by omega) (by omega) hM).mono ?_)
  rintro e w2 ⟨rfl, HB⟩
  obtain ⟨hc2, hf2⟩ := bcell HB
  obtain ⟨hd2, hh2⟩ := bcell2 (U := w1) (by repeat (first | exact Below.refl _ _ | refine Below.setCell ?_ (by simp <;> omega) _ | refine Below.alloc ?_ (by simp <;> omega) _ | refine Below.drew ?_)) HB
  have hz2 := HB.size
  try simp at hz2
  (try (have z2w0 : w.heap.size < w2.heap.size := (by omega)))
  (try (have z2w10 : w1.heap.size < w2.heap.size := (by omega)))
  have hH2 := Held.step (w0 := w) (by repeat (first | assumption | refine Held.alloc ?_ _ | refine Held.drew ?_)) HB
  clear HB
  go_wp2_with (fail)
  go_region
  go_wp2_with (fail)
  refine wp_loop_rounds 5 ?_
  rw [rounds_succ]
  go_wp2_with (first | (go_at_call 87; (with_reducible refine (digits_c _ _ (by simp [ByteArray.size_extract]; try omega)).mono ?_); rintro e w' ⟨rfl, rfl⟩))
  rw [rounds_succ]
  go_wp2_with (first | (go_at_call 87; (with_reducible refine (digits_c _ _ (by simp [ByteArray.size_extract]; try omega)).mono ?_); rintro e w' ⟨rfl, rfl⟩))
  refine bodyPost_ret (v := .tuple #[.int .i64 0, .int .i64 0, .int .i64 0, errV 3]) (by first | (simp [results, Tryd.results45, go_sem]; done) | (simp only [results, Tryd.results45]; go_simp; done)) rfl ⟨rfl, ?_⟩
  first | exact Held.below (w0 := w) (by repeat (first | assumption | refine Held.alloc ?_ _ | refine Held.drew ?_ | refine Held.drewN ?_ _)) | (repeat (first | exact Below.refl _ _ | assumption | refine Below.trans ?_ (Below.mono (by assumption) (by simp <;> omega)) | exact Held.below (w0 := w) (by assumption) | refine Below.setCell ?_ (by simp <;> omega) _ | refine Below.alloc ?_ (by simp <;> omega) _ | refine Below.drew ?_ | refine below_drewN ?_ _))
set_option maxRecDepth 100000 in
set_option maxHeartbeats 8000000 in
theorem dparse_d3 (s : ByteArray) (y m d : Int) (w : World) (hg : w.cell? ⟨0, 0, none⟩ = some asHandle) (h : s.size = 29) (c10 : ((s[10]'(by omega)).toNat : Int) = 84) (c13 : ((s[13]'(by omega)).toNat : Int) = 58) (c16 : ((s[16]'(by omega)).toNat : Int) = 58) (c19 : ((s[19]'(by omega)).toNat : Int) = 46) (hM : Cal.may y m d) (hp : IsParse (s.extract 0 10) y m d 0) (hd1 : Dig.digB (s.extract 11 13) = true) (hd2 : Dig.digB (s.extract 14 16) = true) (hd3 : Dig.digB (s.extract 17 19) = false) : Calls Tryd.prog 45 #[.string s] w fun e w' => e = .returned (.tuple #[.int .i64 0, .int .i64 0, .int .i64 0, errV 3]) ∧ Below w.heap.size w w' := by
  have dl := Cal.dim_lo y m
  obtain ⟨q1, q2, q3, q4, q5, q6⟩ := id hM
  have i0 : ∀ (x0 x1 x2 x3 : Value) (w : World), (Instr.index 136 (.agg #[x0, x1, x2, x3]) (.int .i64 0)).run Tryd.prog w = .ok x0 w := fun _ _ _ _ _ => by kernel_rfl
  have i1 : ∀ (x0 x1 x2 x3 : Value) (w : World), (Instr.index 136 (.agg #[x0, x1, x2, x3]) (.int .i64 1)).run Tryd.prog w = .ok x1 w := fun _ _ _ _ _ => by kernel_rfl
  have i2 : ∀ (x0 x1 x2 x3 : Value) (w : World), (Instr.index 136 (.agg #[x0, x1, x2, x3]) (.int .i64 2)).run Tryd.prog w = .ok x2 w := fun _ _ _ _ _ => by kernel_rfl
  have i3 : ∀ (x0 x1 x2 x3 : Value) (w : World), (Instr.index 136 (.agg #[x0, x1, x2, x3]) (.int .i64 3)).run Tryd.prog w = .ok x3 w := fun _ _ _ _ _ => by kernel_rfl
  have hH := Held.start hg
  have e0 := errOf_zero
  go_enter Tryd.func45, Tryd.ntmps45
  go_wp2_with (fail)
  go_at_call 31
  (with_reducible refine (parse_f (s.extract 0 10) y m d 0 _ (by simp [ByteArray.size_extract]; try omega) hp).mono ?_)
  rintro e w1 ⟨rfl, HB⟩
  obtain ⟨hc1, hf1⟩ := bcell HB
  obtain ⟨hd1, hh1⟩ := bcell2 (U := w) (by repeat (first | exact Below.refl _ _ | refine Below.setCell ?_ (by simp <;> omega) _ | refine Below.alloc ?_ (by simp <;> omega) _ | refine Below.drew ?_)) HB
  have hz1 := HB.size
  try simp at hz1
  (try (have z1w0 : w.heap.size < w1.heap.size := (by omega)))
  have hH1 := Held.step (w0 := w) (by repeat (first | assumption | refine Held.alloc ?_ _ | refine Held.drew ?_)) HB
  clear HB
  rw [errOf_zero]
  go_wp2_with (fail)
  go_at_call 20
  (with_reducible refine (days_ok _ _ _ _ (by omega) (by omega) (by omega) hM).mono ?_)
  rintro e w2 ⟨rfl, HB⟩
  obtain ⟨hc2, hf2⟩ := bcell HB
  obtain ⟨hd2, hh2⟩ := bcell2 (U := w1) (by repeat (first | exact Below.refl _ _ | refine Below.setCell ?_ (by simp <;> omega) _ | refine Below.alloc ?_ (by simp <;> omega) _ | refine Below.drew ?_)) HB
  have hz2 := HB.size
  try simp at hz2
  (try (have z2w0 : w.heap.size < w2.heap.size := (by omega)))
  (try (have z2w10 : w1.heap.size < w2.heap.size := (by omega)))
  have hH2 := Held.step (w0 := w) (by repeat (first | assumption | refine Held.alloc ?_ _ | refine Held.drew ?_)) HB
  clear HB
  go_wp2_with (fail)
  go_region
  go_wp2_with (fail)
  refine wp_loop_rounds 5 ?_
  rw [rounds_succ]
  go_wp2_with (first | (go_at_call 87; (with_reducible refine (digits_c _ _ (by simp [ByteArray.size_extract]; try omega)).mono ?_); rintro e w' ⟨rfl, rfl⟩))
  rw [rounds_succ]
  go_wp2_with (first | (go_at_call 87; (with_reducible refine (digits_c _ _ (by simp [ByteArray.size_extract]; try omega)).mono ?_); rintro e w' ⟨rfl, rfl⟩))
  rw [rounds_succ]
  go_wp2_with (first | (go_at_call 87; (with_reducible refine (digits_c _ _ (by simp [ByteArray.size_extract]; try omega)).mono ?_); rintro e w' ⟨rfl, rfl⟩))
  refine bodyPost_ret (v := .tuple #[.int .i64 0, .int .i64 0, .int .i64 0, errV 3]) (by first | (simp [results, Tryd.results45, go_sem]; done) | (simp only [results, Tryd.results45]; go_simp; done)) rfl ⟨rfl, ?_⟩
  first | exact Held.below (w0 := w) (by repeat (first | assumption | refine Held.alloc ?_ _ | refine Held.drew ?_ | refine Held.drewN ?_ _)) | (repeat (first | exact Below.refl _ _ | assumption | refine Below.trans ?_ (Below.mono (by assumption) (by simp <;> omega)) | exact Held.below (w0 := w) (by assumption) | refine Below.setCell ?_ (by simp <;> omega) _ | refine Below.alloc ?_ (by simp <;> omega) _ | refine Below.drew ?_ | refine below_drewN ?_ _))
set_option maxRecDepth 100000 in
set_option maxHeartbeats 8000000 in
theorem dparse_d4 (s : ByteArray) (y m d : Int) (w : World) (hg : w.cell? ⟨0, 0, none⟩ = some asHandle) (h : s.size = 29) (c10 : ((s[10]'(by omega)).toNat : Int) = 84) (c13 : ((s[13]'(by omega)).toNat : Int) = 58) (c16 : ((s[16]'(by omega)).toNat : Int) = 58) (c19 : ((s[19]'(by omega)).toNat : Int) = 46) (hM : Cal.may y m d) (hp : IsParse (s.extract 0 10) y m d 0) (hd1 : Dig.digB (s.extract 11 13) = true) (hd2 : Dig.digB (s.extract 14 16) = true) (hd3 : Dig.digB (s.extract 17 19) = true) (hd4 : Dig.digB (s.extract 20 29) = false) : Calls Tryd.prog 45 #[.string s] w fun e w' => e = .returned (.tuple #[.int .i64 0, .int .i64 0, .int .i64 0, errV 3]) ∧ Below w.heap.size w w' := by
  have dl := Cal.dim_lo y m
  obtain ⟨q1, q2, q3, q4, q5, q6⟩ := id hM
  have i0 : ∀ (x0 x1 x2 x3 : Value) (w : World), (Instr.index 136 (.agg #[x0, x1, x2, x3]) (.int .i64 0)).run Tryd.prog w = .ok x0 w := fun _ _ _ _ _ => by kernel_rfl
  have i1 : ∀ (x0 x1 x2 x3 : Value) (w : World), (Instr.index 136 (.agg #[x0, x1, x2, x3]) (.int .i64 1)).run Tryd.prog w = .ok x1 w := fun _ _ _ _ _ => by kernel_rfl
  have i2 : ∀ (x0 x1 x2 x3 : Value) (w : World), (Instr.index 136 (.agg #[x0, x1, x2, x3]) (.int .i64 2)).run Tryd.prog w = .ok x2 w := fun _ _ _ _ _ => by kernel_rfl
  have i3 : ∀ (x0 x1 x2 x3 : Value) (w : World), (Instr.index 136 (.agg #[x0, x1, x2, x3]) (.int .i64 3)).run Tryd.prog w = .ok x3 w := fun _ _ _ _ _ => by kernel_rfl
  have hH := Held.start hg
  have e0 := errOf_zero
  go_enter Tryd.func45, Tryd.ntmps45
  go_wp2_with (fail)
  go_at_call 31
  (with_reducible refine (parse_f (s.extract 0 10) y m d 0 _ (by simp [ByteArray.size_extract]; try omega) hp).mono ?_)
  rintro e w1 ⟨rfl, HB⟩
  obtain ⟨hc1, hf1⟩ := bcell HB
  obtain ⟨hd1, hh1⟩ := bcell2 (U := w) (by repeat (first | exact Below.refl _ _ | refine Below.setCell ?_ (by simp <;> omega) _ | refine Below.alloc ?_ (by simp <;> omega) _ | refine Below.drew ?_)) HB
  have hz1 := HB.size
  try simp at hz1
  (try (have z1w0 : w.heap.size < w1.heap.size := (by omega)))
  have hH1 := Held.step (w0 := w) (by repeat (first | assumption | refine Held.alloc ?_ _ | refine Held.drew ?_)) HB
  clear HB
  rw [errOf_zero]
  go_wp2_with (fail)
  go_at_call 20
  (with_reducible refine (days_ok _ _ _ _ (by omega) (by omega) (by omega) hM).mono ?_)
  rintro e w2 ⟨rfl, HB⟩
  obtain ⟨hc2, hf2⟩ := bcell HB
  obtain ⟨hd2, hh2⟩ := bcell2 (U := w1) (by repeat (first | exact Below.refl _ _ | refine Below.setCell ?_ (by simp <;> omega) _ | refine Below.alloc ?_ (by simp <;> omega) _ | refine Below.drew ?_)) HB
  have hz2 := HB.size
  try simp at hz2
  (try (have z2w0 : w.heap.size < w2.heap.size := (by omega)))
  (try (have z2w10 : w1.heap.size < w2.heap.size := (by omega)))
  have hH2 := Held.step (w0 := w) (by repeat (first | assumption | refine Held.alloc ?_ _ | refine Held.drew ?_)) HB
  clear HB
  go_wp2_with (fail)
  go_region
  go_wp2_with (fail)
  refine wp_loop_rounds 5 ?_
  rw [rounds_succ]
  go_wp2_with (first | (go_at_call 87; (with_reducible refine (digits_c _ _ (by simp [ByteArray.size_extract]; try omega)).mono ?_); rintro e w' ⟨rfl, rfl⟩))
  rw [rounds_succ]
  go_wp2_with (first | (go_at_call 87; (with_reducible refine (digits_c _ _ (by simp [ByteArray.size_extract]; try omega)).mono ?_); rintro e w' ⟨rfl, rfl⟩))
  rw [rounds_succ]
  go_wp2_with (first | (go_at_call 87; (with_reducible refine (digits_c _ _ (by simp [ByteArray.size_extract]; try omega)).mono ?_); rintro e w' ⟨rfl, rfl⟩))
  rw [rounds_succ]
  go_wp2_with (first | (go_at_call 87; (with_reducible refine (digits_c _ _ (by simp [ByteArray.size_extract]; try omega)).mono ?_); rintro e w' ⟨rfl, rfl⟩))
  refine bodyPost_ret (v := .tuple #[.int .i64 0, .int .i64 0, .int .i64 0, errV 3]) (by first | (simp [results, Tryd.results45, go_sem]; done) | (simp only [results, Tryd.results45]; go_simp; done)) rfl ⟨rfl, ?_⟩
  first | exact Held.below (w0 := w) (by repeat (first | assumption | refine Held.alloc ?_ _ | refine Held.drew ?_ | refine Held.drewN ?_ _)) | (repeat (first | exact Below.refl _ _ | assumption | refine Below.trans ?_ (Below.mono (by assumption) (by simp <;> omega)) | exact Held.below (w0 := w) (by assumption) | refine Below.setCell ?_ (by simp <;> omega) _ | refine Below.alloc ?_ (by simp <;> omega) _ | refine Below.drew ?_ | refine below_drewN ?_ _))
set_option maxRecDepth 100000 in
set_option maxHeartbeats 8000000 in
theorem dparse_tno (s : ByteArray) (y m d : Int) (w : World) (hg : w.cell? ⟨0, 0, none⟩ = some asHandle) (h : s.size = 29) (c10 : ((s[10]'(by omega)).toNat : Int) = 84) (c13 : ((s[13]'(by omega)).toNat : Int) = 58) (c16 : ((s[16]'(by omega)).toNat : Int) = 58) (c19 : ((s[19]'(by omega)).toNat : Int) = 46) (hM : Cal.may y m d) (hp : IsParse (s.extract 0 10) y m d 0) (hd1 : Dig.digB (s.extract 11 13) = true) (hd2 : Dig.digB (s.extract 14 16) = true) (hd3 : Dig.digB (s.extract 17 19) = true) (hd4 : Dig.digB (s.extract 20 29) = true) (ht : ¬ TimeOK (Dig.numS 0 (s.extract 11 13)) (Dig.numS 0 (s.extract 14 16)) (Dig.numS 0 (s.extract 17 19))) : Calls Tryd.prog 45 #[.string s] w fun e w' => e = .returned (.tuple #[.int .i64 0, .int .i64 0, .int .i64 0, errV 3]) ∧ Below w.heap.size w w' := by
  have dl := Cal.dim_lo y m
  obtain ⟨q1, q2, q3, q4, q5, q6⟩ := id hM
  have b0 := Dig.numS_bd 0 (s.extract 11 13) (by omega) (by simp [ByteArray.size_extract]; try omega)
  have b1 := Dig.numS_bd 0 (s.extract 14 16) (by omega) (by simp [ByteArray.size_extract]; try omega)
  have b2 := Dig.numS_bd 0 (s.extract 17 19) (by omega) (by simp [ByteArray.size_extract]; try omega)
  have b3 := Dig.numS_bd 0 (s.extract 20 29) (by omega) (by simp [ByteArray.size_extract]; try omega)
  have i0 : ∀ (x0 x1 x2 x3 : Value) (w : World), (Instr.index 136 (.agg #[x0, x1, x2, x3]) (.int .i64 0)).run Tryd.prog w = .ok x0 w := fun _ _ _ _ _ => by kernel_rfl
  have i1 : ∀ (x0 x1 x2 x3 : Value) (w : World), (Instr.index 136 (.agg #[x0, x1, x2, x3]) (.int .i64 1)).run Tryd.prog w = .ok x1 w := fun _ _ _ _ _ => by kernel_rfl
  have i2 : ∀ (x0 x1 x2 x3 : Value) (w : World), (Instr.index 136 (.agg #[x0, x1, x2, x3]) (.int .i64 2)).run Tryd.prog w = .ok x2 w := fun _ _ _ _ _ => by kernel_rfl
  have i3 : ∀ (x0 x1 x2 x3 : Value) (w : World), (Instr.index 136 (.agg #[x0, x1, x2, x3]) (.int .i64 3)).run Tryd.prog w = .ok x3 w := fun _ _ _ _ _ => by kernel_rfl
  have hH := Held.start hg
  have e0 := errOf_zero
  go_enter Tryd.func45, Tryd.ntmps45
  go_wp2_with (fail)
  go_at_call 31
  (with_reducible refine (parse_f (s.extract 0 10) y m d 0 _ (by simp [ByteArray.size_extract]; try omega) hp).mono ?_)
  rintro e w1 ⟨rfl, HB⟩
  obtain ⟨hc1, hf1⟩ := bcell HB
  obtain ⟨hd1, hh1⟩ := bcell2 (U := w) (by repeat (first | exact Below.refl _ _ | refine Below.setCell ?_ (by simp <;> omega) _ | refine Below.alloc ?_ (by simp <;> omega) _ | refine Below.drew ?_)) HB
  have hz1 := HB.size
  try simp at hz1
  (try (have z1w0 : w.heap.size < w1.heap.size := (by omega)))
  have hH1 := Held.step (w0 := w) (by repeat (first | assumption | refine Held.alloc ?_ _ | refine Held.drew ?_)) HB
  clear HB
  rw [errOf_zero]
  go_wp2_with (fail)
  go_at_call 20
  (with_reducible refine (days_ok _ _ _ _ (by omega) (by omega) (by omega) hM).mono ?_)
  rintro e w2 ⟨rfl, HB⟩
  obtain ⟨hc2, hf2⟩ := bcell HB
  obtain ⟨hd2, hh2⟩ := bcell2 (U := w1) (by repeat (first | exact Below.refl _ _ | refine Below.setCell ?_ (by simp <;> omega) _ | refine Below.alloc ?_ (by simp <;> omega) _ | refine Below.drew ?_)) HB
  have hz2 := HB.size
  try simp at hz2
  (try (have z2w0 : w.heap.size < w2.heap.size := (by omega)))
  (try (have z2w10 : w1.heap.size < w2.heap.size := (by omega)))
  have hH2 := Held.step (w0 := w) (by repeat (first | assumption | refine Held.alloc ?_ _ | refine Held.drew ?_)) HB
  clear HB
  go_wp2_with (fail)
  go_region
  go_wp2_with (fail)
  refine wp_loop_rounds 5 ?_
  rw [rounds_succ]
  go_wp2_with (first | (go_at_call 87; (with_reducible refine (digits_c _ _ (by simp [ByteArray.size_extract]; try omega)).mono ?_); rintro e w' ⟨rfl, rfl⟩))
  rw [rounds_succ]
  go_wp2_with (first | (go_at_call 87; (with_reducible refine (digits_c _ _ (by simp [ByteArray.size_extract]; try omega)).mono ?_); rintro e w' ⟨rfl, rfl⟩))
  rw [rounds_succ]
  go_wp2_with (first | (go_at_call 87; (with_reducible refine (digits_c _ _ (by simp [ByteArray.size_extract]; try omega)).mono ?_); rintro e w' ⟨rfl, rfl⟩))
  rw [rounds_succ]
  go_wp2_with (first | (go_at_call 87; (with_reducible refine (digits_c _ _ (by simp [ByteArray.size_extract]; try omega)).mono ?_); rintro e w' ⟨rfl, rfl⟩))
  rw [rounds_succ]
  go_wp2_with (fail)
  go_at_call 36
  (with_reducible refine (dsec_no _ _ _ _ (Held.handle (w0 := w) (by repeat (first | assumption | refine Held.alloc ?_ _ | refine Held.drew ?_))) (by omega) (by omega) (by omega) ht).mono ?_)
  rintro e w3 ⟨rfl, HB⟩
  obtain ⟨hc3, hf3⟩ := bcell HB
  obtain ⟨hd3, hh3⟩ := bcell2 (U := w2) (by repeat (first | exact Below.refl _ _ | refine Below.setCell ?_ (by simp <;> omega) _ | refine Below.alloc ?_ (by simp <;> omega) _ | refine Below.drew ?_)) HB
  have hz3 := HB.size
  try simp at hz3
  (try (have z3w0 : w.heap.size < w3.heap.size := (by omega)))
  (try (have z3w1 : w.heap.size + 1 < w3.heap.size := (by omega)))
  (try (have z3w10 : w1.heap.size < w3.heap.size := (by omega)))
  (try (have z3w11 : w1.heap.size + 1 < w3.heap.size := (by omega)))
  (try (have z3w20 : w2.heap.size < w3.heap.size := (by omega)))
  (try (have z3w21 : w2.heap.size + 1 < w3.heap.size := (by omega)))
  have hH3 := Held.step (w0 := w) (by repeat (first | assumption | refine Held.alloc ?_ _ | refine Held.drew ?_)) HB
  clear HB
  go_wp2_with (fail)
  refine bodyPost_ret (v := .tuple #[.int .i64 0, .int .i64 0, .int .i64 0, errV 3]) (by first | (simp [results, Tryd.results45, go_sem]; done) | (simp only [results, Tryd.results45]; go_simp; done)) rfl ⟨rfl, ?_⟩
  first | exact Held.below (w0 := w) (by repeat (first | assumption | refine Held.alloc ?_ _ | refine Held.drew ?_ | refine Held.drewN ?_ _)) | (repeat (first | exact Below.refl _ _ | assumption | refine Below.trans ?_ (Below.mono (by assumption) (by simp <;> omega)) | exact Held.below (w0 := w) (by assumption) | refine Below.setCell ?_ (by simp <;> omega) _ | refine Below.alloc ?_ (by simp <;> omega) _ | refine Below.drew ?_ | refine below_drewN ?_ _))
set_option maxRecDepth 100000 in
set_option maxHeartbeats 8000000 in
theorem dparse_tok (s : ByteArray) (y m d : Int) (w : World) (hg : w.cell? ⟨0, 0, none⟩ = some asHandle) (h : s.size = 29) (c10 : ((s[10]'(by omega)).toNat : Int) = 84) (c13 : ((s[13]'(by omega)).toNat : Int) = 58) (c16 : ((s[16]'(by omega)).toNat : Int) = 58) (c19 : ((s[19]'(by omega)).toNat : Int) = 46) (hM : Cal.may y m d) (hp : IsParse (s.extract 0 10) y m d 0) (hd1 : Dig.digB (s.extract 11 13) = true) (hd2 : Dig.digB (s.extract 14 16) = true) (hd3 : Dig.digB (s.extract 17 19) = true) (hd4 : Dig.digB (s.extract 20 29) = true) (ht : TimeOK (Dig.numS 0 (s.extract 11 13)) (Dig.numS 0 (s.extract 14 16)) (Dig.numS 0 (s.extract 17 19))) : Calls Tryd.prog 45 #[.string s] w fun e w' => e = .returned (.tuple #[.int .i64 (Cal.num y m d), .int .i64 (secF (Dig.numS 0 (s.extract 11 13)) (Dig.numS 0 (s.extract 14 16)) (Dig.numS 0 (s.extract 17 19))), .int .i64 (Dig.numS 0 (s.extract 20 29)), .nilIface]) ∧ Below w.heap.size w w' := by
  have dl := Cal.dim_lo y m
  obtain ⟨q1, q2, q3, q4, q5, q6⟩ := id hM
  have b0 := Dig.numS_bd 0 (s.extract 11 13) (by omega) (by simp [ByteArray.size_extract]; try omega)
  have b1 := Dig.numS_bd 0 (s.extract 14 16) (by omega) (by simp [ByteArray.size_extract]; try omega)
  have b2 := Dig.numS_bd 0 (s.extract 17 19) (by omega) (by simp [ByteArray.size_extract]; try omega)
  have b3 := Dig.numS_bd 0 (s.extract 20 29) (by omega) (by simp [ByteArray.size_extract]; try omega)
  have i0 : ∀ (x0 x1 x2 x3 : Value) (w : World), (Instr.index 136 (.agg #[x0, x1, x2, x3]) (.int .i64 0)).run Tryd.prog w = .ok x0 w := fun _ _ _ _ _ => by kernel_rfl
  have i1 : ∀ (x0 x1 x2 x3 : Value) (w : World), (Instr.index 136 (.agg #[x0, x1, x2, x3]) (.int .i64 1)).run Tryd.prog w = .ok x1 w := fun _ _ _ _ _ => by kernel_rfl
  have i2 : ∀ (x0 x1 x2 x3 : Value) (w : World), (Instr.index 136 (.agg #[x0, x1, x2, x3]) (.int .i64 2)).run Tryd.prog w = .ok x2 w := fun _ _ _ _ _ => by kernel_rfl
  have i3 : ∀ (x0 x1 x2 x3 : Value) (w : World), (Instr.index 136 (.agg #[x0, x1, x2, x3]) (.int .i64 3)).run Tryd.prog w = .ok x3 w := fun _ _ _ _ _ => by kernel_rfl
  have hH := Held.start hg
  have e0 := errOf_zero
  go_enter Tryd.func45, Tryd.ntmps45
  go_wp2_with (fail)
  go_at_call 31
  (with_reducible refine (parse_f (s.extract 0 10) y m d 0 _ (by simp [ByteArray.size_extract]; try omega) hp).mono ?_)
  rintro e w1 ⟨rfl, HB⟩
  obtain ⟨hc1, hf1⟩ := bcell HB
  obtain ⟨hd1, hh1⟩ := bcell2 (U := w) (by repeat (first | exact Below.refl _ _ | refine Below.setCell ?_ (by simp <;> omega) _ | refine Below.alloc ?_ (by simp <;> omega) _ | refine Below.drew ?_)) HB
  have hz1 := HB.size
  try simp at hz1
  (try (have z1w0 : w.heap.size < w1.heap.size := (by omega)))
  have hH1 := Held.step (w0 := w) (by repeat (first | assumption | refine Held.alloc ?_ _ | refine Held.drew ?_)) HB
  clear HB
  rw [errOf_zero]
  go_wp2_with (fail)
  go_at_call 20
  (with_reducible refine (days_ok _ _ _ _ (by omega) (by omega) (by omega) hM).mono ?_)
  rintro e w2 ⟨rfl, HB⟩
  obtain ⟨hc2, hf2⟩ := bcell HB
  obtain ⟨hd2, hh2⟩ := bcell2 (U := w1) (by repeat (first | exact Below.refl _ _ | refine Below.setCell ?_ (by simp <;> omega) _ | refine Below.alloc ?_ (by simp <;> omega) _ | refine Below.drew ?_)) HB
  have hz2 := HB.size
  try simp at hz2
  (try (have z2w0 : w.heap.size < w2.heap.size := (by omega)))
  (try (have z2w10 : w1.heap.size < w2.heap.size := (by omega)))
  have hH2 := Held.step (w0 := w) (by repeat (first | assumption | refine Held.alloc ?_ _ | refine Held.drew ?_)) HB
  clear HB
  go_wp2_with (fail)
  go_region
  go_wp2_with (fail)
  refine wp_loop_rounds 5 ?_
  rw [rounds_succ]
  go_wp2_with (first | (go_at_call 87; (with_reducible refine (digits_c _ _ (by simp [ByteArray.size_extract]; try omega)).mono ?_); rintro e w' ⟨rfl, rfl⟩))
  rw [rounds_succ]
  go_wp2_with (first | (go_at_call 87; (with_reducible refine (digits_c _ _ (by simp [ByteArray.size_extract]; try omega)).mono ?_); rintro e w' ⟨rfl, rfl⟩))
  rw [rounds_succ]
  go_wp2_with (first | (go_at_call 87; (with_reducible refine (digits_c _ _ (by simp [ByteArray.size_extract]; try omega)).mono ?_); rintro e w' ⟨rfl, rfl⟩))
  rw [rounds_succ]
  go_wp2_with (first | (go_at_call 87; (with_reducible refine (digits_c _ _ (by simp [ByteArray.size_extract]; try omega)).mono ?_); rintro e w' ⟨rfl, rfl⟩))
  rw [rounds_succ]
  go_wp2_with (fail)
  go_at_call 36
  (with_reducible refine (dsec_ok _ _ _ _ (Held.handle (w0 := w) (by repeat (first | assumption | refine Held.alloc ?_ _ | refine Held.drew ?_))) (by omega) (by omega) (by omega) ht).mono ?_)
  rintro e w3 ⟨rfl, HB⟩
  obtain ⟨hc3, hf3⟩ := bcell HB
  obtain ⟨hd3, hh3⟩ := bcell2 (U := w2) (by repeat (first | exact Below.refl _ _ | refine Below.setCell ?_ (by simp <;> omega) _ | refine Below.alloc ?_ (by simp <;> omega) _ | refine Below.drew ?_)) HB
  have hz3 := HB.size
  try simp at hz3
  (try (have z3w0 : w.heap.size < w3.heap.size := (by omega)))
  (try (have z3w1 : w.heap.size + 1 < w3.heap.size := (by omega)))
  (try (have z3w10 : w1.heap.size < w3.heap.size := (by omega)))
  (try (have z3w11 : w1.heap.size + 1 < w3.heap.size := (by omega)))
  (try (have z3w20 : w2.heap.size < w3.heap.size := (by omega)))
  (try (have z3w21 : w2.heap.size + 1 < w3.heap.size := (by omega)))
  have hH3 := Held.step (w0 := w) (by repeat (first | assumption | refine Held.alloc ?_ _ | refine Held.drew ?_)) HB
  clear HB
  go_wp2_with (fail)
  go_quiet (fail)
  go_wp2_with (fail)
  refine bodyPost_ret (v := .tuple #[.int .i64 (Cal.num y m d), .int .i64 (secF (Dig.numS 0 (s.extract 11 13)) (Dig.numS 0 (s.extract 14 16)) (Dig.numS 0 (s.extract 17 19))), .int .i64 (Dig.numS 0 (s.extract 20 29)), .nilIface]) (by first | (simp [results, Tryd.results45, go_sem]; done) | (simp only [results, Tryd.results45]; go_simp; done)) rfl ⟨rfl, ?_⟩
  first | exact Held.below (w0 := w) (by repeat (first | assumption | refine Held.alloc ?_ _ | refine Held.drew ?_ | refine Held.drewN ?_ _)) | (repeat (first | exact Below.refl _ _ | assumption | refine Below.trans ?_ (Below.mono (by assumption) (by simp <;> omega)) | exact Held.below (w0 := w) (by assumption) | refine Below.setCell ?_ (by simp <;> omega) _ | refine Below.alloc ?_ (by simp <;> omega) _ | refine Below.drew ?_ | refine below_drewN ?_ _))
end Go.Proofs.YtengchkiejpglaaDoor
