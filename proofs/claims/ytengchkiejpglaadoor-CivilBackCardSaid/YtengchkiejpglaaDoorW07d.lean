/-
  Layer 7: numbers as texts.
-/
import Derived.Test.YtengchkiejpglaaDoorW07c
import Derived.Test.YtengchkiejpglaaDoorDig
import Derived.Test.YtengchkiejpglaaDoorShelf
import Derived.Lib.AppendIntMem
import Derived.LoopTactic
namespace Go.Proofs.YtengchkiejpglaaDoor
open Go.RowKit Go.Extern.Stop Go.Stop Go.Extern
set_option linter.unusedVariables false
set_option linter.unusedSimpArgs false
abbrev Tab (w : World) : Prop := Lib.TabIs Tryd.prog w "internal/strconv.uint64pow10" .u64 Lib.pow10Tab
theorem Tab.below {w w' : World} (h : Tab w) (hb : Below w.heap.size w w') : Tab w' := tab_below (g := 3) (by kernel_rfl) h hb
theorem itoa_c (n : Int) (w : World) (ht : Tab w) (h0 : 0 ≤ n) (h1 : n ≤ 9223372036854775807) : Calls Tryd.prog 107 #[.int .i64 n] w fun e w' => e = .returned (.string ⟨(Lib.decDigits n.toNat).toArray⟩) ∧ Below w.heap.size w w' :=
  (Tryd.strconv_Itoa n (by omega) h1 w ht).mono fun e w' ⟨he, k, os, hw⟩ => ⟨by rw [he]; unfold Lib.itoa; rw [if_neg (by omega)], by rw [hw]; exact Lib.below_grow _ _ (Nat.le_refl _) _ _⟩
theorem str_cons (c : UInt8) (l : List UInt8) : (⟨#[c]⟩ : ByteArray) ++ ⟨l.toArray⟩ = ⟨(c :: l).toArray⟩ := by
  apply ByteArray.ext; simp
set_option maxHeartbeats 1000000 in
theorem pad_c (n k : Int) (w : World) (ht : Tab w) (h0 : 0 ≤ n) (hk1 : 1 ≤ k) (hk2 : k ≤ 12) (hn : n.toNat < 10 ^ k.toNat) : Calls Tryd.prog 86 #[.int .i64 n, .int .i64 k] w fun e w' => e = .returned (.string ⟨(Dig.digs k.toNat n.toNat).toArray⟩) ∧ Below w.heap.size w w' := by
  have hp := Lib.hid (Dig.pad_dec k.toNat n.toNat (by omega) hn)
  have hl := Dig.dec_length_le k.toNat n.toNat (by omega) hn
  have hmax : n ≤ 9223372036854775807 := by
    have h12 : 10 ^ k.toNat ≤ 10 ^ 12 := Nat.pow_le_pow_right (by omega) (by omega)
    have : (10 : Nat) ^ 12 = 1000000000000 := by decide
    omega
  clear hn
  go_enter Tryd.func86, Tryd.ntmps86
  go_wp2_with (first | (go_at_call 107; (with_reducible refine (itoa_c _ _ ht h0 hmax).mono ?_); rintro e w' ⟨rfl, hb'⟩))
  go_loop [5] (fun s => ∃ l : List UInt8, l.length ≤ k.toNat ∧ Hid (Dig.pad k.toNat l = Dig.digs k.toNat n.toNat) ∧ s = .string ⟨l.toArray⟩) (fun s => match s with | .string b => k.toNat - b.size | _ => 0)
  case atStart => exact ⟨_, hl, hp, rfl⟩
  case round =>
    obtain ⟨l, hll, hpl, rfl⟩ := hrel
    have hsz : (⟨l.toArray⟩ : ByteArray).size = l.length := by simp [ByteArray.size]
    by_cases hlt : l.length < k.toNat
    · go_wp2_with (fail)
      refine ⟨⟨48 :: l, by simp; omega, Lib.hid (by rw [Dig.pad_cons _ _ hlt]; exact hpl.out), by rw [str_cons]⟩, ?_⟩
      rw [str_cons]
      simp [ByteArray.size]; omega
    · go_wp2_with (fail)
      go_ret
      exact ⟨by rw [← hpl.out, Dig.pad_id _ _ (by omega)]; rfl, hb'⟩
set_option maxHeartbeats 1000000 in
theorem two_c (n k : Int) (w : World) (h0 : 0 ≤ n) (hn : n ≤ 9223372036854775807) (hk1 : 0 ≤ k) (hk2 : k ≤ 12) : Calls Tryd.prog 89 #[.int .i64 n, .int .i64 k] w fun e w' => e = .returned (.string ⟨(Dig.digs k.toNat n.toNat).toArray⟩) ∧ w = w' := by
  go_enter Tryd.func89, Tryd.ntmps89
  go_wp2_with (fail)
  go_loop [0, 5, 6] (fun m s i => ∃ (j : Nat) (x : Int), j ≤ k.toNat ∧ i = .int .i64 j ∧ 0 ≤ x ∧ x ≤ n ∧ Hid (x.toNat = n.toNat / 10 ^ j) ∧ m = .int .i64 x ∧ s = .string ⟨(Dig.digs j n.toNat).toArray⟩) (fun _ _ i => k.toNat - (intOf i).toNat)
  case atStart => exact ⟨0, n, by omega, rfl, h0, by omega, Lib.hid (by simp), rfl, rfl⟩
  case round =>
    obtain ⟨j, x, hj, rfl, hx0, hx1, hx, rfl, rfl⟩ := hrel
    by_cases hlt : j < k.toNat
    · have hdc := Dig.digs_cons j n.toNat
      rw [← hx.out] at hdc
      have hx' : (x / 10).toNat = n.toNat / 10 ^ (j + 1) := by
        rw [Nat.pow_succ, ← Nat.div_div_eq_div_mul, ← hx.out]; omega
      have HX := Lib.hid hx'
      have h10 : x % 10 = 0 ∨ x % 10 = 1 ∨ x % 10 = 2 ∨ x % 10 = 3 ∨ x % 10 = 4 ∨ x % 10 = 5 ∨ x % 10 = 6 ∨ x % 10 = 7 ∨ x % 10 = 8 ∨ x % 10 = 9 := by omega
      have hn10 : x.toNat % 10 = (x % 10).toNat := by omega
      clear hx'
      have hdl := Dig.digs_length j n.toNat
      rcases h10 with he | he | he | he | he | he | he | he | he | he
      all_goals
        rw [hn10, he] at hdc
        have HD := Lib.hid hdc
        clear hdc hn10
        go_wp2_with (fail)
        refine ⟨⟨j + 1, x / 10, by omega, by go_num, by omega, by omega, HX, rfl, by rw [HD.out]; exact congrArg Value.string (str_cons _ _)⟩, ?_⟩
        simp [intOf]; omega
    · go_wp2_with (fail)
      go_ret
      exact ⟨by rw [show j = k.toNat by omega]; rfl, rfl⟩
theorem digs_len4 (n : Nat) : (Dig.digs 4 n).length = 4 := Dig.digs_length 4 n
abbrev ST3 (w : World) (b : Nat) (x y z : Value) (wx : World) : Prop := Tab wx ∧ S3 w b x y z wx
theorem ST3.step {w : World} {b : Nat} {x y z : Value} {wx w' : World} (h : ST3 w b x y z wx) (hb : Below wx.heap.size wx w') : ST3 w b x y z w' := ⟨h.1.below hb, h.2.step hb⟩
theorem ST3.drew {w : World} {b : Nat} {x y z : Value} {wx : World} (h : ST3 w b x y z wx) : ST3 w b x y z wx.drew := h.step (Below.refl _ _).drew
def dateL (y m d : Int) : List UInt8 := Dig.digs 4 y.toNat ++ 45 :: (Dig.digs 2 m.toNat ++ 45 :: Dig.digs 2 d.toNat)
theorem text_no (y m d : Int) (w : World) (hy : InR y) (hm : InR m) (hd : InR d) (h : ¬ Cal.may y m d) : Calls Tryd.prog 30 #[.agg #[.int .i64 y, .int .i64 m, .int .i64 d]] w fun e w' => e = .returned (.tuple #[.string ⟨#[]⟩, errV 1]) ∧ Below w.heap.size w w' := by
  go_enter Tryd.func30, Tryd.ntmps30
  go_wp2_with (first | (go_at_call 26; (with_reducible refine (check_no _ _ _ _ hy hm hd h).mono ?_); rintro e w' ⟨rfl, hb'⟩))
  go_ret2
  exact ⟨rfl, by repeat (first | exact Below.refl _ _ | assumption | refine Below.trans ?_ (Below.mono (by assumption) (by simp <;> omega)) | exact Held.below (w0 := w) (by assumption) | refine Below.setCell ?_ (by simp <;> omega) _ | refine Below.alloc ?_ (by simp <;> omega) _ | refine Below.drew ?_ | refine below_drewN ?_ _)⟩
set_option maxHeartbeats 4000000 in
theorem text_ok (y m d : Int) (w : World) (hg : w.cell? ⟨0, 0, none⟩ = some asHandle) (ht : Tab w) (h : Cal.may y m d) : Calls Tryd.prog 30 #[.agg #[.int .i64 y, .int .i64 m, .int .i64 d]] w fun e w' => e = .returned (.tuple #[.string ⟨(dateL y m d).toArray⟩, .nilIface]) ∧ Below w.heap.size w w' := by
  have hH := Held.start hg
  have h' := h
  obtain ⟨y1, y2, m1, m2, d1, d2⟩ := h'
  have dl := Cal.dim_lo y m
  have l4 : (Dig.digs 4 y.toNat).length = 4 := Dig.digs_length _ _
  have l2 : (Dig.digs 2 m.toNat).length = 2 := Dig.digs_length _ _
  have l2' : (Dig.digs 2 d.toNat).length = 2 := Dig.digs_length _ _
  have p4 : y.toNat < 10 ^ (4 : Int).toNat := by show y.toNat < 10000; omega
  have p2 : m.toNat < 10 ^ (2 : Int).toNat := by show m.toNat < 100; omega
  have p2' : d.toNat < 10 ^ (2 : Int).toNat := by show d.toNat < 100; omega
  go_enter Tryd.func30, Tryd.ntmps30
  go_wp2_with (first | (go_at_call 26; (with_reducible refine (check_ok _ _ _ _ (by omega) (by omega) (by omega) h).mono ?_); rintro e w1 ⟨rfl, hb1⟩; obtain ⟨hc, hf⟩ := bcell hb1; have hz := hb1.size; simp at hz))
  have hS0 : ST3 w w.heap.size (.int .i64 y) (.int .i64 m) (.int .i64 d) w1 := ⟨(ht.below ((Below.refl _ _).alloc (Nat.le_refl _) _)).below hb1, Held.step (Held.alloc hH _) hb1, by omega, by go_simp, by go_simp, by go_simp⟩
  go_region_held3 (fun wx => ST3 w w.heap.size (.int .i64 y) (.int .i64 m) (.int .i64 d) wx) (first | assumption | exact ST3.drew (by assumption)) (first | (go_at_call 86; (with_reducible refine (pad_c _ _ _ (And.left (by assumption)) (by omega) (by omega) (by omega) (by assumption)).mono ?_); rintro e w' ⟨rfl, hb'⟩; have hS' := ST3.step (by assumption) hb'; clear hb'))
  all_goals go_wp2_with (fail)
  all_goals go_ret2
  all_goals exact ⟨congrArg (fun b => Ending.returned (.tuple #[.string b, .nilIface])) (by apply ByteArray.ext; simp [dateL]), hS'.2.1.below⟩
theorem rtext_c (y m d : Int) (w : World) (h : Cal.may y m d) : Calls Tryd.prog 33 #[.agg #[.int .i64 y, .int .i64 m, .int .i64 d]] w fun e w' => e = .returned (.string ⟨(dateL y m d).toArray⟩) ∧ Below w.heap.size w w' := by
  have h' := h
  obtain ⟨y1, y2, m1, m2, d1, d2⟩ := h'
  have dl := Cal.dim_lo y m
  have l4 : (Dig.digs 4 y.toNat).length = 4 := Dig.digs_length _ _
  have l2 : (Dig.digs 2 m.toNat).length = 2 := Dig.digs_length _ _
  have l2' : (Dig.digs 2 d.toNat).length = 2 := Dig.digs_length _ _
  go_enter Tryd.func33, Tryd.ntmps33
  go_wp2_with (fail)
  go_quiet ((go_at_call 89; exact Calls.quiet_of_same ((two_c _ _ _ (by omega) (by omega) (by omega) (by omega)).mono fun _ _ ⟨a, b⟩ => ⟨a, b.symm⟩)))
  all_goals go_wp2_with (fail)
  all_goals go_ret
  all_goals exact ⟨congrArg (fun b => Ending.returned (.string b)) (by apply ByteArray.ext; simp [dateL]), by repeat (first | exact Below.refl _ _ | assumption | refine Below.trans ?_ (Below.mono (by assumption) (by simp <;> omega)) | exact Held.below (w0 := w) (by assumption) | refine Below.setCell ?_ (by simp <;> omega) _ | refine Below.alloc ?_ (by simp <;> omega) _ | refine Below.drew ?_ | refine below_drewN ?_ _)⟩
set_option maxHeartbeats 1000000 in
theorem digits_c (s : ByteArray) (w : World) (hs : s.size ≤ 9) : Calls Tryd.prog 87 #[.string s] w fun e w' => e = .returned (.tuple #[.int .i64 (Dig.numS 0 s), .bool (Dig.digB s)]) ∧ w = w' := by
  go_enter Tryd.func87, Tryd.ntmps87
  go_wp2_with (fail)
  go_loop [4, 8] (fun n i => ∃ k : Nat, k ≤ s.size ∧ i = .int .i64 k ∧ n = .int .i64 (Dig.val (s.data.toList.take k)) ∧ Hid (Dig.allD (s.data.toList.take k) = true)) (fun _ i => s.size - (intOf i).toNat)
  case atStart => exact ⟨0, Nat.zero_le _, rfl, rfl, Lib.hid rfl⟩
  case round =>
    obtain ⟨k, hk, rfl, rfl, hall⟩ := hrel
    have hv := Dig.val_bd _ hall.out
    have hl : (s.data.toList.take k).length ≤ k := List.length_take_le _ _
    have hp : (10 : Nat) ^ (s.data.toList.take k).length ≤ 10 ^ 9 := Nat.pow_le_pow_right (by omega) (by omega)
    have hv2 : Dig.val (s.data.toList.take k) < 1000000000 := by omega
    have hv1 := hv.1
    clear hv hp
    by_cases hlt : k < s.size
    · have hts := Dig.take_snoc s k hlt
      have hvs := Lib.hid (by rw [hts]; exact Dig.val_snoc _ _ : Dig.val (s.data.toList.take (k + 1)) = 10 * Dig.val (s.data.toList.take k) + ((s[k].toNat : Int) - 48))
      have has := Lib.hid (by rw [hts]; exact Dig.allD_snoc _ _ : Dig.allD (s.data.toList.take (k + 1)) = (Dig.allD (s.data.toList.take k) && Dig.isD s[k]))
      clear hts
      have hb : s[k].toNat ≤ 255 := by have := s[k].toNat_lt; omega
      by_cases hD : 48 ≤ s[k].toNat ∧ s[k].toNat ≤ 57
      · have hDi := Lib.hid (show Dig.isD s[k] = true by unfold Dig.isD; simp; exact hD)
        go_wp2_with (fail)
        refine ⟨⟨k + 1, by omega, by go_num, by rw [hvs.out], Lib.hid (by rw [has.out, hall.out, hDi.out]; rfl)⟩, ?_⟩
        simp [intOf]; omega
      · have hDi := Lib.hid (show Dig.isD s[k] = false by unfold Dig.isD; simp; omega)
        go_wp2_with (fail)
        all_goals go_ret2
        all_goals exact ⟨by unfold Dig.numS Dig.numOr Dig.digB; rw [Dig.allD_at s k hlt hDi.out]; rfl, rfl⟩
    · have hz : k = s.size := by omega
      have hfull : s.data.toList.take k = s.data.toList := List.take_of_length_le (by rw [hz]; exact Nat.le_refl _)
      have HA := Lib.hid (by rw [← hfull]; exact hall.out : Dig.allD s.data.toList = true)
      have HF := Lib.hid hfull
      clear hfull hall hz
      go_wp2_with (fail)
      go_ret2
      exact ⟨by unfold Dig.numS Dig.numOr Dig.digB; rw [HA.out]; simp [HF.out], rfl⟩
theorem digits_r (s : ByteArray) (w : World) (hs : s.size ≤ 9) : Calls Tryd.prog 88 #[.string s] w fun e w' => e = .returned (.int .i64 (Dig.numS (-1) s)) ∧ w = w' := by
  go_enter Tryd.func88, Tryd.ntmps88
  go_wp2_with (fail)
  go_loop [3, 4] (fun n i => ∃ k : Nat, k ≤ s.size ∧ i = .int .i64 k ∧ n = .int .i64 (Dig.val (s.data.toList.take k)) ∧ Hid (Dig.allD (s.data.toList.take k) = true)) (fun _ i => s.size - (intOf i).toNat)
  case atStart => exact ⟨0, Nat.zero_le _, rfl, rfl, Lib.hid rfl⟩
  case round =>
    obtain ⟨k, hk, rfl, rfl, hall⟩ := hrel
    have hv := Dig.val_bd _ hall.out
    have hl : (s.data.toList.take k).length ≤ k := List.length_take_le _ _
    by_cases hlt : k < s.size
    · have hp : (10 : Nat) ^ (s.data.toList.take k).length ≤ 10 ^ 8 := Nat.pow_le_pow_right (by omega) (by omega)
      have hv2 : Dig.val (s.data.toList.take k) < 100000000 := by omega
      have hv1 := hv.1
      clear hv hp
      have hts := Dig.take_snoc s k hlt
      have hvs := Lib.hid (by rw [hts]; exact Dig.val_snoc _ _ : Dig.val (s.data.toList.take (k + 1)) = 10 * Dig.val (s.data.toList.take k) + ((s[k].toNat : Int) - 48))
      have has := Lib.hid (by rw [hts]; exact Dig.allD_snoc _ _ : Dig.allD (s.data.toList.take (k + 1)) = (Dig.allD (s.data.toList.take k) && Dig.isD s[k]))
      clear hts
      have hb : s[k].toNat ≤ 255 := by have := s[k].toNat_lt; omega
      by_cases hD : 48 ≤ s[k].toNat ∧ s[k].toNat ≤ 57
      · have hDi := Lib.hid (show Dig.isD s[k] = true by unfold Dig.isD; simp; exact hD)
        go_wp2_with (fail)
        refine ⟨⟨k + 1, by omega, by go_num, by rw [hvs.out], Lib.hid (by rw [has.out, hall.out, hDi.out]; rfl)⟩, ?_⟩
        simp [intOf]; omega
      · have hDi := Lib.hid (show Dig.isD s[k] = false by unfold Dig.isD; simp; omega)
        go_wp2_with (fail)
        all_goals go_ret
        all_goals exact ⟨by unfold Dig.numS Dig.numOr; rw [Dig.allD_at s k hlt hDi.out]; rfl, rfl⟩
    · have hz : k = s.size := by omega
      have hfull : s.data.toList.take k = s.data.toList := List.take_of_length_le (by rw [hz]; exact Nat.le_refl _)
      have HA := Lib.hid (by rw [← hfull]; exact hall.out : Dig.allD s.data.toList = true)
      have HF := Lib.hid hfull
      have hp : (10 : Nat) ^ (s.data.toList.take k).length ≤ 10 ^ 9 := Nat.pow_le_pow_right (by omega) (by omega)
      have hv2 : Dig.val (s.data.toList.take k) < 1000000000 := by omega
      clear hfull hall hp hz
      go_wp2_with (fail)
      go_ret
      exact ⟨by unfold Dig.numS Dig.numOr; rw [HA.out]; simp [HF.out], rfl⟩
end Go.Proofs.YtengchkiejpglaaDoor
