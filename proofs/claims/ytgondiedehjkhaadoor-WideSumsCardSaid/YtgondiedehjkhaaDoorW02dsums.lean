/-
 Numbers of 128 bits: the program, divided.
-/
import Derived.Test.YtgondiedehjkhaaDoorW02csums
import Derived.Deep.RegionHeld3
namespace Go.Proofs.YtgondiedehjkhaaDoor
open Go.RowKit Go.Extern.Stop Go.Stop Go.Extern
set_option linter.unusedVariables false
set_option linter.unusedSimpArgs false
theorem div64_all (h l d : Int) (w : World) (h0 : 0 ≤ h) (h1 : h < d) (l0 : 0 ≤ l) (l1 : l < 18446744073709551616) (d0 : 1 ≤ d) (d1 : d < 18446744073709551616) : Calls Tryd.prog 168 #[.int .u64 h, .int .u64 l, .int .u64 d] w fun e w' => e = .returned (.tuple #[.int .u64 ((h * 18446744073709551616 + l) / d), .int .u64 ((h * 18446744073709551616 + l) % d)]) ∧ Below w.heap.size w w' := by
 by_cases hz : h = 0
 · subst hz
   refine (div64_low l d w l0 l1 d0 d1).mono ?_
   rintro e w' ⟨rfl, hb⟩
   exact ⟨by simp, hb⟩
 · exact div64 h l d w (by omega) h1 l0 l1 d0 d1
set_option maxHeartbeats 1000000 in
theorem wdivide (z d : Int) (w : World) (hz : 0 ≤ z) (hz1 : In128 z) (d0 : 1 ≤ d) (d1 : d ≤ 9223372036854775807) : Calls Tryd.prog 158 #[WV z, .int .u64 d] w fun e w' => e = .returned (.tuple #[WV (z / d), .int .u64 (z % d)]) ∧ Below w.heap.size w w' := by
 have hB := Below.refl w.heap.size w
 obtain ⟨e1, e2, e3⟩ := div_pos hz (by omega : 0 < d) d1
 have p1 : 0 ≤ z / 18446744073709551616 := by omega
 have p2 : z / 18446744073709551616 ≤ 9223372036854775807 := by omega
 have p3 : 0 ≤ z % 18446744073709551616 := by omega
 have p4 : z % 18446744073709551616 < 18446744073709551616 := by omega
 have q1 : IntKind.u64.wrap (z / 18446744073709551616) = z / 18446744073709551616 := emod_id (by omega) (by omega)
 have q2 : (z / 18446744073709551616).tdiv d = z / 18446744073709551616 / d := Int.tdiv_eq_ediv_of_nonneg p1
 have q3 : (z / 18446744073709551616).tmod d = z / 18446744073709551616 % d := Int.tmod_eq_emod_of_nonneg p1
 have r1 : 0 ≤ z / 18446744073709551616 / d := Int.ediv_nonneg p1 (by omega)
 have r2 : z / 18446744073709551616 / d ≤ z / 18446744073709551616 := Int.ediv_le_self d p1
 have r3 : 0 ≤ z / 18446744073709551616 % d := Int.emod_nonneg _ (by omega)
 have r4 : z / 18446744073709551616 % d < d := Int.emod_lt_of_pos _ (by omega)
 have q4 : IntKind.u64.wrap (z / 18446744073709551616 / d) = z / 18446744073709551616 / d := emod_id r1 (by omega)
 have q5 : IntKind.u64.wrap (z / 18446744073709551616 % d) = z / 18446744073709551616 % d := emod_id r3 (by omega)
 have q6 : (d == 0) = false := by rw [beq_eq_false_iff_ne]; omega
 have E1 := Lib.hid e1
 have E2 := Lib.hid e2
 have E3 := Lib.hid e3
 clear e1 e2 e3
 go_enter Tryd.func158, Tryd.ntmps158
 go_wp2_with (fail)
 go_region
 go_wp2_with (fail)
 go_at_call 168
 (with_reducible refine (div64_all _ _ _ _ r3 r4 p3 p4 d0 (by omega)).mono ?_)
 rintro e w1 ⟨rfl, HB⟩
 obtain ⟨hc1, hf1⟩ := bcell HB
 have hz1 := HB.size
 try simp at hz1
 replace hB := Below.trans (show Below w.heap.size w _ from by repeat (first | with_reducible assumption | exact Below.refl _ _ | refine Below.drew ?_ | refine Below.setCell ?_ (by first | omega | (simp; done) | (simp; omega)) _ | refine Below.alloc ?_ (by first | omega | (simp; done) | (simp; omega)) _)) (Below.mono (B' := w.heap.size) HB (by first | omega | (simp; done) | (simp; omega)))
 try (have z1w0 : w.heap.size < w1.heap.size := (by omega))
 try (have z1w1 : w.heap.size + 1 < w1.heap.size := (by omega))
 try (have z1w2 : w.heap.size + 1 + 1 < w1.heap.size := (by omega))
 clear HB
 have u1 : wrap64 (z / 18446744073709551616 / d) = z / 18446744073709551616 / d := IntWalk.wrap64_in _ (by omega)
 go_wp2_with (fail)
 refine bodyPost_ret (v := .tuple #[.agg #[.int .i64 (z / 18446744073709551616 / d), .int .u64 ((z / 18446744073709551616 % d * 18446744073709551616 + z % 18446744073709551616) / d)], .int .u64 ((z / 18446744073709551616 % d * 18446744073709551616 + z % 18446744073709551616) % d)]) (by first | (simp [results, Tryd.results158, go_sem]; done) | (simp only [results, Tryd.results158]; go_simp; done) | (simp only [results, Tryd.results158]; go_simp; omega)) rfl (⟨by rw [← E1.out, ← E2.out, ← E3.out], by repeat (first | with_reducible assumption | exact Below.refl _ _ | refine Below.drew ?_ | refine Below.setCell ?_ (by first | omega | (simp; done) | (simp; omega)) _ | refine Below.alloc ?_ (by first | omega | (simp; done) | (simp; omega)) _)⟩)
set_option maxHeartbeats 1000000 in
theorem wdiv_pos (x d : Int) (w : World) (hx : 0 ≤ x) (hx1 : In128 x) (hd : 1 ≤ d) (hd1 : InR d) : Calls Tryd.prog 133 #[WV x, .int .i64 d] w fun e w' => e = .returned (.tuple #[WV (x / d), .int .i64 (x % d), .nilIface]) ∧ Below w.heap.size w w' := by
 have hB := Below.refl w.heap.size w
 have a1 : ¬ x / 18446744073709551616 < 0 := by omega
 have u1 : IntKind.u64.wrap d = d := emod_id (by omega) (by omega)
 have r3 : 0 ≤ x % d := Int.emod_nonneg _ (by omega)
 have r4 : x % d < d := Int.emod_lt_of_pos _ (by omega)
 have u2 : wrap64 (x % d) = x % d := IntWalk.wrap64_in _ (by omega)
 go_enter Tryd.func133, Tryd.ntmps133
 go_wp2_with (fail)
 go_at_call 158
 (with_reducible refine (wdivide _ _ _ hx hx1 hd (by omega)).mono ?_)
 rintro e w1 ⟨rfl, HB⟩
 obtain ⟨hc1, hf1⟩ := bcell HB
 have hz1 := HB.size
 try simp at hz1
 replace hB := Below.trans (show Below w.heap.size w _ from by repeat (first | with_reducible assumption | exact Below.refl _ _ | refine Below.drew ?_ | refine Below.setCell ?_ (by first | omega | (simp; done) | (simp; omega)) _ | refine Below.alloc ?_ (by first | omega | (simp; done) | (simp; omega)) _)) (Below.mono (B' := w.heap.size) HB (by first | omega | (simp; done) | (simp; omega)))
 try (have z1w0 : w.heap.size < w1.heap.size := (by omega))
 try (have z1w1 : w.heap.size + 1 < w1.heap.size := (by omega))
 try (have z1w2 : w.heap.size + 1 + 1 < w1.heap.size := (by omega))
 clear HB
 go_wp2_with (fail)
 refine bodyPost_ret (v := .tuple #[.agg #[.int .i64 ((x / d) / 18446744073709551616), .int .u64 ((x / d) % 18446744073709551616)], .int .i64 (x % d), .nilIface]) (by first | (simp [results, Tryd.results133, go_sem]; done) | (simp only [results, Tryd.results133]; go_simp; done) | (simp only [results, Tryd.results133]; go_simp; omega)) rfl (⟨rfl, by repeat (first | with_reducible assumption | exact Below.refl _ _ | refine Below.drew ?_ | refine Below.setCell ?_ (by first | omega | (simp; done) | (simp; omega)) _ | refine Below.alloc ?_ (by first | omega | (simp; done) | (simp; omega)) _)⟩)
set_option maxHeartbeats 1000000 in
theorem wdiv_neg (x d : Int) (w : World) (hx : x < 0) (hx1 : In128 x) (hd : 1 ≤ d) (hd1 : InR d) : Calls Tryd.prog 133 #[WV x, .int .i64 d] w fun e w' => e = .returned (.tuple #[WV (x / d), .int .i64 (x % d), .nilIface]) ∧ Below w.heap.size w w' := by
 have hB := Below.refl w.heap.size w
 have a1 : x / 18446744073709551616 < 0 := by omega
 obtain ⟨n1, n2⟩ := div_neg (x := x) (d := d) (by omega)
 have N1 := Lib.hid n1
 have N2 := Lib.hid n2
 clear n1 n2
 have u1 : IntKind.u64.wrap d = d := emod_id (by omega) (by omega)
 have r3 : 0 ≤ (-1 - x) % d := Int.emod_nonneg _ (by omega)
 have r4 : (-1 - x) % d < d := Int.emod_lt_of_pos _ (by omega)
 have u2 : wrap64 ((-1 - x) % d) = (-1 - x) % d := IntWalk.wrap64_in _ (by omega)
 have r5 := wdiv_rng (x := -1 - x) (d := d) (by omega) hd
 have r6 : 0 ≤ (-1 - x) / d := Int.ediv_nonneg (by omega) (by omega)
 have u3 : wrap64 (d - 1) = d - 1 := IntWalk.wrap64_in _ (by omega)
 have u4 : wrap64 (d - 1 - (-1 - x) % d) = d - 1 - (-1 - x) % d := IntWalk.wrap64_in _ (by omega)
 go_enter Tryd.func133, Tryd.ntmps133
 go_wp2_with (fail)
 go_at_call 70
 (with_reducible refine (wflip _ _ hx1).mono ?_)
 rintro e w1 ⟨rfl, HB⟩
 obtain ⟨hc1, hf1⟩ := bcell HB
 have hz1 := HB.size
 try simp at hz1
 replace hB := Below.trans (show Below w.heap.size w _ from by repeat (first | with_reducible assumption | exact Below.refl _ _ | refine Below.drew ?_ | refine Below.setCell ?_ (by first | omega | (simp; done) | (simp; omega)) _ | refine Below.alloc ?_ (by first | omega | (simp; done) | (simp; omega)) _)) (Below.mono (B' := w.heap.size) HB (by first | omega | (simp; done) | (simp; omega)))
 try (have z1w0 : w.heap.size < w1.heap.size := (by omega))
 try (have z1w1 : w.heap.size + 1 < w1.heap.size := (by omega))
 try (have z1w2 : w.heap.size + 1 + 1 < w1.heap.size := (by omega))
 clear HB
 go_wp2_with (fail)
 go_at_call 158
 (with_reducible refine (wdivide _ _ _ (by omega) (by omega) hd (by omega)).mono ?_)
 rintro e w2 ⟨rfl, HB⟩
 obtain ⟨hc2, hf2⟩ := bcell HB
 have hz2 := HB.size
 try simp at hz2
 replace hB := Below.trans (show Below w.heap.size w _ from by repeat (first | with_reducible assumption | exact Below.refl _ _ | refine Below.drew ?_ | refine Below.setCell ?_ (by first | omega | (simp; done) | (simp; omega)) _ | refine Below.alloc ?_ (by first | omega | (simp; done) | (simp; omega)) _)) (Below.mono (B' := w.heap.size) HB (by first | omega | (simp; done) | (simp; omega)))
 try (have z2w0 : w.heap.size < w2.heap.size := (by omega))
 try (have z2w1 : w.heap.size + 1 < w2.heap.size := (by omega))
 try (have z2w2 : w.heap.size + 1 + 1 < w2.heap.size := (by omega))
 try (have z2w10 : w1.heap.size < w2.heap.size := (by omega))
 try (have z2w11 : w1.heap.size + 1 < w2.heap.size := (by omega))
 try (have z2w12 : w1.heap.size + 1 + 1 < w2.heap.size := (by omega))
 clear HB
 go_wp2_with (fail)
 go_at_call 70
 (with_reducible refine (wflip _ _ (by omega)).mono ?_)
 rintro e w3 ⟨rfl, HB⟩
 obtain ⟨hc3, hf3⟩ := bcell HB
 have hz3 := HB.size
 try simp at hz3
 replace hB := Below.trans (show Below w.heap.size w _ from by repeat (first | with_reducible assumption | exact Below.refl _ _ | refine Below.drew ?_ | refine Below.setCell ?_ (by first | omega | (simp; done) | (simp; omega)) _ | refine Below.alloc ?_ (by first | omega | (simp; done) | (simp; omega)) _)) (Below.mono (B' := w.heap.size) HB (by first | omega | (simp; done) | (simp; omega)))
 try (have z3w0 : w.heap.size < w3.heap.size := (by omega))
 try (have z3w1 : w.heap.size + 1 < w3.heap.size := (by omega))
 try (have z3w2 : w.heap.size + 1 + 1 < w3.heap.size := (by omega))
 try (have z3w10 : w1.heap.size < w3.heap.size := (by omega))
 try (have z3w11 : w1.heap.size + 1 < w3.heap.size := (by omega))
 try (have z3w12 : w1.heap.size + 1 + 1 < w3.heap.size := (by omega))
 try (have z3w20 : w2.heap.size < w3.heap.size := (by omega))
 try (have z3w21 : w2.heap.size + 1 < w3.heap.size := (by omega))
 try (have z3w22 : w2.heap.size + 1 + 1 < w3.heap.size := (by omega))
 clear HB
 go_wp2_with (fail)
 refine bodyPost_ret (v := .tuple #[.agg #[.int .i64 ((-1 - (-1 - x) / d) / 18446744073709551616), .int .u64 ((-1 - (-1 - x) / d) % 18446744073709551616)], .int .i64 (d - 1 - (-1 - x) % d), .nilIface]) (by first | (simp [results, Tryd.results133, go_sem]; done) | (simp only [results, Tryd.results133]; go_simp; done) | (simp only [results, Tryd.results133]; go_simp; omega)) rfl (⟨by rw [N1.out, N2.out], by repeat (first | with_reducible assumption | exact Below.refl _ _ | refine Below.drew ?_ | refine Below.setCell ?_ (by first | omega | (simp; done) | (simp; omega)) _ | refine Below.alloc ?_ (by first | omega | (simp; done) | (simp; omega)) _)⟩)
theorem wdiv (x d : Int) (w : World) (hx1 : In128 x) (hd : 1 ≤ d) (hd1 : InR d) : Calls Tryd.prog 133 #[WV x, .int .i64 d] w fun e w' => e = .returned (.tuple #[WV (x / d), .int .i64 (x % d), .nilIface]) ∧ Below w.heap.size w w' := by
 by_cases hx : 0 ≤ x
 · exact wdiv_pos x d w hx hx1 hd hd1
 · exact wdiv_neg x d w (by omega) hx1 hd hd1
abbrev B1 (b : Nat) (x : Value) (wx : World) : Prop := b < wx.heap.size ∧ wx.cell? ⟨b, 0, none⟩ = some x
abbrev B2 (b : Nat) (x y : Value) (wx : World) : Prop := b < wx.heap.size ∧ wx.cell? ⟨b, 0, none⟩ = some x ∧ wx.cell? ⟨b, 1, none⟩ = some y
abbrev B3 (b : Nat) (x y z : Value) (wx : World) : Prop := b < wx.heap.size ∧ wx.cell? ⟨b, 0, none⟩ = some x ∧ wx.cell? ⟨b, 1, none⟩ = some y ∧ wx.cell? ⟨b, 2, none⟩ = some z
theorem B1.step {b : Nat} {x : Value} {wx w' : World} (h : B1 b x wx) (hb : Below wx.heap.size wx w') : B1 b x w' :=
 ⟨Nat.lt_of_lt_of_le h.1 hb.size, by rw [hb.cell (p := ⟨b, 0, none⟩) h.1]; exact h.2⟩
theorem B2.step {b : Nat} {x y : Value} {wx w' : World} (h : B2 b x y wx) (hb : Below wx.heap.size wx w') : B2 b x y w' :=
 ⟨Nat.lt_of_lt_of_le h.1 hb.size, by rw [hb.cell (p := ⟨b, 0, none⟩) h.1]; exact h.2.1, by rw [hb.cell (p := ⟨b, 1, none⟩) h.1]; exact h.2.2⟩
theorem B3.step {b : Nat} {x y z : Value} {wx w' : World} (h : B3 b x y z wx) (hb : Below wx.heap.size wx w') : B3 b x y z w' :=
 ⟨Nat.lt_of_lt_of_le h.1 hb.size, by rw [hb.cell (p := ⟨b, 0, none⟩) h.1]; exact h.2.1, by rw [hb.cell (p := ⟨b, 1, none⟩) h.1]; exact h.2.2.1, by rw [hb.cell (p := ⟨b, 2, none⟩) h.1]; exact h.2.2.2⟩
abbrev SB (w : World) (b : Nat) (x y : Value) (wx : World) : Prop := B2 b x y wx ∧ Below w.heap.size w wx
theorem SB.step {w : World} {b : Nat} {x y : Value} {wx w' : World} (h : SB w b x y wx) (hb : Below wx.heap.size wx w') : SB w b x y w' := ⟨h.1.step hb, h.2.trans (hb.mono h.2.size)⟩
theorem SB.drew {w : World} {b : Nat} {x y : Value} {wx : World} (h : SB w b x y wx) : SB w b x y wx.drew := h.step (Below.refl _ _).drew
set_option maxHeartbeats 1000000 in
theorem wint (x : Int) (w : World) (hx : InR x) : Calls Tryd.prog 13 #[WV x] w fun e w' => e = .returned (.tuple #[.int .i64 x, .nilIface]) ∧ Below w.heap.size w w' := by
 have hB := Below.refl w.heap.size w
 have u1 : wrap64 (x % 18446744073709551616) = x := by unfold wrap64; omega
 go_enter Tryd.func13, Tryd.ntmps13
 go_wp2_with (fail)
 have hS0 : SB w w.heap.size (.int .i64 (x / 18446744073709551616)) (.int .u64 (x % 18446744073709551616)) (w.alloc (.cells #[.int .i64 (x / 18446744073709551616), .int .u64 (x % 18446744073709551616)] 26)) := ⟨⟨by simp, by go_simp, by go_simp⟩, hB.alloc (Nat.le_refl _) _⟩
 go_region_held3 (fun wx => SB w w.heap.size (.int .i64 (x / 18446744073709551616)) (.int .u64 (x % 18446744073709551616)) wx) (first | assumption | exact SB.drew (by assumption)) (first | (go_at_call 21; (with_reducible refine (wof _ _ hx).mono ?_); rintro e w' ⟨rfl, hb'⟩; have hS' := SB.step (by assumption) hb'; clear hb'))
 go_wp2_with (fail)
 refine bodyPost_ret (v := .tuple #[.int .i64 x, .nilIface]) (by first | (simp [results, Tryd.results13, go_sem]; done) | (simp only [results, Tryd.results13]; go_simp; done) | (simp only [results, Tryd.results13]; go_simp; omega)) rfl (⟨rfl, hS'.2⟩)
set_option maxHeartbeats 1000000 in
theorem wint_no (x : Int) (w : World) (hx1 : In128 x) (hx : ¬ InR x) : Calls Tryd.prog 13 #[WV x] w fun e w' => e = .returned (.tuple #[.int .i64 0, errV 2]) ∧ Below w.heap.size w w' := by
 have hB := Below.refl w.heap.size w
 obtain ⟨n, u1, u2, u3⟩ : ∃ n, wrap64 (x % 18446744073709551616) = n ∧ InR n ∧ ((x / 18446744073709551616 == n / 18446744073709551616) = false ∨ (x / 18446744073709551616 == n / 18446744073709551616) = true ∧ (x % 18446744073709551616 == n % 18446744073709551616) = false) := by
   refine ⟨_, rfl, ?_, ?_⟩
   · unfold wrap64; omega
   · simp; unfold wrap64; omega
 rcases u3 with u3 | ⟨u3, u4⟩
 all_goals
   go_enter Tryd.func13, Tryd.ntmps13
   go_wp2_with (fail)
   have hS0 : SB w w.heap.size (.int .i64 (x / 18446744073709551616)) (.int .u64 (x % 18446744073709551616)) (w.alloc (.cells #[.int .i64 (x / 18446744073709551616), .int .u64 (x % 18446744073709551616)] 26)) := ⟨⟨by simp, by go_simp, by go_simp⟩, hB.alloc (Nat.le_refl _) _⟩
   go_region_held3 (fun wx => SB w w.heap.size (.int .i64 (x / 18446744073709551616)) (.int .u64 (x % 18446744073709551616)) wx) (first | assumption | exact SB.drew (by assumption)) (first | (go_at_call 21; (with_reducible refine (wof _ _ u2).mono ?_); rintro e w' ⟨rfl, hb'⟩; have hS' := SB.step (by assumption) hb'; clear hb'))
   go_wp2_with (fail)
   refine bodyPost_ret (v := .tuple #[.int .i64 0, errV 2]) (by first | (simp [results, Tryd.results13, go_sem]; done) | (simp only [results, Tryd.results13]; go_simp; done) | (simp only [results, Tryd.results13]; go_simp; omega)) rfl (⟨rfl, hS'.2⟩)
end Go.Proofs.YtgondiedehjkhaaDoor
