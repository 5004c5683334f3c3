/-
  Layer 5: the statement FieldsBack.
-/
import Derived.Test.YtffdglhdklmjoaaDoorV05
namespace Go.Proofs.YtffdglhdklmjoaaDoor
open Go.RowKit Go.Extern.Stop Go.Stop Go.Extern
set_option linter.unusedVariables false
set_option linter.unusedSimpArgs false
theorem fb_big (u x : Int) (s : ByteArray) (w : World) (hs : 255 < s.size) (hs2 : s.size ≤ 9223372036854775807) (hg : w.cell? ⟨0, 0, none⟩ = some asHandle) :
    Calls Tryd.prog 14 #[.int .u32 u, .int .i64 x, .string s] w fun e w' => e = .returned (.bool true) ∧ Below w.heap.size w w' := by
  have hH := Held.start hg
  go_enter Tryd.func14, Tryd.ntmps14
  go_wp2_with (first | (go_at_call 64; (with_reducible refine (sure05 _ (Held.handle (w0 := w) (by repeat (first | assumption | refine Held.alloc ?_ _ | refine Held.drew ?_)))).mono ?_); rintro e w' ⟨rfl, hb'⟩; obtain ⟨hc, hf⟩ := bcell hb'; have hz := hb'.size; (try (simp at hz)); have hH' := Held.step (w0 := w) (by repeat (first | assumption | refine Held.alloc ?_ _ | refine Held.drew ?_)) hb'; clear hb'))
  go_ret
  exact ⟨rfl, Held.below (w0 := w) (by assumption)⟩
theorem fb_list (u x : Int) (s : ByteArray) (hu : 0 ≤ u ∧ u ≤ 4294967295) (hx : InR x) (t : List UInt8) :
    ((getV (leB (u % 65536).toNat 2 ++ (leB u.toNat 4 ++ (leB (u64of x) 8 ++ t))) 2 : Nat) : Int) = u % 65536 ∧ ((getV (leB u.toNat 4 ++ (leB (u64of x) 8 ++ t)) 4 : Nat) : Int) = u ∧ wrap64 ((getV (leB (u64of x) 8 ++ t) 8 : Nat) : Int) = x := by
  refine ⟨?_, ?_, ?_⟩
  · rw [(get_put _ 2 _ false).1]
    have : 256 ^ 2 = 65536 := by decide
    omega
  · rw [(get_put _ 4 _ false).1]
    have : 256 ^ 4 = 4294967296 := by decide
    omega
  · rw [(get_put _ 8 _ false).1]
    exact wrap_u64of x hx
theorem u16w (u : Int) (hu : 0 ≤ u) : IntKind.u16.wrap u = u % 65536 := IntKind.wrap_u16 u
set_option maxRecDepth 100000 in
set_option maxHeartbeats 16000000 in
theorem fb_small (u x : Int) (s : ByteArray) (w : World) (hs : s.size ≤ 255) (hu : 0 ≤ u ∧ u ≤ 4294967295) (hx : InR x) (hg : w.cell? ⟨0, 0, none⟩ = some asHandle) :
    Calls Tryd.prog 14 #[.int .u32 u, .int .i64 x, .string s] w fun e w' => e = .returned (.bool true) ∧ Below w.heap.size w w' := by
  have hH := Held.start hg
  have ku := u16w u hu.1
  obtain ⟨m1, hm1⟩ : ∃ m, [] ++ leB (u % 65536).toNat 2 = m := ⟨_, rfl⟩
  obtain ⟨m2, hm2⟩ : ∃ m, m1 ++ leB u.toNat 4 = m := ⟨_, rfl⟩
  obtain ⟨m3, hm3⟩ : ∃ m, m2 ++ leB (u64of x) 8 = m := ⟨_, rfl⟩
  obtain ⟨m4, hm4⟩ : ∃ m, m3 ++ txt s = m := ⟨_, rfl⟩
  have l1 : m1.length ≤ 2 := by rw [← hm1]; simp [leB_length]
  have l2 : m2.length ≤ 6 := by rw [← hm2]; simp [leB_length]; omega
  have l3 : m3.length = 14 := by rw [← hm3, ← hm2, ← hm1]; simp [leB_length]
  have l4 : m4.length = 15 + s.size := by rw [← hm4]; simp [l3, txt, leB_length, sB_length]; omega
  have H1 := Lib.hid hm1
  have H2 := Lib.hid hm2
  have H3 := Lib.hid hm3
  have H4 := Lib.hid hm4
  have L3 := Lib.hid l3
  have L4 := Lib.hid l4
  have l4' : m4.length ≤ 270 := by omega
  have l4'' : 15 ≤ m4.length := by omega
  clear hm1 hm2 hm3 hm4 l3 l4
  go_enter Tryd.func14, Tryd.ntmps14
  go_wp2_with (fail)
  (with_reducible refine (put2_n _ _ _ [] m1 _ _ (Rd.nil _ _) (by simp) (by simp) (by simp) (by omega) (by omega) (by exact H1.out)).mono ?_)
  rintro e w1 ⟨v1, rfl, hown1, hb1⟩
  obtain ⟨A1, c1, rfl, hz1, hr1, _, hc1⟩ := own_shape hown1
  go_wp2_with (fail)
  (with_reducible refine (put4_n _ _ _ m1 m2 _ _ (by exact hr1) (by exact hz1) (by simp) (by omega) (by omega) (by omega) (by exact H2.out)).mono ?_)
  rintro e w2 ⟨v2, rfl, hown2, HB2⟩
  have hb2 : Below w.heap.size w w2 := hb1.trans (HB2.mono hb1.size)
  obtain ⟨A2, c2, rfl, hz2, hr2, _, hc2⟩ := own_shape hown2
  go_wp2_with (fail)
  (with_reducible refine (put8_n _ _ _ m2 m3 _ _ (by exact hr2) (by exact hz2) (by simp) (by omega) hx (by exact H3.out)).mono ?_)
  rintro e w3 ⟨v3, rfl, hown3, HB3⟩
  have hb3 : Below w.heap.size w w3 := hb2.trans (HB3.mono hb2.size)
  obtain ⟨A3, c3, rfl, hz3, hr3, _, hc3⟩ := own_shape hown3
  go_wp2_with (fail)
  (with_reducible refine (text_n _ _ _ m3 m4 _ _ (by exact hr3) (by exact hz3) (by simp) (by have := L3.out; omega) hs (by exact H4.out)).mono ?_)
  rintro e w4 ⟨v4, rfl, hown4, HB4⟩
  have hb4 : Below w.heap.size w w4 := hb3.trans (HB4.mono hb3.size)
  have hA4 : ∀ ad, v4.ownBlock = some ad → ad < w4.heap.size := fun ad e => (hown4.lt ad e).2
  obtain ⟨A4, c4, rfl, hz4, hr4, _, hc4⟩ := own_shape hown4
  have hd4 : ((m4.length : Int) != 15 + (s.size : Int)) = false := by have := L4.out; simp; omega
  clear hown1 hown2 hown3 hown4 HB2 HB3 HB4 hr1 hr2 hr3
  go_wp2_with (fail)
  (with_reducible refine (new_n _ _ _ m4 _ (by exact hr4) (by exact hz4) (by simp) (by omega)).mono ?_)
  rintro e w5 ⟨g, rfl, hR, hgs, HB5⟩
  have hb5 : Below w.heap.size w w5 := hb4.trans (HB5.mono hb4.size)
  have hgw : w.heap.size ≤ g := Nat.le_trans hb4.size hgs
  have hr5 := hr4.below HB5
  clear hd4
  obtain ⟨ad4, rfl, _⟩ := hr5.at_ (i := 0) (by omega)
  obtain ⟨f1, f2, f3⟩ := fb_list u x s hu hx (txt s)
  have E4 := Lib.hid (show m4 = leB (u % 65536).toNat 2 ++ (leB u.toNat 4 ++ (leB (u64of x) 8 ++ txt s)) by rw [← H4.out, ← H3.out, ← H2.out, ← H1.out]; simp)
  have F1 := Lib.hid f1
  have F2 := Lib.hid f2
  have F3 := Lib.hid f3
  clear f1 f2 f3
  have hab : ad4.block < w5.heap.size := by have := HB5.size; have := hA4 ad4.block rfl; omega
  have hag : some ad4.block ≠ some g := by have := hA4 ad4.block rfl; intro e; injection e; omega
  clear hA4 HB5 hr4
  go_wp2_with (fail)
  (with_reducible refine (get2_i _ _ (u % 65536) m4 (leB u.toNat 4 ++ (leB (u64of x) 8 ++ txt s)) false false (by exact hR) (by omega) (by rw [E4.out]; exact F1.out) (by rw [E4.out]; exact (get_put _ 2 _ false).2.1) (by rw [E4.out]; exact (get_put _ 2 _ false).2.2)).mono ?_)
  rintro e w6 ⟨rfl, hR6, hg6⟩
  have hb6 : Below w.heap.size w w6 := hb5.grown hg6 hb5.size (fun k e => by cases e; exact hgw)
  go_wp2_with (fail)
  (with_reducible refine (get4_i _ _ u _ (leB (u64of x) 8 ++ txt s) false false (by exact hR6) (by simp [leB_length, txt, sB_length]; omega) (by exact F2.out) (by exact (get_put _ 4 _ false).2.1) (by exact (get_put _ 4 _ false).2.2)).mono ?_)
  rintro e w7 ⟨rfl, hR7, hg7⟩
  have hb7 : Below w.heap.size w w7 := hb6.grown hg7 hb6.size (fun k e => by cases e; exact hgw)
  go_wp2_with (fail)
  (with_reducible refine (get8_n _ _ x _ (txt s) false false (by exact hR7) (by simp [leB_length, txt, sB_length]; omega) (by exact F3.out) (by exact (get_put _ 8 _ false).2.1) (by exact (get_put _ 8 _ false).2.2)).mono ?_)
  rintro e w8 ⟨rfl, hR8, hg8⟩
  have hb8 : Below w.heap.size w w8 := hb7.grown hg8 hb7.size (fun k e => by cases e; exact hgw)
  go_wp2_with (fail)
  (with_reducible refine (getT_n _ _ s _ [] false false (by exact hR8) (by simp [leB_length, txt, sB_length]; omega) (by have := (get_txt s [] false hs).1; rwa [List.append_nil] at this) (by have := (get_txt s [] false hs).2.1; rwa [List.append_nil] at this) (by have := (get_txt s [] false hs).2.2; rwa [List.append_nil] at this)).mono ?_)
  rintro e w9 ⟨rfl, hR9, hg9⟩
  have hb9 : Below w.heap.size w w9 := hb8.grown hg9 hb8.size (fun k e => by cases e; exact hgw)
  go_wp2_with (fail)
  (with_reducible refine (done_ok _ _ (by exact hR9)).mono ?_)
  rintro e w10 ⟨rfl, rfl⟩
  have hr9 : Rd w9 (some ad4) m4 := (((hr5.grown hg6 (fun a e => by cases e; exact hag)).grown hg7 (fun a e => by cases e; exact hag)).grown hg8 (fun a e => by cases e; exact hag)).grown hg9 (fun a e => by cases e; exact hag)
  have hrt := hr9.take (m4.length - 1)
  have e5 : (m4.take (m4.length - 1)).length = m4.length - 1 := by simp
  have E5 := Lib.hid (show m4.take (m4.length - 1) = leB (u % 65536).toNat 2 ++ (leB u.toNat 4 ++ (leB (u64of x) 8 ++ (txt s).take s.size)) by
    have h1 : m4.length - 1 = 14 + s.size := by have := L4.out; omega
    rw [h1, E4.out, List.take_append, List.take_append, List.take_append]
    simp only [leB_length]
    rw [List.take_of_length_le (by rw [leB_length]; omega), List.take_of_length_le (by rw [leB_length]; omega), List.take_of_length_le (by rw [leB_length]; omega)]
    congr 4
    omega)
  obtain ⟨g1, g2, g3⟩ := fb_list u x s hu hx ((txt s).take s.size)
  have G1 := Lib.hid g1
  have G2 := Lib.hid g2
  have G3 := Lib.hid g3
  clear g1 g2 g3
  generalize m4.take (m4.length - 1) = m5 at *
  have HE5 := Lib.hid e5
  clear e5
  have hnt : ((txt s).take s.size).length ≤ 255 := by simp; omega
  go_wp2_with (fail)
  (with_reducible refine (new_n _ _ _ m5 _ (by exact hrt) (by simp) (by exact HE5.out.symm) (by have := HE5.out; omega)).mono ?_)
  rintro e w10 ⟨o, rfl, hR10, hos, HB10⟩
  have hb10 : Below w.heap.size w w10 := hb9.trans (HB10.mono hb9.size)
  have hgw : w.heap.size ≤ o := Nat.le_trans hb9.size hos
  clear HB10 hr9 hrt hR hR6 hR7 hR8 hR9
  go_wp2_with (fail)
  (with_reducible refine (get2_i _ _ (u % 65536) m5 (leB u.toNat 4 ++ (leB (u64of x) 8 ++ (txt s).take s.size)) false false (by exact hR10) (by have := HE5.out; omega) (by rw [E5.out]; exact G1.out) (by rw [E5.out]; exact (get_put _ 2 _ false).2.1) (by rw [E5.out]; exact (get_put _ 2 _ false).2.2)).mono ?_)
  rintro e w11 ⟨rfl, hR11, hg11⟩
  have hb11 : Below w.heap.size w w11 := hb10.grown hg11 hb10.size (fun k e => by cases e; exact hgw)
  go_wp2_with (fail)
  (with_reducible refine (get4_i _ _ u _ (leB (u64of x) 8 ++ (txt s).take s.size) false false (by exact hR11) (by simp [leB_length] at hnt ⊢; omega) (by exact G2.out) (by exact (get_put _ 4 _ false).2.1) (by exact (get_put _ 4 _ false).2.2)).mono ?_)
  rintro e w12 ⟨rfl, hR12, hg12⟩
  have hb12 : Below w.heap.size w w12 := hb11.grown hg12 hb11.size (fun k e => by cases e; exact hgw)
  go_wp2_with (fail)
  (with_reducible refine (get8_n _ _ x _ ((txt s).take s.size) false false (by exact hR12) (by simp [leB_length] at hnt ⊢; omega) (by exact G3.out) (by exact (get_put _ 8 _ false).2.1) (by exact (get_put _ 8 _ false).2.2)).mono ?_)
  rintro e w13 ⟨rfl, hR13, hg13⟩
  have hb13 : Below w.heap.size w w13 := hb12.grown hg13 hb12.size (fun k e => by cases e; exact hgw)
  go_wp2_with (fail)
  (with_reducible refine (getT_c _ _ _ _ (by exact hR13) (by simp at hnt ⊢; omega)).mono ?_)
  rintro e w14 ⟨rfl, hR14, hg14⟩
  have hb14 : Below w.heap.size w w14 := hb13.grown hg14 hb13.size (fun k e => by cases e; exact hgw)
  rw [cut_txt s hs] at hR14
  go_wp2_with (fail)
  (with_reducible refine (done_short _ _ _ (by exact hR14)).mono ?_)
  rintro e w15 ⟨rfl, rfl⟩
  have hH14 : Held w w14 := ⟨handle_below hg hb14 (handle_lt hg), hb14⟩
  go_wp2_with (first | (go_at_call 71; (with_reducible refine (num05_nil _).mono ?_); rintro e w' ⟨rfl, hb'⟩; obtain ⟨hc, hf⟩ := bcell hb'; have hz := hb'.size; (try (simp at hz)); have hH' := Held.step (w0 := w) (by repeat (first | assumption | refine Held.alloc ?_ _ | refine Held.drew ?_)) hb'; clear hb') | (go_at_call 71; (with_reducible refine (num05_err _ _ (Held.handle (w0 := w) (by repeat (first | assumption | refine Held.alloc ?_ _ | refine Held.drew ?_)))).mono ?_); rintro e w' ⟨rfl, hb'⟩; obtain ⟨hc, hf⟩ := bcell hb'; have hz := hb'.size; (try (simp at hz)); have hH' := Held.step (w0 := w) (by repeat (first | assumption | refine Held.alloc ?_ _ | refine Held.drew ?_)) hb'; clear hb') | (go_at_call 64; (with_reducible refine (sure05 _ (Held.handle (w0 := w) (by repeat (first | assumption | refine Held.alloc ?_ _ | refine Held.drew ?_)))).mono ?_); rintro e w' ⟨rfl, hb'⟩; obtain ⟨hc, hf⟩ := bcell hb'; have hz := hb'.size; (try (simp at hz)); have hH' := Held.step (w0 := w) (by repeat (first | assumption | refine Held.alloc ?_ _ | refine Held.drew ?_)) hb'; clear hb'))
  go_ret
  exact ⟨rfl, Held.below (w0 := w) (by assumption)⟩
theorem walkFieldsBack (u x : Int) (s : ByteArray) (hu : 0 ≤ u ∧ u ≤ 4294967295) (hx : InR x) (hs : s.size ≤ 9223372036854775807) (w : World) (hg : w.cell? ⟨0, 0, none⟩ = some asHandle) :
    Calls Tryd.prog 14 #[.int .u32 u, .int .i64 x, .string s] w fun e w' => e = .returned (.bool true) ∧ Below w.heap.size w w' := by
  by_cases h : s.size ≤ 255
  · exact fb_small u x s w h hu hx hg
  · exact fb_big u x s w (by omega) hs hg
end Go.Proofs.YtffdglhdklmjoaaDoor
