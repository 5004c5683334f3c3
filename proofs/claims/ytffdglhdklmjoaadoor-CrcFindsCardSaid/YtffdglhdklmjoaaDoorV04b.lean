/-
  Layer 4: the statement CrcFinds.
-/
import Derived.Test.YtffdglhdklmjoaaDoorV04
namespace Go.Proofs.YtffdglhdklmjoaaDoor
open Go.RowKit Go.Extern.Stop Go.Stop Go.Extern
set_option linter.unusedVariables false
set_option linter.unusedSimpArgs false
theorem cf_big (A : Option Addr) (c : Nat) (la : List UInt8) (B : Option Addr) (d : Nat) (lb : List UInt8) (bit : Int) (w : World) (hA : Rd w A la) (hAc : A = none → c = 0) (hB : Rd w B lb) (hBd : B = none → d = 0) (hbit : InR bit) (hac : la.length ≤ 140737488351232) (hbc : lb.length ≤ 140737488351232) (hn : 400 < la.length + lb.length) (hg : w.cell? ⟨0, 0, none⟩ = some asHandle) :
    Calls Tryd.prog 11 #[.slice A la.length c, .slice B lb.length d, .int .i64 bit] w fun e w' => e = .returned (.bool true) ∧ Below w.heap.size w w' := by
  have hH := Held.start hg
  go_enter Tryd.func11, Tryd.ntmps11
  go_wp2_with (first | (go_at_call 55; (with_reducible refine (sure04 _ (Held.handle (w0 := w) (by repeat (first | assumption | refine Held.alloc ?_ _ | refine Held.drew ?_)))).mono ?_); rintro e w' ⟨rfl, hb'⟩; obtain ⟨hc, hf⟩ := bcell hb'; have hz := hb'.size; (try (simp at hz)); have hH' := Held.step (w0 := w) (by repeat (first | assumption | refine Held.alloc ?_ _ | refine Held.drew ?_)) hb'; clear hb'))
  go_ret
  exact ⟨rfl, Held.below (w0 := w) (by assumption)⟩
def flip (x : UInt8) (r : Nat) : UInt8 := UInt8.ofNat (x.toNat ^^^ 2 ^ r)
theorem flip_ne (x : UInt8) (r : Nat) (hr : r < 8) : flip x r ≠ x := by
  intro h
  have h1 := congrArg UInt8.toNat h
  have hx := x.toNat_lt
  have hp : 2 ^ r < 2 ^ 8 := Nat.pow_lt_pow_right (by decide) hr
  have hlt : x.toNat ^^^ 2 ^ r < 2 ^ 8 := Nat.xor_lt_two_pow hx hp
  unfold flip at h1
  rw [UInt8.toNat_ofNat', Nat.mod_eq_of_lt hlt] at h1
  have h2 : x.toNat ^^^ (x.toNat ^^^ 2 ^ r) = x.toNat ^^^ x.toNat := by rw [h1]
  rw [← Nat.xor_assoc, Nat.xor_self, Nat.zero_xor] at h2
  have : 0 < 2 ^ r := Nat.pow_pos (by decide)
  omega
theorem flip_is (x : UInt8) (r : Nat) (hr : r < 8) : bits BinOp.xor IntKind.u8 (x.toNat : Int) (2 ^ r) = ((flip x r).toNat : Int) := by
  have hx := x.toNat_lt
  have hp : 2 ^ r < 2 ^ 8 := Nat.pow_lt_pow_right (by decide) hr
  have hlt : x.toNat ^^^ 2 ^ r < 2 ^ 8 := Nat.xor_lt_two_pow hx hp
  have := u8_xor_nat x.toNat (2 ^ r) hx hp
  unfold flip
  rw [UInt8.toNat_ofNat', Nat.mod_eq_of_lt hlt, ← this]
  simp
theorem flip_is' (x : UInt8) (r : Nat) (hr : r < 8) : bits BinOp.xor IntKind.u8 (x.toNat : Int) (2 ^ r % 256) = ((flip x r).toNat : Int) := by
  have hp : 2 ^ r < 2 ^ 8 := Nat.pow_lt_pow_right (by decide) hr
  have e : (2 : Int) ^ r % 256 = 2 ^ r := Int.emod_eq_of_lt (Int.pow_nonneg (by decide)) (by have h : ((2 ^ r : Nat) : Int) < ((2 ^ 8 : Nat) : Int) := Int.ofNat_lt.2 hp; simpa using h)
  rw [e]; exact flip_is x r hr
theorem Rd.set {w : World} {g n cap : Nat} {base : Nat} {l : List UInt8} (h : w.ownsRow base 5 1 (.slice (some ⟨g, 0, none⟩) n cap) n (bv l)) (q : Nat) (hq : q < n) (y : UInt8) :
    (w.setCell ⟨g, q, none⟩ (bV y)).ownsRow base 5 1 (.slice (some ⟨g, 0, none⟩) n cap) n (bv (l.set q y)) := by
  have h2 := h.stored q (bV y)
  have e : (bv l).set q (bV y) = bv (l.set q y) := by simp [bv, List.map_set]
  rw [← e]
  exact h2.1
theorem place_of (bit : Int) (L : Nat) (hL : L ≤ 400) : ∃ nn : Nat, nn < 8 * (L + 4) ∧ wrap64 ((IntKind.u64.wrap bit).tmod (8 * ((L : Int) + 4))) = (nn : Int) := by
  have h0 : 0 ≤ IntKind.u64.wrap bit := by rw [show IntKind.u64.wrap bit = bit % 18446744073709551616 by simp [IntKind.wrap, IntKind.bits, IntKind.signed]]; omega
  have e : (IntKind.u64.wrap bit).tmod (8 * ((L : Int) + 4)) = IntKind.u64.wrap bit % (8 * ((L : Int) + 4)) := Int.tmod_eq_emod_of_nonneg h0
  have h1 := Int.emod_nonneg (IntKind.u64.wrap bit) (show (8 * ((L : Int) + 4)) ≠ 0 by omega)
  have h2 := Int.emod_lt_of_pos (IntKind.u64.wrap bit) (show 0 < (8 * ((L : Int) + 4)) by omega)
  rw [e]
  generalize IntKind.u64.wrap bit % (8 * ((L : Int) + 4)) = m at *
  refine ⟨m.toNat, by omega, ?_⟩
  rw [IntWalk.wrap64_in _ (by omega)]
  omega
set_option maxRecDepth 100000 in
set_option maxHeartbeats 16000000 in
theorem cf_small (A : Option Addr) (c : Nat) (la : List UInt8) (B : Option Addr) (d : Nat) (lb : List UInt8) (bit : Int) (w : World) (hA : Rd w A la) (hAc : A = none → c = 0) (hB : Rd w B lb) (hBd : B = none → d = 0) (hbit : InR bit) (hn : la.length + lb.length ≤ 400) (hg : w.cell? ⟨0, 0, none⟩ = some asHandle) :
    Calls Tryd.prog 11 #[.slice A la.length c, .slice B lb.length d, .int .i64 bit] w fun e w' => e = .returned (.bool true) ∧ Below w.heap.size w w' := by
  have hH := Held.start hg
  obtain ⟨i0, hi, hz0, hz1, hz2⟩ := info_parts infoU8
  go_enter Tryd.func11, Tryd.ntmps11
  go_wp2_with (first | (at_builtin; refine wpList_append_b rfl (.tmp 21) (.tmp 22) 87 rfl w.heap.size 5 i0 (.int .u8 0) Tryd.underlying87 hi hz0 hz1 hz2 rfl (.slice none 0 0) 0 [] rfl (World.ownsRow_nil _ _ _ _) A c la rfl hA hAc (by omega) (Nat.le_refl _) ?_; intro v1 w1 hown1 hg1 hat1; have hb1 := (Below.refl w.heap.size w).grown hg1 (Nat.le_refl _) (fun k hk => by cases hk)) | (at_builtin; refine wpList_append_b rfl (.tmp 23) (.tmp 24) 87 rfl w.heap.size 5 i0 (.int .u8 0) Tryd.underlying87 hi hz0 hz1 hz2 rfl v1 _ _ rfl hown1 B d lb rfl (hB.below hb1) hBd (by omega) hb1.size ?_; intro v2 w2 hown2 hg2 hat2; have hb2 := hb1.grown hg2 hb1.size (fun k hk => (hown1.lt k hk).1); simp only [Nat.zero_add, List.nil_append, ← bv_append] at hown2; have hlen : la.length + lb.length = (la ++ lb).length := (by simp); rw [hlen] at hown2; clear hlen; obtain ⟨bo, hbo⟩ : ∃ bo, bo = la ++ lb := ⟨_, rfl⟩; rw [← hbo] at hown2; obtain ⟨A2, c2, rfl, hz2, hr2, _⟩ := own_shape hown2; have HBO := Lib.hid hbo; have hbl : bo.length ≤ 400 := (by rw [hbo]; simpa using hn); clear hbo))
  (with_reducible refine (sealed_n _ _ _ bo _ (by exact hr2) (by simp) (by exact hz2) (by omega)).mono ?_)
  rintro e w3 ⟨g3, cap3, rfl, hown3, HB3⟩
  have hcap3 := own_cap hown3
  have hb3 : Below w.heap.size w w3 := hb2.trans (HB3.mono hb2.size)
  replace hr2 := hr2.below HB3
  go_wp2_with (fail)
  (with_reducible refine (open_seal _ _ _ bo _ (by exact (Rd.of_own hown3).1) (by simp) (by exact hcap3.1) (by omega)).mono ?_)
  rintro e w4 ⟨A4, c4, rfl, hz4, hr4, HB4⟩
  have hb4 : Below w.heap.size w w4 := hb3.trans (HB4.mono hb3.size)
  replace hr2 := hr2.below HB4
  have hown4 := own_below hown3 HB4
  have hrA := hA.below hb4
  have hrB := hB.below hb4
  have kt4 := run_text (P := Tryd.prog) w4 87 9 5 A4 c4 bo hr4 Tryd.underlying87 Tryd.underlying5 Tryd.underlying9
  have kt2 := run_text (P := Tryd.prog) w4 87 9 5 A2 c2 bo hr2 Tryd.underlying87 Tryd.underlying5 Tryd.underlying9
  have hS3 : g3 < w4.heap.size := by have := HB4.size; omega
  have hG3 : w.heap.size ≤ g3 := by have := hb2.size; omega
  clear hown3 hown1 hown2 HB3 HB4 hg1 hg2 hat1 hat2
  go_wp2_with (fail)
  (with_reducible refine (sum_n _ _ _ bo _ (by exact hr2) (by simp) (by omega)).mono ?_)
  rintro e w5 ⟨rfl, rfl⟩
  go_wp2_with (fail)
  (with_reducible refine (more_c0 _ _ _ _ (by exact hrA) (by omega)).mono ?_)
  rintro e w5 ⟨rfl, rfl⟩
  go_wp2_with (fail)
  (with_reducible refine (more_c _ (crcMore_lt _ _) _ _ _ _ (by exact hrB) (by omega)).mono ?_)
  rintro e w5 ⟨rfl, rfl⟩
  rw [crcMore_append la lb 0 (by decide), ← HBO.out]
  obtain ⟨nn, hnn, hN⟩ := place_of bit bo.length hbl
  have hq : nn / 8 < bo.length + 4 := by omega
  obtain ⟨x, hx, hcell⟩ : ∃ x : UInt8, (∃ h : nn / 8 < (sealOf bo).length, x = (sealOf bo)[nn / 8]) ∧ w4.cell? ⟨g3, nn / 8, none⟩ = some (.int .u8 (x.toNat : Int)) := by
    have hql : nn / 8 < (sealOf bo).length := by rw [seal_length]; exact hq
    refine ⟨_, ⟨hql, rfl⟩, ?_⟩
    rw [hown4.cellAt (nn / 8) (by omega), bv_get, List.getElem?_eq_getElem hql]; rfl
  have hfroz := hown4.frozenAt (nn / 8)
  have hfl := flip_is' x (nn % 8) (by omega)
  go_wp2_with (fail)
  obtain ⟨hql, hxe⟩ := hx
  have own5 := Rd.set hown4 (nn / 8) hq (flip x (nn % 8))
  have hno := opens_set bo (nn / 8) hq (flip x (nn % 8)) (by rw [← hxe]; exact flip_ne x (nn % 8) (by omega))
  (with_reducible refine (open_no _ _ _ _ _ (by exact (Rd.of_own own5).1) (by exact hno) (by simp [seal_length]) (by simp [seal_length]; exact hcap3.1) (by simp [seal_length]; omega)).mono ?_)
  rintro e w6 ⟨rfl, HB6⟩
  have hb6 : Below w.heap.size w w6 := (hb4.setCell (p := ⟨g3, nn / 8, none⟩) hG3 _).trans (HB6.mono (by have := hb4.size; simp; omega))
  have hH6 : Held w w6 := ⟨handle_below hg hb6 (handle_lt hg), hb6⟩
  clear hno own5 hfl hcell hN HB6
  go_wp2_with (first | (go_at_call 63; (with_reducible refine (num04_nil _).mono ?_); rintro e w' ⟨rfl, hb'⟩; obtain ⟨hc, hf⟩ := bcell hb'; have hz := hb'.size; (try (simp at hz)); have hH' := Held.step (w0 := w) (by repeat (first | assumption | refine Held.alloc ?_ _ | refine Held.drew ?_)) hb'; clear hb') | (go_at_call 63; (with_reducible refine (num04_err _ _ (Held.handle (w0 := w) (by repeat (first | assumption | refine Held.alloc ?_ _ | refine Held.drew ?_)))).mono ?_); rintro e w' ⟨rfl, hb'⟩; obtain ⟨hc, hf⟩ := bcell hb'; have hz := hb'.size; (try (simp at hz)); have hH' := Held.step (w0 := w) (by repeat (first | assumption | refine Held.alloc ?_ _ | refine Held.drew ?_)) hb'; clear hb') | (go_at_call 55; (with_reducible refine (sure04 _ (Held.handle (w0 := w) (by repeat (first | assumption | refine Held.alloc ?_ _ | refine Held.drew ?_)))).mono ?_); rintro e w' ⟨rfl, hb'⟩; obtain ⟨hc, hf⟩ := bcell hb'; have hz := hb'.size; (try (simp at hz)); have hH' := Held.step (w0 := w) (by repeat (first | assumption | refine Held.alloc ?_ _ | refine Held.drew ?_)) hb'; clear hb'))
  go_ret
  exact ⟨rfl, Held.below (w0 := w) (by assumption)⟩
theorem walkCrcFinds {w : World} (A : Option Addr) (c : Nat) (la : List UInt8) (B : Option Addr) (d : Nat) (lb : List UInt8) (bit : Int) (hA : Rd w A la) (hAc : A = none → c = 0) (hac : la.length ≤ 140737488351232) (hB : Rd w B lb) (hBd : B = none → d = 0) (hbc : lb.length ≤ 140737488351232) (hbit : InR bit) (hg : w.cell? ⟨0, 0, none⟩ = some asHandle) :
    Calls Tryd.prog 11 #[.slice A la.length c, .slice B lb.length d, .int .i64 bit] w fun e w' => e = .returned (.bool true) ∧ Below w.heap.size w w' := by
  by_cases hn : la.length + lb.length ≤ 400
  · exact cf_small A c la B d lb bit w hA hAc hB hBd hbit hn hg
  · exact cf_big A c la B d lb bit w hA hAc hB hBd hbit hac hbc (by omega) hg
end Go.Proofs.YtffdglhdklmjoaaDoor
