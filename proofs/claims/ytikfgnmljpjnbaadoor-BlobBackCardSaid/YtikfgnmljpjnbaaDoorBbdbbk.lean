/-
 Layer 6: BlobBack.
-/
import Derived.Test.YtikfgnmljpjnbaaDoorBbcbbk
namespace Go.Proofs.YtikfgnmljpjnbaaDoor
open Go.RowKit Go.Extern.Stop Go.Stop Go.Extern
set_option linter.unusedVariables false
set_option linter.unusedSimpArgs false
theorem bb_big (A : Option Addr) (c : Nat) (la : List UInt8) (k bit : Int) (w : World) (hk0 : 0 ≤ k) (hk1 : k ≤ 255) (hA : Rd w A la) (hAc : A = none → c = 0) (hl : la.length ≤ 140737488355328) (hn : 200 < la.length) (hg : w.cell? ⟨0, 0, none⟩ = some asHandle) :
   Calls Tryd.prog 3 #[.int .u8 k, .slice A la.length c, .int .i64 bit] w fun e w' => e = .returned (.bool true) ∧ Below w.heap.size w w' := by
 go_enter Tryd.func3, Tryd.ntmps3
 go_wp2_with (go_at_call 8; (with_reducible refine (sure_pl _ hg).mono ?_); rintro e w1 ⟨rfl, hb1⟩)
 go_ret
 exact ⟨rfl, hb1⟩
def flip (x : UInt8) (r : Nat) : UInt8 := UInt8.ofNat (x.toNat ^^^ 2 ^ r)
theorem flip_ne (x : UInt8) (r : Nat) (hr : r < 8) : flip x r ≠ x := by
 intro h
 have h1 := congrArg UInt8.toNat h
 have hx := x.toNat_lt
 have hp : 2 ^ r < 2 ^ 8 := Nat.pow_lt_pow_right (by decide) hr
 have hlt : x.toNat ^^^ 2 ^ r < 2 ^ 8 := Nat.xor_lt_two_pow hx hp
 unfold flip at h1
 rw [UInt8.toNat_ofNat', Nat.mod_eq_of_lt hlt] at h1
 have h2 : x.toNat ^^^ (x.toNat ^^^ 2 ^ r) = x.toNat ^^^ x.toNat := by rw [h1]
 rw [← Nat.xor_assoc, Nat.xor_self, Nat.zero_xor] at h2
 have : 0 < 2 ^ r := Nat.pow_pos (by decide)
 omega
theorem flip_is (x : UInt8) (r : Nat) (hr : r < 8) : bits BinOp.xor IntKind.u8 (x.toNat : Int) (2 ^ r) = ((flip x r).toNat : Int) := by
 have hx := x.toNat_lt
 have hp : 2 ^ r < 2 ^ 8 := Nat.pow_lt_pow_right (by decide) hr
 have hlt : x.toNat ^^^ 2 ^ r < 2 ^ 8 := Nat.xor_lt_two_pow hx hp
 have := u8_xor_nat x.toNat (2 ^ r) hx hp
 unfold flip
 rw [UInt8.toNat_ofNat', Nat.mod_eq_of_lt hlt, ← this]
 simp
theorem flip_is' (x : UInt8) (r : Nat) (hr : r < 8) : bits BinOp.xor IntKind.u8 (x.toNat : Int) (2 ^ r % 256) = ((flip x r).toNat : Int) := by
 have hp : 2 ^ r < 2 ^ 8 := Nat.pow_lt_pow_right (by decide) hr
 have e : (2 : Int) ^ r % 256 = 2 ^ r := Int.emod_eq_of_lt (Int.pow_nonneg (by decide)) (by have h : ((2 ^ r : Nat) : Int) < ((2 ^ 8 : Nat) : Int) := Int.ofNat_lt.2 hp; simpa using h)
 rw [e]; exact flip_is x r hr
theorem Rd.setb {w : World} {g n cap : Nat} {base : Nat} {l : List UInt8} (h : w.ownsRow base 5 1 (.slice (some ⟨g, 0, none⟩) n cap) n (bv l)) (q : Nat) (hq : q < n) (y : UInt8) :
   (w.setCell ⟨g, q, none⟩ (bV y)).ownsRow base 5 1 (.slice (some ⟨g, 0, none⟩) n cap) n (bv (l.set q y)) := by
 have h2 := h.stored q (bV y)
 have e : (bv l).set q (bV y) = bv (l.set q y) := by simp [bv, List.map_set]
 rw [← e]
 exact h2.1
theorem place_of (bit : Int) (L : Nat) (hL : L ≤ 400) : ∃ nn : Nat, nn < 8 * (L + 9) ∧ wrap64 ((IntKind.u64.wrap bit).tmod (8 * ((L : Int) + 9))) = (nn : Int) := by
 have h0 : 0 ≤ IntKind.u64.wrap bit := by rw [show IntKind.u64.wrap bit = bit % 18446744073709551616 by simp [IntKind.wrap, IntKind.bits, IntKind.signed]]; omega
 have e : (IntKind.u64.wrap bit).tmod (8 * ((L : Int) + 9)) = IntKind.u64.wrap bit % (8 * ((L : Int) + 9)) := Int.tmod_eq_emod_of_nonneg h0
 have h1 := Int.emod_nonneg (IntKind.u64.wrap bit) (show (8 * ((L : Int) + 9)) ≠ 0 by omega)
 have h2 := Int.emod_lt_of_pos (IntKind.u64.wrap bit) (show 0 < (8 * ((L : Int) + 9)) by omega)
 rw [e]
 generalize IntKind.u64.wrap bit % (8 * ((L : Int) + 9)) = m at *
 refine ⟨m.toNat, by omega, ?_⟩
 rw [IntWalk.wrap64_in _ (by omega)]
 omega
theorem gB_take {l : List Value} {n j : Nat} (h : j < n) : gB (l.take n) j = gB l j := by
 unfold gB
 rw [List.getD_eq_getElem?_getD, List.getElem?_take, if_pos h, ← List.getD_eq_getElem?_getD]
theorem gB_front {l m : List Value} {j : Nat} (h : j < l.length) : gB (l ++ m) j = gB l j := by
 unfold gB
 rw [List.getD_eq_getElem?_getD, List.getElem?_append_left h, ← List.getD_eq_getElem?_getD]
theorem bl_bad {L : List Value} {k : Int} {n : Nat} (h0 : 1 ≤ k) (h1 : k ≤ 6) (hg : gB L 3 + 256 * gB L 4 = n) (hL : L.length ≠ n + 9) : blE L k = 3 := by
 rcases bl_spec L k with ⟨_, h⟩ | ⟨h, _⟩ | ⟨_, _, _, x1, _, x3⟩
 · omega
 · exact h
 · rcases kd_spec L with ⟨_, _, y, _⟩ | ⟨y, _⟩ <;> omega
theorem blob_hd {k : Int} {l : List UInt8} (h0 : 1 ≤ k) (h1 : k ≤ 6) (hl : l.length ≤ 200) : gB ((blobOf k l).map bV) 3 + 256 * gB ((blobOf k l).map bV) 4 = l.length := by
 obtain ⟨_, x1, _, x3⟩ := blob_kd (k := k) (l := l) h0 h1 hl
 rcases kd_spec ((blobOf k l).map bV) with ⟨_, _, y, _⟩ | ⟨y, _⟩ <;> omega
theorem e_kind {k j : Int} {l : List UInt8} (h0 : 1 ≤ k) (h1 : k ≤ 6) (hl : l.length ≤ 200) (j0 : 1 ≤ j) (j1 : j ≤ 6) (hj : j ≠ k) : blE ((blobOf k l).map bV) j = 3 := by
 obtain ⟨_, _, x2, _⟩ := blob_kd (k := k) (l := l) h0 h1 hl
 rcases bl_spec ((blobOf k l).map bV) j with ⟨_, h⟩ | ⟨h, _⟩ | ⟨_, _, _, _, y, _⟩
 · omega
 · exact h
 · omega
theorem e_cut {k : Int} {l : List UInt8} (h0 : 1 ≤ k) (h1 : k ≤ 6) (hl : l.length ≤ 200) : blE (((blobOf k l).take (l.length + 8)).map bV) k = 3 := by
 obtain ⟨_, _, e3⟩ := blob_is (k := k) (l := l) h0 h1 hl
 have hg := blob_hd (k := k) (l := l) h0 h1 hl
 rw [List.map_take]
 refine bl_bad (n := l.length) h0 h1 ?_ ?_
 · rw [gB_take (by omega), gB_take (by omega)]; exact hg
 · rw [List.length_take, List.length_map]; omega
theorem e_more {k : Int} {l : List UInt8} (h0 : 1 ≤ k) (h1 : k ≤ 6) (hl : l.length ≤ 200) : blE ((blobOf k l ++ [0]).map bV) k = 3 := by
 obtain ⟨_, _, e3⟩ := blob_is (k := k) (l := l) h0 h1 hl
 have hg := blob_hd (k := k) (l := l) h0 h1 hl
 rw [List.map_append]
 refine bl_bad (n := l.length) h0 h1 ?_ ?_
 · rw [gB_front (by rw [List.length_map]; omega), gB_front (by rw [List.length_map]; omega)]; exact hg
 · rw [List.length_append, List.length_map]
   simp only [List.length_map, List.length_cons, List.length_nil]
   omega
theorem e_flip {k : Int} {l : List UInt8} {q : Nat} {y : UInt8} (hq : q < (blobOf k l).length) (hy : y ≠ (blobOf k l)[q]) : blE (((blobOf k l).set q y).map bV) k ≠ 0 := by
 have ho : opensB ((blobOf k l).set q y) = false := by
   unfold blobOf at hq hy ⊢
   rw [seal_length] at hq
   exact opens_set _ q hq y hy
 rcases bl_spec (((blobOf k l).set q y).map bV) k with ⟨h, _⟩ | ⟨h, _⟩ | ⟨h, _⟩
 · omega
 · omega
 · rw [h]
   unfold opnE
   rw [byL_bV, ho]
   decide
theorem open_e3 (A : Option Addr) (c n : Nat) (l : List UInt8) (k : Int) (w : World) (hrd : Rd w A l) (hn : n = l.length) (hcz : A = none → c = 0) (hlc : l.length ≤ c) (hl : l.length ≤ 140737488355000) (h0 : 0 ≤ k) (h1 : k ≤ 255) (hg : w.cell? ⟨0, 0, none⟩ = some asHandle) (he : blE (l.map bV) k = 3) :
   Calls Tryd.prog 10 #[.int .u8 k, .slice A n c] w fun e w' => ∃ v, e = .returned (.tuple #[v, errV 3]) ∧ Below w.heap.size w w' := by
 have h := open_er A c n l k w hrd hn hcz hlc hl h0 h1 hg
 rw [he] at h
 exact h
theorem open_en (A : Option Addr) (c n : Nat) (l : List UInt8) (k : Int) (w : World) (hrd : Rd w A l) (hn : n = l.length) (hcz : A = none → c = 0) (hlc : l.length ≤ c) (hl : l.length ≤ 140737488355000) (h0 : 0 ≤ k) (h1 : k ≤ 255) (hg : w.cell? ⟨0, 0, none⟩ = some asHandle) (he : blE (l.map bV) k ≠ 0) :
   Calls Tryd.prog 10 #[.int .u8 k, .slice A n c] w fun e w' => ∃ v m, e = .returned (.tuple #[v, .iface 101 (.int .i64 m)]) ∧ Below w.heap.size w w' := by
 refine (open_er A c n l k w hrd hn hcz hlc hl h0 h1 hg).mono ?_
 rintro e w' ⟨v, rfl, hb⟩
 refine ⟨v, blE (l.map bV) k, ?_, hb⟩
 unfold Sy.errVal
 rw [if_neg he]
set_option maxRecDepth 100000 in
set_option maxHeartbeats 16000000 in
theorem bb_small (A : Option Addr) (c : Nat) (la : List UInt8) (k bit : Int) (w : World) (hk0 : 0 ≤ k) (hk1 : k ≤ 255) (hA : Rd w A la) (hAc : A = none → c = 0) (hn : la.length ≤ 200) (hbit : InR bit) (hg : w.cell? ⟨0, 0, none⟩ = some asHandle) :
   Calls Tryd.prog 3 #[.int .u8 k, .slice A la.length c, .int .i64 bit] w fun e w' => e = .returned (.bool true) ∧ Below w.heap.size w w' := by
 obtain ⟨i0, hi, hz0, hz1, hz2⟩ := info_parts infoU8
 go_enter Tryd.func3, Tryd.ntmps3
 go_wp2_with (fail)
 obtain ⟨kk, hkk⟩ : ∃ x, x = 1 + k % 6 := ⟨_, rfl⟩
 rw [← hkk]
 have h0 : 1 ≤ kk := by omega
 have h1 : kk ≤ 6 := by omega
 clear hkk
 (with_reducible refine (seal_pl A c la kk w hA hAc hn h0 h1).mono ?_)
 rintro e w1 ⟨g3, cap3, rfl, own3, hb1⟩
 have hg1 := handle_below hg hb1 (handle_lt hg)
 obtain ⟨_, _, e3⟩ := blob_is (k := kk) (l := la) h0 h1 hn
 have hcap := own_cap own3
 have hR3 := (Rd.of_own own3).1
 go_wp2_with (fail)
 (with_reducible refine (open_ok _ _ _ kk la _ (by exact hR3) rfl (fun e => by cases e) (by exact hcap.1) h0 h1 hn hg1).mono ?_)
 rintro e w4 ⟨v4, rfl, own4, HB4⟩
 have hb4 := hb1.trans (HB4.mono hb1.size)
 have hg4 := handle_below hg hb4 (handle_lt hg)
 have own34 := own_below4 own3 HB4
 have hR34 := (Rd.of_own own34).1
 have o4lt := own4.lt
 go_wp2_with (fail)
 (with_reducible refine (open_e3 _ _ _ (blobOf kk la) _ _ (by exact hR34) (by rw [e3]) (fun e => by cases e) (by rw [e3]; exact hcap.1) (by omega) (by omega) (by omega) hg4 (e_kind h0 h1 hn (by omega) (by omega) (by omega))).mono ?_)
 rintro e w5 ⟨v5, rfl, HB5⟩
 have hb5 := hb4.trans (HB5.mono hb4.size)
 have hg5 := handle_below hg hb5 (handle_lt hg)
 have own35 := own_below4 own34 HB5
 have own45 := own_below4 own4 HB5
 have hR35 := (Rd.of_own own35).1
 go_wp2_with (fail)
 have htk : ((blobOf kk la).take (la.length + 8)).length = la.length + 8 := by rw [List.length_take]; omega
 (with_reducible refine (open_e3 _ _ _ ((blobOf kk la).take (la.length + 8)) _ _ (by exact hR35.take _) (by rw [htk]) (fun e => by cases e) (by rw [htk]; omega) (by omega) (by omega) (by omega) hg5 (e_cut h0 h1 hn)).mono ?_)
 rintro e w6 ⟨v6, rfl, HB6⟩
 have hb6 := hb5.trans (HB6.mono hb5.size)
 have hg6 := handle_below hg hb6 (handle_lt hg)
 have own36 := own_below4 own35 HB6
 have own46 := own_below4 own45 HB6
 have hR36 := (Rd.of_own own36).1
 clear own34 own35 own45 hR34 hR35 HB4 HB5 HB6
 go_wp2_with (first | (at_builtin; refine wpList_append_b rfl (.tmp 70) (.tmp 71) 22 rfl w6.heap.size 5 i0 (.int .u8 0) Tryd.underlying22 hi hz0 hz1 hz2 rfl _ 0 [] rfl (World.ownsRow_lit w6 #[] 0 (Nat.le_refl _) (by decide) rfl) (some ⟨g3, 0, none⟩) cap3 (blobOf kk la) (by show Value.slice _ _ _ = Value.slice _ _ _; rw [e3]) (hR36.below ((Below.refl _ _).alloc (Nat.le_refl _) _)) (fun e => by cases e) (by omega) (by simp) ?_; intro v7 w7 own7 hgr7 hat7) | (at_builtin; refine wpList_append_b rfl (.tmp 72) (.tmp 73) 22 rfl w6.heap.size 5 i0 (.int .u8 0) Tryd.underlying22 hi hz0 hz1 hz2 rfl v7 _ _ rfl (own7.alloc _) (some ⟨w7.heap.size, 0, none⟩) 1 [0] rfl (Rd.one _ _ _ rfl) (fun e => by cases e) (by simp; omega) (by have := hgr7.size; simp at this ⊢; omega) ?_; intro v8 w8 own8 hgr8 hat8))
 have B7 : Below w6.heap.size w6 w7 := ((Below.refl _ w6).alloc (Nat.le_refl _) _).grown hgr7 (by simp) (fun k hk => ((World.ownsRow_lit (e := 5) w6 #[] 0 (size := 1) (Nat.le_refl _) (by decide) rfl).lt k hk).1)
 have B8 : Below w6.heap.size w6 w8 := (B7.alloc B7.size _).grown hgr8 (by have := B7.size; simp; omega) (fun k hk => (own7.lt k hk).1)
 have hb8 := hb6.trans (B8.mono hb6.size)
 have hg8 := handle_below hg hb8 (handle_lt hg)
 have own38 := own_below4 own36 B8
 have own48 := own_below4 own46 B8
 simp only [Nat.zero_add, List.nil_append, ← bv_append] at own8
 obtain ⟨A8, c8, rfl, hz8, hr8, hl8⟩ := own_shape own8
 have hl8' : (blobOf kk la ++ [0]).length = la.length + 10 := by rw [List.length_append, e3]; rfl
 (with_reducible refine (open_e3 A8 c8 _ (blobOf kk la ++ [0]) _ _ (by exact hr8) (by first | rfl | exact hl8) hz8 (by exact hl8.2) (by omega) (by omega) (by omega) hg8 (e_more h0 h1 hn)).mono ?_)
 rintro e w9 ⟨v9, rfl, HB9⟩
 have hb9 := hb8.trans (HB9.mono hb8.size)
 have own39 := own_below4 own38 HB9
 have own49 := own_below4 own48 HB9
 clear own36 own38 own46 own48 own7 own8 hgr7 hgr8 hat7 hat8 hr8 hz8 B7 B8 HB9 hR36
 obtain ⟨nn, hnn, hN⟩ := place_of bit la.length (by omega)
 have hq : nn / 8 < la.length + 9 := by omega
 obtain ⟨x, hx, hcell⟩ : ∃ x : UInt8, (∃ h : nn / 8 < (blobOf kk la).length, x = (blobOf kk la)[nn / 8]) ∧ w9.cell? ⟨g3, nn / 8, none⟩ = some (.int .u8 (x.toNat : Int)) := by
   have hql : nn / 8 < (blobOf kk la).length := by rw [e3]; exact hq
   refine ⟨_, ⟨hql, rfl⟩, ?_⟩
   rw [own39.cellAt (nn / 8) (by omega), bv_get, List.getElem?_eq_getElem hql]; rfl
 have hfroz := own39.frozenAt (nn / 8)
 have hfl := flip_is' x (nn % 8) (by omega)
 go_wp2_with (fail)
 obtain ⟨hql, hxe⟩ := hx
 have own310 := Rd.setb own39 (nn / 8) hq (flip x (nn % 8))
 have hG3 : w.heap.size ≤ g3 := hcap.2.1
 have hS3 : g3 < w9.heap.size := (own39.lt g3 rfl).2
 have hb10 : Below w.heap.size w (w9.setCell ⟨g3, nn / 8, none⟩ (bV (flip x (nn % 8)))) := hb9.setCell (p := ⟨g3, nn / 8, none⟩) hG3 _
 have hne4 : v4.ownBlock ≠ some g3 := fun e => by have := (o4lt g3 e).1; have := hcap.2.2; omega
 have own410 := ownsRow_setCell_other own49 (a := ⟨g3, nn / 8, none⟩) hne4 (bV (flip x (nn % 8)))
 have hl10 : ((blobOf kk la).set (nn / 8) (flip x (nn % 8))).length = la.length + 9 := by rw [List.length_set, e3]
 (with_reducible refine (open_en _ _ _ ((blobOf kk la).set (nn / 8) (flip x (nn % 8))) _ _ (by exact (Rd.of_own own310).1) (by rw [hl10]) (fun e => by cases e) (by rw [hl10]; exact hcap.1) (by omega) (by omega) (by omega) (handle_below hg hb10 (handle_lt hg)) (e_flip hql (by rw [← hxe]; exact flip_ne x (nn % 8) (by omega)))).mono ?_)
 rintro e w11 ⟨v11, m11, rfl, HB11⟩
 have hb11 : Below w.heap.size w w11 := hb10.trans (HB11.mono hb10.size)
 have own411 := own_below4 own410 HB11
 obtain ⟨A4, c4, rfl, hz4, hr4, _⟩ := own_shape own411
 have hrA := hA.below hb11
 have kt4 := run_text (P := Tryd.prog) w11 22 9 5 A4 c4 la hr4 Tryd.underlying22 Tryd.underlying5 Tryd.underlying9
 have kt2 := run_text (P := Tryd.prog) w11 22 9 5 A c la hrA Tryd.underlying22 Tryd.underlying5 Tryd.underlying9
 have hH11 : Held w w11 := ⟨handle_below hg hb11 (handle_lt hg), hb11⟩
 clear own310 own410 own411 own39 own49 own3 own4 hfl hcell hN HB11 hb1 hb4 hb5 hb6 hb8 hb9 hb10
 go_wp2_with (first | (go_at_call 11; (with_reducible refine (num06_nil _).mono ?_); rintro e w' ⟨rfl, hb'⟩; obtain ⟨hc, hf⟩ := bcell hb'; have hz := hb'.size; (try (simp at hz)); have hH' := Held.step (w0 := w) (by repeat (first | assumption | refine Held.alloc ?_ _ | refine Held.drew ?_)) hb'; clear hb') | (go_at_call 11; (with_reducible refine (num06_err _ _ (Held.handle (w0 := w) (by repeat (first | assumption | refine Held.alloc ?_ _ | refine Held.drew ?_)))).mono ?_); rintro e w' ⟨rfl, hb'⟩; obtain ⟨hc, hf⟩ := bcell hb'; have hz := hb'.size; (try (simp at hz)); have hH' := Held.step (w0 := w) (by repeat (first | assumption | refine Held.alloc ?_ _ | refine Held.drew ?_)) hb'; clear hb') | (go_at_call 8; (with_reducible refine (sure_pl _ (Held.handle (w0 := w) (by repeat (first | assumption | refine Held.alloc ?_ _ | refine Held.drew ?_)))).mono ?_); rintro e w' ⟨rfl, hb'⟩; obtain ⟨hc, hf⟩ := bcell hb'; have hz := hb'.size; (try (simp at hz)); have hH' := Held.step (w0 := w) (by repeat (first | assumption | refine Held.alloc ?_ _ | refine Held.drew ?_)) hb'; clear hb'))
 go_ret
 exact ⟨rfl, Held.below (w0 := w) (by assumption)⟩
theorem walkBlobBack {w : World} (k : Int) (A : Option Addr) (c : Nat) (la : List UInt8) (bit : Int) (hk : 0 ≤ k ∧ k ≤ 255) (hA : Rd w A la) (hAc : A = none → c = 0) (hac : la.length ≤ 140737488351232) (hbit : InR bit) (hg : w.cell? ⟨0, 0, none⟩ = some asHandle) :
   Calls Tryd.prog 3 #[.int .u8 k, .slice A la.length c, .int .i64 bit] w fun e w' => e = .returned (.bool true) ∧ Below w.heap.size w w' := by
 by_cases hn : la.length ≤ 200
 · exact bb_small A c la k bit w hk.1 hk.2 hA hAc hn hbit hg
 · exact bb_big A c la k bit w hk.1 hk.2 hA hAc (by omega) (by omega) hg
end Go.Proofs.YtikfgnmljpjnbaaDoor
