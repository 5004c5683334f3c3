/-
 Layer 41 by the second engine: packets as bytes; NtpForms.
-/
import Derived.Test.YtgondiedehjkhaaDoorSycforms
import Derived.Test.YtgondiedehjkhaaDoorNxforms
import Derived.Test.YtgondiedehjkhaaDoorE00forms
import Derived.Test.YtgondiedehjkhaaDoorNumforms
namespace Go.Proofs.YtgondiedehjkhaaDoor
open Go.RowKit Go.Extern.Stop Go.Stop Go.Extern Go.Proofs.YtgondiedehjkhaaDoor.Sy
set_option linter.unusedVariables false
set_option linter.unusedSimpArgs false
abbrev xwformsk16_ : Tm := (an_ (le_ (.lit 0) (.var 12)) (le_ (.var 12) (.lit 18446744073709551615)))
abbrev xwformsk0_ : Tm := (an_ (an_ (le_ (.lit 0) v0_) (le_ v0_ (.lit 255))) (an_ (an_ (le_ (.lit 0) v1_) (le_ v1_ (.lit 255))) (an_ (an_ (le_ (.lit 0) v2_) (le_ v2_ (.lit 255))) (an_ (an_ (le_ (.lit 0) v3_) (le_ v3_ (.lit 255))) (an_ (an_ (le_ (.lit 0) v6_) (le_ v6_ (.lit 4294967295))) (an_ (an_ (le_ (.lit 0) v7_) (le_ v7_ (.lit 4294967295))) (an_ xwformsk16_ (an_ (an_ (le_ (.lit 0) (.var 13)) (le_ (.var 13) (.lit 18446744073709551615))) (an_ (an_ (le_ (.lit 0) (.var 14)) (le_ (.var 14) (.lit 18446744073709551615))) (an_ (le_ (.lit 0) (.var 15)) (le_ (.var 15) (.lit 18446744073709551615))))))))))))
abbrev xwformsk1_ : Tm := (.ofI (.vop (.len 1) (.cons o0_ .nil)))
abbrev xwformsk2_ : Tm := (.agg (.cons (.int .u8 (.lit 0)) (.cons (.int .u8 (.lit 0)) (.cons (.int .u8 (.lit 0)) (.cons (.int .u8 (.lit 0)) (.cons (.int .i8 (.lit 0)) (.cons (.int .i8 (.lit 0)) (.cons (.int .u32 (.lit 0)) (.cons (.int .u32 (.lit 0)) (.cons (.int .u8 (.lit 0)) (.cons (.int .u8 (.lit 0)) (.cons (.int .u8 (.lit 0)) (.cons (.int .u8 (.lit 0)) (.cons (.int .u64 (.lit 0)) (.cons (.int .u64 (.lit 0)) (.cons (.int .u64 (.lit 0)) (.cons (.int .u64 (.lit 0)) .nil)))))))))))))))))
abbrev xwformsk3_ : Tm := (.vop .cat (.cons (.vop (.sub 1) (.cons o0_ (.cons (.int .i64 (.lit 12)) (.cons (.int .i64 (.lit 16)) .nil)))) (.cons (.vop (.sub 1) (.cons (.tup (.cons (.int .u8 (.lit 0)) (.cons (.int .u8 (.lit 0)) (.cons (.int .u8 (.lit 0)) (.cons (.int .u8 (.lit 0)) .nil))))) (.cons (.int .i64 (.ofI (.vop (.len 1) (.cons (.vop (.sub 1) (.cons o0_ (.cons (.int .i64 (.lit 12)) (.cons (.int .i64 (.lit 16)) .nil)))) .nil)))) (.cons (.int .i64 (.lit 4)) .nil)))) .nil)))
abbrev xwformsk4_ : Tm := (.agg (.cons (.int .u8 (.iapp 56 (.cons o0_ (.cons (.int .i64 (.lit 0)) .nil)))) (.cons (.int .u8 (.iapp 56 (.cons o0_ (.cons (.int .i64 (.lit 1)) .nil)))) (.cons (.int .u8 (.iapp 56 (.cons o0_ (.cons (.int .i64 (.lit 2)) .nil)))) (.cons (.int .u8 (.iapp 56 (.cons o0_ (.cons (.int .i64 (.lit 3)) .nil)))) (.cons (.int .i8 (.iapp 56 (.cons o0_ (.cons (.int .i64 (.lit 4)) .nil)))) (.cons (.int .i8 (.iapp 56 (.cons o0_ (.cons (.int .i64 (.lit 5)) .nil)))) (.cons (.int .u32 (.iapp 56 (.cons o0_ (.cons (.int .i64 (.lit 6)) .nil)))) (.cons (.int .u32 (.iapp 56 (.cons o0_ (.cons (.int .i64 (.lit 7)) .nil)))) (.cons (.int .u8 (.iapp 56 (.cons o0_ (.cons (.int .i64 (.lit 8)) .nil)))) (.cons (.int .u8 (.iapp 56 (.cons o0_ (.cons (.int .i64 (.lit 9)) .nil)))) (.cons (.int .u8 (.iapp 56 (.cons o0_ (.cons (.int .i64 (.lit 10)) .nil)))) (.cons (.int .u8 (.iapp 56 (.cons o0_ (.cons (.int .i64 (.lit 11)) .nil)))) (.cons (.int .u64 (.iapp 56 (.cons o0_ (.cons (.int .i64 (.lit 12)) .nil)))) (.cons (.int .u64 (.iapp 56 (.cons o0_ (.cons (.int .i64 (.lit 13)) .nil)))) (.cons (.int .u64 (.iapp 56 (.cons o0_ (.cons (.int .i64 (.lit 14)) .nil)))) (.cons (.int .u64 (.iapp 56 (.cons o0_ (.cons (.int .i64 (.lit 15)) .nil)))) .nil)))))))))))))))))
abbrev xwformsk5_ : Tm := (.agg (.cons (.int .u8 v0_) (.cons (.int .u8 v1_) (.cons (.int .u8 v2_) (.cons (.int .u8 v3_) (.cons (.int .i8 v4_) (.cons (.int .i8 v5_) (.cons (.int .u32 v6_) (.cons (.int .u32 v7_) (.cons (.int .u8 v8_) (.cons (.int .u8 v9_) (.cons (.int .u8 (.var 10)) (.cons (.int .u8 (.var 11)) (.cons (.int .u64 (.var 12)) (.cons (.int .u64 (.var 13)) (.cons (.int .u64 (.var 14)) (.cons (.int .u64 (.var 15)) .nil)))))))))))))))))
abbrev xwformsk6_ : Tm := (.ofI (.vop (.sel 1 0) (.cons o0_ (.cons (.int .i64 (.lit 0)) .nil))))
abbrev xwformsk7_ : Tm := (.hs .no (.cons (.int .u8) .nil) (.vapp 0 (.cons (.int .u8 v0_) (.cons (.int .u8 v1_) (.cons (.int .u8 v2_) (.cons (.int .u8 v3_) (.cons (.int .i8 v4_) (.cons (.int .i8 v5_) (.cons (.int .u32 v6_) (.cons (.int .u32 v7_) (.cons (.int .u8 v8_) (.cons (.int .u8 v9_) (.cons (.int .u8 (.var 10)) (.cons (.int .u8 (.var 11)) (.cons (.int .u64 (.var 12)) (.cons (.int .u64 (.var 13)) (.cons (.int .u64 (.var 14)) (.cons (.int .u64 (.var 15)) .nil))))))))))))))))))
abbrev xwformsk8_ : Tm := (.iapp 32 (.cons (.int .u8 v0_) (.cons (.int .u8 v1_) (.cons (.int .u8 v2_) .nil))))
abbrev xwformsk9_ : Tm := (an_ (le_ (.lit 0) v1_) (an_ (le_ v1_ xwformsk1_) (eq_ v0_ (.iapp 53 (.cons o0_ (.cons z1_ .nil))))))
abbrev xwformsk10_ : Tm := (.vop (.sub 1) (.cons o0_ (.cons (.int .i64 (.lit 40)) (.cons (.int .i64 (.lit 48)) .nil))))
abbrev xwformsk11_ : Tm := (.vop (.sub 1) (.cons o0_ (.cons (.int .i64 (.lit 32)) (.cons (.int .i64 (.lit 40)) .nil))))
abbrev xwformsk12_ : Tm := (.vop (.sub 1) (.cons o0_ (.cons (.int .i64 (.lit 24)) (.cons (.int .i64 (.lit 32)) .nil))))
abbrev xwformsk13_ : Tm := (.vop (.sub 1) (.cons o0_ (.cons (.int .i64 (.lit 16)) (.cons (.int .i64 (.lit 24)) .nil))))
abbrev xwformsk14_ : Tm := (.vop (.sub 1) (.cons o0_ (.cons (.int .i64 (.lit 8)) (.cons (.int .i64 (.lit 12)) .nil))))
abbrev xwformsk15_ : Tm := (.vop (.sub 1) (.cons o0_ (.cons (.int .i64 (.lit 4)) (.cons (.int .i64 (.lit 8)) .nil))))
noncomputable def okR (l : List Value) : Bool := @decide (∀ x ∈ l, inK x) (Classical.propDecidable _)
theorem okR_iff {l : List Value} : okR l = true ↔ ∀ x ∈ l, inK x := @decide_eq_true_iff _ (Classical.propDecidable _)
def enV (le ve mo su po pr dl sp n0 n1 n2 n3 se ak ca sn : Int) : Value := if ckE le ve mo = 0 then Value.tuple #[.int .u8 (fbI le ve mo), .int .u8 su, .int .u8 (IntKind.wrap .u8 po), .int .u8 (IntKind.wrap .u8 pr), .int .u8 (byI (IntKind.wrap .u64 dl) 3), .int .u8 (byI (IntKind.wrap .u64 dl) 2), .int .u8 (byI (IntKind.wrap .u64 dl) 1), .int .u8 (byI (IntKind.wrap .u64 dl) 0), .int .u8 (byI (IntKind.wrap .u64 sp) 3), .int .u8 (byI (IntKind.wrap .u64 sp) 2), .int .u8 (byI (IntKind.wrap .u64 sp) 1), .int .u8 (byI (IntKind.wrap .u64 sp) 0), .int .u8 n0, .int .u8 n1, .int .u8 n2, .int .u8 n3, .int .u8 (byI se 7), .int .u8 (byI se 6), .int .u8 (byI se 5), .int .u8 (byI se 4), .int .u8 (byI se 3), .int .u8 (byI se 2), .int .u8 (byI se 1), .int .u8 (byI se 0), .int .u8 (byI ak 7), .int .u8 (byI ak 6), .int .u8 (byI ak 5), .int .u8 (byI ak 4), .int .u8 (byI ak 3), .int .u8 (byI ak 2), .int .u8 (byI ak 1), .int .u8 (byI ak 0), .int .u8 (byI ca 7), .int .u8 (byI ca 6), .int .u8 (byI ca 5), .int .u8 (byI ca 4), .int .u8 (byI ca 3), .int .u8 (byI ca 2), .int .u8 (byI ca 1), .int .u8 (byI ca 0), .int .u8 (byI sn 7), .int .u8 (byI sn 6), .int .u8 (byI sn 5), .int .u8 (byI sn 4), .int .u8 (byI sn 3), .int .u8 (byI sn 2), .int .u8 (byI sn 1), .int .u8 (byI sn 0)] else .tuple #[]
theorem en_y {le ve mo su po pr dl sp n0 n1 n2 n3 se ak ca sn : Int} (h : ckE le ve mo = 0) : enV le ve mo su po pr dl sp n0 n1 n2 n3 se ak ca sn = Value.tuple #[.int .u8 (fbI le ve mo), .int .u8 su, .int .u8 (IntKind.wrap .u8 po), .int .u8 (IntKind.wrap .u8 pr), .int .u8 (byI (IntKind.wrap .u64 dl) 3), .int .u8 (byI (IntKind.wrap .u64 dl) 2), .int .u8 (byI (IntKind.wrap .u64 dl) 1), .int .u8 (byI (IntKind.wrap .u64 dl) 0), .int .u8 (byI (IntKind.wrap .u64 sp) 3), .int .u8 (byI (IntKind.wrap .u64 sp) 2), .int .u8 (byI (IntKind.wrap .u64 sp) 1), .int .u8 (byI (IntKind.wrap .u64 sp) 0), .int .u8 n0, .int .u8 n1, .int .u8 n2, .int .u8 n3, .int .u8 (byI se 7), .int .u8 (byI se 6), .int .u8 (byI se 5), .int .u8 (byI se 4), .int .u8 (byI se 3), .int .u8 (byI se 2), .int .u8 (byI se 1), .int .u8 (byI se 0), .int .u8 (byI ak 7), .int .u8 (byI ak 6), .int .u8 (byI ak 5), .int .u8 (byI ak 4), .int .u8 (byI ak 3), .int .u8 (byI ak 2), .int .u8 (byI ak 1), .int .u8 (byI ak 0), .int .u8 (byI ca 7), .int .u8 (byI ca 6), .int .u8 (byI ca 5), .int .u8 (byI ca 4), .int .u8 (byI ca 3), .int .u8 (byI ca 2), .int .u8 (byI ca 1), .int .u8 (byI ca 0), .int .u8 (byI sn 7), .int .u8 (byI sn 6), .int .u8 (byI sn 5), .int .u8 (byI sn 4), .int .u8 (byI sn 3), .int .u8 (byI sn 2), .int .u8 (byI sn 1), .int .u8 (byI sn 0)] := by unfold enV; rw [if_pos h]
theorem en_n {le ve mo su po pr dl sp n0 n1 n2 n3 se ak ca sn : Int} (h : ¬ ckE le ve mo = 0) : enV le ve mo su po pr dl sp n0 n1 n2 n3 se ak ca sn = .tuple #[] := by unfold enV; rw [if_neg h]
def nbA (a : Int) : List Value → Int
 | [] => a
 | x :: r => nbA ((a * 256 + Go.RowKit.intOf x) % 18446744073709551616) r
def nbL (l : List Value) : Int := nbA 0 l
def nbK (l : List Value) (k : Nat) : Int := nbL (l.take k)
theorem nbA_app (x : Value) : ∀ (l : List Value) (a : Int), nbA a (l ++ [x]) = (nbA a l * 256 + Go.RowKit.intOf x) % 18446744073709551616
 | [], a => rfl
 | y :: r, a => nbA_app x r _
theorem nbA_rng : ∀ (l : List Value) (a : Int), 0 ≤ a → a < 18446744073709551616 → 0 ≤ nbA a l ∧ nbA a l < 18446744073709551616
 | [], a, h0, h1 => ⟨h0, h1⟩
 | y :: r, a, h0, h1 => nbA_rng r _ (by omega) (by omega)
theorem nbK_rng (l : List Value) (k : Nat) : 0 ≤ nbK l k ∧ nbK l k < 18446744073709551616 := nbA_rng _ _ (by decide) (by decide)
theorem nbK_s {l : List Value} {k : Nat} (h : k < l.length) : nbK l (k + 1) = (nbK l k * 256 + Go.RowKit.intOf (l.getD k Go.undef)) % 18446744073709551616 := by
 unfold nbK nbL
 have e : l.take (k + 1) = l.take k ++ [l.getD k Go.undef] := by
   rw [List.take_add_one, List.getElem?_eq_getElem h, List.getD_eq_getElem?_getD, List.getElem?_eq_getElem h]; rfl
 rw [e, nbA_app]
theorem nbK_all {l : List Value} {k : Nat} (h : l.length ≤ k) : nbK l k = nbL l := by unfold nbK; rw [List.take_of_length_le h]
abbrev ci (l : List Value) (k : Nat) : Int := Go.RowKit.intOf (l.getD k Go.undef)
def raN (l : List Value) (k : Nat) : Int := if k = 0 then ci l 0 / 64 else if k = 1 then ci l 0 / 8 % 8 else if k = 2 then ci l 0 % 8 else if k = 3 then ci l 1 else if k = 4 then IntKind.wrap .i8 (ci l 2) else if k = 5 then IntKind.wrap .i8 (ci l 3) else if k = 6 then IntKind.wrap .u32 (nbL ((l.take 8).drop 4)) else if k = 7 then IntKind.wrap .u32 (nbL ((l.take 12).drop 8)) else if k < 12 then ci l (k + 4) else if k = 12 then nbL ((l.take 24).drop 16) else if k = 13 then nbL ((l.take 32).drop 24) else if k = 14 then nbL ((l.take 40).drop 32) else nbL ((l.take 48).drop 40)
def pdE (l : List Value) : Int := if l.length = 48 ∧ ckE (ci l 0 / 64) (ci l 0 / 8 % 8) (ci l 0 % 8) = 0 then 0 else 3
def pdN (l : List Value) (k : Nat) : Int := if pdE l = 0 then raN l k else 0
theorem pd_spec (l : List Value) : (l.length = 48 ∧ ckE (ci l 0 / 64) (ci l 0 / 8 % 8) (ci l 0 % 8) = 0 ∧ pdE l = 0 ∧ ∀ k, pdN l k = raN l k) ∨ ((l.length ≠ 48 ∨ ckE (ci l 0 / 64) (ci l 0 / 8 % 8) (ci l 0 % 8) ≠ 0) ∧ pdE l = 3 ∧ ∀ k, pdN l k = 0) := by
 by_cases h : l.length = 48 ∧ ckE (ci l 0 / 64) (ci l 0 / 8 % 8) (ci l 0 % 8) = 0
 · have e : pdE l = 0 := by unfold pdE; rw [if_pos h]
   exact .inl ⟨h.1, h.2, e, fun k => by unfold pdN; rw [if_pos e]⟩
 · have e : pdE l = 3 := by unfold pdE; rw [if_neg h]
   refine .inr ⟨?_, e, fun k => by unfold pdN; rw [e]; rfl⟩
   by_cases h2 : l.length = 48
   · exact .inr fun h3 => h ⟨h2, h3⟩
   · exact .inl h2
theorem ra0 (l : List Value) : raN l (Int.toNat 0) = ci l 0 / 64 := rfl
theorem ra1 (l : List Value) : raN l (Int.toNat 1) = ci l 0 / 8 % 8 := rfl
theorem ra2 (l : List Value) : raN l (Int.toNat 2) = ci l 0 % 8 := rfl
theorem ra3 (l : List Value) : raN l (Int.toNat 3) = ci l 1 := rfl
theorem ra4 (l : List Value) : raN l (Int.toNat 4) = IntKind.wrap .i8 (ci l 2) := rfl
theorem ra5 (l : List Value) : raN l (Int.toNat 5) = IntKind.wrap .i8 (ci l 3) := rfl
theorem ra6 (l : List Value) : raN l (Int.toNat 6) = IntKind.wrap .u32 (nbL ((l.take 8).drop 4)) := rfl
theorem ra7 (l : List Value) : raN l (Int.toNat 7) = IntKind.wrap .u32 (nbL ((l.take 12).drop 8)) := rfl
theorem ra8 (l : List Value) : raN l (Int.toNat 8) = ci l 12 := rfl
theorem ra9 (l : List Value) : raN l (Int.toNat 9) = ci l 13 := rfl
theorem ra10 (l : List Value) : raN l (Int.toNat 10) = ci l 14 := rfl
theorem ra11 (l : List Value) : raN l (Int.toNat 11) = ci l 15 := rfl
theorem ra12 (l : List Value) : raN l (Int.toNat 12) = nbL ((l.take 24).drop 16) := rfl
theorem ra13 (l : List Value) : raN l (Int.toNat 13) = nbL ((l.take 32).drop 24) := rfl
theorem ra14 (l : List Value) : raN l (Int.toNat 14) = nbL ((l.take 40).drop 32) := rfl
theorem ra15 (l : List Value) : raN l (Int.toNat 15) = nbL ((l.take 48).drop 40) := rfl
theorem u8_at {l : Value} (ht : typ (.sl (.cons (.int .u8) .nil)) l) (hk : okR (Sy.rows l) = true) {k : Nat} (h : k < (Sy.rows l).length) : 0 ≤ ci (Sy.rows l) k ∧ ci (Sy.rows l) k ≤ 255 := by
 obtain ⟨_, n, h1, h2, h3⟩ := ht
 have h2 : (Sy.rows l).length = n * 1 := h2
 have hr : (Sy.rows l).getD (k * 1) Go.undef = .int .u8 (Go.RowKit.intOf ((Sy.rows l).getD (k * 1) Go.undef)) := (h3 k (by omega)).1
 rw [Nat.mul_one] at hr
 have hm : (Sy.rows l).getD k Go.undef ∈ Sy.rows l := by rw [List.getD_eq_getElem?_getD, List.getElem?_eq_getElem h]; exact List.getElem_mem h
 exact bounds_u8 (okR_iff.1 hk _ hm _ _ hr)
theorem u8_any {l : Value} (ht : typ (.sl (.cons (.int .u8) .nil)) l) (hk : okR (Sy.rows l) = true) (k : Nat) : 0 ≤ ci (Sy.rows l) k ∧ ci (Sy.rows l) k ≤ 255 := by
 by_cases h : k < (Sy.rows l).length
 · exact u8_at ht hk h
 · unfold ci
   rw [List.getD_eq_getElem?_getD, List.getElem?_eq_none (by omega)]
   exact ⟨by decide, by decide⟩
theorem cpy {l Z : List Value} (h : l.length = 48) {k : Nat} (hk : k < 4) : Go.RowKit.intOf ((Sy.rows (Value.tuple (Sy.rows (Value.tuple (List.drop (Int.toNat 12) (List.take (Int.toNat 16) l)).toArray) ++ Sy.rows (Value.tuple Z.toArray)).toArray)).getD k Go.undef) = ci l (12 + k) := by
 show Go.RowKit.intOf ((((l.take 16).drop 12) ++ Z).getD k Go.undef) = ci l (12 + k)
 have hl : ((l.take 16).drop 12).length = 4 := by rw [List.length_drop, List.length_take]; omega
 unfold ci
 rw [List.getD_eq_getElem?_getD, List.getD_eq_getElem?_getD, List.getElem?_append_left (by omega), List.getElem?_drop, List.getElem?_take_of_lt (by omega)]
theorem cp0 {l Z : List Value} (h : l.length = 48) : Go.RowKit.intOf ((Sy.rows (Value.tuple (Sy.rows (Value.tuple (List.drop (Int.toNat 12) (List.take (Int.toNat 16) l)).toArray) ++ Sy.rows (Value.tuple Z.toArray)).toArray)).getD (Int.toNat 0) Go.undef) = ci l 12 := cpy h (k := 0) (by decide)
theorem cp1 {l Z : List Value} (h : l.length = 48) : Go.RowKit.intOf ((Sy.rows (Value.tuple (Sy.rows (Value.tuple (List.drop (Int.toNat 12) (List.take (Int.toNat 16) l)).toArray) ++ Sy.rows (Value.tuple Z.toArray)).toArray)).getD (Int.toNat 1) Go.undef) = ci l 13 := cpy h (k := 1) (by decide)
theorem cp2 {l Z : List Value} (h : l.length = 48) : Go.RowKit.intOf ((Sy.rows (Value.tuple (Sy.rows (Value.tuple (List.drop (Int.toNat 12) (List.take (Int.toNat 16) l)).toArray) ++ Sy.rows (Value.tuple Z.toArray)).toArray)).getD (Int.toNat 2) Go.undef) = ci l 14 := cpy h (k := 2) (by decide)
theorem cp3 {l Z : List Value} (h : l.length = 48) : Go.RowKit.intOf ((Sy.rows (Value.tuple (Sy.rows (Value.tuple (List.drop (Int.toNat 12) (List.take (Int.toNat 16) l)).toArray) ++ Sy.rows (Value.tuple Z.toArray)).toArray)).getD (Int.toNat 3) Go.undef) = ci l 15 := cpy h (k := 3) (by decide)
theorem or8g {a b : Int} (a0 : 0 ≤ a) (b0 : 0 ≤ b) (b1 : b ≤ 255) : Sy.bitsV .or .u64 (IntKind.wrap .u64 (a * 2 ^ (Min.min (Int.toNat 8) (IntKind.bits .u64)))) b = (a * 256 + b) % 18446744073709551616 := by
 have h := or8 (a := a % 72057594037927936) (b := b) (by omega) (by omega) b0 b1
 have e2 : (2 : Int) ^ (Min.min (Int.toNat 8) (IntKind.bits .u64)) = 256 := by decide
 rw [e2] at h ⊢
 have e3 : IntKind.wrap .u64 (a * 256) = IntKind.wrap .u64 (a % 72057594037927936 * 256) := by
   rw [IntKind.wrap_u64, IntKind.wrap_u64]
   omega
 rw [e3, h]
 omega
theorem okR_part {l : Value} {a b : Nat} (h : okR (Sy.rows l) = true) : okR (((Sy.rows l).take b).drop a) = true := okR_iff.2 fun x hx => okR_iff.1 h x (List.mem_of_mem_take (List.mem_of_mem_drop hx))
theorem and7 {x : Int} (h0 : 0 ≤ x) (h1 : x ≤ 255) : Sy.bitsV .and .u8 x 7 = x % 8 := by
 obtain ⟨X, rfl⟩ : ∃ X : Nat, x = X := ⟨x.toNat, by omega⟩
 unfold Sy.bitsV
 show IntKind.wrap .u8 ((((BitVec.ofInt 8 (X : Int)) &&& (BitVec.ofInt 8 7)).toNat : Nat) : Int) = _
 have e1 : ((X : Int) % ((2 ^ 8 : Nat) : Int)).toNat = X := by omega
 have e2 : (BitVec.ofInt 8 7).toNat = 2 ^ 3 - 1 := rfl
 rw [BitVec.toNat_and, BitVec.toNat_ofInt, e1, e2, Nat.and_two_pow_sub_one_eq_mod, IntKind.wrap_u8]
 omega
theorem sh_all {x : Int} (h0 : 0 ≤ x) (h1 : x ≤ 255) : x.fdiv (2 ^ (Min.min (Int.toNat 6) (IntKind.bits .u8))) = x / 64 ∧ Sy.bitsV .and .u8 (x.fdiv (2 ^ (Min.min (Int.toNat 3) (IntKind.bits .u8)))) 7 = x / 8 % 8 ∧ Sy.bitsV .and .u8 x 7 = x % 8 := by
 have e6 : x.fdiv (2 ^ (Min.min (Int.toNat 6) (IntKind.bits .u8))) = x / 64 := Int.fdiv_eq_ediv_of_nonneg _ (by decide)
 have e3 : x.fdiv (2 ^ (Min.min (Int.toNat 3) (IntKind.bits .u8))) = x / 8 := Int.fdiv_eq_ediv_of_nonneg _ (by decide)
 refine ⟨e6, ?_, and7 h0 h1⟩
 rw [e3]
 exact and7 (by omega) (by omega)
noncomputable def nwI : Nat → List Value → Int
 | 53, [l, .int _ i] => nbK (rows l) i.toNat
 | 54, [l] => nbL (rows l)
 | 55, [l] => pdE (rows l)
 | 56, [l, .int _ k] => pdN (rows l) k.toNat
 | i, l => nxI i l
noncomputable def nwB : Nat → List Value → Bool
 | 6, [l] => okR (rows l)
 | i, l => nxB i l
noncomputable def nwV : Nat → List Value → Value
 | 0, [.int _ le, .int _ ve, .int _ mo, .int _ su, .int _ po, .int _ pr, .int _ dl, .int _ sp, .int _ n0, .int _ n1, .int _ n2, .int _ n3, .int _ se, .int _ ak, .int _ ca, .int _ sn] => enV le ve mo su po pr dl sp n0 n1 n2 n3 se ak ca sn
 | i, l => nxV i l
noncomputable abbrev nwE (iv : List Int) (bv : List Bool) (vv : List Value) (sv : List ByteArray) : Env := { iv := iv, bv := bv, vv := vv, sv := sv, fi := nwI, fb := nwB, fv := nwV, et := 142 }
set_option maxHeartbeats 8000000 in
theorem nwup : Agree 53 6 0 (nxE [] [] [] []) (nwE [] [] [] []) := ⟨rfl, (by
   intro f hf
   funext l
   show nwI f l = nxI f l
   unfold nwI
   split <;> first | rfl | omega), (by
   intro f hf
   funext l
   show nwB f l = nxB f l
   unfold nwB
   split <;> first | rfl | omega), (by
   intro f hf
   funext l
   show nwV f l = nxV f l
   unfold nwV
   split <;> first | rfl | omega)⟩
theorem nwi_by (k1 : IntKind) (v : Int) (k2 : IntKind) (j : Int) : nwI 28 [.int k1 v, .int k2 j] = byI v j := rfl
theorem nwi_ck (k1 : IntKind) (l : Int) (k2 : IntKind) (v : Int) (k3 : IntKind) (m : Int) : nwI 32 [.int k1 l, .int k2 v, .int k3 m] = ckE l v m := rfl
theorem nwi_nbk (l : Value) (k1 : IntKind) (i : Int) : nwI 53 [l, .int k1 i] = nbK (rows l) i.toNat := rfl
theorem nwi_nb (l : Value) : nwI 54 [l] = nbL (rows l) := rfl
theorem nwi_de (l : Value) : nwI 55 [l] = pdE (rows l) := rfl
theorem nwi_dn (l : Value) (k1 : IntKind) (k : Int) : nwI 56 [l, .int k1 k] = pdN (rows l) k.toNat := rfl
theorem nwb_okr (l : Value) : nwB 6 [l] = okR (rows l) := rfl
theorem nwv_env (k1 : IntKind) (le : Int) (k2 : IntKind) (ve : Int) (k3 : IntKind) (mo : Int) (k4 : IntKind) (su : Int) (k5 : IntKind) (po : Int) (k6 : IntKind) (pr : Int) (k7 : IntKind) (dl : Int) (k8 : IntKind) (sp : Int) (k9 : IntKind) (n0 : Int) (k10 : IntKind) (n1 : Int) (k11 : IntKind) (n2 : Int) (k12 : IntKind) (n3 : Int) (k13 : IntKind) (se : Int) (k14 : IntKind) (ak : Int) (k15 : IntKind) (ca : Int) (k16 : IntKind) (sn : Int) : nwV 0 [.int k1 le, .int k2 ve, .int k3 mo, .int k4 su, .int k5 po, .int k6 pr, .int k7 dl, .int k8 sp, .int k9 n0, .int k10 n1, .int k11 n2, .int k12 n3, .int k13 se, .int k14 ak, .int k15 ca, .int k16 sn] = enV le ve mo su po pr dl sp n0 n1 n2 n3 se ak ca sn := rfl
def rb4_tree : Tree :=
 (.ret (.hs (.new 5) (.cons (.int .u8) .nil) (.tup (.cons (.int .u8 v0_) (.cons (.int .u8 v1_) (.cons (.int .u8 v2_) (.cons (.int .u8 v3_) (.cons (.int .u8 (.wrap .u8 (.i2 (.shr .u64) (.wrap .u64 v4_) (.lit 24)))) (.cons (.int .u8 (.wrap .u8 (.i2 (.shr .u64) (.wrap .u64 v4_) (.lit 16)))) (.cons (.int .u8 (.wrap .u8 (.i2 (.shr .u64) (.wrap .u64 v4_) (.lit 8)))) (.cons (.int .u8 (.wrap .u8 (.i2 (.shr .u64) (.wrap .u64 v4_) (.lit 0)))) .nil)))))))))))
abbrev nwc_rb4 : Con := ⟨117, [(.hs .no (.cons (.int .u8) .nil) (.tup (.cons (.int .u8 v0_) (.cons (.int .u8 v1_) (.cons (.int .u8 v2_) (.cons (.int .u8 v3_) .nil)))))), (.int .u64 (.wrap .u64 v4_)), (.int .i64 (.lit 4))], (an_ (le_ (.lit 0) v4_) (le_ v4_ (.lit 4294967295))), (.hs (.new 5) (.cons (.int .u8) .nil) (.tup (.cons (.int .u8 v0_) (.cons (.int .u8 v1_) (.cons (.int .u8 v2_) (.cons (.int .u8 v3_) (.cons (.int .u8 (.iapp 28 (.cons (.int .u64 (.wrap .u64 v4_)) (.cons (.int .i64 (.lit 3)) .nil)))) (.cons (.int .u8 (.iapp 28 (.cons (.int .u64 (.wrap .u64 v4_)) (.cons (.int .i64 (.lit 2)) .nil)))) (.cons (.int .u8 (.iapp 28 (.cons (.int .u64 (.wrap .u64 v4_)) (.cons (.int .i64 (.lit 1)) .nil)))) (.cons (.int .u8 (.iapp 28 (.cons (.int .u64 (.wrap .u64 v4_)) (.cons (.int .i64 (.lit 0)) .nil)))) .nil)))))))))), ⟨5, 0, 0, 0⟩, some (0, 5, (.cons (.int .u8) .nil))⟩
theorem rb4_w : walk Tryd.prog 142 ⟨[], syG, [], [], []⟩ [] (.o 5 (.cons (.int .u8) .nil)) nwc_rb4 nwc_rb4.n 3000 = some rb4_tree := by kernel_rfl
theorem rb4_h (c0 c1 c2 c3 v : Int) : Hyp_ nwc_rb4 rb4_tree (nwE [c0, c1, c2, c3, v] [] [] []) := by
 intro hc hty
 simp only [nwc_rb4, Sy.holds, nwE, denV, denI, denB, denL, I2.den, VOp.den, List.getD_cons_zero, List.getD_cons_succ, Cst.den, syso, syse, syio, sybo, B2.ofInts, B2.denI, B2.denB, if_true, Bool.false_eq_true, if_false, Nat.div_one, Nat.mul_one, Nat.add_zero] at hc
 simp only [nwc_rb4, patsTyp, patTyp, patTypL, nwE, denV, denL, List.getD_cons_zero, List.getD_cons_succ, and_true, true_and] at hty
 unfold rb4_tree
 simp only [nwc_rb4, Tree.holds, Sy.holds, nwE, denV, denI, denB, denL, I2.den, VOp.den, List.getD_cons_zero, List.getD_cons_succ, Cst.den, syso, syse, syio, sybo, nwi_by, B2.ofInts, B2.denI, B2.denB, if_true, Bool.false_eq_true, if_false, Nat.div_one, Nat.mul_one, Nat.add_zero]
 have hx := wr_u64 v
 have h0 : 0 ≤ IntKind.wrap .u64 v := by omega
 first
 | (simp only [by_s0 _ h0, by_s1 _ h0, by_s2 _ h0, by_s3 _ h0]; first | done | rfl)
 | (simp only [by_s0 v hc.1, by_s1 v hc.1, by_s2 v hc.1, by_s3 v hc.1, by_s4 v hc.1, by_s5 v hc.1, by_s6 v hc.1, by_s7 v hc.1]; first | done | rfl)
 | skip
theorem nwg_rb4 : nwc_rb4.Good Tryd.prog syG (nwE [] [] [] []) := good_of_walk (Γ := ⟨[], syG, [], [], []⟩) (ρ := nwE [] [] [] []) sym rb4_w rfl (fun _ _ _ _ => ok_nil) rb4_h
def rb8_tree : Tree :=
 (.ret (.hs (.new 5) (.cons (.int .u8) .nil) (.tup (.cons (.int .u8 v0_) (.cons (.int .u8 v1_) (.cons (.int .u8 v2_) (.cons (.int .u8 v3_) (.cons (.int .u8 v4_) (.cons (.int .u8 v5_) (.cons (.int .u8 v6_) (.cons (.int .u8 v7_) (.cons (.int .u8 (.wrap .u8 (.i2 (.shr .u64) (.wrap .u64 v8_) (.lit 24)))) (.cons (.int .u8 (.wrap .u8 (.i2 (.shr .u64) (.wrap .u64 v8_) (.lit 16)))) (.cons (.int .u8 (.wrap .u8 (.i2 (.shr .u64) (.wrap .u64 v8_) (.lit 8)))) (.cons (.int .u8 (.wrap .u8 (.i2 (.shr .u64) (.wrap .u64 v8_) (.lit 0)))) .nil)))))))))))))))
abbrev nwc_rb8 : Con := ⟨117, [(.hs .no (.cons (.int .u8) .nil) (.tup (.cons (.int .u8 v0_) (.cons (.int .u8 v1_) (.cons (.int .u8 v2_) (.cons (.int .u8 v3_) (.cons (.int .u8 v4_) (.cons (.int .u8 v5_) (.cons (.int .u8 v6_) (.cons (.int .u8 v7_) .nil)))))))))), (.int .u64 (.wrap .u64 v8_)), (.int .i64 (.lit 4))], (an_ (le_ (.lit 0) v8_) (le_ v8_ (.lit 4294967295))), (.hs (.new 5) (.cons (.int .u8) .nil) (.tup (.cons (.int .u8 v0_) (.cons (.int .u8 v1_) (.cons (.int .u8 v2_) (.cons (.int .u8 v3_) (.cons (.int .u8 v4_) (.cons (.int .u8 v5_) (.cons (.int .u8 v6_) (.cons (.int .u8 v7_) (.cons (.int .u8 (.iapp 28 (.cons (.int .u64 (.wrap .u64 v8_)) (.cons (.int .i64 (.lit 3)) .nil)))) (.cons (.int .u8 (.iapp 28 (.cons (.int .u64 (.wrap .u64 v8_)) (.cons (.int .i64 (.lit 2)) .nil)))) (.cons (.int .u8 (.iapp 28 (.cons (.int .u64 (.wrap .u64 v8_)) (.cons (.int .i64 (.lit 1)) .nil)))) (.cons (.int .u8 (.iapp 28 (.cons (.int .u64 (.wrap .u64 v8_)) (.cons (.int .i64 (.lit 0)) .nil)))) .nil)))))))))))))), ⟨9, 0, 0, 0⟩, some (0, 5, (.cons (.int .u8) .nil))⟩
theorem rb8_w : walk Tryd.prog 142 ⟨[], syG, [], [], []⟩ [] (.o 5 (.cons (.int .u8) .nil)) nwc_rb8 nwc_rb8.n 3000 = some rb8_tree := by kernel_rfl
theorem rb8_h (c0 c1 c2 c3 c4 c5 c6 c7 v : Int) : Hyp_ nwc_rb8 rb8_tree (nwE [c0, c1, c2, c3, c4, c5, c6, c7, v] [] [] []) := by
 intro hc hty
 simp only [nwc_rb8, Sy.holds, nwE, denV, denI, denB, denL, I2.den, VOp.den, List.getD_cons_zero, List.getD_cons_succ, Cst.den, syso, syse, syio, sybo, B2.ofInts, B2.denI, B2.denB, if_true, Bool.false_eq_true, if_false, Nat.div_one, Nat.mul_one, Nat.add_zero] at hc
 simp only [nwc_rb8, patsTyp, patTyp, patTypL, nwE, denV, denL, List.getD_cons_zero, List.getD_cons_succ, and_true, true_and] at hty
 unfold rb8_tree
 simp only [nwc_rb8, Tree.holds, Sy.holds, nwE, denV, denI, denB, denL, I2.den, VOp.den, List.getD_cons_zero, List.getD_cons_succ, Cst.den, syso, syse, syio, sybo, nwi_by, B2.ofInts, B2.denI, B2.denB, if_true, Bool.false_eq_true, if_false, Nat.div_one, Nat.mul_one, Nat.add_zero]
 have hx := wr_u64 v
 have h0 : 0 ≤ IntKind.wrap .u64 v := by omega
 first
 | (simp only [by_s0 _ h0, by_s1 _ h0, by_s2 _ h0, by_s3 _ h0]; first | done | rfl)
 | (simp only [by_s0 v hc.1, by_s1 v hc.1, by_s2 v hc.1, by_s3 v hc.1, by_s4 v hc.1, by_s5 v hc.1, by_s6 v hc.1, by_s7 v hc.1]; first | done | rfl)
 | skip
theorem nwg_rb8 : nwc_rb8.Good Tryd.prog syG (nwE [] [] [] []) := good_of_walk (Γ := ⟨[], syG, [], [], []⟩) (ρ := nwE [] [] [] []) sym rb8_w rfl (fun _ _ _ _ => ok_nil) rb8_h
def rc16_tree : Tree :=
 (.ret (.hs (.new 5) (.cons (.int .u8) .nil) (.tup (.cons (.int .u8 v0_) (.cons (.int .u8 v1_) (.cons (.int .u8 v2_) (.cons (.int .u8 v3_) (.cons (.int .u8 v4_) (.cons (.int .u8 v5_) (.cons (.int .u8 v6_) (.cons (.int .u8 v7_) (.cons (.int .u8 v8_) (.cons (.int .u8 v9_) (.cons (.int .u8 (.var 10)) (.cons (.int .u8 (.var 11)) (.cons (.int .u8 (.var 12)) (.cons (.int .u8 (.var 13)) (.cons (.int .u8 (.var 14)) (.cons (.int .u8 (.var 15)) (.cons (.int .u8 (.wrap .u8 (.i2 (.shr .u64) (.var 16) (.lit 56)))) (.cons (.int .u8 (.wrap .u8 (.i2 (.shr .u64) (.var 16) (.lit 48)))) (.cons (.int .u8 (.wrap .u8 (.i2 (.shr .u64) (.var 16) (.lit 40)))) (.cons (.int .u8 (.wrap .u8 (.i2 (.shr .u64) (.var 16) (.lit 32)))) (.cons (.int .u8 (.wrap .u8 (.i2 (.shr .u64) (.var 16) (.lit 24)))) (.cons (.int .u8 (.wrap .u8 (.i2 (.shr .u64) (.var 16) (.lit 16)))) (.cons (.int .u8 (.wrap .u8 (.i2 (.shr .u64) (.var 16) (.lit 8)))) (.cons (.int .u8 (.wrap .u8 (.i2 (.shr .u64) (.var 16) (.lit 0)))) .nil)))))))))))))))))))))))))))
abbrev nwc_rc16 : Con := ⟨117, [(.hs .no (.cons (.int .u8) .nil) (.tup (.cons (.int .u8 v0_) (.cons (.int .u8 v1_) (.cons (.int .u8 v2_) (.cons (.int .u8 v3_) (.cons (.int .u8 v4_) (.cons (.int .u8 v5_) (.cons (.int .u8 v6_) (.cons (.int .u8 v7_) (.cons (.int .u8 v8_) (.cons (.int .u8 v9_) (.cons (.int .u8 (.var 10)) (.cons (.int .u8 (.var 11)) (.cons (.int .u8 (.var 12)) (.cons (.int .u8 (.var 13)) (.cons (.int .u8 (.var 14)) (.cons (.int .u8 (.var 15)) .nil)))))))))))))))))), (.int .u64 (.var 16)), (.int .i64 (.lit 8))], (an_ (le_ (.lit 0) (.var 16)) (le_ (.var 16) (.lit 18446744073709551615))), (.hs (.new 5) (.cons (.int .u8) .nil) (.tup (.cons (.int .u8 v0_) (.cons (.int .u8 v1_) (.cons (.int .u8 v2_) (.cons (.int .u8 v3_) (.cons (.int .u8 v4_) (.cons (.int .u8 v5_) (.cons (.int .u8 v6_) (.cons (.int .u8 v7_) (.cons (.int .u8 v8_) (.cons (.int .u8 v9_) (.cons (.int .u8 (.var 10)) (.cons (.int .u8 (.var 11)) (.cons (.int .u8 (.var 12)) (.cons (.int .u8 (.var 13)) (.cons (.int .u8 (.var 14)) (.cons (.int .u8 (.var 15)) (.cons (.int .u8 (.iapp 28 (.cons (.int .u64 (.var 16)) (.cons (.int .i64 (.lit 7)) .nil)))) (.cons (.int .u8 (.iapp 28 (.cons (.int .u64 (.var 16)) (.cons (.int .i64 (.lit 6)) .nil)))) (.cons (.int .u8 (.iapp 28 (.cons (.int .u64 (.var 16)) (.cons (.int .i64 (.lit 5)) .nil)))) (.cons (.int .u8 (.iapp 28 (.cons (.int .u64 (.var 16)) (.cons (.int .i64 (.lit 4)) .nil)))) (.cons (.int .u8 (.iapp 28 (.cons (.int .u64 (.var 16)) (.cons (.int .i64 (.lit 3)) .nil)))) (.cons (.int .u8 (.iapp 28 (.cons (.int .u64 (.var 16)) (.cons (.int .i64 (.lit 2)) .nil)))) (.cons (.int .u8 (.iapp 28 (.cons (.int .u64 (.var 16)) (.cons (.int .i64 (.lit 1)) .nil)))) (.cons (.int .u8 (.iapp 28 (.cons (.int .u64 (.var 16)) (.cons (.int .i64 (.lit 0)) .nil)))) .nil)))))))))))))))))))))))))), ⟨17, 0, 0, 0⟩, some (0, 5, (.cons (.int .u8) .nil))⟩
theorem rc16_w : walk Tryd.prog 142 ⟨[], syG, [], [], []⟩ [] (.o 5 (.cons (.int .u8) .nil)) nwc_rc16 nwc_rc16.n 3000 = some rc16_tree := by kernel_rfl
theorem rc16_h (c0 c1 c2 c3 c4 c5 c6 c7 c8 c9 c10 c11 c12 c13 c14 c15 v : Int) : Hyp_ nwc_rc16 rc16_tree (nwE [c0, c1, c2, c3, c4, c5, c6, c7, c8, c9, c10, c11, c12, c13, c14, c15, v] [] [] []) := by
 intro hc hty
 simp only [nwc_rc16, Sy.holds, nwE, denV, denI, denB, denL, I2.den, VOp.den, List.getD_cons_zero, List.getD_cons_succ, Cst.den, syso, syse, syio, sybo, B2.ofInts, B2.denI, B2.denB, if_true, Bool.false_eq_true, if_false, Nat.div_one, Nat.mul_one, Nat.add_zero] at hc
 simp only [nwc_rc16, patsTyp, patTyp, patTypL, nwE, denV, denL, List.getD_cons_zero, List.getD_cons_succ, and_true, true_and] at hty
 unfold rc16_tree
 simp only [nwc_rc16, Tree.holds, Sy.holds, nwE, denV, denI, denB, denL, I2.den, VOp.den, List.getD_cons_zero, List.getD_cons_succ, Cst.den, syso, syse, syio, sybo, nwi_by, B2.ofInts, B2.denI, B2.denB, if_true, Bool.false_eq_true, if_false, Nat.div_one, Nat.mul_one, Nat.add_zero]
 have hx := wr_u64 v
 have h0 : 0 ≤ IntKind.wrap .u64 v := by omega
 first
 | (simp only [by_s0 _ h0, by_s1 _ h0, by_s2 _ h0, by_s3 _ h0]; first | done | rfl)
 | (simp only [by_s0 v hc.1, by_s1 v hc.1, by_s2 v hc.1, by_s3 v hc.1, by_s4 v hc.1, by_s5 v hc.1, by_s6 v hc.1, by_s7 v hc.1]; first | done | rfl)
 | skip
theorem nwg_rc16 : nwc_rc16.Good Tryd.prog syG (nwE [] [] [] []) := good_of_walk (Γ := ⟨[], syG, [], [], []⟩) (ρ := nwE [] [] [] []) sym rc16_w rfl (fun _ _ _ _ => ok_nil) rc16_h
def rc24_tree : Tree :=
 (.ret (.hs (.new 5) (.cons (.int .u8) .nil) (.tup (.cons (.int .u8 v0_) (.cons (.int .u8 v1_) (.cons (.int .u8 v2_) (.cons (.int .u8 v3_) (.cons (.int .u8 v4_) (.cons (.int .u8 v5_) (.cons (.int .u8 v6_) (.cons (.int .u8 v7_) (.cons (.int .u8 v8_) (.cons (.int .u8 v9_) (.cons (.int .u8 (.var 10)) (.cons (.int .u8 (.var 11)) (.cons (.int .u8 (.var 12)) (.cons (.int .u8 (.var 13)) (.cons (.int .u8 (.var 14)) (.cons (.int .u8 (.var 15)) (.cons (.int .u8 (.var 16)) (.cons (.int .u8 (.var 17)) (.cons (.int .u8 (.var 18)) (.cons (.int .u8 (.var 19)) (.cons (.int .u8 (.var 20)) (.cons (.int .u8 (.var 21)) (.cons (.int .u8 (.var 22)) (.cons (.int .u8 (.var 23)) (.cons (.int .u8 (.wrap .u8 (.i2 (.shr .u64) (.var 24) (.lit 56)))) (.cons (.int .u8 (.wrap .u8 (.i2 (.shr .u64) (.var 24) (.lit 48)))) (.cons (.int .u8 (.wrap .u8 (.i2 (.shr .u64) (.var 24) (.lit 40)))) (.cons (.int .u8 (.wrap .u8 (.i2 (.shr .u64) (.var 24) (.lit 32)))) (.cons (.int .u8 (.wrap .u8 (.i2 (.shr .u64) (.var 24) (.lit 24)))) (.cons (.int .u8 (.wrap .u8 (.i2 (.shr .u64) (.var 24) (.lit 16)))) (.cons (.int .u8 (.wrap .u8 (.i2 (.shr .u64) (.var 24) (.lit 8)))) (.cons (.int .u8 (.wrap .u8 (.i2 (.shr .u64) (.var 24) (.lit 0)))) .nil)))))))))))))))))))))))))))))))))))
abbrev nwc_rc24 : Con := ⟨117, [(.hs .no (.cons (.int .u8) .nil) (.tup (.cons (.int .u8 v0_) (.cons (.int .u8 v1_) (.cons (.int .u8 v2_) (.cons (.int .u8 v3_) (.cons (.int .u8 v4_) (.cons (.int .u8 v5_) (.cons (.int .u8 v6_) (.cons (.int .u8 v7_) (.cons (.int .u8 v8_) (.cons (.int .u8 v9_) (.cons (.int .u8 (.var 10)) (.cons (.int .u8 (.var 11)) (.cons (.int .u8 (.var 12)) (.cons (.int .u8 (.var 13)) (.cons (.int .u8 (.var 14)) (.cons (.int .u8 (.var 15)) (.cons (.int .u8 (.var 16)) (.cons (.int .u8 (.var 17)) (.cons (.int .u8 (.var 18)) (.cons (.int .u8 (.var 19)) (.cons (.int .u8 (.var 20)) (.cons (.int .u8 (.var 21)) (.cons (.int .u8 (.var 22)) (.cons (.int .u8 (.var 23)) .nil)))))))))))))))))))))))))), (.int .u64 (.var 24)), (.int .i64 (.lit 8))], (an_ (le_ (.lit 0) (.var 24)) (le_ (.var 24) (.lit 18446744073709551615))), (.hs (.new 5) (.cons (.int .u8) .nil) (.tup (.cons (.int .u8 v0_) (.cons (.int .u8 v1_) (.cons (.int .u8 v2_) (.cons (.int .u8 v3_) (.cons (.int .u8 v4_) (.cons (.int .u8 v5_) (.cons (.int .u8 v6_) (.cons (.int .u8 v7_) (.cons (.int .u8 v8_) (.cons (.int .u8 v9_) (.cons (.int .u8 (.var 10)) (.cons (.int .u8 (.var 11)) (.cons (.int .u8 (.var 12)) (.cons (.int .u8 (.var 13)) (.cons (.int .u8 (.var 14)) (.cons (.int .u8 (.var 15)) (.cons (.int .u8 (.var 16)) (.cons (.int .u8 (.var 17)) (.cons (.int .u8 (.var 18)) (.cons (.int .u8 (.var 19)) (.cons (.int .u8 (.var 20)) (.cons (.int .u8 (.var 21)) (.cons (.int .u8 (.var 22)) (.cons (.int .u8 (.var 23)) (.cons (.int .u8 (.iapp 28 (.cons (.int .u64 (.var 24)) (.cons (.int .i64 (.lit 7)) .nil)))) (.cons (.int .u8 (.iapp 28 (.cons (.int .u64 (.var 24)) (.cons (.int .i64 (.lit 6)) .nil)))) (.cons (.int .u8 (.iapp 28 (.cons (.int .u64 (.var 24)) (.cons (.int .i64 (.lit 5)) .nil)))) (.cons (.int .u8 (.iapp 28 (.cons (.int .u64 (.var 24)) (.cons (.int .i64 (.lit 4)) .nil)))) (.cons (.int .u8 (.iapp 28 (.cons (.int .u64 (.var 24)) (.cons (.int .i64 (.lit 3)) .nil)))) (.cons (.int .u8 (.iapp 28 (.cons (.int .u64 (.var 24)) (.cons (.int .i64 (.lit 2)) .nil)))) (.cons (.int .u8 (.iapp 28 (.cons (.int .u64 (.var 24)) (.cons (.int .i64 (.lit 1)) .nil)))) (.cons (.int .u8 (.iapp 28 (.cons (.int .u64 (.var 24)) (.cons (.int .i64 (.lit 0)) .nil)))) .nil)))))))))))))))))))))))))))))))))), ⟨25, 0, 0, 0⟩, some (0, 5, (.cons (.int .u8) .nil))⟩
theorem rc24_w : walk Tryd.prog 142 ⟨[], syG, [], [], []⟩ [] (.o 5 (.cons (.int .u8) .nil)) nwc_rc24 nwc_rc24.n 3000 = some rc24_tree := by kernel_rfl
theorem rc24_h (c0 c1 c2 c3 c4 c5 c6 c7 c8 c9 c10 c11 c12 c13 c14 c15 c16 c17 c18 c19 c20 c21 c22 c23 v : Int) : Hyp_ nwc_rc24 rc24_tree (nwE [c0, c1, c2, c3, c4, c5, c6, c7, c8, c9, c10, c11, c12, c13, c14, c15, c16, c17, c18, c19, c20, c21, c22, c23, v] [] [] []) := by
 intro hc hty
 simp only [nwc_rc24, Sy.holds, nwE, denV, denI, denB, denL, I2.den, VOp.den, List.getD_cons_zero, List.getD_cons_succ, Cst.den, syso, syse, syio, sybo, B2.ofInts, B2.denI, B2.denB, if_true, Bool.false_eq_true, if_false, Nat.div_one, Nat.mul_one, Nat.add_zero] at hc
 simp only [nwc_rc24, patsTyp, patTyp, patTypL, nwE, denV, denL, List.getD_cons_zero, List.getD_cons_succ, and_true, true_and] at hty
 unfold rc24_tree
 simp only [nwc_rc24, Tree.holds, Sy.holds, nwE, denV, denI, denB, denL, I2.den, VOp.den, List.getD_cons_zero, List.getD_cons_succ, Cst.den, syso, syse, syio, sybo, nwi_by, B2.ofInts, B2.denI, B2.denB, if_true, Bool.false_eq_true, if_false, Nat.div_one, Nat.mul_one, Nat.add_zero]
 have hx := wr_u64 v
 have h0 : 0 ≤ IntKind.wrap .u64 v := by omega
 first
 | (simp only [by_s0 _ h0, by_s1 _ h0, by_s2 _ h0, by_s3 _ h0]; first | done | rfl)
 | (simp only [by_s0 v hc.1, by_s1 v hc.1, by_s2 v hc.1, by_s3 v hc.1, by_s4 v hc.1, by_s5 v hc.1, by_s6 v hc.1, by_s7 v hc.1]; first | done | rfl)
 | skip
theorem nwg_rc24 : nwc_rc24.Good Tryd.prog syG (nwE [] [] [] []) := good_of_walk (Γ := ⟨[], syG, [], [], []⟩) (ρ := nwE [] [] [] []) sym rc24_w rfl (fun _ _ _ _ => ok_nil) rc24_h
def rc32_tree : Tree :=
 (.ret (.hs (.new 5) (.cons (.int .u8) .nil) (.tup (.cons (.int .u8 v0_) (.cons (.int .u8 v1_) (.cons (.int .u8 v2_) (.cons (.int .u8 v3_) (.cons (.int .u8 v4_) (.cons (.int .u8 v5_) (.cons (.int .u8 v6_) (.cons (.int .u8 v7_) (.cons (.int .u8 v8_) (.cons (.int .u8 v9_) (.cons (.int .u8 (.var 10)) (.cons (.int .u8 (.var 11)) (.cons (.int .u8 (.var 12)) (.cons (.int .u8 (.var 13)) (.cons (.int .u8 (.var 14)) (.cons (.int .u8 (.var 15)) (.cons (.int .u8 (.var 16)) (.cons (.int .u8 (.var 17)) (.cons (.int .u8 (.var 18)) (.cons (.int .u8 (.var 19)) (.cons (.int .u8 (.var 20)) (.cons (.int .u8 (.var 21)) (.cons (.int .u8 (.var 22)) (.cons (.int .u8 (.var 23)) (.cons (.int .u8 (.var 24)) (.cons (.int .u8 (.var 25)) (.cons (.int .u8 (.var 26)) (.cons (.int .u8 (.var 27)) (.cons (.int .u8 (.var 28)) (.cons (.int .u8 (.var 29)) (.cons (.int .u8 (.var 30)) (.cons (.int .u8 (.var 31)) (.cons (.int .u8 (.wrap .u8 (.i2 (.shr .u64) (.var 32) (.lit 56)))) (.cons (.int .u8 (.wrap .u8 (.i2 (.shr .u64) (.var 32) (.lit 48)))) (.cons (.int .u8 (.wrap .u8 (.i2 (.shr .u64) (.var 32) (.lit 40)))) (.cons (.int .u8 (.wrap .u8 (.i2 (.shr .u64) (.var 32) (.lit 32)))) (.cons (.int .u8 (.wrap .u8 (.i2 (.shr .u64) (.var 32) (.lit 24)))) (.cons (.int .u8 (.wrap .u8 (.i2 (.shr .u64) (.var 32) (.lit 16)))) (.cons (.int .u8 (.wrap .u8 (.i2 (.shr .u64) (.var 32) (.lit 8)))) (.cons (.int .u8 (.wrap .u8 (.i2 (.shr .u64) (.var 32) (.lit 0)))) .nil)))))))))))))))))))))))))))))))))))))))))))
abbrev nwc_rc32 : Con := ⟨117, [(.hs .no (.cons (.int .u8) .nil) (.tup (.cons (.int .u8 v0_) (.cons (.int .u8 v1_) (.cons (.int .u8 v2_) (.cons (.int .u8 v3_) (.cons (.int .u8 v4_) (.cons (.int .u8 v5_) (.cons (.int .u8 v6_) (.cons (.int .u8 v7_) (.cons (.int .u8 v8_) (.cons (.int .u8 v9_) (.cons (.int .u8 (.var 10)) (.cons (.int .u8 (.var 11)) (.cons (.int .u8 (.var 12)) (.cons (.int .u8 (.var 13)) (.cons (.int .u8 (.var 14)) (.cons (.int .u8 (.var 15)) (.cons (.int .u8 (.var 16)) (.cons (.int .u8 (.var 17)) (.cons (.int .u8 (.var 18)) (.cons (.int .u8 (.var 19)) (.cons (.int .u8 (.var 20)) (.cons (.int .u8 (.var 21)) (.cons (.int .u8 (.var 22)) (.cons (.int .u8 (.var 23)) (.cons (.int .u8 (.var 24)) (.cons (.int .u8 (.var 25)) (.cons (.int .u8 (.var 26)) (.cons (.int .u8 (.var 27)) (.cons (.int .u8 (.var 28)) (.cons (.int .u8 (.var 29)) (.cons (.int .u8 (.var 30)) (.cons (.int .u8 (.var 31)) .nil)))))))))))))))))))))))))))))))))), (.int .u64 (.var 32)), (.int .i64 (.lit 8))], (an_ (le_ (.lit 0) (.var 32)) (le_ (.var 32) (.lit 18446744073709551615))), (.hs (.new 5) (.cons (.int .u8) .nil) (.tup (.cons (.int .u8 v0_) (.cons (.int .u8 v1_) (.cons (.int .u8 v2_) (.cons (.int .u8 v3_) (.cons (.int .u8 v4_) (.cons (.int .u8 v5_) (.cons (.int .u8 v6_) (.cons (.int .u8 v7_) (.cons (.int .u8 v8_) (.cons (.int .u8 v9_) (.cons (.int .u8 (.var 10)) (.cons (.int .u8 (.var 11)) (.cons (.int .u8 (.var 12)) (.cons (.int .u8 (.var 13)) (.cons (.int .u8 (.var 14)) (.cons (.int .u8 (.var 15)) (.cons (.int .u8 (.var 16)) (.cons (.int .u8 (.var 17)) (.cons (.int .u8 (.var 18)) (.cons (.int .u8 (.var 19)) (.cons (.int .u8 (.var 20)) (.cons (.int .u8 (.var 21)) (.cons (.int .u8 (.var 22)) (.cons (.int .u8 (.var 23)) (.cons (.int .u8 (.var 24)) (.cons (.int .u8 (.var 25)) (.cons (.int .u8 (.var 26)) (.cons (.int .u8 (.var 27)) (.cons (.int .u8 (.var 28)) (.cons (.int .u8 (.var 29)) (.cons (.int .u8 (.var 30)) (.cons (.int .u8 (.var 31)) (.cons (.int .u8 (.iapp 28 (.cons (.int .u64 (.var 32)) (.cons (.int .i64 (.lit 7)) .nil)))) (.cons (.int .u8 (.iapp 28 (.cons (.int .u64 (.var 32)) (.cons (.int .i64 (.lit 6)) .nil)))) (.cons (.int .u8 (.iapp 28 (.cons (.int .u64 (.var 32)) (.cons (.int .i64 (.lit 5)) .nil)))) (.cons (.int .u8 (.iapp 28 (.cons (.int .u64 (.var 32)) (.cons (.int .i64 (.lit 4)) .nil)))) (.cons (.int .u8 (.iapp 28 (.cons (.int .u64 (.var 32)) (.cons (.int .i64 (.lit 3)) .nil)))) (.cons (.int .u8 (.iapp 28 (.cons (.int .u64 (.var 32)) (.cons (.int .i64 (.lit 2)) .nil)))) (.cons (.int .u8 (.iapp 28 (.cons (.int .u64 (.var 32)) (.cons (.int .i64 (.lit 1)) .nil)))) (.cons (.int .u8 (.iapp 28 (.cons (.int .u64 (.var 32)) (.cons (.int .i64 (.lit 0)) .nil)))) .nil)))))))))))))))))))))))))))))))))))))))))), ⟨33, 0, 0, 0⟩, some (0, 5, (.cons (.int .u8) .nil))⟩
theorem rc32_w : walk Tryd.prog 142 ⟨[], syG, [], [], []⟩ [] (.o 5 (.cons (.int .u8) .nil)) nwc_rc32 nwc_rc32.n 3000 = some rc32_tree := by kernel_rfl
theorem rc32_h (c0 c1 c2 c3 c4 c5 c6 c7 c8 c9 c10 c11 c12 c13 c14 c15 c16 c17 c18 c19 c20 c21 c22 c23 c24 c25 c26 c27 c28 c29 c30 c31 v : Int) : Hyp_ nwc_rc32 rc32_tree (nwE [c0, c1, c2, c3, c4, c5, c6, c7, c8, c9, c10, c11, c12, c13, c14, c15, c16, c17, c18, c19, c20, c21, c22, c23, c24, c25, c26, c27, c28, c29, c30, c31, v] [] [] []) := by
 intro hc hty
 simp only [nwc_rc32, Sy.holds, nwE, denV, denI, denB, denL, I2.den, VOp.den, List.getD_cons_zero, List.getD_cons_succ, Cst.den, syso, syse, syio, sybo, B2.ofInts, B2.denI, B2.denB, if_true, Bool.false_eq_true, if_false, Nat.div_one, Nat.mul_one, Nat.add_zero] at hc
 simp only [nwc_rc32, patsTyp, patTyp, patTypL, nwE, denV, denL, List.getD_cons_zero, List.getD_cons_succ, and_true, true_and] at hty
 unfold rc32_tree
 simp only [nwc_rc32, Tree.holds, Sy.holds, nwE, denV, denI, denB, denL, I2.den, VOp.den, List.getD_cons_zero, List.getD_cons_succ, Cst.den, syso, syse, syio, sybo, nwi_by, B2.ofInts, B2.denI, B2.denB, if_true, Bool.false_eq_true, if_false, Nat.div_one, Nat.mul_one, Nat.add_zero]
 have hx := wr_u64 v
 have h0 : 0 ≤ IntKind.wrap .u64 v := by omega
 first
 | (simp only [by_s0 _ h0, by_s1 _ h0, by_s2 _ h0, by_s3 _ h0]; first | done | rfl)
 | (simp only [by_s0 v hc.1, by_s1 v hc.1, by_s2 v hc.1, by_s3 v hc.1, by_s4 v hc.1, by_s5 v hc.1, by_s6 v hc.1, by_s7 v hc.1]; first | done | rfl)
 | skip
theorem nwg_rc32 : nwc_rc32.Good Tryd.prog syG (nwE [] [] [] []) := good_of_walk (Γ := ⟨[], syG, [], [], []⟩) (ρ := nwE [] [] [] []) sym rc32_w rfl (fun _ _ _ _ => ok_nil) rc32_h
def rc40_tree : Tree :=
 (.ret (.hs (.new 5) (.cons (.int .u8) .nil) (.tup (.cons (.int .u8 v0_) (.cons (.int .u8 v1_) (.cons (.int .u8 v2_) (.cons (.int .u8 v3_) (.cons (.int .u8 v4_) (.cons (.int .u8 v5_) (.cons (.int .u8 v6_) (.cons (.int .u8 v7_) (.cons (.int .u8 v8_) (.cons (.int .u8 v9_) (.cons (.int .u8 (.var 10)) (.cons (.int .u8 (.var 11)) (.cons (.int .u8 (.var 12)) (.cons (.int .u8 (.var 13)) (.cons (.int .u8 (.var 14)) (.cons (.int .u8 (.var 15)) (.cons (.int .u8 (.var 16)) (.cons (.int .u8 (.var 17)) (.cons (.int .u8 (.var 18)) (.cons (.int .u8 (.var 19)) (.cons (.int .u8 (.var 20)) (.cons (.int .u8 (.var 21)) (.cons (.int .u8 (.var 22)) (.cons (.int .u8 (.var 23)) (.cons (.int .u8 (.var 24)) (.cons (.int .u8 (.var 25)) (.cons (.int .u8 (.var 26)) (.cons (.int .u8 (.var 27)) (.cons (.int .u8 (.var 28)) (.cons (.int .u8 (.var 29)) (.cons (.int .u8 (.var 30)) (.cons (.int .u8 (.var 31)) (.cons (.int .u8 (.var 32)) (.cons (.int .u8 (.var 33)) (.cons (.int .u8 (.var 34)) (.cons (.int .u8 (.var 35)) (.cons (.int .u8 (.var 36)) (.cons (.int .u8 (.var 37)) (.cons (.int .u8 (.var 38)) (.cons (.int .u8 (.var 39)) (.cons (.int .u8 (.wrap .u8 (.i2 (.shr .u64) (.var 40) (.lit 56)))) (.cons (.int .u8 (.wrap .u8 (.i2 (.shr .u64) (.var 40) (.lit 48)))) (.cons (.int .u8 (.wrap .u8 (.i2 (.shr .u64) (.var 40) (.lit 40)))) (.cons (.int .u8 (.wrap .u8 (.i2 (.shr .u64) (.var 40) (.lit 32)))) (.cons (.int .u8 (.wrap .u8 (.i2 (.shr .u64) (.var 40) (.lit 24)))) (.cons (.int .u8 (.wrap .u8 (.i2 (.shr .u64) (.var 40) (.lit 16)))) (.cons (.int .u8 (.wrap .u8 (.i2 (.shr .u64) (.var 40) (.lit 8)))) (.cons (.int .u8 (.wrap .u8 (.i2 (.shr .u64) (.var 40) (.lit 0)))) .nil)))))))))))))))))))))))))))))))))))))))))))))))))))
abbrev nwc_rc40 : Con := ⟨117, [(.hs .no (.cons (.int .u8) .nil) (.tup (.cons (.int .u8 v0_) (.cons (.int .u8 v1_) (.cons (.int .u8 v2_) (.cons (.int .u8 v3_) (.cons (.int .u8 v4_) (.cons (.int .u8 v5_) (.cons (.int .u8 v6_) (.cons (.int .u8 v7_) (.cons (.int .u8 v8_) (.cons (.int .u8 v9_) (.cons (.int .u8 (.var 10)) (.cons (.int .u8 (.var 11)) (.cons (.int .u8 (.var 12)) (.cons (.int .u8 (.var 13)) (.cons (.int .u8 (.var 14)) (.cons (.int .u8 (.var 15)) (.cons (.int .u8 (.var 16)) (.cons (.int .u8 (.var 17)) (.cons (.int .u8 (.var 18)) (.cons (.int .u8 (.var 19)) (.cons (.int .u8 (.var 20)) (.cons (.int .u8 (.var 21)) (.cons (.int .u8 (.var 22)) (.cons (.int .u8 (.var 23)) (.cons (.int .u8 (.var 24)) (.cons (.int .u8 (.var 25)) (.cons (.int .u8 (.var 26)) (.cons (.int .u8 (.var 27)) (.cons (.int .u8 (.var 28)) (.cons (.int .u8 (.var 29)) (.cons (.int .u8 (.var 30)) (.cons (.int .u8 (.var 31)) (.cons (.int .u8 (.var 32)) (.cons (.int .u8 (.var 33)) (.cons (.int .u8 (.var 34)) (.cons (.int .u8 (.var 35)) (.cons (.int .u8 (.var 36)) (.cons (.int .u8 (.var 37)) (.cons (.int .u8 (.var 38)) (.cons (.int .u8 (.var 39)) .nil)))))))))))))))))))))))))))))))))))))))))), (.int .u64 (.var 40)), (.int .i64 (.lit 8))], (an_ (le_ (.lit 0) (.var 40)) (le_ (.var 40) (.lit 18446744073709551615))), (.hs (.new 5) (.cons (.int .u8) .nil) (.tup (.cons (.int .u8 v0_) (.cons (.int .u8 v1_) (.cons (.int .u8 v2_) (.cons (.int .u8 v3_) (.cons (.int .u8 v4_) (.cons (.int .u8 v5_) (.cons (.int .u8 v6_) (.cons (.int .u8 v7_) (.cons (.int .u8 v8_) (.cons (.int .u8 v9_) (.cons (.int .u8 (.var 10)) (.cons (.int .u8 (.var 11)) (.cons (.int .u8 (.var 12)) (.cons (.int .u8 (.var 13)) (.cons (.int .u8 (.var 14)) (.cons (.int .u8 (.var 15)) (.cons (.int .u8 (.var 16)) (.cons (.int .u8 (.var 17)) (.cons (.int .u8 (.var 18)) (.cons (.int .u8 (.var 19)) (.cons (.int .u8 (.var 20)) (.cons (.int .u8 (.var 21)) (.cons (.int .u8 (.var 22)) (.cons (.int .u8 (.var 23)) (.cons (.int .u8 (.var 24)) (.cons (.int .u8 (.var 25)) (.cons (.int .u8 (.var 26)) (.cons (.int .u8 (.var 27)) (.cons (.int .u8 (.var 28)) (.cons (.int .u8 (.var 29)) (.cons (.int .u8 (.var 30)) (.cons (.int .u8 (.var 31)) (.cons (.int .u8 (.var 32)) (.cons (.int .u8 (.var 33)) (.cons (.int .u8 (.var 34)) (.cons (.int .u8 (.var 35)) (.cons (.int .u8 (.var 36)) (.cons (.int .u8 (.var 37)) (.cons (.int .u8 (.var 38)) (.cons (.int .u8 (.var 39)) (.cons (.int .u8 (.iapp 28 (.cons (.int .u64 (.var 40)) (.cons (.int .i64 (.lit 7)) .nil)))) (.cons (.int .u8 (.iapp 28 (.cons (.int .u64 (.var 40)) (.cons (.int .i64 (.lit 6)) .nil)))) (.cons (.int .u8 (.iapp 28 (.cons (.int .u64 (.var 40)) (.cons (.int .i64 (.lit 5)) .nil)))) (.cons (.int .u8 (.iapp 28 (.cons (.int .u64 (.var 40)) (.cons (.int .i64 (.lit 4)) .nil)))) (.cons (.int .u8 (.iapp 28 (.cons (.int .u64 (.var 40)) (.cons (.int .i64 (.lit 3)) .nil)))) (.cons (.int .u8 (.iapp 28 (.cons (.int .u64 (.var 40)) (.cons (.int .i64 (.lit 2)) .nil)))) (.cons (.int .u8 (.iapp 28 (.cons (.int .u64 (.var 40)) (.cons (.int .i64 (.lit 1)) .nil)))) (.cons (.int .u8 (.iapp 28 (.cons (.int .u64 (.var 40)) (.cons (.int .i64 (.lit 0)) .nil)))) .nil)))))))))))))))))))))))))))))))))))))))))))))))))), ⟨41, 0, 0, 0⟩, some (0, 5, (.cons (.int .u8) .nil))⟩
theorem rc40_w : walk Tryd.prog 142 ⟨[], syG, [], [], []⟩ [] (.o 5 (.cons (.int .u8) .nil)) nwc_rc40 nwc_rc40.n 3000 = some rc40_tree := by kernel_rfl
theorem rc40_h (c0 c1 c2 c3 c4 c5 c6 c7 c8 c9 c10 c11 c12 c13 c14 c15 c16 c17 c18 c19 c20 c21 c22 c23 c24 c25 c26 c27 c28 c29 c30 c31 c32 c33 c34 c35 c36 c37 c38 c39 v : Int) : Hyp_ nwc_rc40 rc40_tree (nwE [c0, c1, c2, c3, c4, c5, c6, c7, c8, c9, c10, c11, c12, c13, c14, c15, c16, c17, c18, c19, c20, c21, c22, c23, c24, c25, c26, c27, c28, c29, c30, c31, c32, c33, c34, c35, c36, c37, c38, c39, v] [] [] []) := by
 intro hc hty
 simp only [nwc_rc40, Sy.holds, nwE, denV, denI, denB, denL, I2.den, VOp.den, List.getD_cons_zero, List.getD_cons_succ, Cst.den, syso, syse, syio, sybo, B2.ofInts, B2.denI, B2.denB, if_true, Bool.false_eq_true, if_false, Nat.div_one, Nat.mul_one, Nat.add_zero] at hc
 simp only [nwc_rc40, patsTyp, patTyp, patTypL, nwE, denV, denL, List.getD_cons_zero, List.getD_cons_succ, and_true, true_and] at hty
 unfold rc40_tree
 simp only [nwc_rc40, Tree.holds, Sy.holds, nwE, denV, denI, denB, denL, I2.den, VOp.den, List.getD_cons_zero, List.getD_cons_succ, Cst.den, syso, syse, syio, sybo, nwi_by, B2.ofInts, B2.denI, B2.denB, if_true, Bool.false_eq_true, if_false, Nat.div_one, Nat.mul_one, Nat.add_zero]
 have hx := wr_u64 v
 have h0 : 0 ≤ IntKind.wrap .u64 v := by omega
 first
 | (simp only [by_s0 _ h0, by_s1 _ h0, by_s2 _ h0, by_s3 _ h0]; first | done | rfl)
 | (simp only [by_s0 v hc.1, by_s1 v hc.1, by_s2 v hc.1, by_s3 v hc.1, by_s4 v hc.1, by_s5 v hc.1, by_s6 v hc.1, by_s7 v hc.1]; first | done | rfl)
 | skip
theorem nwg_rc40 : nwc_rc40.Good Tryd.prog syG (nwE [] [] [] []) := good_of_walk (Γ := ⟨[], syG, [], [], []⟩) (ρ := nwE [] [] [] []) sym rc40_w rfl (fun _ _ _ _ => ok_nil) rc40_h
def encA_tree : Tree :=
 (.br (.not (eq_ xwformsk8_ (.lit 0)))
 (.ret (.tup (.cons (.hs .no (.cons (.int .u8) .nil) (.tup .nil)) (.cons (.err xwformsk8_) .nil))))
 (.need (an_ (le_ (.lit 0) v6_) (le_ v6_ (.lit 4294967295)))
 (.need (an_ (le_ (.lit 0) v7_) (le_ v7_ (.lit 4294967295)))
 (.need xwformsk16_
 (.need (an_ (le_ (.lit 0) (.var 13)) (le_ (.var 13) (.lit 18446744073709551615)))
 (.need (an_ (le_ (.lit 0) (.var 14)) (le_ (.var 14) (.lit 18446744073709551615)))
 (.need (an_ (le_ (.lit 0) (.var 15)) (le_ (.var 15) (.lit 18446744073709551615)))
 (.ret (.tup (.cons (.hs .no (.cons (.int .u8) .nil) (.tup (.cons (.int .u8 (.i2 (.bits .or .u8) (.i2 (.bits .or .u8) (.i2 (.shl .u8) v0_ (.lit 6)) (.i2 (.shl .u8) v1_ (.lit 3))) v2_)) (.cons (.int .u8 v3_) (.cons (.int .u8 (.wrap .u8 v4_)) (.cons (.int .u8 (.wrap .u8 v5_)) (.cons (.int .u8 (.iapp 28 (.cons (.int .u64 (.wrap .u64 v6_)) (.cons (.int .i64 (.lit 3)) .nil)))) (.cons (.int .u8 (.iapp 28 (.cons (.int .u64 (.wrap .u64 v6_)) (.cons (.int .i64 (.lit 2)) .nil)))) (.cons (.int .u8 (.iapp 28 (.cons (.int .u64 (.wrap .u64 v6_)) (.cons (.int .i64 (.lit 1)) .nil)))) (.cons (.int .u8 (.iapp 28 (.cons (.int .u64 (.wrap .u64 v6_)) (.cons (.int .i64 (.lit 0)) .nil)))) (.cons (.int .u8 (.iapp 28 (.cons (.int .u64 (.wrap .u64 v7_)) (.cons (.int .i64 (.lit 3)) .nil)))) (.cons (.int .u8 (.iapp 28 (.cons (.int .u64 (.wrap .u64 v7_)) (.cons (.int .i64 (.lit 2)) .nil)))) (.cons (.int .u8 (.iapp 28 (.cons (.int .u64 (.wrap .u64 v7_)) (.cons (.int .i64 (.lit 1)) .nil)))) (.cons (.int .u8 (.iapp 28 (.cons (.int .u64 (.wrap .u64 v7_)) (.cons (.int .i64 (.lit 0)) .nil)))) (.cons (.int .u8 v8_) (.cons (.int .u8 v9_) (.cons (.int .u8 (.var 10)) (.cons (.int .u8 (.var 11)) (.cons (.int .u8 (.iapp 28 (.cons (.int .u64 (.var 12)) (.cons (.int .i64 (.lit 7)) .nil)))) (.cons (.int .u8 (.iapp 28 (.cons (.int .u64 (.var 12)) (.cons (.int .i64 (.lit 6)) .nil)))) (.cons (.int .u8 (.iapp 28 (.cons (.int .u64 (.var 12)) (.cons (.int .i64 (.lit 5)) .nil)))) (.cons (.int .u8 (.iapp 28 (.cons (.int .u64 (.var 12)) (.cons (.int .i64 (.lit 4)) .nil)))) (.cons (.int .u8 (.iapp 28 (.cons (.int .u64 (.var 12)) (.cons (.int .i64 (.lit 3)) .nil)))) (.cons (.int .u8 (.iapp 28 (.cons (.int .u64 (.var 12)) (.cons (.int .i64 (.lit 2)) .nil)))) (.cons (.int .u8 (.iapp 28 (.cons (.int .u64 (.var 12)) (.cons (.int .i64 (.lit 1)) .nil)))) (.cons (.int .u8 (.iapp 28 (.cons (.int .u64 (.var 12)) (.cons (.int .i64 (.lit 0)) .nil)))) (.cons (.int .u8 (.iapp 28 (.cons (.int .u64 (.var 13)) (.cons (.int .i64 (.lit 7)) .nil)))) (.cons (.int .u8 (.iapp 28 (.cons (.int .u64 (.var 13)) (.cons (.int .i64 (.lit 6)) .nil)))) (.cons (.int .u8 (.iapp 28 (.cons (.int .u64 (.var 13)) (.cons (.int .i64 (.lit 5)) .nil)))) (.cons (.int .u8 (.iapp 28 (.cons (.int .u64 (.var 13)) (.cons (.int .i64 (.lit 4)) .nil)))) (.cons (.int .u8 (.iapp 28 (.cons (.int .u64 (.var 13)) (.cons (.int .i64 (.lit 3)) .nil)))) (.cons (.int .u8 (.iapp 28 (.cons (.int .u64 (.var 13)) (.cons (.int .i64 (.lit 2)) .nil)))) (.cons (.int .u8 (.iapp 28 (.cons (.int .u64 (.var 13)) (.cons (.int .i64 (.lit 1)) .nil)))) (.cons (.int .u8 (.iapp 28 (.cons (.int .u64 (.var 13)) (.cons (.int .i64 (.lit 0)) .nil)))) (.cons (.int .u8 (.iapp 28 (.cons (.int .u64 (.var 14)) (.cons (.int .i64 (.lit 7)) .nil)))) (.cons (.int .u8 (.iapp 28 (.cons (.int .u64 (.var 14)) (.cons (.int .i64 (.lit 6)) .nil)))) (.cons (.int .u8 (.iapp 28 (.cons (.int .u64 (.var 14)) (.cons (.int .i64 (.lit 5)) .nil)))) (.cons (.int .u8 (.iapp 28 (.cons (.int .u64 (.var 14)) (.cons (.int .i64 (.lit 4)) .nil)))) (.cons (.int .u8 (.iapp 28 (.cons (.int .u64 (.var 14)) (.cons (.int .i64 (.lit 3)) .nil)))) (.cons (.int .u8 (.iapp 28 (.cons (.int .u64 (.var 14)) (.cons (.int .i64 (.lit 2)) .nil)))) (.cons (.int .u8 (.iapp 28 (.cons (.int .u64 (.var 14)) (.cons (.int .i64 (.lit 1)) .nil)))) (.cons (.int .u8 (.iapp 28 (.cons (.int .u64 (.var 14)) (.cons (.int .i64 (.lit 0)) .nil)))) (.cons (.int .u8 (.iapp 28 (.cons (.int .u64 (.var 15)) (.cons (.int .i64 (.lit 7)) .nil)))) (.cons (.int .u8 (.iapp 28 (.cons (.int .u64 (.var 15)) (.cons (.int .i64 (.lit 6)) .nil)))) (.cons (.int .u8 (.iapp 28 (.cons (.int .u64 (.var 15)) (.cons (.int .i64 (.lit 5)) .nil)))) (.cons (.int .u8 (.iapp 28 (.cons (.int .u64 (.var 15)) (.cons (.int .i64 (.lit 4)) .nil)))) (.cons (.int .u8 (.iapp 28 (.cons (.int .u64 (.var 15)) (.cons (.int .i64 (.lit 3)) .nil)))) (.cons (.int .u8 (.iapp 28 (.cons (.int .u64 (.var 15)) (.cons (.int .i64 (.lit 2)) .nil)))) (.cons (.int .u8 (.iapp 28 (.cons (.int .u64 (.var 15)) (.cons (.int .i64 (.lit 1)) .nil)))) (.cons (.int .u8 (.iapp 28 (.cons (.int .u64 (.var 15)) (.cons (.int .i64 (.lit 0)) .nil)))) .nil)))))))))))))))))))))))))))))))))))))))))))))))))) (.cons (.cst .nilI) .nil)))))))))))
abbrev nwc_encA : Con := ⟨48, [xwformsk5_], xwformsk0_, (.tup (.cons xwformsk7_ (.cons (.err xwformsk8_) .nil))), ⟨16, 0, 0, 0⟩, none⟩
theorem encA_w : walk Tryd.prog 142 ⟨[ntc_check, ntc_nb4, ntc_nb8, ntc_nc16, ntc_nc24, ntc_nc32, ntc_nc40], syG, [], [], []⟩ [] (.tup (.cons (.s (.cons (.int .u8) .nil)) (.cons .v .nil))) nwc_encA nwc_encA.n 3000 = some encA_tree := by kernel_rfl
theorem encA_h (le ve mo su po pr dl sp n0 n1 n2 n3 se ak ca sn : Int) : Hyp_ nwc_encA encA_tree (nwE [le, ve, mo, su, po, pr, dl, sp, n0, n1, n2, n3, se, ak, ca, sn] [] [] []) := by
 intro hc hty
 simp only [nwc_encA, Sy.holds, nwE, denV, denI, denB, denL, I2.den, VOp.den, List.getD_cons_zero, List.getD_cons_succ, Cst.den, syso, syse, syio, sybo, B2.ofInts, B2.denI, B2.denB, if_true, Bool.false_eq_true, if_false, Nat.div_one, Nat.mul_one, Nat.add_zero] at hc
 simp only [nwc_encA, patsTyp, patTyp, patTypL, nwE, denV, denL, List.getD_cons_zero, List.getD_cons_succ, and_true, true_and] at hty
 unfold encA_tree
 simp only [nwc_encA, Tree.holds, Sy.holds, nwE, denV, denI, denB, denL, I2.den, VOp.den, List.getD_cons_zero, List.getD_cons_succ, Cst.den, syso, syse, syio, sybo, nwi_by, nwi_ck, nwv_env, B2.ofInts, B2.denI, B2.denB, if_true, Bool.false_eq_true, if_false, Nat.div_one, Nat.mul_one, Nat.add_zero]
 have hk := ck_spec le ve mo
 refine ⟨fun h0 => ?_, fun h0 => ?_⟩
 refine ?a0; rotate_left
 refine ⟨?_, fun h1 => ?_⟩
 refine ?a1; rotate_left
 refine ⟨?_, fun h2 => ?_⟩
 refine ?a2; rotate_left
 refine ⟨?_, fun h3 => ?_⟩
 refine ?a3; rotate_left
 refine ⟨?_, fun h4 => ?_⟩
 refine ?a4; rotate_left
 refine ⟨?_, fun h5 => ?_⟩
 refine ?a5; rotate_left
 refine ⟨?_, fun h6 => ?_⟩
 refine ?a6; rotate_left
 refine ?a7; rotate_left
 case a0 | a7 =>
  first
  | (exfalso; omega)
  | (have q : ¬ ckE le ve mo = 0 := by omega
     rw [en_n q, show ckE le ve mo = 1 by omega]
     first | done | rfl)
  | (have q : ckE le ve mo = 0 := by omega
     have hf := fb_or (l := le) (v := ve) (m := mo) (by omega) (by omega) (by omega) (by omega) (by omega) (by omega)
     have w1 : IntKind.wrap .u8 (64 * le) = (64 * le) % 256 := IntKind.wrap_u8 _
     have w2 : IntKind.wrap .u8 (8 * ve) = (8 * ve) % 256 := IntKind.wrap_u8 _
     have w3 : IntKind.wrap .u8 (64 * le + 8 * ve) = (64 * le + 8 * ve) % 256 := IntKind.wrap_u8 _
     have w4 : IntKind.wrap .u8 (64 * le + 8 * ve + mo) = (64 * le + 8 * ve + mo) % 256 := IntKind.wrap_u8 _
     have e1 : IntKind.wrap .u8 (64 * le) = 64 * le := by omega
     have e2 : IntKind.wrap .u8 (8 * ve) = 8 * ve := by omega
     have e3 : IntKind.wrap .u8 (64 * le + 8 * ve) = 64 * le + 8 * ve := by omega
     have e4 : IntKind.wrap .u8 (64 * le + 8 * ve + mo) = fbI le ve mo := by (unfold fbI; omega)
     rw [en_y q]
     try rw [q]
     first | (simp only [hf]; first | done | rfl) | (simp only [e1, e2, e3, e4]; first | done | rfl))
  | skip
 case a1 | a2 | a3 | a4 | a5 | a6 =>
  first
  | exact True.intro
  | omega
  | skip
theorem nwg_encA : nwc_encA.Good Tryd.prog syG (nwE [] [] [] []) := good_of_walk (Γ := ⟨[ntc_check, ntc_nb4, ntc_nb8, ntc_nc16, ntc_nc24, ntc_nc32, ntc_nc40], syG, [], [], []⟩) (ρ := nwE [] [] [] []) sym encA_w rfl (fun _ _ _ _ => (ok_cons (Con.Good.env (Con.Good.up (Con.Good.up (Con.Good.up (Con.Good.up ntg_check nuup rfl) nvup rfl) nxup rfl) nwup rfl) _ _ _ _) (ok_cons (Con.Good.env (Con.Good.up (Con.Good.up (Con.Good.up (Con.Good.up ntg_nb4 nuup rfl) nvup rfl) nxup rfl) nwup rfl) _ _ _ _) (ok_cons (Con.Good.env (Con.Good.up (Con.Good.up (Con.Good.up (Con.Good.up ntg_nb8 nuup rfl) nvup rfl) nxup rfl) nwup rfl) _ _ _ _) (ok_cons (Con.Good.env (Con.Good.up (Con.Good.up (Con.Good.up (Con.Good.up ntg_nc16 nuup rfl) nvup rfl) nxup rfl) nwup rfl) _ _ _ _) (ok_cons (Con.Good.env (Con.Good.up (Con.Good.up (Con.Good.up (Con.Good.up ntg_nc24 nuup rfl) nvup rfl) nxup rfl) nwup rfl) _ _ _ _) (ok_cons (Con.Good.env (Con.Good.up (Con.Good.up (Con.Good.up (Con.Good.up ntg_nc32 nuup rfl) nvup rfl) nxup rfl) nwup rfl) _ _ _ _) (ok_cons (Con.Good.env (Con.Good.up (Con.Good.up (Con.Good.up (Con.Good.up ntg_nc40 nuup rfl) nvup rfl) nxup rfl) nwup rfl) _ _ _ _) ok_nil)))))))) encA_h
def rencA_tree : Tree :=
 (.br (.not (eq_ xwformsk8_ (.lit 0)))
 (.ret (.tup (.cons (.hs .no (.cons (.int .u8) .nil) (.tup .nil)) (.cons (.int .i64 (.lit 1)) .nil))))
 (.need (an_ (le_ (.lit 0) v6_) (le_ v6_ (.lit 4294967295)))
 (.need (an_ (le_ (.lit 0) v7_) (le_ v7_ (.lit 4294967295)))
 (.need xwformsk16_
 (.need (an_ (le_ (.lit 0) (.var 13)) (le_ (.var 13) (.lit 18446744073709551615)))
 (.need (an_ (le_ (.lit 0) (.var 14)) (le_ (.var 14) (.lit 18446744073709551615)))
 (.need (an_ (le_ (.lit 0) (.var 15)) (le_ (.var 15) (.lit 18446744073709551615)))
 (.ret (.tup (.cons (.hs .no (.cons (.int .u8) .nil) (.tup (.cons (.int .u8 (.wrap .u8 (ad_ (.wrap .u8 (ad_ (.wrap .u8 (ml_ (.lit 64) v0_)) (.wrap .u8 (ml_ (.lit 8) v1_)))) v2_))) (.cons (.int .u8 v3_) (.cons (.int .u8 (.wrap .u8 v4_)) (.cons (.int .u8 (.wrap .u8 v5_)) (.cons (.int .u8 (.iapp 28 (.cons (.int .u64 (.wrap .u64 v6_)) (.cons (.int .i64 (.lit 3)) .nil)))) (.cons (.int .u8 (.iapp 28 (.cons (.int .u64 (.wrap .u64 v6_)) (.cons (.int .i64 (.lit 2)) .nil)))) (.cons (.int .u8 (.iapp 28 (.cons (.int .u64 (.wrap .u64 v6_)) (.cons (.int .i64 (.lit 1)) .nil)))) (.cons (.int .u8 (.iapp 28 (.cons (.int .u64 (.wrap .u64 v6_)) (.cons (.int .i64 (.lit 0)) .nil)))) (.cons (.int .u8 (.iapp 28 (.cons (.int .u64 (.wrap .u64 v7_)) (.cons (.int .i64 (.lit 3)) .nil)))) (.cons (.int .u8 (.iapp 28 (.cons (.int .u64 (.wrap .u64 v7_)) (.cons (.int .i64 (.lit 2)) .nil)))) (.cons (.int .u8 (.iapp 28 (.cons (.int .u64 (.wrap .u64 v7_)) (.cons (.int .i64 (.lit 1)) .nil)))) (.cons (.int .u8 (.iapp 28 (.cons (.int .u64 (.wrap .u64 v7_)) (.cons (.int .i64 (.lit 0)) .nil)))) (.cons (.int .u8 v8_) (.cons (.int .u8 v9_) (.cons (.int .u8 (.var 10)) (.cons (.int .u8 (.var 11)) (.cons (.int .u8 (.iapp 28 (.cons (.int .u64 (.var 12)) (.cons (.int .i64 (.lit 7)) .nil)))) (.cons (.int .u8 (.iapp 28 (.cons (.int .u64 (.var 12)) (.cons (.int .i64 (.lit 6)) .nil)))) (.cons (.int .u8 (.iapp 28 (.cons (.int .u64 (.var 12)) (.cons (.int .i64 (.lit 5)) .nil)))) (.cons (.int .u8 (.iapp 28 (.cons (.int .u64 (.var 12)) (.cons (.int .i64 (.lit 4)) .nil)))) (.cons (.int .u8 (.iapp 28 (.cons (.int .u64 (.var 12)) (.cons (.int .i64 (.lit 3)) .nil)))) (.cons (.int .u8 (.iapp 28 (.cons (.int .u64 (.var 12)) (.cons (.int .i64 (.lit 2)) .nil)))) (.cons (.int .u8 (.iapp 28 (.cons (.int .u64 (.var 12)) (.cons (.int .i64 (.lit 1)) .nil)))) (.cons (.int .u8 (.iapp 28 (.cons (.int .u64 (.var 12)) (.cons (.int .i64 (.lit 0)) .nil)))) (.cons (.int .u8 (.iapp 28 (.cons (.int .u64 (.var 13)) (.cons (.int .i64 (.lit 7)) .nil)))) (.cons (.int .u8 (.iapp 28 (.cons (.int .u64 (.var 13)) (.cons (.int .i64 (.lit 6)) .nil)))) (.cons (.int .u8 (.iapp 28 (.cons (.int .u64 (.var 13)) (.cons (.int .i64 (.lit 5)) .nil)))) (.cons (.int .u8 (.iapp 28 (.cons (.int .u64 (.var 13)) (.cons (.int .i64 (.lit 4)) .nil)))) (.cons (.int .u8 (.iapp 28 (.cons (.int .u64 (.var 13)) (.cons (.int .i64 (.lit 3)) .nil)))) (.cons (.int .u8 (.iapp 28 (.cons (.int .u64 (.var 13)) (.cons (.int .i64 (.lit 2)) .nil)))) (.cons (.int .u8 (.iapp 28 (.cons (.int .u64 (.var 13)) (.cons (.int .i64 (.lit 1)) .nil)))) (.cons (.int .u8 (.iapp 28 (.cons (.int .u64 (.var 13)) (.cons (.int .i64 (.lit 0)) .nil)))) (.cons (.int .u8 (.iapp 28 (.cons (.int .u64 (.var 14)) (.cons (.int .i64 (.lit 7)) .nil)))) (.cons (.int .u8 (.iapp 28 (.cons (.int .u64 (.var 14)) (.cons (.int .i64 (.lit 6)) .nil)))) (.cons (.int .u8 (.iapp 28 (.cons (.int .u64 (.var 14)) (.cons (.int .i64 (.lit 5)) .nil)))) (.cons (.int .u8 (.iapp 28 (.cons (.int .u64 (.var 14)) (.cons (.int .i64 (.lit 4)) .nil)))) (.cons (.int .u8 (.iapp 28 (.cons (.int .u64 (.var 14)) (.cons (.int .i64 (.lit 3)) .nil)))) (.cons (.int .u8 (.iapp 28 (.cons (.int .u64 (.var 14)) (.cons (.int .i64 (.lit 2)) .nil)))) (.cons (.int .u8 (.iapp 28 (.cons (.int .u64 (.var 14)) (.cons (.int .i64 (.lit 1)) .nil)))) (.cons (.int .u8 (.iapp 28 (.cons (.int .u64 (.var 14)) (.cons (.int .i64 (.lit 0)) .nil)))) (.cons (.int .u8 (.iapp 28 (.cons (.int .u64 (.var 15)) (.cons (.int .i64 (.lit 7)) .nil)))) (.cons (.int .u8 (.iapp 28 (.cons (.int .u64 (.var 15)) (.cons (.int .i64 (.lit 6)) .nil)))) (.cons (.int .u8 (.iapp 28 (.cons (.int .u64 (.var 15)) (.cons (.int .i64 (.lit 5)) .nil)))) (.cons (.int .u8 (.iapp 28 (.cons (.int .u64 (.var 15)) (.cons (.int .i64 (.lit 4)) .nil)))) (.cons (.int .u8 (.iapp 28 (.cons (.int .u64 (.var 15)) (.cons (.int .i64 (.lit 3)) .nil)))) (.cons (.int .u8 (.iapp 28 (.cons (.int .u64 (.var 15)) (.cons (.int .i64 (.lit 2)) .nil)))) (.cons (.int .u8 (.iapp 28 (.cons (.int .u64 (.var 15)) (.cons (.int .i64 (.lit 1)) .nil)))) (.cons (.int .u8 (.iapp 28 (.cons (.int .u64 (.var 15)) (.cons (.int .i64 (.lit 0)) .nil)))) .nil)))))))))))))))))))))))))))))))))))))))))))))))))) (.cons (.int .i64 (.lit 0)) .nil)))))))))))
abbrev nwc_rencA : Con := ⟨49, [xwformsk5_], xwformsk0_, (.tup (.cons xwformsk7_ (.cons (.int .i64 xwformsk8_) .nil))), ⟨16, 0, 0, 0⟩, none⟩
theorem rencA_w : walk Tryd.prog 142 ⟨[nxc_rmay, nwc_rb4, nwc_rb8, nwc_rc16, nwc_rc24, nwc_rc32, nwc_rc40], syG, [], [], []⟩ [] (.tup (.cons (.s (.cons (.int .u8) .nil)) (.cons .v .nil))) nwc_rencA nwc_rencA.n 3000 = some rencA_tree := by kernel_rfl
theorem rencA_h (le ve mo su po pr dl sp n0 n1 n2 n3 se ak ca sn : Int) : Hyp_ nwc_rencA rencA_tree (nwE [le, ve, mo, su, po, pr, dl, sp, n0, n1, n2, n3, se, ak, ca, sn] [] [] []) := by
 intro hc hty
 simp only [nwc_rencA, Sy.holds, nwE, denV, denI, denB, denL, I2.den, VOp.den, List.getD_cons_zero, List.getD_cons_succ, Cst.den, syso, syse, syio, sybo, B2.ofInts, B2.denI, B2.denB, if_true, Bool.false_eq_true, if_false, Nat.div_one, Nat.mul_one, Nat.add_zero] at hc
 simp only [nwc_rencA, patsTyp, patTyp, patTypL, nwE, denV, denL, List.getD_cons_zero, List.getD_cons_succ, and_true, true_and] at hty
 unfold rencA_tree
 simp only [nwc_rencA, Tree.holds, Sy.holds, nwE, denV, denI, denB, denL, I2.den, VOp.den, List.getD_cons_zero, List.getD_cons_succ, Cst.den, syso, syse, syio, sybo, nwi_by, nwi_ck, nwv_env, B2.ofInts, B2.denI, B2.denB, if_true, Bool.false_eq_true, if_false, Nat.div_one, Nat.mul_one, Nat.add_zero]
 have hk := ck_spec le ve mo
 refine ⟨fun h0 => ?_, fun h0 => ?_⟩
 refine ?a0; rotate_left
 refine ⟨?_, fun h1 => ?_⟩
 refine ?a1; rotate_left
 refine ⟨?_, fun h2 => ?_⟩
 refine ?a2; rotate_left
 refine ⟨?_, fun h3 => ?_⟩
 refine ?a3; rotate_left
 refine ⟨?_, fun h4 => ?_⟩
 refine ?a4; rotate_left
 refine ⟨?_, fun h5 => ?_⟩
 refine ?a5; rotate_left
 refine ⟨?_, fun h6 => ?_⟩
 refine ?a6; rotate_left
 refine ?a7; rotate_left
 case a0 | a7 =>
  first
  | (exfalso; omega)
  | (have q : ¬ ckE le ve mo = 0 := by omega
     rw [en_n q, show ckE le ve mo = 1 by omega]
     first | done | rfl)
  | (have q : ckE le ve mo = 0 := by omega
     have hf := fb_or (l := le) (v := ve) (m := mo) (by omega) (by omega) (by omega) (by omega) (by omega) (by omega)
     have w1 : IntKind.wrap .u8 (64 * le) = (64 * le) % 256 := IntKind.wrap_u8 _
     have w2 : IntKind.wrap .u8 (8 * ve) = (8 * ve) % 256 := IntKind.wrap_u8 _
     have w3 : IntKind.wrap .u8 (64 * le + 8 * ve) = (64 * le + 8 * ve) % 256 := IntKind.wrap_u8 _
     have w4 : IntKind.wrap .u8 (64 * le + 8 * ve + mo) = (64 * le + 8 * ve + mo) % 256 := IntKind.wrap_u8 _
     have e1 : IntKind.wrap .u8 (64 * le) = 64 * le := by omega
     have e2 : IntKind.wrap .u8 (8 * ve) = 8 * ve := by omega
     have e3 : IntKind.wrap .u8 (64 * le + 8 * ve) = 64 * le + 8 * ve := by omega
     have e4 : IntKind.wrap .u8 (64 * le + 8 * ve + mo) = fbI le ve mo := by (unfold fbI; omega)
     rw [en_y q]
     try rw [q]
     first | (simp only [hf]; first | done | rfl) | (simp only [e1, e2, e3, e4]; first | done | rfl))
  | skip
 case a1 | a2 | a3 | a4 | a5 | a6 =>
  first
  | exact True.intro
  | omega
  | skip
theorem nwg_rencA : nwc_rencA.Good Tryd.prog syG (nwE [] [] [] []) := good_of_walk (Γ := ⟨[nxc_rmay, nwc_rb4, nwc_rb8, nwc_rc16, nwc_rc24, nwc_rc32, nwc_rc40], syG, [], [], []⟩) (ρ := nwE [] [] [] []) sym rencA_w rfl (fun _ _ _ _ => (ok_cons (Con.Good.env (Con.Good.up nxg_rmay nwup rfl) _ _ _ _) (ok_cons (Con.Good.env nwg_rb4 _ _ _ _) (ok_cons (Con.Good.env nwg_rb8 _ _ _ _) (ok_cons (Con.Good.env nwg_rc16 _ _ _ _) (ok_cons (Con.Good.env nwg_rc24 _ _ _ _) (ok_cons (Con.Good.env nwg_rc32 _ _ _ _) (ok_cons (Con.Good.env nwg_rc40 _ _ _ _) ok_nil)))))))) rencA_h
def valA_tree : Tree :=
 (.loop ⟨2, 0, 0, 0⟩ (an_ (le_ (.lit 0) (.lit 0)) (an_ (le_ (.lit 0) xwformsk1_) (eq_ (.lit 0) (.iapp 53 (.cons o0_ (.cons (.int .i64 (.lit 0)) .nil)))))) xwformsk9_
 (.br (lt_ v1_ xwformsk1_)
 (.need (an_ (le_ (.lit 0) v1_) (lt_ v1_ xwformsk1_))
 (.back (an_ (le_ (.lit 0) (wr_ (ad_ v1_ (.lit 1)))) (an_ (le_ (wr_ (ad_ v1_ (.lit 1))) xwformsk1_) (eq_ (.i2 (.bits .or .u64) (.i2 (.shl .u64) v0_ (.lit 8)) (.wrap .u64 (.ofI (.vop (.sel 1 0) (.cons o0_ (.cons z1_ .nil)))))) (.iapp 53 (.cons o0_ (.cons (.int .i64 (wr_ (ad_ v1_ (.lit 1)))) .nil)))))) (sb_ xwformsk1_ (wr_ (ad_ v1_ (.lit 1)))) (sb_ xwformsk1_ v1_)))
 (.ret (.int .u64 v0_))))
abbrev nwc_valA : Con := ⟨118, [(.hs .no (.cons (.int .u8) .nil) o0_)], (.bapp 6 (.cons o0_ .nil)), (.int .u64 (.iapp 54 (.cons o0_ .nil))), ⟨0, 0, 1, 0⟩, none⟩
theorem valA_w : walk Tryd.prog 142 ⟨[], syG, [], [], []⟩ [⟨0, ⟨2, 0, 0, 0⟩, [(3, (.int .u64 v0_)), (8, z1_)], none, xwformsk9_, (sb_ xwformsk1_ v1_), 0, []⟩] .v nwc_valA nwc_valA.n 3000 = some valA_tree := by kernel_rfl
theorem valA_h (l : Value) : Hyp_ nwc_valA valA_tree (nwE [] [] [l] []) := by
 intro hc hty
 simp only [nwc_valA, Sy.holds, nwE, denV, denI, denB, denL, I2.den, VOp.den, List.getD_cons_zero, List.getD_cons_succ, Cst.den, syso, syse, syio, sybo, nwb_okr, B2.ofInts, B2.denI, B2.denB, if_true, Bool.false_eq_true, if_false, Nat.div_one, Nat.mul_one, Nat.add_zero] at hc
 simp only [nwc_valA, patsTyp, patTyp, patTypL, nwE, denV, denL, List.getD_cons_zero, List.getD_cons_succ, and_true, true_and] at hty
 have hL_l : typ (.sl (.cons (.int .u8) .nil)) l := by first | exact hty | exact hty.1 | exact hty.2 | exact hty.1.1 | exact hty.1.2 | exact hty.2.1 | exact hty.2.2 | exact hty.2.2.1 | exact hty.2.2.2
 have hN_l := typ_len (n := 1) hL_l rfl (by omega)
 simp only [Nat.div_one, Nat.mul_one] at hN_l
 unfold valA_tree
 simp only [nwc_valA, Tree.holds, Sy.holds, AllN, Env.more, nwE, List.cons_append, List.nil_append, List.append_nil, denV, denI, denB, denL, I2.den, VOp.den, List.getD_cons_zero, List.getD_cons_succ, Cst.den, syso, syse, syio, sybo, nwi_nbk, nwi_nb, List.map_nil, List.map_cons, B2.ofInts, B2.denI, B2.denB, if_true, Bool.false_eq_true, if_false, Nat.div_one, Nat.mul_one, Nat.add_zero]
 have wi : ∀ x : Int, 0 ≤ x → x ≤ 9223372036854775807 → IntKind.wrap .i64 x = x := fun x a b => by (have := wr_i64 x; omega)
 refine ⟨?_, ?_⟩
 ·
  first
  | exact ⟨by omega, by omega, rfl⟩
  | skip
 intro i0a i0b hi0
 obtain ⟨g1, g2, g3⟩ := hi0
 have hb : i0b < ((Sy.rows l).length : Int) → 0 ≤ ci (Sy.rows l) i0b.toNat ∧ ci (Sy.rows l) i0b.toNat ≤ 255 := fun h => u8_at hL_l hc (by omega)
 have hr := nbK_rng (Sy.rows l) i0b.toNat
 have hs : i0b < ((Sy.rows l).length : Int) → nbK (Sy.rows l) (i0b + 1).toNat = (nbK (Sy.rows l) i0b.toNat * 256 + ci (Sy.rows l) i0b.toNat) % 18446744073709551616 := fun h => by (rw [show (i0b + 1).toNat = i0b.toNat + 1 by omega]; exact nbK_s (by omega))
 refine ⟨fun h0 => ?_, fun h0 => ?_⟩
 refine ⟨?_, fun h1 => ?_⟩
 ·
  first
  | omega
  | skip
 refine ⟨?_, ?_⟩
 ·
  have hlt : i0b < ((Sy.rows l).length : Int) := by omega
  have hb := hb hlt
  have hs := hs hlt
  first
  | (rw [wi _ (by omega) (by omega)]
     refine ⟨by omega, by omega, ?_⟩
     rw [hs, ← g3]
     have hx : IntKind.wrap .u64 (ci (Sy.rows l) i0b.toNat) = ci (Sy.rows l) i0b.toNat := by (have := wr_u64 (ci (Sy.rows l) i0b.toNat); omega)
     rw [hx]
     exact or8g (by omega) hb.1 hb.2)
  | skip
 ·
  first
  | omega
  | (rw [wi _ (by omega) (by omega)]; omega)
  | skip
 ·
  first
  | (rw [g3, nbK_all (by omega)]; first | done | rfl)
  | skip
theorem nwg_valA : nwc_valA.Good Tryd.prog syG (nwE [] [] [] []) := good_of_walk (Γ := ⟨[], syG, [], [], []⟩) (ρ := nwE [] [] [] []) sym valA_w rfl (fun _ _ _ _ => ok_nil) valA_h
def rvalA_tree : Tree :=
 (.loop ⟨2, 0, 0, 0⟩ (an_ (le_ (.lit 0) (.lit 0)) (an_ (le_ (.lit 0) xwformsk1_) (eq_ (.lit 0) (.iapp 53 (.cons o0_ (.cons (.int .i64 (.lit 0)) .nil)))))) xwformsk9_
 (.br (lt_ v1_ xwformsk1_)
 (.need (an_ (le_ (.lit 0) v1_) (lt_ v1_ xwformsk1_))
 (.back (an_ (le_ (.lit 0) (wr_ (ad_ v1_ (.lit 1)))) (an_ (le_ (wr_ (ad_ v1_ (.lit 1))) xwformsk1_) (eq_ (.wrap .u64 (ad_ (.wrap .u64 (ml_ (.lit 256) v0_)) (.wrap .u64 (.ofI (.vop (.sel 1 0) (.cons o0_ (.cons z1_ .nil))))))) (.iapp 53 (.cons o0_ (.cons (.int .i64 (wr_ (ad_ v1_ (.lit 1)))) .nil)))))) (sb_ xwformsk1_ (wr_ (ad_ v1_ (.lit 1)))) (sb_ xwformsk1_ v1_)))
 (.ret (.int .u64 v0_))))
abbrev nwc_rvalA : Con := ⟨119, [(.hs .no (.cons (.int .u8) .nil) o0_)], (.bapp 6 (.cons o0_ .nil)), (.int .u64 (.iapp 54 (.cons o0_ .nil))), ⟨0, 0, 1, 0⟩, none⟩
theorem rvalA_w : walk Tryd.prog 142 ⟨[], syG, [], [], []⟩ [⟨0, ⟨2, 0, 0, 0⟩, [(3, (.int .u64 v0_)), (4, z1_)], none, xwformsk9_, (sb_ xwformsk1_ v1_), 0, []⟩] .v nwc_rvalA nwc_rvalA.n 3000 = some rvalA_tree := by kernel_rfl
theorem rvalA_h (l : Value) : Hyp_ nwc_rvalA rvalA_tree (nwE [] [] [l] []) := by
 intro hc hty
 simp only [nwc_rvalA, Sy.holds, nwE, denV, denI, denB, denL, I2.den, VOp.den, List.getD_cons_zero, List.getD_cons_succ, Cst.den, syso, syse, syio, sybo, nwb_okr, B2.ofInts, B2.denI, B2.denB, if_true, Bool.false_eq_true, if_false, Nat.div_one, Nat.mul_one, Nat.add_zero] at hc
 simp only [nwc_rvalA, patsTyp, patTyp, patTypL, nwE, denV, denL, List.getD_cons_zero, List.getD_cons_succ, and_true, true_and] at hty
 have hL_l : typ (.sl (.cons (.int .u8) .nil)) l := by first | exact hty | exact hty.1 | exact hty.2 | exact hty.1.1 | exact hty.1.2 | exact hty.2.1 | exact hty.2.2 | exact hty.2.2.1 | exact hty.2.2.2
 have hN_l := typ_len (n := 1) hL_l rfl (by omega)
 simp only [Nat.div_one, Nat.mul_one] at hN_l
 unfold rvalA_tree
 simp only [nwc_rvalA, Tree.holds, Sy.holds, AllN, Env.more, nwE, List.cons_append, List.nil_append, List.append_nil, denV, denI, denB, denL, I2.den, VOp.den, List.getD_cons_zero, List.getD_cons_succ, Cst.den, syso, syse, syio, sybo, nwi_nbk, nwi_nb, List.map_nil, List.map_cons, B2.ofInts, B2.denI, B2.denB, if_true, Bool.false_eq_true, if_false, Nat.div_one, Nat.mul_one, Nat.add_zero]
 have wi : ∀ x : Int, 0 ≤ x → x ≤ 9223372036854775807 → IntKind.wrap .i64 x = x := fun x a b => by (have := wr_i64 x; omega)
 refine ⟨?_, ?_⟩
 ·
  first
  | exact ⟨by omega, by omega, rfl⟩
  | skip
 intro i0a i0b hi0
 obtain ⟨g1, g2, g3⟩ := hi0
 have hb : i0b < ((Sy.rows l).length : Int) → 0 ≤ ci (Sy.rows l) i0b.toNat ∧ ci (Sy.rows l) i0b.toNat ≤ 255 := fun h => u8_at hL_l hc (by omega)
 have hr := nbK_rng (Sy.rows l) i0b.toNat
 have hs : i0b < ((Sy.rows l).length : Int) → nbK (Sy.rows l) (i0b + 1).toNat = (nbK (Sy.rows l) i0b.toNat * 256 + ci (Sy.rows l) i0b.toNat) % 18446744073709551616 := fun h => by (rw [show (i0b + 1).toNat = i0b.toNat + 1 by omega]; exact nbK_s (by omega))
 refine ⟨fun h0 => ?_, fun h0 => ?_⟩
 refine ⟨?_, fun h1 => ?_⟩
 ·
  first
  | omega
  | skip
 refine ⟨?_, ?_⟩
 ·
  have hlt : i0b < ((Sy.rows l).length : Int) := by omega
  have hb := hb hlt
  have hs := hs hlt
  first
  | (rw [wi _ (by omega) (by omega)]
     refine ⟨by omega, by omega, ?_⟩
     rw [hs, ← g3]
     have hx : IntKind.wrap .u64 (ci (Sy.rows l) i0b.toNat) = ci (Sy.rows l) i0b.toNat := by (have := wr_u64 (ci (Sy.rows l) i0b.toNat); omega)
     rw [hx, IntKind.wrap_u64, IntKind.wrap_u64]
     omega)
  | skip
 ·
  first
  | omega
  | (rw [wi _ (by omega) (by omega)]; omega)
  | skip
 ·
  first
  | (rw [g3, nbK_all (by omega)]; first | done | rfl)
  | skip
theorem nwg_rvalA : nwc_rvalA.Good Tryd.prog syG (nwE [] [] [] []) := good_of_walk (Γ := ⟨[], syG, [], [], []⟩) (ρ := nwE [] [] [] []) sym rvalA_w rfl (fun _ _ _ _ => ok_nil) rvalA_h
def decA_tree : Tree :=
 (.br (.not (eq_ xwformsk1_ (.lit 48)))
 (.ret (.tup (.cons xwformsk2_ (.cons (.iface 142 (.int .i64 (.lit 3))) .nil))))
 (.need (le_ (.lit 24) xwformsk1_)
 (.need (.bapp 6 (.cons xwformsk13_ .nil))
 (.need (le_ (.lit 32) xwformsk1_)
 (.need (.bapp 6 (.cons xwformsk12_ .nil))
 (.need (le_ (.lit 40) xwformsk1_)
 (.need (.bapp 6 (.cons xwformsk11_ .nil))
 (.need (le_ (.lit 48) xwformsk1_)
 (.need (.bapp 6 (.cons xwformsk10_ .nil))
 (.need (lt_ (.lit 0) xwformsk1_)
 (.need (lt_ (.lit 0) xwformsk1_)
 (.need (lt_ (.lit 0) xwformsk1_)
 (.need (lt_ (.lit 1) xwformsk1_)
 (.need (lt_ (.lit 2) xwformsk1_)
 (.need (lt_ (.lit 3) xwformsk1_)
 (.need (le_ (.lit 8) xwformsk1_)
 (.need (.bapp 6 (.cons xwformsk15_ .nil))
 (.need (le_ (.lit 12) xwformsk1_)
 (.need (.bapp 6 (.cons xwformsk14_ .nil))
 (.need (le_ (.lit 16) xwformsk1_)
 (.br (.not (eq_ (.iapp 32 (.cons (.int .u8 (.i2 (.shr .u8) xwformsk6_ (.lit 6))) (.cons (.int .u8 (.i2 (.bits .and .u8) (.i2 (.shr .u8) xwformsk6_ (.lit 3)) (.lit 7))) (.cons (.int .u8 (.i2 (.bits .and .u8) xwformsk6_ (.lit 7))) .nil)))) (.lit 0)))
 (.ret (.tup (.cons xwformsk2_ (.cons (.iface 142 (.int .i64 (.lit 3))) .nil))))
 (.ret (.tup (.cons (.agg (.cons (.int .u8 (.i2 (.shr .u8) xwformsk6_ (.lit 6))) (.cons (.int .u8 (.i2 (.bits .and .u8) (.i2 (.shr .u8) xwformsk6_ (.lit 3)) (.lit 7))) (.cons (.int .u8 (.i2 (.bits .and .u8) xwformsk6_ (.lit 7))) (.cons (.int .u8 (.ofI (.vop (.sel 1 0) (.cons o0_ (.cons (.int .i64 (.lit 1)) .nil))))) (.cons (.int .i8 (.wrap .i8 (.ofI (.vop (.sel 1 0) (.cons o0_ (.cons (.int .i64 (.lit 2)) .nil)))))) (.cons (.int .i8 (.wrap .i8 (.ofI (.vop (.sel 1 0) (.cons o0_ (.cons (.int .i64 (.lit 3)) .nil)))))) (.cons (.int .u32 (.wrap .u32 (.iapp 54 (.cons xwformsk15_ .nil)))) (.cons (.int .u32 (.wrap .u32 (.iapp 54 (.cons xwformsk14_ .nil)))) (.cons (.int .u8 (.ofI (.vop (.sel 1 0) (.cons xwformsk3_ (.cons (.int .i64 (.lit 0)) .nil))))) (.cons (.int .u8 (.ofI (.vop (.sel 1 0) (.cons xwformsk3_ (.cons (.int .i64 (.lit 1)) .nil))))) (.cons (.int .u8 (.ofI (.vop (.sel 1 0) (.cons xwformsk3_ (.cons (.int .i64 (.lit 2)) .nil))))) (.cons (.int .u8 (.ofI (.vop (.sel 1 0) (.cons xwformsk3_ (.cons (.int .i64 (.lit 3)) .nil))))) (.cons (.int .u64 (.iapp 54 (.cons xwformsk13_ .nil))) (.cons (.int .u64 (.iapp 54 (.cons xwformsk12_ .nil))) (.cons (.int .u64 (.iapp 54 (.cons xwformsk11_ .nil))) (.cons (.int .u64 (.iapp 54 (.cons xwformsk10_ .nil))) .nil))))))))))))))))) (.cons (.cst .nilI) .nil)))))))))))))))))))))))))
abbrev nwc_decA : Con := ⟨50, [(.hs .no (.cons (.int .u8) .nil) o0_)], (.bapp 6 (.cons o0_ .nil)), (.tup (.cons xwformsk4_ (.cons (.err (.iapp 55 (.cons o0_ .nil))) .nil))), ⟨0, 0, 1, 0⟩, none⟩
theorem decA_w : walk Tryd.prog 142 ⟨[ntc_check, nwc_valA], syG, [], [], []⟩ [] .v nwc_decA nwc_decA.n 3000 = some decA_tree := by kernel_rfl
theorem decA_h (l : Value) : Hyp_ nwc_decA decA_tree (nwE [] [] [l] []) := by
 intro hc hty
 simp only [nwc_decA, Sy.holds, nwE, denV, denI, denB, denL, I2.den, VOp.den, List.getD_cons_zero, List.getD_cons_succ, Cst.den, syso, syse, syio, sybo, nwb_okr, B2.ofInts, B2.denI, B2.denB, if_true, Bool.false_eq_true, if_false, Nat.div_one, Nat.mul_one, Nat.add_zero] at hc
 simp only [nwc_decA, patsTyp, patTyp, patTypL, nwE, denV, denL, List.getD_cons_zero, List.getD_cons_succ, and_true, true_and] at hty
 have hL_l : typ (.sl (.cons (.int .u8) .nil)) l := by first | exact hty | exact hty.1 | exact hty.2 | exact hty.1.1 | exact hty.1.2 | exact hty.2.1 | exact hty.2.2 | exact hty.2.2.1 | exact hty.2.2.2
 have hN_l := typ_len (n := 1) hL_l rfl (by omega)
 simp only [Nat.div_one, Nat.mul_one] at hN_l
 unfold decA_tree
 simp only [nwc_decA, Tree.holds, Sy.holds, nwE, denV, denI, denB, denL, I2.den, VOp.den, List.getD_cons_zero, List.getD_cons_succ, Cst.den, syso, syse, syio, sybo, nwi_ck, nwi_nb, nwi_de, nwi_dn, nwb_okr, B2.ofInts, B2.denI, B2.denB, if_true, Bool.false_eq_true, if_false, Nat.div_one, Nat.mul_one, Nat.add_zero]
 have hs := pd_spec (Sy.rows l)
 have c0 : Go.RowKit.intOf ((Sy.rows l).getD (Int.toNat 0) Go.undef) = ci (Sy.rows l) 0 := rfl
 have c1 : Go.RowKit.intOf ((Sy.rows l).getD (Int.toNat 1) Go.undef) = ci (Sy.rows l) 1 := rfl
 have c2 : Go.RowKit.intOf ((Sy.rows l).getD (Int.toNat 2) Go.undef) = ci (Sy.rows l) 2 := rfl
 have c3 : Go.RowKit.intOf ((Sy.rows l).getD (Int.toNat 3) Go.undef) = ci (Sy.rows l) 3 := rfl
 have c12 : Go.RowKit.intOf ((Sy.rows l).getD (Int.toNat 12) Go.undef) = ci (Sy.rows l) 12 := rfl
 have c13 : Go.RowKit.intOf ((Sy.rows l).getD (Int.toNat 13) Go.undef) = ci (Sy.rows l) 13 := rfl
 have c14 : Go.RowKit.intOf ((Sy.rows l).getD (Int.toNat 14) Go.undef) = ci (Sy.rows l) 14 := rfl
 have c15 : Go.RowKit.intOf ((Sy.rows l).getD (Int.toNat 15) Go.undef) = ci (Sy.rows l) 15 := rfl
 simp only [c0, c1, c2, c3, c12, c13, c14, c15]
 obtain ⟨u0, u1⟩ := u8_any hL_l hc 0
 obtain ⟨s1, s2, s3⟩ := sh_all u0 u1
 have t1 : (ci (Sy.rows l) 0).tdiv 64 = ci (Sy.rows l) 0 / 64 := Int.tdiv_eq_ediv_of_nonneg u0
 have t2 : (ci (Sy.rows l) 0).tdiv 8 = ci (Sy.rows l) 0 / 8 := Int.tdiv_eq_ediv_of_nonneg u0
 have t3 : (ci (Sy.rows l) 0 / 8).tmod 8 = ci (Sy.rows l) 0 / 8 % 8 := Int.tmod_eq_emod_of_nonneg (by omega)
 have t4 : (ci (Sy.rows l) 0).tmod 8 = ci (Sy.rows l) 0 % 8 := Int.tmod_eq_emod_of_nonneg u0
 have t5 : IntKind.wrap .u8 (ci (Sy.rows l) 0 / 64) = ci (Sy.rows l) 0 / 64 := by (rw [IntKind.wrap_u8]; omega)
 have t6 : IntKind.wrap .u8 (ci (Sy.rows l) 0 / 8) = ci (Sy.rows l) 0 / 8 := by (rw [IntKind.wrap_u8]; omega)
 try simp only [s1, s2, s3, t1, t2, t3, t4, t5, t6]
 try simp only [t3]
 refine ⟨fun h0 => ?_, fun h0 => ?_⟩
 refine ?a0; rotate_left
 refine ⟨?_, fun h1 => ?_⟩
 refine ?a1; rotate_left
 refine ⟨?_, fun h2 => ?_⟩
 refine ?a2; rotate_left
 refine ⟨?_, fun h3 => ?_⟩
 refine ?a3; rotate_left
 refine ⟨?_, fun h4 => ?_⟩
 refine ?a4; rotate_left
 refine ⟨?_, fun h5 => ?_⟩
 refine ?a5; rotate_left
 refine ⟨?_, fun h6 => ?_⟩
 refine ?a6; rotate_left
 refine ⟨?_, fun h7 => ?_⟩
 refine ?a7; rotate_left
 refine ⟨?_, fun h8 => ?_⟩
 refine ?a8; rotate_left
 refine ⟨?_, fun h9 => ?_⟩
 refine ?a9; rotate_left
 refine ⟨?_, fun h10 => ?_⟩
 refine ?a10; rotate_left
 refine ⟨?_, fun h11 => ?_⟩
 refine ?a11; rotate_left
 refine ⟨?_, fun h12 => ?_⟩
 refine ?a12; rotate_left
 refine ⟨?_, fun h13 => ?_⟩
 refine ?a13; rotate_left
 refine ⟨?_, fun h14 => ?_⟩
 refine ?a14; rotate_left
 refine ⟨?_, fun h15 => ?_⟩
 refine ?a15; rotate_left
 refine ⟨?_, fun h16 => ?_⟩
 refine ?a16; rotate_left
 refine ⟨?_, fun h17 => ?_⟩
 refine ?a17; rotate_left
 refine ⟨?_, fun h18 => ?_⟩
 refine ?a18; rotate_left
 refine ⟨?_, fun h19 => ?_⟩
 refine ?a19; rotate_left
 refine ⟨fun h20 => ?_, fun h20 => ?_⟩
 refine ?a20; rotate_left
 refine ?a21; rotate_left
 case a0 | a20 | a21 =>
  first
  | (exfalso; omega)
  | (rcases hs with ⟨h1, h2, e, er⟩ | ⟨h1, e, er⟩
     · first
       | (exfalso; omega)
       | (simp only [er, e, ra0, ra1, ra2, ra3, ra4, ra5, ra6, ra7, ra8, ra9, ra10, ra11, ra12, ra13, ra14, ra15, cp0 h1, cp1 h1, cp2 h1, cp3 h1]
          first | done | rfl)
     · first
       | (exfalso; omega)
       | (simp only [er, e]
          first | done | rfl))
  | skip
 case a1 | a2 | a3 | a4 | a5 | a6 | a7 | a8 | a9 | a10 | a11 | a12 | a13 | a14 | a15 | a16 | a17 | a18 | a19 =>
  first
  | exact True.intro
  | omega
  | exact okR_part hc
  | skip
theorem nwg_decA : nwc_decA.Good Tryd.prog syG (nwE [] [] [] []) := good_of_walk (Γ := ⟨[ntc_check, nwc_valA], syG, [], [], []⟩) (ρ := nwE [] [] [] []) sym decA_w rfl (fun _ _ _ _ => (ok_cons (Con.Good.env (Con.Good.up (Con.Good.up (Con.Good.up (Con.Good.up ntg_check nuup rfl) nvup rfl) nxup rfl) nwup rfl) _ _ _ _) (ok_cons (Con.Good.env nwg_valA _ _ _ _) ok_nil))) decA_h
def rdecA_tree : Tree :=
 (.br (.not (eq_ xwformsk1_ (.lit 48)))
 (.ret (.tup (.cons xwformsk2_ (.cons (.int .i64 (.lit 3)) .nil))))
 (.need (lt_ (.lit 0) xwformsk1_)
 (.need (lt_ (.lit 0) xwformsk1_)
 (.need (lt_ (.lit 0) xwformsk1_)
 (.need (lt_ (.lit 1) xwformsk1_)
 (.need (lt_ (.lit 2) xwformsk1_)
 (.need (lt_ (.lit 3) xwformsk1_)
 (.need (le_ (.lit 8) xwformsk1_)
 (.need (.bapp 6 (.cons xwformsk15_ .nil))
 (.need (le_ (.lit 12) xwformsk1_)
 (.need (.bapp 6 (.cons xwformsk14_ .nil))
 (.need (lt_ (.lit 12) xwformsk1_)
 (.need (lt_ (.lit 13) xwformsk1_)
 (.need (lt_ (.lit 14) xwformsk1_)
 (.need (lt_ (.lit 15) xwformsk1_)
 (.need (le_ (.lit 24) xwformsk1_)
 (.need (.bapp 6 (.cons xwformsk13_ .nil))
 (.need (le_ (.lit 32) xwformsk1_)
 (.need (.bapp 6 (.cons xwformsk12_ .nil))
 (.need (le_ (.lit 40) xwformsk1_)
 (.need (.bapp 6 (.cons xwformsk11_ .nil))
 (.need (le_ (.lit 48) xwformsk1_)
 (.need (.bapp 6 (.cons xwformsk10_ .nil))
 (.br (.not (eq_ (.iapp 32 (.cons (.int .u8 (.wrap .u8 (.i2 .quo xwformsk6_ (.lit 64)))) (.cons (.int .u8 (.i2 .rem (.wrap .u8 (.i2 .quo xwformsk6_ (.lit 8))) (.lit 8))) (.cons (.int .u8 (.i2 .rem xwformsk6_ (.lit 8))) .nil)))) (.lit 0)))
 (.ret (.tup (.cons xwformsk2_ (.cons (.int .i64 (.lit 3)) .nil))))
 (.ret (.tup (.cons (.agg (.cons (.int .u8 (.wrap .u8 (.i2 .quo xwformsk6_ (.lit 64)))) (.cons (.int .u8 (.i2 .rem (.wrap .u8 (.i2 .quo xwformsk6_ (.lit 8))) (.lit 8))) (.cons (.int .u8 (.i2 .rem xwformsk6_ (.lit 8))) (.cons (.int .u8 (.ofI (.vop (.sel 1 0) (.cons o0_ (.cons (.int .i64 (.lit 1)) .nil))))) (.cons (.int .i8 (.wrap .i8 (.ofI (.vop (.sel 1 0) (.cons o0_ (.cons (.int .i64 (.lit 2)) .nil)))))) (.cons (.int .i8 (.wrap .i8 (.ofI (.vop (.sel 1 0) (.cons o0_ (.cons (.int .i64 (.lit 3)) .nil)))))) (.cons (.int .u32 (.wrap .u32 (.iapp 54 (.cons xwformsk15_ .nil)))) (.cons (.int .u32 (.wrap .u32 (.iapp 54 (.cons xwformsk14_ .nil)))) (.cons (.int .u8 (.ofI (.vop (.sel 1 0) (.cons o0_ (.cons (.int .i64 (.lit 12)) .nil))))) (.cons (.int .u8 (.ofI (.vop (.sel 1 0) (.cons o0_ (.cons (.int .i64 (.lit 13)) .nil))))) (.cons (.int .u8 (.ofI (.vop (.sel 1 0) (.cons o0_ (.cons (.int .i64 (.lit 14)) .nil))))) (.cons (.int .u8 (.ofI (.vop (.sel 1 0) (.cons o0_ (.cons (.int .i64 (.lit 15)) .nil))))) (.cons (.int .u64 (.iapp 54 (.cons xwformsk13_ .nil))) (.cons (.int .u64 (.iapp 54 (.cons xwformsk12_ .nil))) (.cons (.int .u64 (.iapp 54 (.cons xwformsk11_ .nil))) (.cons (.int .u64 (.iapp 54 (.cons xwformsk10_ .nil))) .nil))))))))))))))))) (.cons (.int .i64 (.lit 0)) .nil))))))))))))))))))))))))))))
abbrev nwc_rdecA : Con := ⟨51, [(.hs .no (.cons (.int .u8) .nil) o0_)], (.bapp 6 (.cons o0_ .nil)), (.tup (.cons xwformsk4_ (.cons (.int .i64 (.iapp 55 (.cons o0_ .nil))) .nil))), ⟨0, 0, 1, 0⟩, none⟩
theorem rdecA_w : walk Tryd.prog 142 ⟨[nxc_rmay, nwc_rvalA], syG, [], [], []⟩ [] .v nwc_rdecA nwc_rdecA.n 3000 = some rdecA_tree := by kernel_rfl
theorem rdecA_h (l : Value) : Hyp_ nwc_rdecA rdecA_tree (nwE [] [] [l] []) := by
 intro hc hty
 simp only [nwc_rdecA, Sy.holds, nwE, denV, denI, denB, denL, I2.den, VOp.den, List.getD_cons_zero, List.getD_cons_succ, Cst.den, syso, syse, syio, sybo, nwb_okr, B2.ofInts, B2.denI, B2.denB, if_true, Bool.false_eq_true, if_false, Nat.div_one, Nat.mul_one, Nat.add_zero] at hc
 simp only [nwc_rdecA, patsTyp, patTyp, patTypL, nwE, denV, denL, List.getD_cons_zero, List.getD_cons_succ, and_true, true_and] at hty
 have hL_l : typ (.sl (.cons (.int .u8) .nil)) l := by first | exact hty | exact hty.1 | exact hty.2 | exact hty.1.1 | exact hty.1.2 | exact hty.2.1 | exact hty.2.2 | exact hty.2.2.1 | exact hty.2.2.2
 have hN_l := typ_len (n := 1) hL_l rfl (by omega)
 simp only [Nat.div_one, Nat.mul_one] at hN_l
 unfold rdecA_tree
 simp only [nwc_rdecA, Tree.holds, Sy.holds, nwE, denV, denI, denB, denL, I2.den, VOp.den, List.getD_cons_zero, List.getD_cons_succ, Cst.den, syso, syse, syio, sybo, nwi_ck, nwi_nb, nwi_de, nwi_dn, nwb_okr, B2.ofInts, B2.denI, B2.denB, if_true, Bool.false_eq_true, if_false, Nat.div_one, Nat.mul_one, Nat.add_zero]
 have hs := pd_spec (Sy.rows l)
 have c0 : Go.RowKit.intOf ((Sy.rows l).getD (Int.toNat 0) Go.undef) = ci (Sy.rows l) 0 := rfl
 have c1 : Go.RowKit.intOf ((Sy.rows l).getD (Int.toNat 1) Go.undef) = ci (Sy.rows l) 1 := rfl
 have c2 : Go.RowKit.intOf ((Sy.rows l).getD (Int.toNat 2) Go.undef) = ci (Sy.rows l) 2 := rfl
 have c3 : Go.RowKit.intOf ((Sy.rows l).getD (Int.toNat 3) Go.undef) = ci (Sy.rows l) 3 := rfl
 have c12 : Go.RowKit.intOf ((Sy.rows l).getD (Int.toNat 12) Go.undef) = ci (Sy.rows l) 12 := rfl
 have c13 : Go.RowKit.intOf ((Sy.rows l).getD (Int.toNat 13) Go.undef) = ci (Sy.rows l) 13 := rfl
 have c14 : Go.RowKit.intOf ((Sy.rows l).getD (Int.toNat 14) Go.undef) = ci (Sy.rows l) 14 := rfl
 have c15 : Go.RowKit.intOf ((Sy.rows l).getD (Int.toNat 15) Go.undef) = ci (Sy.rows l) 15 := rfl
 simp only [c0, c1, c2, c3, c12, c13, c14, c15]
 obtain ⟨u0, u1⟩ := u8_any hL_l hc 0
 obtain ⟨s1, s2, s3⟩ := sh_all u0 u1
 have t1 : (ci (Sy.rows l) 0).tdiv 64 = ci (Sy.rows l) 0 / 64 := Int.tdiv_eq_ediv_of_nonneg u0
 have t2 : (ci (Sy.rows l) 0).tdiv 8 = ci (Sy.rows l) 0 / 8 := Int.tdiv_eq_ediv_of_nonneg u0
 have t3 : (ci (Sy.rows l) 0 / 8).tmod 8 = ci (Sy.rows l) 0 / 8 % 8 := Int.tmod_eq_emod_of_nonneg (by omega)
 have t4 : (ci (Sy.rows l) 0).tmod 8 = ci (Sy.rows l) 0 % 8 := Int.tmod_eq_emod_of_nonneg u0
 have t5 : IntKind.wrap .u8 (ci (Sy.rows l) 0 / 64) = ci (Sy.rows l) 0 / 64 := by (rw [IntKind.wrap_u8]; omega)
 have t6 : IntKind.wrap .u8 (ci (Sy.rows l) 0 / 8) = ci (Sy.rows l) 0 / 8 := by (rw [IntKind.wrap_u8]; omega)
 try simp only [s1, s2, s3, t1, t2, t3, t4, t5, t6]
 try simp only [t3]
 refine ⟨fun h0 => ?_, fun h0 => ?_⟩
 refine ?a0; rotate_left
 refine ⟨?_, fun h1 => ?_⟩
 refine ?a1; rotate_left
 refine ⟨?_, fun h2 => ?_⟩
 refine ?a2; rotate_left
 refine ⟨?_, fun h3 => ?_⟩
 refine ?a3; rotate_left
 refine ⟨?_, fun h4 => ?_⟩
 refine ?a4; rotate_left
 refine ⟨?_, fun h5 => ?_⟩
 refine ?a5; rotate_left
 refine ⟨?_, fun h6 => ?_⟩
 refine ?a6; rotate_left
 refine ⟨?_, fun h7 => ?_⟩
 refine ?a7; rotate_left
 refine ⟨?_, fun h8 => ?_⟩
 refine ?a8; rotate_left
 refine ⟨?_, fun h9 => ?_⟩
 refine ?a9; rotate_left
 refine ⟨?_, fun h10 => ?_⟩
 refine ?a10; rotate_left
 refine ⟨?_, fun h11 => ?_⟩
 refine ?a11; rotate_left
 refine ⟨?_, fun h12 => ?_⟩
 refine ?a12; rotate_left
 refine ⟨?_, fun h13 => ?_⟩
 refine ?a13; rotate_left
 refine ⟨?_, fun h14 => ?_⟩
 refine ?a14; rotate_left
 refine ⟨?_, fun h15 => ?_⟩
 refine ?a15; rotate_left
 refine ⟨?_, fun h16 => ?_⟩
 refine ?a16; rotate_left
 refine ⟨?_, fun h17 => ?_⟩
 refine ?a17; rotate_left
 refine ⟨?_, fun h18 => ?_⟩
 refine ?a18; rotate_left
 refine ⟨?_, fun h19 => ?_⟩
 refine ?a19; rotate_left
 refine ⟨?_, fun h20 => ?_⟩
 refine ?a20; rotate_left
 refine ⟨?_, fun h21 => ?_⟩
 refine ?a21; rotate_left
 refine ⟨?_, fun h22 => ?_⟩
 refine ?a22; rotate_left
 refine ⟨fun h23 => ?_, fun h23 => ?_⟩
 refine ?a23; rotate_left
 refine ?a24; rotate_left
 case a0 | a23 | a24 =>
  first
  | (exfalso; omega)
  | (rcases hs with ⟨h1, h2, e, er⟩ | ⟨h1, e, er⟩
     · first
       | (exfalso; omega)
       | (simp only [er, e, ra0, ra1, ra2, ra3, ra4, ra5, ra6, ra7, ra8, ra9, ra10, ra11, ra12, ra13, ra14, ra15, cp0 h1, cp1 h1, cp2 h1, cp3 h1]
          first | done | rfl)
     · first
       | (exfalso; omega)
       | (simp only [er, e]
          first | done | rfl))
  | skip
 case a1 | a2 | a3 | a4 | a5 | a6 | a7 | a8 | a9 | a10 | a11 | a12 | a13 | a14 | a15 | a16 | a17 | a18 | a19 | a20 | a21 | a22 =>
  first
  | exact True.intro
  | omega
  | exact okR_part hc
  | skip
theorem nwg_rdecA : nwc_rdecA.Good Tryd.prog syG (nwE [] [] [] []) := good_of_walk (Γ := ⟨[nxc_rmay, nwc_rvalA], syG, [], [], []⟩) (ρ := nwE [] [] [] []) sym rdecA_w rfl (fun _ _ _ _ => (ok_cons (Con.Good.env (Con.Good.up nxg_rmay nwup rfl) _ _ _ _) (ok_cons (Con.Good.env nwg_rvalA _ _ _ _) ok_nil))) rdecA_h
def wForms_tree : Tree :=
 (.br (lt_ (.lit 200) xwformsk1_)
 (.ret (.bool (.tt true)))
 (.need xwformsk0_
 (.need xwformsk0_
 (.need (.bapp 6 (.cons o0_ .nil))
 (.need (.bapp 6 (.cons o0_ .nil))
 (.need (an_ (le_ lm_ (.var 16)) (le_ (.var 16) lM_))
 (.need (an_ (le_ lm_ (.var 16)) (le_ (.var 16) lM_))
 (.need (an_ xwformsk16_ (an_ (le_ lm_ (.var 16)) (le_ (.var 16) lM_)))
 (.need (an_ xwformsk16_ (an_ (le_ lm_ (.var 16)) (le_ (.var 16) lM_)))
 (.need (an_ (le_ (.lit 0) v6_) (le_ v6_ (.lit 4294967295)))
 (.need (an_ (le_ (.lit 0) v6_) (le_ v6_ (.lit 4294967295)))
 (.ret (.bool (.tt true))))))))))))))
abbrev nwc_wForms : Con := ⟨8, [xwformsk5_, (.hs .no (.cons (.int .u8) .nil) o0_), (.int .i64 (.var 16))], (an_ xwformsk0_ (an_ (an_ (le_ lm_ (.var 16)) (le_ (.var 16) lM_)) (.bapp 6 (.cons o0_ .nil)))), (.bool (.tt true)), ⟨17, 0, 1, 0⟩, none⟩
theorem wForms_w : walk Tryd.prog 142 ⟨[nwc_encA, nwc_rencA, nwc_decA, nwc_rdecA, nvc_stampA, nvc_rstampA, nvc_nearA, nvc_rnearA, ntc_short, nxc_rshort, ntc_check, nxc_rmay, ntc_num, nuc_sure41], syG, [], [], []⟩ [] .v nwc_wForms nwc_wForms.n 3000 = some wForms_tree := by kernel_rfl
theorem wForms_h (le ve mo su po pr dl sp n0 n1 n2 n3 se ak ca sn t : Int) (l : Value) : Hyp_ nwc_wForms wForms_tree (nwE [le, ve, mo, su, po, pr, dl, sp, n0, n1, n2, n3, se, ak, ca, sn, t] [] [l] []) := by
 intro hc hty
 simp only [nwc_wForms, Sy.holds, nwE, denV, denI, denB, denL, I2.den, VOp.den, List.getD_cons_zero, List.getD_cons_succ, Cst.den, syso, syse, syio, sybo, nwb_okr, B2.ofInts, B2.denI, B2.denB, if_true, Bool.false_eq_true, if_false, Nat.div_one, Nat.mul_one, Nat.add_zero] at hc
 simp only [nwc_wForms, patsTyp, patTyp, patTypL, nwE, denV, denL, List.getD_cons_zero, List.getD_cons_succ, and_true, true_and] at hty
 have hL_l : typ (.sl (.cons (.int .u8) .nil)) l := by first | exact hty | exact hty.1 | exact hty.2 | exact hty.1.1 | exact hty.1.2 | exact hty.2.1 | exact hty.2.2 | exact hty.2.2.1 | exact hty.2.2.2
 have hN_l := typ_len (n := 1) hL_l rfl (by omega)
 simp only [Nat.div_one, Nat.mul_one] at hN_l
 unfold wForms_tree
 simp only [nwc_wForms, Tree.holds, Sy.holds, nwE, denV, denI, denB, denL, I2.den, VOp.den, List.getD_cons_zero, List.getD_cons_succ, Cst.den, syso, syse, syio, sybo, nwb_okr, B2.ofInts, B2.denI, B2.denB, if_true, Bool.false_eq_true, if_false, Nat.div_one, Nat.mul_one, Nat.add_zero]
 refine ⟨fun h0 => ?_, fun h0 => ?_⟩
 refine ?a0; rotate_left
 refine ⟨?_, fun h1 => ?_⟩
 refine ?a1; rotate_left
 refine ⟨?_, fun h2 => ?_⟩
 refine ?a2; rotate_left
 refine ⟨?_, fun h3 => ?_⟩
 refine ?a3; rotate_left
 refine ⟨?_, fun h4 => ?_⟩
 refine ?a4; rotate_left
 refine ⟨?_, fun h5 => ?_⟩
 refine ?a5; rotate_left
 refine ⟨?_, fun h6 => ?_⟩
 refine ?a6; rotate_left
 refine ⟨?_, fun h7 => ?_⟩
 refine ?a7; rotate_left
 refine ⟨?_, fun h8 => ?_⟩
 refine ?a8; rotate_left
 refine ⟨?_, fun h9 => ?_⟩
 refine ?a9; rotate_left
 refine ⟨?_, fun h10 => ?_⟩
 refine ?a10; rotate_left
 refine ?a11; rotate_left
 case a0 | a11 =>
  first
  | exact True.intro
  | rfl
  | (exfalso; omega)
  | exact absurd True.intro (by assumption)
  | (exfalso; simp only [not_true_eq_false] at *; done)
  | skip
 case a1 | a2 | a3 | a4 | a5 | a6 | a7 | a8 | a9 | a10 =>
  first
  | exact True.intro
  | omega
  | exact hc.2.2
  | skip
theorem nwg_wForms : nwc_wForms.Good Tryd.prog syG (nwE [] [] [] []) := good_of_walk (Γ := ⟨[nwc_encA, nwc_rencA, nwc_decA, nwc_rdecA, nvc_stampA, nvc_rstampA, nvc_nearA, nvc_rnearA, ntc_short, nxc_rshort, ntc_check, nxc_rmay, ntc_num, nuc_sure41], syG, [], [], []⟩) (ρ := nwE [] [] [] []) sym wForms_w rfl (fun _ _ _ _ => (ok_cons (Con.Good.env nwg_encA _ _ _ _) (ok_cons (Con.Good.env nwg_rencA _ _ _ _) (ok_cons (Con.Good.env nwg_decA _ _ _ _) (ok_cons (Con.Good.env nwg_rdecA _ _ _ _) (ok_cons (Con.Good.env (Con.Good.up (Con.Good.up nvg_stampA nxup rfl) nwup rfl) _ _ _ _) (ok_cons (Con.Good.env (Con.Good.up (Con.Good.up nvg_rstampA nxup rfl) nwup rfl) _ _ _ _) (ok_cons (Con.Good.env (Con.Good.up (Con.Good.up nvg_nearA nxup rfl) nwup rfl) _ _ _ _) (ok_cons (Con.Good.env (Con.Good.up (Con.Good.up nvg_rnearA nxup rfl) nwup rfl) _ _ _ _) (ok_cons (Con.Good.env (Con.Good.up (Con.Good.up (Con.Good.up (Con.Good.up ntg_short nuup rfl) nvup rfl) nxup rfl) nwup rfl) _ _ _ _) (ok_cons (Con.Good.env (Con.Good.up nxg_rshort nwup rfl) _ _ _ _) (ok_cons (Con.Good.env (Con.Good.up (Con.Good.up (Con.Good.up (Con.Good.up ntg_check nuup rfl) nvup rfl) nxup rfl) nwup rfl) _ _ _ _) (ok_cons (Con.Good.env (Con.Good.up nxg_rmay nwup rfl) _ _ _ _) (ok_cons (Con.Good.env (Con.Good.up (Con.Good.up (Con.Good.up (Con.Good.up ntg_num nuup rfl) nvup rfl) nxup rfl) nwup rfl) _ _ _ _) (ok_cons (Con.Good.env (Con.Good.up (Con.Good.up (Con.Good.up nug_sure41 nvup rfl) nxup rfl) nwup rfl) _ _ _ _) ok_nil))))))))))))))) wForms_h
end Go.Proofs.YtgondiedehjkhaaDoor
