/-
 Layer 30 by the second engine: what a bound is made of.
-/
import Derived.Test.YtgondiedehjkhaaGreatDoorSycbnd
import Derived.Test.YtgondiedehjkhaaGreatDoorBybnd
import Derived.Test.YtgondiedehjkhaaGreatDoorE00bnd
import Derived.Test.YtgondiedehjkhaaGreatDoorNumbnd
import Derived.Test.YtgondiedehjkhaaGreatDoorW02sbnd
import Derived.Test.YtgondiedehjkhaaGreatDoorW02ubnd
namespace Go.Proofs.YtgondiedehjkhaaGreatDoor
open Go.RowKit Go.Extern.Stop Go.Stop Go.Extern Go.Proofs.YtgondiedehjkhaaGreatDoor.Sy
set_option linter.unusedVariables false
set_option linter.unusedSimpArgs false
abbrev xrbxbndk8_ : Tm := (.iapp 20 (.cons (.int .i64 (.var 0)) (.cons (.int .i64 (.var 1)) (.cons (.int .i64 (.var 2)) (.cons (.int .i64 (.var 3)) (.cons (.int .u32 (.var 4)) (.cons (.int .i64 (.var 5)) (.cons (.int .u32 (.var 6)) (.cons (.int .i64 (.var 7)) (.cons (.int .i64 (.var 8)) (.cons (.int .i64 (.var 9)) (.cons (.int .i64 (.var 10)) .nil))))))))))))
abbrev xrbxbndk0_ : Tm := (.iapp 38 (.cons (.int .i64 (.iapp 31 (.cons (.int .i64 (.var 11)) (.cons (.int .i64 (.var 12)) (.cons (.int .i64 (.var 13)) (.cons (.int .i64 (.var 14)) (.cons (.int .i64 (.var 15)) (.cons (.int .i64 (.var 16)) (.cons (.str 0) (.cons (.int .i64 (.var 17)) (.cons (.opq 0) .nil))))))))))) (.cons (.int .i64 (.var 18)) (.cons (.int .i64 xrbxbndk8_) .nil))))
abbrev xrbxbndk13_ : Tm := (.wrap .i64 (.i2 .sub (.var 10) (.var 1)))
abbrev xrbxbndk1_ : Tm := (.iapp 5 (.cons (.int .i64 (.iapp 2 (.cons (.int .i64 (.i2 .add (.iapp 8 (.cons (.int .i64 xrbxbndk13_) (.cons (.int .u32 (.var 6)) (.cons (.int .i64 (.var 7)) .nil)))) (.lit (1)))) .nil))) (.cons (.int .i64 (.iapp 4 (.cons (.int .i64 (.i2 .add (.iapp 8 (.cons (.int .i64 xrbxbndk13_) (.cons (.int .u32 (.var 6)) (.cons (.int .i64 (.var 7)) .nil)))) (.lit (1)))) .nil))) .nil)))
abbrev xrbxbndk29_ : Tm := (.b2 .and (.b2 .le (.lit (-9223372036854775808)) (.var 8)) (.b2 .le (.var 8) (.lit (9223372036854775807))))
abbrev xrbxbndk2_ : Tm := (.b2 .and (.b2 .and (.b2 .le (.lit (-9223372036854775808)) (.var 0)) (.b2 .le (.var 0) (.lit (9223372036854775807)))) (.b2 .and (.b2 .and (.b2 .le (.lit (-9223372036854775808)) (.var 1)) (.b2 .le (.var 1) (.lit (9223372036854775807)))) (.b2 .and (.b2 .and (.b2 .le (.lit (-9223372036854775808)) (.var 2)) (.b2 .le (.var 2) (.lit (9223372036854775807)))) (.b2 .and (.b2 .and (.b2 .le (.lit (-9223372036854775808)) (.var 3)) (.b2 .le (.var 3) (.lit (9223372036854775807)))) (.b2 .and (.b2 .and (.b2 .le (.lit (0)) (.var 4)) (.b2 .le (.var 4) (.lit (4294967295)))) (.b2 .and (.b2 .and (.b2 .le (.lit (-9223372036854775808)) (.var 5)) (.b2 .le (.var 5) (.lit (9223372036854775807)))) (.b2 .and (.b2 .and (.b2 .le (.lit (0)) (.var 6)) (.b2 .le (.var 6) (.lit (4294967295)))) (.b2 .and (.b2 .and (.b2 .le (.lit (-9223372036854775808)) (.var 7)) (.b2 .le (.var 7) (.lit (9223372036854775807)))) (.b2 .and xrbxbndk29_ (.b2 .and (.b2 .le (.lit (-9223372036854775808)) (.var 9)) (.b2 .le (.var 9) (.lit (9223372036854775807)))))))))))))
abbrev xrbxbndk3_ : Tm := (.b2 .and (.b2 .and (.b2 .le (.lit (-9223372036854775808)) (.var 11)) (.b2 .le (.var 11) (.lit (9223372036854775807)))) (.b2 .and (.b2 .and (.b2 .le (.lit (-9223372036854775808)) (.var 12)) (.b2 .le (.var 12) (.lit (9223372036854775807)))) (.b2 .and (.b2 .and (.b2 .le (.lit (-9223372036854775808)) (.var 13)) (.b2 .le (.var 13) (.lit (9223372036854775807)))) (.b2 .and (.b2 .and (.b2 .le (.lit (-9223372036854775808)) (.var 14)) (.b2 .le (.var 14) (.lit (9223372036854775807)))) (.b2 .and (.b2 .and (.b2 .le (.lit (-9223372036854775808)) (.var 15)) (.b2 .le (.var 15) (.lit (9223372036854775807)))) (.b2 .and (.b2 .and (.b2 .le (.lit (-9223372036854775808)) (.var 16)) (.b2 .le (.var 16) (.lit (9223372036854775807)))) (.b2 .and (.b2 .le (.lit (-9223372036854775808)) (.var 17)) (.b2 .le (.var 17) (.lit (9223372036854775807))))))))))
abbrev xrbxbndk4_ : Tm := (.agg (.cons (.bool (.bapp 14 (.cons (.int .i64 (.var 0)) .nil))) (.cons (.int .u64 (.iapp 32 (.cons (.int .i64 (.iapp 33 (.cons (.int .i64 (.var 0)) .nil))) (.cons (.int .i64 (.lit (0))) .nil)))) (.cons (.int .u64 (.iapp 32 (.cons (.int .i64 (.iapp 33 (.cons (.int .i64 (.var 0)) .nil))) (.cons (.int .i64 (.lit (1))) .nil)))) (.cons (.int .u64 (.iapp 32 (.cons (.int .i64 (.iapp 33 (.cons (.int .i64 (.var 0)) .nil))) (.cons (.int .i64 (.lit (2))) .nil)))) (.cons (.int .u64 (.iapp 32 (.cons (.int .i64 (.iapp 33 (.cons (.int .i64 (.var 0)) .nil))) (.cons (.int .i64 (.lit (3))) .nil)))) (.cons (.int .u64 (.iapp 32 (.cons (.int .i64 (.iapp 33 (.cons (.int .i64 (.var 0)) .nil))) (.cons (.int .i64 (.lit (4))) .nil)))) (.cons (.int .u64 (.iapp 32 (.cons (.int .i64 (.iapp 33 (.cons (.int .i64 (.var 0)) .nil))) (.cons (.int .i64 (.lit (5))) .nil)))) (.cons (.int .u64 (.iapp 32 (.cons (.int .i64 (.iapp 33 (.cons (.int .i64 (.var 0)) .nil))) (.cons (.int .i64 (.lit (6))) .nil)))) (.cons (.int .u64 (.iapp 32 (.cons (.int .i64 (.iapp 33 (.cons (.int .i64 (.var 0)) .nil))) (.cons (.int .i64 (.lit (7))) .nil)))) .nil))))))))))
abbrev xrbxbndk5_ : Tm := (.agg (.cons (.int .i64 (.iapp 35 (.cons (.int .i64 xrbxbndk0_) (.cons (.int .i64 (.var 3)) .nil)))) (.cons (.int .i64 (.iapp 35 (.cons (.int .i64 xrbxbndk0_) (.cons (.int .i64 (.iapp 10 (.cons (.int .i64 (.iapp 1 (.cons (.int .i64 (.i2 .add (.iapp 12 (.cons (.int .u32 (.var 6)) (.cons (.int .i64 (.var 7)) (.cons (.int .i64 (.i2 .sub (.var 10) (.var 1))) .nil)))) (.lit (1)))) .nil))) (.cons (.int .i64 (.var 8)) .nil)))) .nil)))) (.cons (.int .i64 (.iapp 35 (.cons (.int .i64 xrbxbndk0_) (.cons (.int .i64 (.i2 .add (.iapp 11 (.cons (.int .i64 (.i2 .sub (.var 10) (.var 1))) (.cons (.int .i64 (.var 7)) .nil))) (.lit (4)))) .nil)))) (.cons (.int .i64 (.iapp 35 (.cons (.int .i64 xrbxbndk0_) (.cons (.int .i64 (.var 15)) .nil)))) (.cons (.int .i64 (.iapp 35 (.cons (.int .i64 xrbxbndk0_) (.cons (.int .i64 (.i2 .sub (.var 14) (.lit (1)))) .nil)))) (.cons (.int .i64 (.iapp 35 (.cons (.int .i64 xrbxbndk0_) (.cons (.int .i64 (.iapp 39 (.cons (.int .i64 (.var 11)) .nil))) .nil)))) (.cons (.int .i64 (.iapp 35 (.cons (.int .i64 xrbxbndk0_) (.cons (.int .i64 (.var 18)) .nil)))) .nil))))))))
abbrev xrbxbndk6_ : Tm := (.iapp 35 (.cons (.int .i64 (.iapp 34 (.cons (.int .i64 (.iapp 36 (.cons (.int .i64 (.i2 .mul (.var 8) xrbxbndk1_)) (.cons (.int .i64 (.lit (1073741824))) .nil)))) .nil))) (.cons (.int .i64 (.iapp 36 (.cons (.int .i64 (.i2 .mul (.var 8) xrbxbndk1_)) (.cons (.int .i64 (.lit (1073741824))) .nil)))) .nil)))
abbrev xrbxbndk7_ : Tm := (.agg (.cons (.int .i64 (.lit (0))) (.cons (.int .i64 (.lit (0))) (.cons (.int .i64 (.lit (0))) (.cons (.int .i64 (.lit (0))) (.cons (.int .i64 (.lit (0))) (.cons (.int .i64 (.lit (0))) (.cons (.int .i64 (.lit (0))) .nil))))))))
abbrev xrbxbndk9_ : Tm := (.agg (.cons (.int .i64 (.var 0)) (.cons (.int .i64 (.var 1)) (.cons (.int .i64 (.var 2)) (.cons (.int .i64 (.var 3)) (.cons (.int .u32 (.var 4)) (.cons (.int .i64 (.var 5)) (.cons (.int .u32 (.var 6)) (.cons (.int .i64 (.var 7)) (.cons (.int .i64 (.var 8)) (.cons (.int .i64 (.var 9)) .nil)))))))))))
abbrev xrbxbndk10_ : Tm := (.agg (.cons (.int .i64 (.var 11)) (.cons (.int .i64 (.var 12)) (.cons (.int .i64 (.var 13)) (.cons (.int .i64 (.var 14)) (.cons (.int .i64 (.var 15)) (.cons (.int .i64 (.var 16)) (.cons (.bool (.bvar 0)) (.cons (.str 0) (.cons (.int .i64 (.var 17)) (.cons (.hs .no (.cons (.int .i64) (.cons (.int .i64) (.cons .str .nil))) (.opq 0)) .nil)))))))))))
abbrev xrbxbndk11_ : Tm := (.b2 .and (.b2 .le (.lit (0)) (.wrap .i64 (.i2 .add (.var 20) (.lit (1))))) (.b2 .and (.b2 .le (.wrap .i64 (.i2 .add (.var 20) (.lit (1)))) (.var 7)) (.b2 .eq (.wrap .i64 (.i2 .quo (.var 19) (.lit (2)))) (.iapp 11 (.cons (.int .i64 (.i2 .sub (.var 10) (.var 1))) (.cons (.int .i64 (.wrap .i64 (.i2 .add (.var 20) (.lit (1))))) .nil))))))
abbrev xrbxbndk12_ : Tm := (.b2 .and (.b2 .le (.lit (0)) (.var 20)) (.b2 .and (.b2 .le (.var 20) (.var 7)) (.b2 .eq (.var 19) (.iapp 11 (.cons (.int .i64 (.i2 .sub (.var 10) (.var 1))) (.cons (.int .i64 (.var 20)) .nil))))))
abbrev xrbxbndk27_ : Tm := (.b2 .and (.b2 .le (.lit (-9223372036854775808)) (.var 10)) (.b2 .le (.var 10) (.lit (9223372036854775807))))
abbrev xrbxbndk14_ : Tm := (.b2 .and xrbxbndk2_ (.b2 .and xrbxbndk27_ (.b2 .and xrbxbndk3_ (.b2 .and (.b2 .le (.lit (-9223372036854775808)) (.var 18)) (.b2 .le (.var 18) (.lit (9223372036854775807)))))))
abbrev xrbxbndk15_ : Tm := (.iapp 33 (.cons (.int .i64 (.iapp 36 (.cons (.int .i64 (.var 0)) (.cons (.int .i64 (.var 1)) .nil)))) .nil))
abbrev xrbxbndk16_ : Tm := (.b2 .and (.b2 .and (.b2 .le (.lit (0)) (.var 6)) (.b2 .le (.var 6) (.lit (4294967295)))) (.b2 .and (.b2 .le (.lit (-9223372036854775808)) (.var 7)) (.b2 .le (.var 7) (.lit (9223372036854775807)))))
abbrev xrbxbndk17_ : Tm := (.b2 .and (.b2 .le (.lit (0)) (.lit (0))) (.b2 .and (.b2 .le (.lit (0)) (.var 7)) (.b2 .eq xrbxbndk13_ (.iapp 11 (.cons (.int .i64 (.i2 .sub (.var 10) (.var 1))) (.cons (.int .i64 (.lit (0))) .nil))))))
abbrev xrbxbndk18_ : Tm := (.not (.b2 .eq (.iapp 31 (.cons (.int .i64 (.var 11)) (.cons (.int .i64 (.var 12)) (.cons (.int .i64 (.var 13)) (.cons (.int .i64 (.var 14)) (.cons (.int .i64 (.var 15)) (.cons (.int .i64 (.var 16)) (.cons (.str 0) (.cons (.int .i64 (.var 17)) (.cons (.opq 0) .nil)))))))))) (.lit (0))))
abbrev xrbxbndk19_ : Tm := (.iapp 8 (.cons (.int .i64 (.var 10)) (.cons (.int .u32 (.var 6)) (.cons (.int .i64 (.var 7)) .nil))))
abbrev xrbxbndk20_ : Tm := (.iapp 37 (.cons (.int .i64 (.var 0)) (.cons (.int .i64 (.var 1)) .nil)))
abbrev xrbxbndk21_ : Tm := (.iapp 37 (.cons (.int .i64 (.i2 .mul (.var 8) xrbxbndk1_)) (.cons (.int .i64 (.lit (1073741824))) .nil)))
abbrev xrbxbndk22_ : Tm := (.iapp 33 (.cons (.int .i64 (.i2 .mul (.var 0) (.var 1))) .nil))
abbrev xrbxbndk23_ : Tm := (.tup (.cons (.agg (.cons (.int .i64 (.var 3)) (.cons (.int .i64 (.wrap .i64 (.i2 .add xrbxbndk6_ (.lit (1))))) (.cons (.int .i64 (.wrap .i64 (.i2 .add (.var 19) (.lit (4))))) (.cons (.int .i64 (.var 15)) (.cons (.int .i64 (.wrap .i64 (.i2 .sub (.var 14) (.lit (1))))) (.cons (.int .i64 (.lit (1000000000))) (.cons (.int .i64 (.var 18)) .nil)))))))) (.cons (.int .i64 (.lit (0))) .nil)))
abbrev xrbxbndk24_ : Tm := (.tup (.cons (.agg (.cons (.int .i64 (.var 3)) (.cons (.int .i64 (.wrap .i64 (.i2 .add xrbxbndk6_ (.lit (1))))) (.cons (.int .i64 (.wrap .i64 (.i2 .add (.var 19) (.lit (4))))) (.cons (.int .i64 (.var 15)) (.cons (.int .i64 (.wrap .i64 (.i2 .sub (.var 14) (.lit (1))))) (.cons (.int .i64 (.lit (0))) (.cons (.int .i64 (.var 18)) .nil)))))))) (.cons (.int .i64 (.lit (0))) .nil)))
abbrev xrbxbndk25_ : Tm := (.tup (.cons (.agg (.cons (.int .i64 (.var 3)) (.cons (.int .i64 xrbxbndk6_) (.cons (.int .i64 (.wrap .i64 (.i2 .add (.var 19) (.lit (4))))) (.cons (.int .i64 (.var 15)) (.cons (.int .i64 (.wrap .i64 (.i2 .sub (.var 14) (.lit (1))))) (.cons (.int .i64 (.lit (1000000000))) (.cons (.int .i64 (.var 18)) .nil)))))))) (.cons (.int .i64 (.lit (0))) .nil)))
abbrev xrbxbndk26_ : Tm := (.tup (.cons (.agg (.cons (.int .i64 (.var 3)) (.cons (.int .i64 xrbxbndk6_) (.cons (.int .i64 (.wrap .i64 (.i2 .add (.var 19) (.lit (4))))) (.cons (.int .i64 (.var 15)) (.cons (.int .i64 (.wrap .i64 (.i2 .sub (.var 14) (.lit (1))))) (.cons (.int .i64 (.lit (0))) (.cons (.int .i64 (.var 18)) .nil)))))))) (.cons (.int .i64 (.lit (0))) .nil)))
abbrev xrbxbndk28_ : Tm := (.b2 .and (.b2 .le (.lit (0)) (.iapp 36 (.cons (.int .i64 (.i2 .mul (.var 8) xrbxbndk1_)) (.cons (.int .i64 (.lit (1073741824))) .nil)))) (.b2 .le (.iapp 36 (.cons (.int .i64 (.i2 .mul (.var 8) xrbxbndk1_)) (.cons (.int .i64 (.lit (1073741824))) .nil))) (.lit (1606938044258990275541962092341162602522202993782792835301376))))
abbrev xrbxbndk30_ : Tm := (.b2 .and (.b2 .le (.blen (.str 0)) (.lit (200))) (.bapp 6 (.cons (.opq 0) .nil)))
abbrev xrbxbndk31_ : Tm := (.bapp 1 (.cons (.int .i64 (.var 0)) (.cons (.int .i64 (.var 1)) (.cons (.int .i64 (.var 2)) (.cons (.int .i64 (.var 3)) (.cons (.int .u32 (.var 4)) (.cons (.int .i64 (.var 5)) (.cons (.int .u32 (.var 6)) (.cons (.int .i64 (.var 7)) (.cons (.int .i64 (.var 8)) (.cons (.int .i64 (.var 9)) .nil)))))))))))
abbrev xrbxbndk32_ : Tm := (.b2 .and (.b2 .le (.lit (-9223372036854775808)) (.iapp 8 (.cons (.int .i64 xrbxbndk13_) (.cons (.int .u32 (.var 6)) (.cons (.int .i64 (.var 7)) .nil))))) (.b2 .le (.iapp 8 (.cons (.int .i64 xrbxbndk13_) (.cons (.int .u32 (.var 6)) (.cons (.int .i64 (.var 7)) .nil)))) (.lit (9223372036854775807))))
abbrev xrbxbndk33_ : Tm := (.b2 .and (.b2 .le (.lit (-9223372036854775808)) xrbxbndk1_) (.b2 .le xrbxbndk1_ (.lit (9223372036854775807))))
abbrev xrbxbndk34_ : Tm := (.iapp 33 (.cons (.int .i64 (.var 1)) .nil))
abbrev xrbxbndk35_ : Tm := (.b2 .and xrbxbndk16_ (.b2 .and (.bapp 0 (.cons (.int .u32 (.var 6)) (.cons (.int .i64 (.var 7)) .nil))) (.b2 .and (.b2 .and (.b2 .le (.lit (-9223372036854775808)) xrbxbndk13_) (.b2 .le xrbxbndk13_ (.lit (9223372036854775807)))) (.b2 .le (.lit (0)) xrbxbndk13_))))
abbrev xrbxbndk36_ : Tm := (.iapp 10 (.cons (.int .i64 (.iapp 1 (.cons (.int .i64 (.i2 .add (.iapp 12 (.cons (.int .u32 (.var 6)) (.cons (.int .i64 (.var 7)) (.cons (.int .i64 xrbxbndk13_) .nil)))) (.lit (1)))) .nil))) (.cons (.int .i64 (.var 8)) .nil)))
def sgI (b : Bool) (m : Int) : Int := if b then -m else m
def abI (x : Int) : Int := if x < 0 then -x else x
def r6E (x : Int) : Int := if InR x then 0 else 2
def gdF (e x : Int) : Int := if e = 0 then x else 0
def pwI (n : Int) : Int := if n < 0 ∨ 200 < n then 1 else 2 ^ n.toNat
theorem sg_f (m : Int) : sgI false m = m := Eq.trans rfl rfl
theorem sg_t (m : Int) : sgI true m = -m := Eq.trans rfl rfl
theorem ab_spec (x : Int) : (x < 0 ∧ abI x = -x) ∨ (0 ≤ x ∧ abI x = x) := by unfold abI; split <;> omega
theorem sg_ab (x : Int) : sgI (decide (x < 0)) (abI x) = x := by
 by_cases h : x < 0
 · rw [decide_eq_true h, sg_t]; unfold abI; rw [if_pos h]; omega
 · rw [decide_eq_false h, sg_f]; unfold abI; rw [if_neg h]
theorem r6_spec (x : Int) : ((-9223372036854775808 ≤ x ∧ x ≤ 9223372036854775807) ∧ r6E x = 0) ∨ ((x < -9223372036854775808 ∨ 9223372036854775807 < x) ∧ r6E x = 2) := by
 unfold r6E
 split
 · rename_i h; exact .inl ⟨h, rfl⟩
 · rename_i h; exact .inr ⟨by omega, rfl⟩
theorem gw_y {e : Int} (h : e = 0) (x : Int) : gdF e x = x := by unfold gdF; rw [if_pos h]
theorem gw_n {e : Int} (h : e ≠ 0) (x : Int) : gdF e x = 0 := by unfold gdF; rw [if_neg h]
theorem zero_w (m : Int) (w : World) (h0 : 0 ≤ m) (h1 : m < B8) : Calls Tryz.prog 74 #[.agg #[.int .u64 (dg m 0), .int .u64 (dg m 1), .int .u64 (dg m 2), .int .u64 (dg m 3), .int .u64 (dg m 4), .int .u64 (dg m 5), .int .u64 (dg m 6), .int .u64 (dg m 7)]] w fun e w' => e = .returned (.bool (m == 0)) ∧ Below w.heap.size w w' := by
 by_cases h : m = 0
 · subst h; exact zero_yes w
 · rw [show (m == 0) = false from beq_eq_false_iff_ne.2 h]; exact zero_no m w ⟨h0, h1⟩ h
theorem pw_rng {n : Int} (h0 : 0 ≤ n) (h1 : n ≤ 127) : 1 ≤ pwI n ∧ pwI n ≤ 170141183460469231731687303715884105728 ∧ pwI n = 2 ^ n.toNat := by
 have e : pwI n = 2 ^ n.toNat := by unfold pwI; rw [if_neg (by omega)]
 refine ⟨?_, ?_, e⟩
 · rw [e]; have : (0 : Int) < 2 ^ n.toNat := Int.pow_pos (by decide); omega
 · rw [e]
   have := Nat.pow_le_pow_right (show 0 < 2 by decide) (show n.toNat ≤ 127 by omega)
   have h2 : ((2 ^ n.toNat : Nat) : Int) ≤ ((2 ^ 127 : Nat) : Int) := by exact_mod_cast this
   simpa using h2
theorem power_w (n : Int) (w : World) (h0 : 0 ≤ n) (h1 : n ≤ 127) : Calls Tryz.prog 72 #[.int .i64 n] w fun e w' => e = .returned (.agg #[.bool (false), .int .u64 (dg (pwI n) 0), .int .u64 (dg (pwI n) 1), .int .u64 (dg (pwI n) 2), .int .u64 (dg (pwI n) 3), .int .u64 (dg (pwI n) 4), .int .u64 (dg (pwI n) 5), .int .u64 (dg (pwI n) 6), .int .u64 (dg (pwI n) 7)]) ∧ Below w.heap.size w w' := by
 obtain ⟨p1, p2, p3⟩ := pw_rng h0 h1
 have h := power_i n (pwI n) w h0 (by omega) p3
 rw [bigV_pos _ (by omega)] at h
 exact h
theorem bmul_w (b c : Bool) (m n : Int) (w : World) (h0 : 0 ≤ m) (h1 : m < BS ^ 4) (h2 : 0 ≤ n) (h3 : n < BS ^ 4) : Calls Tryz.prog 69 #[.agg #[.bool (b), .int .u64 (dg (m) 0), .int .u64 (dg (m) 1), .int .u64 (dg (m) 2), .int .u64 (dg (m) 3), .int .u64 (dg (m) 4), .int .u64 (dg (m) 5), .int .u64 (dg (m) 6), .int .u64 (dg (m) 7)], .agg #[.bool (c), .int .u64 (dg (n) 0), .int .u64 (dg (n) 1), .int .u64 (dg (n) 2), .int .u64 (dg (n) 3), .int .u64 (dg (n) 4), .int .u64 (dg (n) 5), .int .u64 (dg (n) 6), .int .u64 (dg (n) 7)]] w fun e w' => e = .returned (.agg #[.bool (decide (sgI b m * sgI c n < 0)), .int .u64 (dg (abI (sgI b m * sgI c n)) 0), .int .u64 (dg (abI (sgI b m * sgI c n)) 1), .int .u64 (dg (abI (sgI b m * sgI c n)) 2), .int .u64 (dg (abI (sgI b m * sgI c n)) 3), .int .u64 (dg (abI (sgI b m * sgI c n)) 4), .int .u64 (dg (abI (sgI b m * sgI c n)) 5), .int .u64 (dg (abI (sgI b m * sgI c n)) 6), .int .u64 (dg (abI (sgI b m * sgI c n)) 7)]) ∧ Below w.heap.size w w' := by
 have h := mul_raw b c m n w h0 h1 h2 h3
 have hp := Int.mul_nonneg h0 h2
 have e2 : abI (sgI b m * sgI c n) = m * n := by
   have := ab_spec (sgI b m * sgI c n)
   cases b <;> cases c <;> simp only [sg_f, sg_t, Int.neg_mul, Int.mul_neg, Int.neg_neg] at * <;> omega
 have e1 : decide (sgI b m * sgI c n < 0) = (b != c && decide (m * n ≠ 0)) := by
   clear h e2
   cases b <;> cases c <;> simp only [sg_f, sg_t, Int.neg_mul, Int.mul_neg, Int.neg_neg]
   all_goals by_cases hz : m * n = 0
   all_goals first
     | (rw [decide_eq_false (show ¬ m * n < 0 by omega)]; first | done | rfl)
     | (rw [hz]; rfl)
     | (rw [decide_eq_true (show -(m * n) < 0 by omega), decide_eq_true hz]; first | done | rfl)
 rw [e1, e2]
 exact h
theorem mulN_w (x y : Int) (w : World) (h0 : -9223372036854775808 ≤ x) (h1 : x ≤ 9223372036854775807) (h2 : -9223372036854775808 ≤ y) (h3 : y ≤ 9223372036854775807) : Calls Tryz.prog 69 #[.agg #[.bool (decide (x < 0)), .int .u64 (dg (abI (x)) 0), .int .u64 (dg (abI (x)) 1), .int .u64 (dg (abI (x)) 2), .int .u64 (dg (abI (x)) 3), .int .u64 (dg (abI (x)) 4), .int .u64 (dg (abI (x)) 5), .int .u64 (dg (abI (x)) 6), .int .u64 (dg (abI (x)) 7)], .agg #[.bool (decide (y < 0)), .int .u64 (dg (abI (y)) 0), .int .u64 (dg (abI (y)) 1), .int .u64 (dg (abI (y)) 2), .int .u64 (dg (abI (y)) 3), .int .u64 (dg (abI (y)) 4), .int .u64 (dg (abI (y)) 5), .int .u64 (dg (abI (y)) 6), .int .u64 (dg (abI (y)) 7)]] w fun e w' => e = .returned (.agg #[.bool (decide (x * y < 0)), .int .u64 (dg (abI (x * y)) 0), .int .u64 (dg (abI (x * y)) 1), .int .u64 (dg (abI (x * y)) 2), .int .u64 (dg (abI (x * y)) 3), .int .u64 (dg (abI (x * y)) 4), .int .u64 (dg (abI (x * y)) 5), .int .u64 (dg (abI (x * y)) 6), .int .u64 (dg (abI (x * y)) 7)]) ∧ Below w.heap.size w w' := by
 have e : BS ^ 4 = 340282366920938463463374607431768211456 := rfl
 have a := ab_spec x
 have b := ab_spec y
 have h := bmul_w (decide (x < 0)) (decide (y < 0)) (abI x) (abI y) w (by omega) (by omega) (by omega) (by omega)
 rw [sg_ab, sg_ab] at h
 exact h
theorem power30 (w : World) : Calls Tryz.prog 72 #[.int .i64 30] w fun e w' => e = .returned (.agg #[.bool (false), .int .u64 (dg (1073741824) 0), .int .u64 (dg (1073741824) 1), .int .u64 (dg (1073741824) 2), .int .u64 (dg (1073741824) 3), .int .u64 (dg (1073741824) 4), .int .u64 (dg (1073741824) 5), .int .u64 (dg (1073741824) 6), .int .u64 (dg (1073741824) 7)]) ∧ Below w.heap.size w w' := by
 have h := power_w 30 w (by decide) (by decide)
 rw [show pwI 30 = 1073741824 by decide] at h
 exact h
theorem ab_pos {x : Int} (h : 0 ≤ x) : decide (x < 0) = false ∧ abI x = x := ⟨decide_eq_false (by omega), by have := ab_spec x; omega⟩
theorem bdivN_w (x d : Int) (w : World) (h0 : 0 ≤ x) (h1 : x ≤ 170141183460469231731687303715884105728) (d0 : 1 ≤ d) (d1 : d ≤ 170141183460469231731687303715884105728) : Calls Tryz.prog 68 #[.agg #[.bool (decide (x < 0)), .int .u64 (dg (abI (x)) 0), .int .u64 (dg (abI (x)) 1), .int .u64 (dg (abI (x)) 2), .int .u64 (dg (abI (x)) 3), .int .u64 (dg (abI (x)) 4), .int .u64 (dg (abI (x)) 5), .int .u64 (dg (abI (x)) 6), .int .u64 (dg (abI (x)) 7)], .agg #[.bool (false), .int .u64 (dg (d) 0), .int .u64 (dg (d) 1), .int .u64 (dg (d) 2), .int .u64 (dg (d) 3), .int .u64 (dg (d) 4), .int .u64 (dg (d) 5), .int .u64 (dg (d) 6), .int .u64 (dg (d) 7)]] w fun e w' => e = .returned (.tuple #[.agg #[.bool (decide (x / d < 0)), .int .u64 (dg (abI (x / d)) 0), .int .u64 (dg (abI (x / d)) 1), .int .u64 (dg (abI (x / d)) 2), .int .u64 (dg (abI (x / d)) 3), .int .u64 (dg (abI (x / d)) 4), .int .u64 (dg (abI (x / d)) 5), .int .u64 (dg (abI (x / d)) 6), .int .u64 (dg (abI (x / d)) 7)], .agg #[.bool (false), .int .u64 (dg (x % d) 0), .int .u64 (dg (x % d) 1), .int .u64 (dg (x % d) 2), .int .u64 (dg (x % d) 3), .int .u64 (dg (x % d) 4), .int .u64 (dg (x % d) 5), .int .u64 (dg (x % d) 6), .int .u64 (dg (x % d) 7)]]) ∧ Below w.heap.size w w' := by
 have hq : 0 ≤ x / d := Int.ediv_nonneg h0 (by omega)
 have h := div_qp x d _ _ w (by omega) h1 d0 d1 rfl rfl hq
 rw [bigV_pos x h0, bigV_pos d (by omega)] at h
 rw [(ab_pos h0).1, (ab_pos h0).2, (ab_pos hq).1, (ab_pos hq).2]
 exact h
theorem numN_w (x : Int) (w : World) (h0 : 0 ≤ x) (h1 : x < B8) : Calls Tryz.prog 73 #[.agg #[.bool (decide (x < 0)), .int .u64 (dg (abI (x)) 0), .int .u64 (dg (abI (x)) 1), .int .u64 (dg (abI (x)) 2), .int .u64 (dg (abI (x)) 3), .int .u64 (dg (abI (x)) 4), .int .u64 (dg (abI (x)) 5), .int .u64 (dg (abI (x)) 6), .int .u64 (dg (abI (x)) 7)]] w fun e w' => e = .returned (.tuple #[.int .i64 (gdF (r6E x) x), .bool (r6E x == 0)]) ∧ Below w.heap.size w w' := by
 rw [(ab_pos h0).1, (ab_pos h0).2]
 rcases r6_spec x with ⟨h, e⟩ | ⟨h, e⟩
 · simp only [e, gw_y rfl]
   exact number_p0 x w h0 (by omega)
 · simp only [e, gw_n (show (2 : Int) ≠ 0 by decide)]
   exact number_pos_no x w (by omega) h1
theorem good_split {P : Program} {G : Glob} {ρ : Env} {c : Con} (C : Tm) (h1 : Con.Good P G ρ { c with cnd := .b2 .and c.cnd C }) (h2 : Con.Good P G ρ { c with cnd := .b2 .and c.cnd (.not C) }) : c.Good P G ρ := by
 intro iv bv vv sv β ok w xs n1 n2 n3 n4 hc ho hG hr he
 by_cases h : holds { ρ with iv := iv, bv := bv, vv := vv, sv := sv } C
 · exact h1 iv bv vv sv β ok w xs n1 n2 n3 n4 ⟨hc, h⟩ ho hG hr he
 · exact h2 iv bv vv sv β ok w xs n1 n2 n3 n4 ⟨hc, h⟩ ho hG hr he
def boE (p r t : Int) : Int := if p = 0 ∧ 0 ≤ r then t else 1
theorem bo_spec (p r t : Int) : ((p = 0 ∧ 0 ≤ r) ∧ boE p r t = t) ∨ ((p ≠ 0 ∨ r < 0) ∧ boE p r t = 1) := by
 unfold boE
 split <;> omega
def lpI (k : Int) : Int := if k = 0 then 1000000000 else 0
def smI (a b c d e f g : Int) : Int := satE (satE (satE (satE (satE (satE (satE (0 + a) + b) + c) + d) + e) + f) + g)
theorem lp_rng (k : Int) : 0 ≤ lpI k ∧ lpI k ≤ 1000000000 := by unfold lpI; split <;> omega
theorem parts_in {pe pb pt pr gm gs qm qs pp pc kc sk sb sa qu fw fc f rz : Int} {s : ByteArray} {l : List Value} (h : boE (poE sk sb sa qu fw fc s f l) rz (tmE pe pb pt pr gm gs qm qs pp pc kc) = 0) : pgP pe pb pt pr gm gs qm qs pp pc ∧ poP sk sb sa qu fw fc s f l ∧ 0 ≤ rz ∧ (pb ≤ kc ∧ kc - pb ≤ pc ∧ pt + qE gm gs (kc - pb) < 4611686018427387904 ∧ qE qm qs (kc - pb) ≤ 9223372036854775807) ∧ (0 ≤ upK (satE (qE qm qs (kc - pb) + 1) * pp) ∧ upK (satE (qE qm qs (kc - pb) + 1) * pp) ≤ 18014398509481984) ∧ (0 ≤ (kc - pb) / 2 ^ qs.toNat ∧ (kc - pb) / 2 ^ qs.toNat ≤ kc - pb) := by
 have hO := bo_spec (poE sk sb sa qu fw fc s f l) rz (tmE pe pb pt pr gm gs qm qs pp pc kc)
 have hp0 : poE sk sb sa qu fw fc s f l = 0 ∧ 0 ≤ rz ∧ tmE pe pb pt pr gm gs qm qs pp pc kc = 0 := by omega
 have ht0 := tm_spec pe pb pt pr gm gs qm qs pp pc kc
 obtain ⟨hp, hk⟩ : pgP pe pb pt pr gm gs qm qs pp pc ∧ (pb ≤ kc ∧ kc - pb ≤ pc ∧ pt + qE gm gs (kc - pb) < 4611686018427387904 ∧ qE qm qs (kc - pb) ≤ 9223372036854775807) := by
   rcases ht0 with ⟨_, z1, _⟩ | ⟨⟨hp, _⟩, ⟨_, z1, _⟩ | ⟨_, z1, _⟩ | ⟨_, z1, _⟩ | ⟨hk, z1, _⟩⟩
   · exfalso; omega
   · exfalso; omega
   · exfalso; omega
   · exfalso; omega
   · exact ⟨hp, by omega, by omega, by omega, by omega⟩
 have qp : poP sk sb sa qu fw fc s f l := by
   rcases po_spec sk sb sa qu fw fc s f l with ⟨a, b⟩ | ⟨a, b⟩
   · exact a
   · omega
 obtain ⟨a1, a2, a3, a4, a5, a6, a7, a8, f1, f2, a11, a12, a13, a14⟩ := id hp
 have w0 : 0 ≤ kc - pb := by omega
 have hm := ms_spec f2 w0
 have hsa := satE_spec (qE qm qs (kc - pb) + 1)
 have s0 : 0 ≤ satE (qE qm qs (kc - pb) + 1) := by omega
 have s1 : satE (qE qm qs (kc - pb) + 1) ≤ 9223372036854775807 := by omega
 have hub := up_bd s0 s1 a11 a12
 exact ⟨hp, qp, hp0.2.1, hk, ⟨hub.1, hub.2.1⟩, hv_bd w0⟩
theorem mdN_flip (p x d : Int) : mdN (-p) x d = mdN (-x) p d ∧ mdE (-p) x d = mdE (-x) p d := by
 have e : -p * x = -x * p := by rw [Int.neg_mul, Int.neg_mul, Int.mul_comm]
 unfold mdN mdE
 rw [e]
 exact ⟨rfl, rfl⟩
theorem satR (x : Int) : -9223372036854775808 ≤ satE x ∧ satE x ≤ 9223372036854775807 := by have := satE_spec x; omega
theorem sat_id {x : Int} (h0 : -9223372036854775808 ≤ x) (h1 : x ≤ 9223372036854775807) : satE (x + 0) = x := by have := satE_spec (x + 0); omega
theorem sat4 (x : Int) (h0 : -9223372036854775808 ≤ satE x) (h1 : satE x ≤ 9223372036854775807) : satE (satE (satE (satE (satE x + 0) + 0) + 0) + 0) = satE x := by
 rw [sat_id h0 h1, sat_id h0 h1, sat_id h0 h1, sat_id h0 h1]
theorem up_qr (x : Int) : (x % 1073741824 = 0 ∧ upK x = x / 1073741824) ∨ (x % 1073741824 ≠ 0 ∧ upK x = x / 1073741824 + 1) := by
 unfold upK
 omega
noncomputable def bxI : Nat → List Value → Int
 | 32, [.int _ m, .int _ k] => dg m k.toNat
 | 33, [.int _ x] => abI x
 | 34, [.int _ x] => r6E x
 | 35, [.int _ e, .int _ x] => gdF e x
 | 36, [.int _ a, .int _ b] => a / b
 | 37, [.int _ a, .int _ b] => a % b
 | 38, [.int _ p, .int _ r, .int _ t] => boE p r t
 | 39, [.int _ k] => lpI k
 | 40, [.int _ a, .int _ b, .int _ c, .int _ d, .int _ e, .int _ f, .int _ g] => smI a b c d e f g
 | i, l => byI i l
noncomputable def bxB : Nat → List Value → Bool
 | 14, [.int _ x] => decide (x < 0)
 | i, l => byB i l
noncomputable def bxV : Nat → List Value → Value
 | i, l => byV i l
noncomputable abbrev bxE (iv : List Int) (bv : List Bool) (vv : List Value) (sv : List ByteArray) : Env := { iv := iv, bv := bv, vv := vv, sv := sv, fi := bxI, fb := bxB, fv := bxV, et := 111 }
set_option maxHeartbeats 8000000 in
theorem bxup : Agree 32 14 0 (byE [] [] [] []) (bxE [] [] [] []) := ⟨rfl, (by
   intro f hf
   funext l
   show bxI f l = byI f l
   unfold bxI
   split <;> first | rfl | omega), (by
   intro f hf
   funext l
   show bxB f l = byB f l
   unfold bxB
   split <;> first | rfl | omega), (by
   intro f hf
   funext l
   show bxV f l = byV f l
   unfold bxV
   split <;> first | rfl | omega)⟩
theorem bxi_sa (k1 : IntKind) (a : Int) : bxI 1 [.int k1 a] = satE a := rfl
theorem bxi_nv (k1 : IntKind) (a : Int) : bxI 2 [.int k1 a] = svE a := rfl
theorem bxi_so (k1 : IntKind) (a : Int) : bxI 4 [.int k1 a] = soE a := rfl
theorem bxi_bd (k1 : IntKind) (a : Int) (k2 : IntKind) (o : Int) : bxI 5 [.int k1 a, .int k2 o] = bdE a o := rfl
theorem bxi_mdn (k1 : IntKind) (a : Int) (k2 : IntKind) (b : Int) (k3 : IntKind) (c : Int) : bxI 6 [.int k1 a, .int k2 b, .int k3 c] = mdN a b c := rfl
theorem bxi_mde (k1 : IntKind) (a : Int) (k2 : IntKind) (b : Int) (k3 : IntKind) (c : Int) : bxI 7 [.int k1 a, .int k2 b, .int k3 c] = mdE a b c := rfl
theorem bxi_msn (k1 : IntKind) (a : Int) (k2 : IntKind) (b : Int) (k3 : IntKind) (c : Int) : bxI 8 [.int k1 a, .int k2 b, .int k3 c] = msN a b c := rfl
theorem bxi_mse (k1 : IntKind) (a : Int) (k2 : IntKind) (b : Int) (k3 : IntKind) (c : Int) : bxI 9 [.int k1 a, .int k2 b, .int k3 c] = msE a b c := rfl
theorem bxi_up (k1 : IntKind) (g : Int) (k2 : IntKind) (r : Int) : bxI 10 [.int k1 g, .int k2 r] = upK (g * r) := rfl
theorem bxi_hv (k1 : IntKind) (n : Int) (k2 : IntKind) (s : Int) : bxI 11 [.int k1 n, .int k2 s] = n / 2 ^ s.toNat := rfl
theorem bxi_q (k1 : IntKind) (a : Int) (k2 : IntKind) (s : Int) (k3 : IntKind) (g : Int) : bxI 12 [.int k1 a, .int k2 s, .int k3 g] = qE a s g := rfl
theorem bxi_tme (k1 : IntKind) (e : Int) (k2 : IntKind) (b : Int) (k3 : IntKind) (t : Int) (k4 : IntKind) (r : Int) (k5 : IntKind) (gm : Int) (k6 : IntKind) (gs : Int) (k7 : IntKind) (pm : Int) (k8 : IntKind) (ps : Int) (k9 : IntKind) (p : Int) (k10 : IntKind) (c : Int) (k11 : IntKind) (k : Int) : bxI 20 [.int k1 e, .int k2 b, .int k3 t, .int k4 r, .int k5 gm, .int k6 gs, .int k7 pm, .int k8 ps, .int k9 p, .int k10 c, .int k11 k] = tmE e b t r gm gs pm ps p c k := rfl
theorem bxi_poe (k1 : IntKind) (k : Int) (k2 : IntKind) (b : Int) (k3 : IntKind) (a : Int) (k4 : IntKind) (q : Int) (k5 : IntKind) (w : Int) (k6 : IntKind) (c : Int) (s : ByteArray) (k7 : IntKind) (f : Int) (l : Value) : bxI 31 [.int k1 k, .int k2 b, .int k3 a, .int k4 q, .int k5 w, .int k6 c, .string s, .int k7 f, l] = poE k b a q w c s f (rows l) := rfl
theorem bxi_dg (k1 : IntKind) (m : Int) (k2 : IntKind) (k : Int) : bxI 32 [.int k1 m, .int k2 k] = dg m k.toNat := rfl
theorem bxi_ab (k1 : IntKind) (x : Int) : bxI 33 [.int k1 x] = abI x := rfl
theorem bxi_r6 (k1 : IntKind) (x : Int) : bxI 34 [.int k1 x] = r6E x := rfl
theorem bxi_gdw (k1 : IntKind) (e : Int) (k2 : IntKind) (x : Int) : bxI 35 [.int k1 e, .int k2 x] = gdF e x := rfl
theorem bxi_dv (k1 : IntKind) (a : Int) (k2 : IntKind) (b : Int) : bxI 36 [.int k1 a, .int k2 b] = a / b := rfl
theorem bxi_md (k1 : IntKind) (a : Int) (k2 : IntKind) (b : Int) : bxI 37 [.int k1 a, .int k2 b] = a % b := rfl
theorem bxi_boe (k1 : IntKind) (p : Int) (k2 : IntKind) (r : Int) (k3 : IntKind) (t : Int) : bxI 38 [.int k1 p, .int k2 r, .int k3 t] = boE p r t := rfl
theorem bxi_lp (k1 : IntKind) (k : Int) : bxI 39 [.int k1 k] = lpI k := rfl
theorem bxb_fm (k1 : IntKind) (a : Int) (k2 : IntKind) (s : Int) : bxB 0 [.int k1 a, .int k2 s] = decide (fmP a s) := rfl
theorem bxb_pm (k1 : IntKind) (e : Int) (k2 : IntKind) (b : Int) (k3 : IntKind) (t : Int) (k4 : IntKind) (r : Int) (k5 : IntKind) (gm : Int) (k6 : IntKind) (gs : Int) (k7 : IntKind) (pm : Int) (k8 : IntKind) (ps : Int) (k9 : IntKind) (p : Int) (k10 : IntKind) (c : Int) : bxB 1 [.int k1 e, .int k2 b, .int k3 t, .int k4 r, .int k5 gm, .int k6 gs, .int k7 pm, .int k8 ps, .int k9 p, .int k10 c] = decide (pgP e b t r gm gs pm ps p c) := rfl
theorem bxb_shr (l : Value) : bxB 6 [l] = shortR (rows l) := rfl
theorem bxb_ng (k1 : IntKind) (x : Int) : bxB 14 [.int k1 x] = decide (x < 0) := rfl
abbrev bxc_bint : Con := ⟨70, [(.int .i64 (.var 0))], (.b2 .and (.b2 .le (.lit (-9223372036854775808)) (.var 0)) (.b2 .le (.var 0) (.lit (9223372036854775807)))), xrbxbndk4_, ⟨1, 0, 0, 0⟩, none⟩
theorem bxg_bint : bxc_bint.Good Tryz.prog syG (bxE [] [] [] []) := good_flat rfl rfl rfl (by
 intro a hc β ok w hG
 have hc' := hc
 simp only [Tree.holds, Sy.holds, AllN, Env.more, bxE, List.cons_append, List.nil_append, List.append_nil, denV, denI, denB, denL, I2.den, VOp.den, List.getD_cons_zero, List.getD_cons_succ, Cst.den, syso, syse, syio, sybo, bxi_dg, bxi_ab, bxb_ng, List.map_nil, List.map_cons, B2.ofInts, B2.denI, B2.denB, if_true, Bool.false_eq_true, if_false, Nat.div_one, Nat.mul_one, Nat.add_zero, holds] at hc
 exact int_c a w hc)
abbrev bxc_bmulN : Con := ⟨69, [xrbxbndk4_, (.agg (.cons (.bool (.bapp 14 (.cons (.int .i64 (.var 1)) .nil))) (.cons (.int .u64 (.iapp 32 (.cons (.int .i64 xrbxbndk34_) (.cons (.int .i64 (.lit (0))) .nil)))) (.cons (.int .u64 (.iapp 32 (.cons (.int .i64 xrbxbndk34_) (.cons (.int .i64 (.lit (1))) .nil)))) (.cons (.int .u64 (.iapp 32 (.cons (.int .i64 xrbxbndk34_) (.cons (.int .i64 (.lit (2))) .nil)))) (.cons (.int .u64 (.iapp 32 (.cons (.int .i64 xrbxbndk34_) (.cons (.int .i64 (.lit (3))) .nil)))) (.cons (.int .u64 (.iapp 32 (.cons (.int .i64 xrbxbndk34_) (.cons (.int .i64 (.lit (4))) .nil)))) (.cons (.int .u64 (.iapp 32 (.cons (.int .i64 xrbxbndk34_) (.cons (.int .i64 (.lit (5))) .nil)))) (.cons (.int .u64 (.iapp 32 (.cons (.int .i64 xrbxbndk34_) (.cons (.int .i64 (.lit (6))) .nil)))) (.cons (.int .u64 (.iapp 32 (.cons (.int .i64 xrbxbndk34_) (.cons (.int .i64 (.lit (7))) .nil)))) .nil))))))))))], (.b2 .and (.b2 .and (.b2 .le (.lit (-9223372036854775808)) (.var 0)) (.b2 .le (.var 0) (.lit (9223372036854775807)))) (.b2 .and (.b2 .le (.lit (-9223372036854775808)) (.var 1)) (.b2 .le (.var 1) (.lit (9223372036854775807))))), (.agg (.cons (.bool (.bapp 14 (.cons (.int .i64 (.i2 .mul (.var 0) (.var 1))) .nil))) (.cons (.int .u64 (.iapp 32 (.cons (.int .i64 xrbxbndk22_) (.cons (.int .i64 (.lit (0))) .nil)))) (.cons (.int .u64 (.iapp 32 (.cons (.int .i64 xrbxbndk22_) (.cons (.int .i64 (.lit (1))) .nil)))) (.cons (.int .u64 (.iapp 32 (.cons (.int .i64 xrbxbndk22_) (.cons (.int .i64 (.lit (2))) .nil)))) (.cons (.int .u64 (.iapp 32 (.cons (.int .i64 xrbxbndk22_) (.cons (.int .i64 (.lit (3))) .nil)))) (.cons (.int .u64 (.iapp 32 (.cons (.int .i64 xrbxbndk22_) (.cons (.int .i64 (.lit (4))) .nil)))) (.cons (.int .u64 (.iapp 32 (.cons (.int .i64 xrbxbndk22_) (.cons (.int .i64 (.lit (5))) .nil)))) (.cons (.int .u64 (.iapp 32 (.cons (.int .i64 xrbxbndk22_) (.cons (.int .i64 (.lit (6))) .nil)))) (.cons (.int .u64 (.iapp 32 (.cons (.int .i64 xrbxbndk22_) (.cons (.int .i64 (.lit (7))) .nil)))) .nil)))))))))), ⟨2, 0, 0, 0⟩, none⟩
theorem bxg_bmulN : bxc_bmulN.Good Tryz.prog syG (bxE [] [] [] []) := good_flat rfl rfl rfl (by
 intro x y hc β ok w hG
 have hc' := hc
 simp only [Tree.holds, Sy.holds, AllN, Env.more, bxE, List.cons_append, List.nil_append, List.append_nil, denV, denI, denB, denL, I2.den, VOp.den, List.getD_cons_zero, List.getD_cons_succ, Cst.den, syso, syse, syio, sybo, bxi_dg, bxi_ab, bxb_ng, List.map_nil, List.map_cons, B2.ofInts, B2.denI, B2.denB, if_true, Bool.false_eq_true, if_false, Nat.div_one, Nat.mul_one, Nat.add_zero, holds] at hc
 exact mulN_w x y w hc.1.1 hc.1.2 hc.2.1 hc.2.2)
abbrev bxc_bpow : Con := ⟨72, [(.int .i64 (.lit (30)))], (.tt true), (.agg (.cons (.bool (.tt false)) (.cons (.int .u64 (.iapp 32 (.cons (.int .i64 (.lit (1073741824))) (.cons (.int .i64 (.lit (0))) .nil)))) (.cons (.int .u64 (.iapp 32 (.cons (.int .i64 (.lit (1073741824))) (.cons (.int .i64 (.lit (1))) .nil)))) (.cons (.int .u64 (.iapp 32 (.cons (.int .i64 (.lit (1073741824))) (.cons (.int .i64 (.lit (2))) .nil)))) (.cons (.int .u64 (.iapp 32 (.cons (.int .i64 (.lit (1073741824))) (.cons (.int .i64 (.lit (3))) .nil)))) (.cons (.int .u64 (.iapp 32 (.cons (.int .i64 (.lit (1073741824))) (.cons (.int .i64 (.lit (4))) .nil)))) (.cons (.int .u64 (.iapp 32 (.cons (.int .i64 (.lit (1073741824))) (.cons (.int .i64 (.lit (5))) .nil)))) (.cons (.int .u64 (.iapp 32 (.cons (.int .i64 (.lit (1073741824))) (.cons (.int .i64 (.lit (6))) .nil)))) (.cons (.int .u64 (.iapp 32 (.cons (.int .i64 (.lit (1073741824))) (.cons (.int .i64 (.lit (7))) .nil)))) .nil)))))))))), ⟨0, 0, 0, 0⟩, none⟩
theorem bxg_bpow : bxc_bpow.Good Tryz.prog syG (bxE [] [] [] []) := good_flat rfl rfl rfl (by
 intro  hc β ok w hG
 have hc' := hc
 simp only [Tree.holds, Sy.holds, AllN, Env.more, bxE, List.cons_append, List.nil_append, List.append_nil, denV, denI, denB, denL, I2.den, VOp.den, List.getD_cons_zero, List.getD_cons_succ, Cst.den, syso, syse, syio, sybo, bxi_dg, List.map_nil, List.map_cons, B2.ofInts, B2.denI, B2.denB, if_true, Bool.false_eq_true, if_false, Nat.div_one, Nat.mul_one, Nat.add_zero, holds] at hc
 exact power30 w)
abbrev bxc_bdivN : Con := ⟨68, [xrbxbndk4_, (.agg (.cons (.bool (.tt false)) (.cons (.int .u64 (.iapp 32 (.cons (.int .i64 (.var 1)) (.cons (.int .i64 (.lit (0))) .nil)))) (.cons (.int .u64 (.iapp 32 (.cons (.int .i64 (.var 1)) (.cons (.int .i64 (.lit (1))) .nil)))) (.cons (.int .u64 (.iapp 32 (.cons (.int .i64 (.var 1)) (.cons (.int .i64 (.lit (2))) .nil)))) (.cons (.int .u64 (.iapp 32 (.cons (.int .i64 (.var 1)) (.cons (.int .i64 (.lit (3))) .nil)))) (.cons (.int .u64 (.iapp 32 (.cons (.int .i64 (.var 1)) (.cons (.int .i64 (.lit (4))) .nil)))) (.cons (.int .u64 (.iapp 32 (.cons (.int .i64 (.var 1)) (.cons (.int .i64 (.lit (5))) .nil)))) (.cons (.int .u64 (.iapp 32 (.cons (.int .i64 (.var 1)) (.cons (.int .i64 (.lit (6))) .nil)))) (.cons (.int .u64 (.iapp 32 (.cons (.int .i64 (.var 1)) (.cons (.int .i64 (.lit (7))) .nil)))) .nil))))))))))], (.b2 .and (.b2 .and (.b2 .le (.lit (0)) (.var 0)) (.b2 .le (.var 0) (.lit (170141183460469231731687303715884105728)))) (.b2 .and (.b2 .le (.lit (1)) (.var 1)) (.b2 .le (.var 1) (.lit (170141183460469231731687303715884105728))))), (.tup (.cons (.agg (.cons (.bool (.bapp 14 (.cons (.int .i64 (.iapp 36 (.cons (.int .i64 (.var 0)) (.cons (.int .i64 (.var 1)) .nil)))) .nil))) (.cons (.int .u64 (.iapp 32 (.cons (.int .i64 xrbxbndk15_) (.cons (.int .i64 (.lit (0))) .nil)))) (.cons (.int .u64 (.iapp 32 (.cons (.int .i64 xrbxbndk15_) (.cons (.int .i64 (.lit (1))) .nil)))) (.cons (.int .u64 (.iapp 32 (.cons (.int .i64 xrbxbndk15_) (.cons (.int .i64 (.lit (2))) .nil)))) (.cons (.int .u64 (.iapp 32 (.cons (.int .i64 xrbxbndk15_) (.cons (.int .i64 (.lit (3))) .nil)))) (.cons (.int .u64 (.iapp 32 (.cons (.int .i64 xrbxbndk15_) (.cons (.int .i64 (.lit (4))) .nil)))) (.cons (.int .u64 (.iapp 32 (.cons (.int .i64 xrbxbndk15_) (.cons (.int .i64 (.lit (5))) .nil)))) (.cons (.int .u64 (.iapp 32 (.cons (.int .i64 xrbxbndk15_) (.cons (.int .i64 (.lit (6))) .nil)))) (.cons (.int .u64 (.iapp 32 (.cons (.int .i64 xrbxbndk15_) (.cons (.int .i64 (.lit (7))) .nil)))) .nil)))))))))) (.cons (.agg (.cons (.bool (.tt false)) (.cons (.int .u64 (.iapp 32 (.cons (.int .i64 xrbxbndk20_) (.cons (.int .i64 (.lit (0))) .nil)))) (.cons (.int .u64 (.iapp 32 (.cons (.int .i64 xrbxbndk20_) (.cons (.int .i64 (.lit (1))) .nil)))) (.cons (.int .u64 (.iapp 32 (.cons (.int .i64 xrbxbndk20_) (.cons (.int .i64 (.lit (2))) .nil)))) (.cons (.int .u64 (.iapp 32 (.cons (.int .i64 xrbxbndk20_) (.cons (.int .i64 (.lit (3))) .nil)))) (.cons (.int .u64 (.iapp 32 (.cons (.int .i64 xrbxbndk20_) (.cons (.int .i64 (.lit (4))) .nil)))) (.cons (.int .u64 (.iapp 32 (.cons (.int .i64 xrbxbndk20_) (.cons (.int .i64 (.lit (5))) .nil)))) (.cons (.int .u64 (.iapp 32 (.cons (.int .i64 xrbxbndk20_) (.cons (.int .i64 (.lit (6))) .nil)))) (.cons (.int .u64 (.iapp 32 (.cons (.int .i64 xrbxbndk20_) (.cons (.int .i64 (.lit (7))) .nil)))) .nil)))))))))) .nil))), ⟨2, 0, 0, 0⟩, none⟩
theorem bxg_bdivN : bxc_bdivN.Good Tryz.prog syG (bxE [] [] [] []) := good_flat rfl rfl rfl (by
 intro x d hc β ok w hG
 have hc' := hc
 simp only [Tree.holds, Sy.holds, AllN, Env.more, bxE, List.cons_append, List.nil_append, List.append_nil, denV, denI, denB, denL, I2.den, VOp.den, List.getD_cons_zero, List.getD_cons_succ, Cst.den, syso, syse, syio, sybo, bxi_dg, bxi_ab, bxi_dv, bxi_md, bxb_ng, List.map_nil, List.map_cons, B2.ofInts, B2.denI, B2.denB, if_true, Bool.false_eq_true, if_false, Nat.div_one, Nat.mul_one, Nat.add_zero, holds] at hc
 exact bdivN_w x d w hc.1.1 hc.1.2 hc.2.1 hc.2.2)
abbrev bxc_bnumN : Con := ⟨73, [xrbxbndk4_], (.b2 .and (.b2 .le (.lit (0)) (.var 0)) (.b2 .le (.var 0) (.lit (1606938044258990275541962092341162602522202993782792835301376)))), (.tup (.cons (.int .i64 (.iapp 35 (.cons (.int .i64 (.iapp 34 (.cons (.int .i64 (.var 0)) .nil))) (.cons (.int .i64 (.var 0)) .nil)))) (.cons (.bool (.b2 .eq (.iapp 34 (.cons (.int .i64 (.var 0)) .nil)) (.lit (0)))) .nil))), ⟨1, 0, 0, 0⟩, none⟩
theorem bxg_bnumN : bxc_bnumN.Good Tryz.prog syG (bxE [] [] [] []) := good_flat rfl rfl rfl (by
 intro x hc β ok w hG
 have hc' := hc
 simp only [Tree.holds, Sy.holds, AllN, Env.more, bxE, List.cons_append, List.nil_append, List.append_nil, denV, denI, denB, denL, I2.den, VOp.den, List.getD_cons_zero, List.getD_cons_succ, Cst.den, syso, syse, syio, sybo, bxi_dg, bxi_ab, bxi_r6, bxi_gdw, bxb_ng, List.map_nil, List.map_cons, B2.ofInts, B2.denI, B2.denB, if_true, Bool.false_eq_true, if_false, Nat.div_one, Nat.mul_one, Nat.add_zero, holds] at hc
 exact numN_w x w hc.1 (by have := hc.2; unfold B8; omega))
abbrev bxc_bzero : Con := ⟨74, [(.agg (.cons (.int .u64 (.iapp 32 (.cons (.int .i64 (.var 0)) (.cons (.int .i64 (.lit (0))) .nil)))) (.cons (.int .u64 (.iapp 32 (.cons (.int .i64 (.var 0)) (.cons (.int .i64 (.lit (1))) .nil)))) (.cons (.int .u64 (.iapp 32 (.cons (.int .i64 (.var 0)) (.cons (.int .i64 (.lit (2))) .nil)))) (.cons (.int .u64 (.iapp 32 (.cons (.int .i64 (.var 0)) (.cons (.int .i64 (.lit (3))) .nil)))) (.cons (.int .u64 (.iapp 32 (.cons (.int .i64 (.var 0)) (.cons (.int .i64 (.lit (4))) .nil)))) (.cons (.int .u64 (.iapp 32 (.cons (.int .i64 (.var 0)) (.cons (.int .i64 (.lit (5))) .nil)))) (.cons (.int .u64 (.iapp 32 (.cons (.int .i64 (.var 0)) (.cons (.int .i64 (.lit (6))) .nil)))) (.cons (.int .u64 (.iapp 32 (.cons (.int .i64 (.var 0)) (.cons (.int .i64 (.lit (7))) .nil)))) .nil)))))))))], (.b2 .and (.b2 .le (.lit (0)) (.var 0)) (.b2 .le (.var 0) (.lit (1606938044258990275541962092341162602522202993782792835301376)))), (.bool (.b2 .eq (.var 0) (.lit (0)))), ⟨1, 0, 0, 0⟩, none⟩
theorem bxg_bzero : bxc_bzero.Good Tryz.prog syG (bxE [] [] [] []) := good_flat rfl rfl rfl (by
 intro m hc β ok w hG
 have hc' := hc
 simp only [Tree.holds, Sy.holds, AllN, Env.more, bxE, List.cons_append, List.nil_append, List.append_nil, denV, denI, denB, denL, I2.den, VOp.den, List.getD_cons_zero, List.getD_cons_succ, Cst.den, syso, syse, syio, sybo, bxi_dg, List.map_nil, List.map_cons, B2.ofInts, B2.denI, B2.denB, if_true, Bool.false_eq_true, if_false, Nat.div_one, Nat.mul_one, Nat.add_zero, holds] at hc
 exact zero_w m w hc.1 (by have := hc.2; unfold B8; omega))
def grown_tree : Tree :=
 (.need (.b2 .and xrbxbndk16_ (.b2 .and (.bapp 0 (.cons (.int .u32 (.var 6)) (.cons (.int .i64 (.var 7)) .nil))) xrbxbndk27_))
 (.br (.not (.b2 .eq (.iapp 9 (.cons (.int .i64 (.var 10)) (.cons (.int .u32 (.var 6)) (.cons (.int .i64 (.var 7)) .nil)))) (.lit (0))))
 (.ret (.tup (.cons (.int .i64 (.lit (0))) (.cons (.err (.iapp 9 (.cons (.int .i64 (.var 10)) (.cons (.int .u32 (.var 6)) (.cons (.int .i64 (.var 7)) .nil))))) .nil))))
 (.need (.b2 .and (.b2 .le (.lit (-9223372036854775808)) xrbxbndk19_) (.b2 .le xrbxbndk19_ (.lit (9223372036854775807))))
 (.need (.b2 .and (.b2 .and (.b2 .le (.lit (-9223372036854775808)) (.wrap .i64 (.i2 .sub (.lit (0)) (.var 8)))) (.b2 .le (.wrap .i64 (.i2 .sub (.lit (0)) (.var 8))) (.lit (9223372036854775807)))) (.b2 .and (.b2 .le (.lit (-9223372036854775808)) (.iapp 1 (.cons (.int .i64 (.i2 .add xrbxbndk19_ (.lit (1)))) .nil))) (.b2 .le (.iapp 1 (.cons (.int .i64 (.i2 .add xrbxbndk19_ (.lit (1)))) .nil)) (.lit (9223372036854775807)))))
 (.ret (.tup (.cons (.int .i64 (.wrap .i64 (.i2 .sub (.lit (0)) (.iapp 6 (.cons (.int .i64 (.wrap .i64 (.i2 .sub (.lit (0)) (.var 8)))) (.cons (.int .i64 (.iapp 1 (.cons (.int .i64 (.i2 .add xrbxbndk19_ (.lit (1)))) .nil))) (.cons (.int .i64 (.lit (1073741824))) .nil))))))) (.cons (.err (.iapp 7 (.cons (.int .i64 (.wrap .i64 (.i2 .sub (.lit (0)) (.var 8)))) (.cons (.int .i64 (.iapp 1 (.cons (.int .i64 (.i2 .add xrbxbndk19_ (.lit (1)))) .nil))) (.cons (.int .i64 (.lit (1073741824))) .nil))))) .nil))))))))
abbrev bxc_grown : Con := ⟨62, [xrbxbndk9_, (.int .i64 (.var 10))], (.b2 .and xrbxbndk2_ (.b2 .and xrbxbndk31_ (.b2 .and (.b2 .le (.lit (0)) (.var 10)) (.b2 .and (.b2 .le (.var 10) (.lit (1125899906842624))) (.b2 .le (.iapp 12 (.cons (.int .u32 (.var 6)) (.cons (.int .i64 (.var 7)) (.cons (.int .i64 (.var 10)) .nil)))) (.lit (9223372036854775807))))))), (.tup (.cons (.int .i64 (.iapp 10 (.cons (.int .i64 (.iapp 1 (.cons (.int .i64 (.i2 .add (.iapp 12 (.cons (.int .u32 (.var 6)) (.cons (.int .i64 (.var 7)) (.cons (.int .i64 (.var 10)) .nil)))) (.lit (1)))) .nil))) (.cons (.int .i64 (.var 8)) .nil)))) (.cons (.err (.lit (0))) .nil))), ⟨11, 0, 0, 0⟩, none⟩
theorem grown_w : walk Tryz.prog 111 ⟨[yac_scale, yac_addsat, yac_mdiv], syG, [], [], []⟩ [] .v bxc_grown bxc_grown.n 3000 = some grown_tree := by kernel_rfl
theorem grown_h (pe pb pt pr gm gs qm qs pp pc g : Int) : Hyp_ bxc_grown grown_tree (bxE [pe, pb, pt, pr, gm, gs, qm, qs, pp, pc, g] [] [] []) := by
 intro hc hty
 simp only [bxc_grown, Sy.holds, bxE, denV, denI, denB, denL, I2.den, VOp.den, List.getD_cons_zero, List.getD_cons_succ, Cst.den, syso, syse, syio, sybo, bxi_q, bxb_pm, B2.ofInts, B2.denI, B2.denB, if_true, Bool.false_eq_true, if_false, Nat.div_one, Nat.mul_one, Nat.add_zero] at hc
 simp only [bxc_grown, patsTyp, patTyp, patTypL, bxE, denV, denL, List.getD_cons_zero, List.getD_cons_succ, and_true, true_and] at hty
 unfold grown_tree
 simp only [bxc_grown, Tree.holds, Sy.holds, bxE, denV, denI, denB, denL, I2.den, VOp.den, List.getD_cons_zero, List.getD_cons_succ, Cst.den, syso, syse, syio, sybo, bxi_sa, bxi_mdn, bxi_mde, bxi_msn, bxi_mse, bxi_up, bxi_q, bxb_fm, B2.ofInts, B2.denI, B2.denB, if_true, Bool.false_eq_true, if_false, Nat.div_one, Nat.mul_one, Nat.add_zero]
 have hp : pgP pe pb pt pr gm gs qm qs pp pc := of_decide_eq_true hc.2.1
 obtain ⟨a1, a2, a3, a4, a5, a6, a7, a8, f1, f2, a11, a12, a13, a14⟩ := hp
 have hm := ms_spec f2 hc.2.2.1
 have hq := hc.2.2.2.2
 have hsa := satE_spec (qE qm qs g + 1)
 have hup := up_bd (g := satE (qE qm qs g + 1)) (r := pp) (by omega) (by omega) a11 a12
 have hfl := mdN_flip pp (satE (qE qm qs g + 1)) 1073741824
 have hw : IntKind.wrap .i64 (0 - pp) = -pp := by have := wr_i64 (0 - pp); omega
 have m1 : msE g qm qs = 0 ∧ msN g qm qs = qE qm qs g := by (rcases hm with ⟨_, ⟨a, b, c⟩ | ⟨a, b, c⟩⟩; exact ⟨a, b⟩; omega)
 simp only [m1.1, m1.2, hw]
 rw [hfl.1, hfl.2, hup.2.2.1, hup.2.2.2]
 have w9 : IntKind.wrap .i64 (0 - -(upK (satE (qE qm qs g + 1) * pp))) = upK (satE (qE qm qs g + 1) * pp) := by have := wr_i64 (0 - -(upK (satE (qE qm qs g + 1) * pp))); omega
 try simp only [w9]
 refine ⟨?_, fun h0 => ?_⟩
 refine ?a0; rotate_left
 refine ⟨fun h1 => ?_, fun h1 => ?_⟩
 refine ?a1; rotate_left
 refine ⟨?_, fun h2 => ?_⟩
 refine ?a2; rotate_left
 refine ⟨?_, fun h3 => ?_⟩
 refine ?a3; rotate_left
 refine ?a4; rotate_left
 case a0 | a2 | a3 =>
  first
  | exact True.intro
  | omega
  | (simp only [f2, decide_true, true_and]; omega)
  | skip
 case a1 | a4 =>
  first
  | exact True.intro
  | rfl
  | exact absurd True.intro (by assumption)
  | exact absurd rfl (by assumption)
  | (exfalso; omega)
  | skip
theorem bxg_grown : bxc_grown.Good Tryz.prog syG (bxE [] [] [] []) := good_of_walk (Γ := ⟨[yac_scale, yac_addsat, yac_mdiv], syG, [], [], []⟩) (ρ := bxE [] [] [] []) sym grown_w rfl (fun _ _ _ _ => (ok_cons (Con.Good.env (Con.Good.up (Con.Good.up (Con.Good.up (Con.Good.up yag_scale ybup rfl) bzup rfl) byup rfl) bxup rfl) _ _ _ _) (ok_cons (Con.Good.env (Con.Good.up (Con.Good.up (Con.Good.up (Con.Good.up yag_addsat ybup rfl) bzup rfl) byup rfl) bxup rfl) _ _ _ _) (ok_cons (Con.Good.env (Con.Good.up (Con.Good.up (Con.Good.up (Con.Good.up yag_mdiv ybup rfl) bzup rfl) byup rfl) bxup rfl) _ _ _ _) ok_nil)))) grown_h
def bof_tree : Tree :=
 (.need xrbxbndk3_
 (.br xrbxbndk18_
 (.ret (.tup (.cons xrbxbndk7_ (.cons (.iface 111 (.int .i64 (.lit (1)))) .nil))))
 (.br (.b2 .lt (.var 18) (.lit (0)))
 (.ret (.tup (.cons xrbxbndk7_ (.cons (.iface 111 (.int .i64 (.lit (1)))) .nil))))
 (.need (.b2 .and xrbxbndk2_ xrbxbndk27_)
 (.br (.not (.b2 .eq xrbxbndk8_ (.lit (0))))
 (.ret (.tup (.cons xrbxbndk7_ (.cons (.err xrbxbndk8_) .nil))))
 (.need (.b2 .and xrbxbndk2_ (.b2 .and xrbxbndk31_ (.b2 .and (.b2 .le (.lit (0)) xrbxbndk13_) (.b2 .and (.b2 .le xrbxbndk13_ (.lit (1125899906842624))) (.b2 .le (.iapp 12 (.cons (.int .u32 (.var 6)) (.cons (.int .i64 (.var 7)) (.cons (.int .i64 xrbxbndk13_) .nil)))) (.lit (9223372036854775807)))))))
 (.need (.b2 .and xrbxbndk16_ (.b2 .and (.bapp 0 (.cons (.int .u32 (.var 6)) (.cons (.int .i64 (.var 7)) .nil))) (.b2 .and (.b2 .le (.lit (0)) xrbxbndk13_) (.b2 .le xrbxbndk13_ (.lit (1125899906842624))))))
 (.br (.b2 .eq (.var 11) (.lit (0)))
 (.ret (.tup (.cons (.agg (.cons (.int .i64 (.var 3)) (.cons (.int .i64 xrbxbndk36_) (.cons (.int .i64 (.wrap .i64 (.i2 .add (.i2 .add (.iapp 11 (.cons (.int .i64 xrbxbndk13_) (.cons (.int .i64 (.var 7)) .nil))) (.lit (2))) (.lit (2))))) (.cons (.int .i64 (.var 15)) (.cons (.int .i64 (.wrap .i64 (.i2 .sub (.var 14) (.lit (1))))) (.cons (.int .i64 (.lit (1000000000))) (.cons (.int .i64 (.var 18)) .nil)))))))) (.cons (.cst .nilI) .nil))))
 (.ret (.tup (.cons (.agg (.cons (.int .i64 (.var 3)) (.cons (.int .i64 xrbxbndk36_) (.cons (.int .i64 (.wrap .i64 (.i2 .add (.i2 .add (.iapp 11 (.cons (.int .i64 xrbxbndk13_) (.cons (.int .i64 (.var 7)) .nil))) (.lit (2))) (.lit (2))))) (.cons (.int .i64 (.var 15)) (.cons (.int .i64 (.wrap .i64 (.i2 .sub (.var 14) (.lit (1))))) (.cons (.int .i64 (.lit (0))) (.cons (.int .i64 (.var 18)) .nil)))))))) (.cons (.cst .nilI) .nil))))))))))))
abbrev bxc_bof : Con := ⟨26, [xrbxbndk9_, (.int .i64 (.var 10)), xrbxbndk10_, (.int .i64 (.var 18))], xrbxbndk14_, (.tup (.cons xrbxbndk5_ (.cons (.err xrbxbndk0_) .nil))), ⟨19, 1, 1, 1⟩, none⟩
theorem bof_w : walk Tryz.prog 111 ⟨[byc_pock, ybc_time, bxc_grown, yac_off], syG, [], [], []⟩ [] .v bxc_bof bxc_bof.n 3000 = some bof_tree := by kernel_rfl
theorem bof_h (pe pb pt pr gm gs qm qs pp pc kc sk sb sa qu fw fc f rz : Int) (j : Bool) (l : Value) (s : ByteArray) : Hyp_ bxc_bof bof_tree (bxE [pe, pb, pt, pr, gm, gs, qm, qs, pp, pc, kc, sk, sb, sa, qu, fw, fc, f, rz] [j] [l] [s]) := by
 intro hc hty
 simp only [bxc_bof, Sy.holds, bxE, denV, denI, denB, denL, I2.den, VOp.den, List.getD_cons_zero, List.getD_cons_succ, Cst.den, syso, syse, syio, sybo, B2.ofInts, B2.denI, B2.denB, if_true, Bool.false_eq_true, if_false, Nat.div_one, Nat.mul_one, Nat.add_zero] at hc
 simp only [bxc_bof, patsTyp, patTyp, patTypL, bxE, denV, denL, List.getD_cons_zero, List.getD_cons_succ, and_true, true_and] at hty
 have hL_l : typ (.sl (.cons (.int .i64) (.cons (.int .i64) (.cons .str .nil)))) l := by first | exact hty | exact hty.1 | exact hty.2 | exact hty.1.1 | exact hty.1.2 | exact hty.2.1 | exact hty.2.2 | exact hty.2.2.1 | exact hty.2.2.2
 have hN_l := typ_len (n := 3) hL_l rfl (by omega)
 unfold bof_tree
 simp only [bxc_bof, Tree.holds, Sy.holds, bxE, denV, denI, denB, denL, I2.den, VOp.den, List.getD_cons_zero, List.getD_cons_succ, Cst.den, syso, syse, syio, sybo, bxi_sa, bxi_up, bxi_hv, bxi_q, bxi_tme, bxi_poe, bxi_gdw, bxi_boe, bxi_lp, bxb_fm, bxb_pm, B2.ofInts, B2.denI, B2.denB, if_true, Bool.false_eq_true, if_false, Nat.div_one, Nat.mul_one, Nat.add_zero]
 rcases tm_spec pe pb pt pr gm gs qm qs pp pc kc with ⟨⟨hp, he⟩, z1, z2, z3⟩ | ⟨⟨hp, he⟩, ⟨hk, z1, z2, z3⟩ | ⟨hk, z1, z2, z3⟩ | ⟨hk, z1, z2, z3⟩ | ⟨hk, z1, z2, z3⟩⟩
 all_goals
  have hq := pg_bd pe pb pt pr gm gs qm qs pp pc
  have hO := bo_spec (poE sk sb sa qu fw fc s f (Sy.rows l)) rz (tmE pe pb pt pr gm gs qm qs pp pc kc)
  obtain ⟨E, hE⟩ : ∃ x, boE (poE sk sb sa qu fw fc s f (Sy.rows l)) rz (tmE pe pb pt pr gm gs qm qs pp pc kc) = x := ⟨_, rfl⟩
  simp only [hE] at hO ⊢
  have hv := hv_or (kc - pb) qs
  have hh := po_spec sk sb sa qu fw fc s f (Sy.rows l)
  refine ⟨?_, fun h0 => ?_⟩
  rotate_left
  refine ⟨fun h1 => ?_, fun h1 => ?_⟩
  rotate_left
  refine ⟨fun h2 => ?_, fun h2 => ?_⟩
  rotate_left
  refine ⟨?_, fun h3 => ?_⟩
  rotate_left
  refine ⟨fun h4 => ?_, fun h4 => ?_⟩
  rotate_left
  first | have hw0 : IntKind.wrap .i64 (kc - pb) = (kc - pb) := by (have hwx := wr_i64 (kc - pb); omega) | have wf0 := wr_i64 (kc - pb)
  try simp only [hw0]
  refine ⟨?_, fun h5 => ?_⟩
  rotate_left
  refine ⟨?_, fun h6 => ?_⟩
  rotate_left
  refine ⟨fun h7 => ?_, fun h7 => ?_⟩
  first | have hw1 : IntKind.wrap .i64 ((((IntKind.wrap .i64 (kc - pb)) / 2 ^ qs.toNat) + 2) + 2) = ((((IntKind.wrap .i64 (kc - pb)) / 2 ^ qs.toNat) + 2) + 2) := by (have hwx := wr_i64 ((((IntKind.wrap .i64 (kc - pb)) / 2 ^ qs.toNat) + 2) + 2); omega) | have wf1 := wr_i64 ((((IntKind.wrap .i64 (kc - pb)) / 2 ^ qs.toNat) + 2) + 2)
  first | have hw2 : IntKind.wrap .i64 (qu - 1) = (qu - 1) := by (have hwx := wr_i64 (qu - 1); omega) | have wf2 := wr_i64 (qu - 1)
  try simp only [hw0]
  rotate_left
  first | have hw3 : IntKind.wrap .i64 ((((IntKind.wrap .i64 (kc - pb)) / 2 ^ qs.toNat) + 2) + 2) = ((((IntKind.wrap .i64 (kc - pb)) / 2 ^ qs.toNat) + 2) + 2) := by (have hwx := wr_i64 ((((IntKind.wrap .i64 (kc - pb)) / 2 ^ qs.toNat) + 2) + 2); omega) | have wf3 := wr_i64 ((((IntKind.wrap .i64 (kc - pb)) / 2 ^ qs.toNat) + 2) + 2)
  first | have hw4 : IntKind.wrap .i64 (qu - 1) = (qu - 1) := by (have hwx := wr_i64 (qu - 1); omega) | have wf4 := wr_i64 (qu - 1)
  try simp only [hw0]
  rotate_left
 all_goals first
 | exact True.intro
 | (show @Eq Value _ _
    first
    | (exfalso; omega)
    | (have q : E = 1 := by omega
       simp only [gw_n (show ¬ E = 0 by omega)]; simp only [q]
       first | done | rfl)
    | (have q : E = tmE pe pb pt pr gm gs qm qs pp pc kc := by omega
       simp only [gw_n (show ¬ E = 0 by omega)]; simp only [q]
       first | done | rfl)
    | (have q : E = 0 := by omega
       have qp : poP sk sb sa qu fw fc s f (Sy.rows l) := by (rcases hh with ⟨a, b⟩ | ⟨a, b⟩; exact a; omega)
       obtain ⟨b1, b2, b3, b4, b5, b6, b7, b8⟩ := id qp
       have wq : IntKind.wrap .i64 (qu - 1) = qu - 1 := by have := wr_i64 (qu - 1); omega
       simp only [gw_y q, wq]
       try simp only [q]
       first
       | (rw [show lpI sk = 1000000000 from if_pos (by assumption)]; try rw [show IntKind.wrap .i64 ((kc - pb) / 2 ^ qs.toNat + 2 + 2) = (kc - pb) / 2 ^ qs.toNat + 4 by (have := wr_i64 ((kc - pb) / 2 ^ qs.toNat + 2 + 2); omega)]; first | done | rfl)
       | (rw [show lpI sk = 0 from if_neg (by assumption)]; try rw [show IntKind.wrap .i64 ((kc - pb) / 2 ^ qs.toNat + 2 + 2) = (kc - pb) / 2 ^ qs.toNat + 4 by (have := wr_i64 ((kc - pb) / 2 ^ qs.toNat + 2 + 2); omega)]; first | done | rfl))
    | skip
    done)
 | (skip
    first
    | omega
    | exact hc.2.2.1
    | exact absurd (of_decide_eq_true (by assumption)) hp
    | exact absurd (of_decide_eq_true (Decidable.of_not_not (by assumption))) hp
    | (obtain ⟨a1, a2, a3, a4, a5, a6, a7, a8, f1, f2, a11, a12, a13, a14⟩ := id hp
       simp only [hp, f1, f2, decide_true, true_and]
       omega)
    | skip
    done)
theorem bxg_bof : bxc_bof.Good Tryz.prog syG (bxE [] [] [] []) := good_of_walk (Γ := ⟨[byc_pock, ybc_time, bxc_grown, yac_off], syG, [], [], []⟩) (ρ := bxE [] [] [] []) sym bof_w rfl (fun _ _ _ _ => (ok_cons (Con.Good.env (Con.Good.up byg_pock bxup rfl) _ _ _ _) (ok_cons (Con.Good.env (Con.Good.up (Con.Good.up (Con.Good.up ybg_time bzup rfl) byup rfl) bxup rfl) _ _ _ _) (ok_cons (Con.Good.env bxg_grown _ _ _ _) (ok_cons (Con.Good.env (Con.Good.up (Con.Good.up (Con.Good.up (Con.Good.up yag_off ybup rfl) bzup rfl) byup rfl) bxup rfl) _ _ _ _) ok_nil))))) bof_h
def rbofV_tree : Tree :=
 (.need (.b2 .and xrbxbndk3_ xrbxbndk30_)
 (.br xrbxbndk18_
 (.ret (.tup (.cons xrbxbndk7_ (.cons (.int .i64 (.lit (1))) .nil))))
 (.br (.b2 .lt (.var 18) (.lit (0)))
 (.ret (.tup (.cons xrbxbndk7_ (.cons (.int .i64 (.lit (1))) .nil))))
 (.need (.b2 .and xrbxbndk2_ xrbxbndk27_)
 (.br (.not (.b2 .eq xrbxbndk8_ (.lit (0))))
 (.ret (.tup (.cons xrbxbndk7_ (.cons (.int .i64 xrbxbndk8_) .nil))))
 (.need xrbxbndk35_
 (.need xrbxbndk32_
 (.need xrbxbndk29_
 (.need xrbxbndk33_
 (.need (.b2 .and xrbxbndk29_ xrbxbndk33_)
 (.need (.b2 .and (.b2 .le (.lit (0)) (.i2 .mul (.var 8) xrbxbndk1_)) (.b2 .le (.i2 .mul (.var 8) xrbxbndk1_) (.lit (170141183460469231731687303715884105728))))
 (.need xrbxbndk28_
 (.need (.b2 .and (.b2 .le (.lit (0)) xrbxbndk21_) (.b2 .le xrbxbndk21_ (.lit (1606938044258990275541962092341162602522202993782792835301376))))
 (.br (.not (.b2 .eq xrbxbndk21_ (.lit (0))))
 (.loop ⟨2, 0, 0, 0⟩ xrbxbndk17_ xrbxbndk12_
 (.br (.b2 .lt (.var 20) (.var 7))
 (.back xrbxbndk11_ (.i2 .sub (.var 7) (.wrap .i64 (.i2 .add (.var 20) (.lit (1))))) (.i2 .sub (.var 7) (.var 20)))
 (.br (.b2 .eq (.var 11) (.lit (0)))
 (.ret xrbxbndk23_)
 (.ret xrbxbndk24_))))
 (.loop ⟨2, 0, 0, 0⟩ xrbxbndk17_ xrbxbndk12_
 (.br (.b2 .lt (.var 20) (.var 7))
 (.back xrbxbndk11_ (.i2 .sub (.var 7) (.wrap .i64 (.i2 .add (.var 20) (.lit (1))))) (.i2 .sub (.var 7) (.var 20)))
 (.br (.b2 .eq (.var 11) (.lit (0)))
 (.ret xrbxbndk25_)
 (.ret xrbxbndk26_))))))))))))))))))
abbrev bxc_rbofV : Con := ⟨27, [xrbxbndk9_, (.int .i64 (.var 10)), xrbxbndk10_, (.int .i64 (.var 18))], (.b2 .and (.b2 .and xrbxbndk14_ xrbxbndk30_) (.b2 .eq xrbxbndk0_ (.lit (0)))), (.tup (.cons xrbxbndk5_ (.cons (.int .i64 xrbxbndk0_) .nil))), ⟨19, 1, 1, 1⟩, none⟩
theorem rbofV_w : walk Tryz.prog 111 ⟨[byc_pomay, ybc_rtime, yac_rscale, yac_rsum, yac_rbound, bxc_bint, bxc_bmulN, bxc_bpow, bxc_bdivN, bxc_bnumN, bxc_bzero], syG, [], [], []⟩ [⟨0, ⟨2, 0, 0, 0⟩, [(13, (.int .i64 (.var 19))), (23, (.int .i64 (.var 20)))], none, xrbxbndk12_, (.i2 .sub (.var 7) (.var 20)), 0, []⟩] .v bxc_rbofV bxc_rbofV.n 3000 = some rbofV_tree := by kernel_rfl
set_option maxHeartbeats 8000000 in
theorem rbofV_h (pe pb pt pr gm gs qm qs pp pc kc sk sb sa qu fw fc f rz : Int) (j : Bool) (l : Value) (s : ByteArray) : Hyp_ bxc_rbofV rbofV_tree (bxE [pe, pb, pt, pr, gm, gs, qm, qs, pp, pc, kc, sk, sb, sa, qu, fw, fc, f, rz] [j] [l] [s]) := by
 intro hc hty
 simp only [bxc_rbofV, Sy.holds, bxE, denV, denI, denB, denL, I2.den, VOp.den, List.getD_cons_zero, List.getD_cons_succ, Cst.den, syso, syse, syio, sybo, bxi_tme, bxi_poe, bxi_boe, bxb_shr, B2.ofInts, B2.denI, B2.denB, if_true, Bool.false_eq_true, if_false, Nat.div_one, Nat.mul_one, Nat.add_zero] at hc
 simp only [bxc_rbofV, patsTyp, patTyp, patTypL, bxE, denV, denL, List.getD_cons_zero, List.getD_cons_succ, and_true, true_and] at hty
 have hL_l : typ (.sl (.cons (.int .i64) (.cons (.int .i64) (.cons .str .nil)))) l := by first | exact hty | exact hty.1 | exact hty.2 | exact hty.1.1 | exact hty.1.2 | exact hty.2.1 | exact hty.2.2 | exact hty.2.2.1 | exact hty.2.2.2
 have hN_l := typ_len (n := 3) hL_l rfl (by omega)
 unfold rbofV_tree
 simp only [bxc_rbofV, Tree.holds, Sy.holds, AllN, Env.more, bxE, List.cons_append, List.nil_append, List.append_nil, denV, denI, denB, denL, I2.den, VOp.den, List.getD_cons_zero, List.getD_cons_succ, Cst.den, syso, syse, syio, sybo, bxi_sa, bxi_nv, bxi_so, bxi_bd, bxi_msn, bxi_up, bxi_hv, bxi_q, bxi_tme, bxi_poe, bxi_r6, bxi_gdw, bxi_dv, bxi_md, bxi_boe, bxi_lp, bxb_fm, bxb_shr, List.map_nil, List.map_cons, B2.ofInts, B2.denI, B2.denB, if_true, Bool.false_eq_true, if_false, Nat.div_one, Nat.mul_one, Nat.add_zero]
 have hq := pg_bd pe pb pt pr gm gs qm qs pp pc
 have hO := bo_spec (poE sk sb sa qu fw fc s f (Sy.rows l)) rz (tmE pe pb pt pr gm gs qm qs pp pc kc)
 obtain ⟨E, hE⟩ : ∃ x, boE (poE sk sb sa qu fw fc s f (Sy.rows l)) rz (tmE pe pb pt pr gm gs qm qs pp pc kc) = x := ⟨_, rfl⟩
 simp only [hE] at hO ⊢
 have hv := hv_or (kc - pb) qs
 have hh := po_spec sk sb sa qu fw fc s f (Sy.rows l)
 have hE0 : E = 0 := (by simp only [hE] at hc; exact hc.2)
 have hp0 : poE sk sb sa qu fw fc s f (Sy.rows l) = 0 ∧ 0 ≤ rz ∧ tmE pe pb pt pr gm gs qm qs pp pc kc = 0 := by omega
 have ht0 := tm_spec pe pb pt pr gm gs qm qs pp pc kc
 obtain ⟨hp, hk⟩ : pgP pe pb pt pr gm gs qm qs pp pc ∧ (pb ≤ kc ∧ kc - pb ≤ pc ∧ pt + qE gm gs (kc - pb) < 4611686018427387904 ∧ qE qm qs (kc - pb) ≤ 9223372036854775807) := by
   rcases ht0 with ⟨_, z1, _⟩ | ⟨⟨hp, _⟩, ⟨_, z1, _⟩ | ⟨_, z1, _⟩ | ⟨_, z1, _⟩ | ⟨hk, z1, _⟩⟩
   · exfalso; omega
   · exfalso; omega
   · exfalso; omega
   · exfalso; omega
   · exact ⟨hp, by omega, by omega, by omega, by omega⟩
 try simp only [bd_sat]
 have f2q : 0 ≤ qs ∧ qs ≤ 31 := hp.2.2.2.2.2.2.2.2.2.1.2
 obtain ⟨a1, a2, a3, a4, a5, a6, a7, a8, f1, f2, a11, a12, a13, a14⟩ := id hp
 have w0 : 0 ≤ kc - pb := by omega
 have w1 : kc - pb ≤ 1125899906842624 := by omega
 have w2 : qE qm qs (kc - pb) ≤ 9223372036854775807 := by omega
 have hw : IntKind.wrap .i64 (kc - pb) = kc - pb := by (have := wr_i64 (kc - pb); omega)
 have hm := ms_spec f2 w0
 have m1 : msN (kc - pb) qm qs = qE qm qs (kc - pb) := by (rcases hm with ⟨_, ⟨a, b, c⟩ | ⟨a, b, c⟩⟩; exact b; omega)
 have hsa := satE_spec (qE qm qs (kc - pb) + 1)
 have s0 : 0 ≤ satE (qE qm qs (kc - pb) + 1) := by omega
 have s1 : satE (qE qm qs (kc - pb) + 1) ≤ 9223372036854775807 := by omega
 have hub := up_bd s0 s1 a11 a12
 have hcm : pp * satE (qE qm qs (kc - pb) + 1) = satE (qE qm qs (kc - pb) + 1) * pp := Int.mul_comm _ _
 have hmn := Int.mul_nonneg s0 a11
 try simp only [hw]
 try simp only [m1]
 try simp only [bd_sat]
 try simp only [hcm]
 obtain ⟨Z, hZ⟩ : ∃ x, satE (qE qm qs (kc - pb) + 1) * pp = x := ⟨_, rfl⟩
 simp only [hZ] at hub hmn ⊢
 have upq := up_qr Z
 have r6 := r6_spec (Z / 1073741824)
 have q6 : r6E (Z / 1073741824) = 0 := by omega
 try simp only [gw_y q6]
 have wz := wr_i64 (Z / 1073741824 + 1)
 have hZX : InR (satE (qE qm qs (kc - pb) + 1)) := ⟨by omega, s1⟩
 refine ⟨?_, fun h0 => ?_⟩
 refine ?a0; rotate_left
 refine ⟨fun h1 => ?_, fun h1 => ?_⟩
 refine ?a1; rotate_left
 refine ⟨fun h2 => ?_, fun h2 => ?_⟩
 refine ?a2; rotate_left
 refine ⟨?_, fun h3 => ?_⟩
 refine ?a3; rotate_left
 refine ⟨fun h4 => ?_, fun h4 => ?_⟩
 refine ?a4; rotate_left
 refine ⟨?_, fun h5 => ?_⟩
 refine ?a5; rotate_left
 refine ⟨?_, fun h6 => ?_⟩
 refine ?a6; rotate_left
 refine ⟨?_, fun h7 => ?_⟩
 refine ?a7; rotate_left
 refine ⟨?_, fun h8 => ?_⟩
 refine ?a8; rotate_left
 refine ⟨?_, fun h9 => ?_⟩
 refine ?a9; rotate_left
 refine ⟨?_, fun h10 => ?_⟩
 refine ?a10; rotate_left
 refine ⟨?_, fun h11 => ?_⟩
 refine ?a11; rotate_left
 refine ⟨?_, fun h12 => ?_⟩
 refine ?a12; rotate_left
 refine ⟨fun h13 => ?_, fun h13 => ?_⟩
 refine ⟨?_, ?_⟩
 refine ?a13; rotate_left
 intro i0a i0b hi0
 obtain ⟨g1, g2, g3⟩ := hi0
 have hv2 := hv_or (kc - pb) i0b
 have hb2 := hv_bd (n := kc - pb) (s := i0b) (by omega)
 have ht : i0a.tdiv 2 = i0a / 2 := Int.tdiv_eq_ediv_of_nonneg (by omega)
 have wa : IntKind.wrap .i64 (i0a / 2) = i0a / 2 := by (rw [g3]; have := wr_i64 ((kc - pb) / 2 ^ i0b.toNat / 2); omega)
 have wb : i0b < qs → IntKind.wrap .i64 (i0b + 1) = i0b + 1 := fun h => by (have := wr_i64 (i0b + 1); omega)
 refine ⟨fun h14 => ?_, fun h14 => ?_⟩
 refine ⟨?_, ?_⟩
 refine ?a14; rotate_left
 ·
  first
  | omega
  | (rw [wb (by omega)]; omega)
  | skip
 refine ⟨fun h15 => ?_, fun h15 => ?_⟩
 refine ?a15; rotate_left
 refine ?a16; rotate_left
 refine ⟨?_, ?_⟩
 refine ?a17; rotate_left
 intro i1a i1b hi1
 obtain ⟨g1, g2, g3⟩ := hi1
 have hv2 := hv_or (kc - pb) i1b
 have hb2 := hv_bd (n := kc - pb) (s := i1b) (by omega)
 have ht : i1a.tdiv 2 = i1a / 2 := Int.tdiv_eq_ediv_of_nonneg (by omega)
 have wa : IntKind.wrap .i64 (i1a / 2) = i1a / 2 := by (rw [g3]; have := wr_i64 ((kc - pb) / 2 ^ i1b.toNat / 2); omega)
 have wb : i1b < qs → IntKind.wrap .i64 (i1b + 1) = i1b + 1 := fun h => by (have := wr_i64 (i1b + 1); omega)
 refine ⟨fun h16 => ?_, fun h16 => ?_⟩
 refine ⟨?_, ?_⟩
 refine ?a18; rotate_left
 ·
  first
  | omega
  | (rw [wb (by omega)]; omega)
  | skip
 refine ⟨fun h17 => ?_, fun h17 => ?_⟩
 refine ?a19; rotate_left
 refine ?a20; rotate_left
 case a0 | a3 | a5 | a6 | a7 | a8 | a9 | a10 | a11 | a12 =>
  first
  | omega
  | exact hc.2.2.1
  | exact absurd (of_decide_eq_true (by assumption)) hp
  | exact absurd (of_decide_eq_true (Decidable.of_not_not (by assumption))) hp
  | (obtain ⟨a1, a2, a3, a4, a5, a6, a7, a8, f1, f2, a11, a12, a13, a14⟩ := id hp
     simp only [hp, f1, f2, decide_true, true_and]
     omega)
  | exact ⟨by omega, hc.1.2.1, hc.1.2.2⟩
  | exact ⟨hc.1.1.2.2.1, hc.1.2.1, hc.1.2.2⟩
  | skip
 case a1 | a2 | a4 =>
  first
  | (exfalso; omega)
  | (have q : E = 1 := by omega
     simp only [gw_n (show ¬ E = 0 by omega)]; simp only [q]
     first | done | rfl)
  | (have q : E = tmE pe pb pt pr gm gs qm qs pp pc kc := by omega
     simp only [gw_n (show ¬ E = 0 by omega)]; simp only [q]
     first | done | rfl)
  | (have q : E = 0 := by omega
     have qp : poP sk sb sa qu fw fc s f (Sy.rows l) := by (rcases hh with ⟨a, b⟩ | ⟨a, b⟩; exact a; omega)
     obtain ⟨b1, b2, b3, b4, b5, b6, b7, b8⟩ := id qp
     have wq : IntKind.wrap .i64 (qu - 1) = qu - 1 := by have := wr_i64 (qu - 1); omega
     simp only [gw_y q, wq]
     try simp only [q]
     first
     | (rw [show lpI sk = 1000000000 from if_pos (by assumption)]; skip; first | done | rfl)
     | (rw [show lpI sk = 0 from if_neg (by assumption)]; skip; first | done | rfl))
  | skip
 case a13 | a17 =>
  first
  | (refine ⟨by omega, by omega, ?_⟩; show kc - pb = (kc - pb) / 2 ^ 0; omega)
  | skip
 case a14 | a18 =>
  first
  | (rw [ht, wa, wb (by omega), hv_succ (kc - pb) g1, ← g3]
     exact ⟨by omega, by omega, by omega⟩)
  | (simp only [hw] at *
     rw [ht, wa, wb (by omega), hv_succ (kc - pb) g1, ← g3]
     exact ⟨by omega, by omega, by omega⟩)
  | skip
 case a15 | a16 =>
  first
  | (exfalso; omega)
  | (have q : E = 0 := by omega
     have qp : poP sk sb sa qu fw fc s f (Sy.rows l) := by (rcases hh with ⟨a, b⟩ | ⟨a, b⟩; exact a; omega)
     obtain ⟨b1, b2, b3, b4, b5, b6, b7, b8⟩ := id qp
     have wq : IntKind.wrap .i64 (qu - 1) = qu - 1 := by have := wr_i64 (qu - 1); omega
     have e9 : i0b = qs := by omega
     rw [e9] at g3
     have wf : IntKind.wrap .i64 ((kc - pb) / 2 ^ qs.toNat + 4) = (kc - pb) / 2 ^ qs.toNat + 4 := by (have := wr_i64 ((kc - pb) / 2 ^ qs.toNat + 4); omega)
     simp only [gw_y q, wq, g3, wf]
     try simp only [q]
     first
     | rw [show upK Z = Z / 1073741824 by omega]
     | rw [show IntKind.wrap .i64 (Z / 1073741824 + 1) = upK Z by omega]
     first
     | (rw [show lpI sk = 1000000000 from if_pos (by assumption)]; first | done | rfl)
     | (rw [show lpI sk = 0 from if_neg (by assumption)]; first | done | rfl))
  | skip
 case a19 | a20 =>
  first
  | (exfalso; omega)
  | (have q : E = 0 := by omega
     have qp : poP sk sb sa qu fw fc s f (Sy.rows l) := by (rcases hh with ⟨a, b⟩ | ⟨a, b⟩; exact a; omega)
     obtain ⟨b1, b2, b3, b4, b5, b6, b7, b8⟩ := id qp
     have wq : IntKind.wrap .i64 (qu - 1) = qu - 1 := by have := wr_i64 (qu - 1); omega
     have e9 : i1b = qs := by omega
     rw [e9] at g3
     have wf : IntKind.wrap .i64 ((kc - pb) / 2 ^ qs.toNat + 4) = (kc - pb) / 2 ^ qs.toNat + 4 := by (have := wr_i64 ((kc - pb) / 2 ^ qs.toNat + 4); omega)
     simp only [gw_y q, wq, g3, wf]
     try simp only [q]
     first
     | rw [show upK Z = Z / 1073741824 by omega]
     | rw [show IntKind.wrap .i64 (Z / 1073741824 + 1) = upK Z by omega]
     first
     | (rw [show lpI sk = 1000000000 from if_pos (by assumption)]; first | done | rfl)
     | (rw [show lpI sk = 0 from if_neg (by assumption)]; first | done | rfl))
  | skip
theorem bxg_rbofV : bxc_rbofV.Good Tryz.prog syG (bxE [] [] [] []) := good_of_walk (Γ := ⟨[byc_pomay, ybc_rtime, yac_rscale, yac_rsum, yac_rbound, bxc_bint, bxc_bmulN, bxc_bpow, bxc_bdivN, bxc_bnumN, bxc_bzero], syG, [], [], []⟩) (ρ := bxE [] [] [] []) sym rbofV_w rfl (fun _ _ _ _ => (ok_cons (Con.Good.env (Con.Good.up byg_pomay bxup rfl) _ _ _ _) (ok_cons (Con.Good.env (Con.Good.up (Con.Good.up (Con.Good.up ybg_rtime bzup rfl) byup rfl) bxup rfl) _ _ _ _) (ok_cons (Con.Good.env (Con.Good.up (Con.Good.up (Con.Good.up (Con.Good.up yag_rscale ybup rfl) bzup rfl) byup rfl) bxup rfl) _ _ _ _) (ok_cons (Con.Good.env (Con.Good.up (Con.Good.up (Con.Good.up (Con.Good.up yag_rsum ybup rfl) bzup rfl) byup rfl) bxup rfl) _ _ _ _) (ok_cons (Con.Good.env (Con.Good.up (Con.Good.up (Con.Good.up (Con.Good.up yag_rbound ybup rfl) bzup rfl) byup rfl) bxup rfl) _ _ _ _) (ok_cons (Con.Good.env bxg_bint _ _ _ _) (ok_cons (Con.Good.env bxg_bmulN _ _ _ _) (ok_cons (Con.Good.env bxg_bpow _ _ _ _) (ok_cons (Con.Good.env bxg_bdivN _ _ _ _) (ok_cons (Con.Good.env bxg_bnumN _ _ _ _) (ok_cons (Con.Good.env bxg_bzero _ _ _ _) ok_nil)))))))))))) rbofV_h
def rbofX_tree : Tree :=
 (.need (.b2 .and xrbxbndk3_ xrbxbndk30_)
 (.br xrbxbndk18_
 (.ret (.tup (.cons xrbxbndk7_ (.cons (.int .i64 (.lit (1))) .nil))))
 (.br (.b2 .lt (.var 18) (.lit (0)))
 (.ret (.tup (.cons xrbxbndk7_ (.cons (.int .i64 (.lit (1))) .nil))))
 (.need (.b2 .and xrbxbndk2_ xrbxbndk27_)
 (.br (.not (.b2 .eq xrbxbndk8_ (.lit (0))))
 (.ret (.tup (.cons xrbxbndk7_ (.cons (.int .i64 xrbxbndk8_) .nil))))
 (.need xrbxbndk35_
 (.need xrbxbndk32_
 (.need xrbxbndk29_
 (.need xrbxbndk33_
 (.need (.b2 .and xrbxbndk29_ xrbxbndk33_)
 (.need (.b2 .and (.b2 .le (.lit (0)) (.i2 .mul (.var 8) xrbxbndk1_)) (.b2 .le (.i2 .mul (.var 8) xrbxbndk1_) (.lit (170141183460469231731687303715884105728))))
 (.need xrbxbndk28_
 (.need (.b2 .and (.b2 .le (.lit (0)) xrbxbndk21_) (.b2 .le xrbxbndk21_ (.lit (1606938044258990275541962092341162602522202993782792835301376))))
 (.br (.not (.b2 .eq xrbxbndk21_ (.lit (0))))
 (.loop ⟨2, 0, 0, 0⟩ xrbxbndk17_ xrbxbndk12_
 (.br (.b2 .lt (.var 20) (.var 7))
 (.back xrbxbndk11_ (.i2 .sub (.var 7) (.wrap .i64 (.i2 .add (.var 20) (.lit (1))))) (.i2 .sub (.var 7) (.var 20)))
 (.br (.b2 .eq (.var 11) (.lit (0)))
 (.ret xrbxbndk23_)
 (.ret xrbxbndk24_))))
 (.loop ⟨2, 0, 0, 0⟩ xrbxbndk17_ xrbxbndk12_
 (.br (.b2 .lt (.var 20) (.var 7))
 (.back xrbxbndk11_ (.i2 .sub (.var 7) (.wrap .i64 (.i2 .add (.var 20) (.lit (1))))) (.i2 .sub (.var 7) (.var 20)))
 (.br (.b2 .eq (.var 11) (.lit (0)))
 (.ret xrbxbndk25_)
 (.ret xrbxbndk26_))))))))))))))))))
abbrev bxc_rbofX : Con := ⟨27, [xrbxbndk9_, (.int .i64 (.var 10)), xrbxbndk10_, (.int .i64 (.var 18))], (.b2 .and (.b2 .and xrbxbndk14_ xrbxbndk30_) (.not (.b2 .eq xrbxbndk0_ (.lit (0))))), (.tup (.cons xrbxbndk5_ (.cons (.int .i64 xrbxbndk0_) .nil))), ⟨19, 1, 1, 1⟩, none⟩
theorem rbofX_w : walk Tryz.prog 111 ⟨[byc_pomay, ybc_rtime, yac_rscale, yac_rsum, yac_rbound, bxc_bint, bxc_bmulN, bxc_bpow, bxc_bdivN, bxc_bnumN, bxc_bzero], syG, [], [], []⟩ [⟨0, ⟨2, 0, 0, 0⟩, [(13, (.int .i64 (.var 19))), (23, (.int .i64 (.var 20)))], none, xrbxbndk12_, (.i2 .sub (.var 7) (.var 20)), 0, []⟩] .v bxc_rbofX bxc_rbofX.n 3000 = some rbofX_tree := by kernel_rfl
set_option maxHeartbeats 8000000 in
theorem rbofX_h (pe pb pt pr gm gs qm qs pp pc kc sk sb sa qu fw fc f rz : Int) (j : Bool) (l : Value) (s : ByteArray) : Hyp_ bxc_rbofX rbofX_tree (bxE [pe, pb, pt, pr, gm, gs, qm, qs, pp, pc, kc, sk, sb, sa, qu, fw, fc, f, rz] [j] [l] [s]) := by
 intro hc hty
 simp only [bxc_rbofX, Sy.holds, bxE, denV, denI, denB, denL, I2.den, VOp.den, List.getD_cons_zero, List.getD_cons_succ, Cst.den, syso, syse, syio, sybo, bxi_tme, bxi_poe, bxi_boe, bxb_shr, B2.ofInts, B2.denI, B2.denB, if_true, Bool.false_eq_true, if_false, Nat.div_one, Nat.mul_one, Nat.add_zero] at hc
 simp only [bxc_rbofX, patsTyp, patTyp, patTypL, bxE, denV, denL, List.getD_cons_zero, List.getD_cons_succ, and_true, true_and] at hty
 have hL_l : typ (.sl (.cons (.int .i64) (.cons (.int .i64) (.cons .str .nil)))) l := by first | exact hty | exact hty.1 | exact hty.2 | exact hty.1.1 | exact hty.1.2 | exact hty.2.1 | exact hty.2.2 | exact hty.2.2.1 | exact hty.2.2.2
 have hN_l := typ_len (n := 3) hL_l rfl (by omega)
 unfold rbofX_tree
 simp only [bxc_rbofX, Tree.holds, Sy.holds, AllN, Env.more, bxE, List.cons_append, List.nil_append, List.append_nil, denV, denI, denB, denL, I2.den, VOp.den, List.getD_cons_zero, List.getD_cons_succ, Cst.den, syso, syse, syio, sybo, bxi_sa, bxi_nv, bxi_so, bxi_bd, bxi_msn, bxi_up, bxi_hv, bxi_q, bxi_tme, bxi_poe, bxi_r6, bxi_gdw, bxi_dv, bxi_md, bxi_boe, bxi_lp, bxb_fm, bxb_shr, List.map_nil, List.map_cons, B2.ofInts, B2.denI, B2.denB, if_true, Bool.false_eq_true, if_false, Nat.div_one, Nat.mul_one, Nat.add_zero]
 have hq := pg_bd pe pb pt pr gm gs qm qs pp pc
 have hO := bo_spec (poE sk sb sa qu fw fc s f (Sy.rows l)) rz (tmE pe pb pt pr gm gs qm qs pp pc kc)
 obtain ⟨E, hE⟩ : ∃ x, boE (poE sk sb sa qu fw fc s f (Sy.rows l)) rz (tmE pe pb pt pr gm gs qm qs pp pc kc) = x := ⟨_, rfl⟩
 simp only [hE] at hO ⊢
 have hv := hv_or (kc - pb) qs
 have hh := po_spec sk sb sa qu fw fc s f (Sy.rows l)
 have hEn : ¬ E = 0 := (by simp only [hE] at hc; exact hc.2)
 refine ⟨?_, fun h0 => ?_⟩
 refine ?a0; rotate_left
 refine ⟨fun h1 => ?_, fun h1 => ?_⟩
 refine ?a1; rotate_left
 refine ⟨fun h2 => ?_, fun h2 => ?_⟩
 refine ?a2; rotate_left
 refine ⟨?_, fun h3 => ?_⟩
 refine ?a3; rotate_left
 refine ⟨fun h4 => ?_, fun h4 => ?_⟩
 refine ?a4; rotate_left
 refine ⟨?_, fun h5 => ?_⟩
 refine ?a5; rotate_left
 refine ⟨?_, fun h6 => ?_⟩
 refine ?a6; rotate_left
 refine ⟨?_, fun h7 => ?_⟩
 refine ?a7; rotate_left
 refine ⟨?_, fun h8 => ?_⟩
 refine ?a8; rotate_left
 refine ⟨?_, fun h9 => ?_⟩
 refine ?a9; rotate_left
 refine ⟨?_, fun h10 => ?_⟩
 refine ?a10; rotate_left
 refine ⟨?_, fun h11 => ?_⟩
 refine ?a11; rotate_left
 refine ⟨?_, fun h12 => ?_⟩
 refine ?a12; rotate_left
 refine ⟨fun h13 => ?_, fun h13 => ?_⟩
 refine ⟨?_, ?_⟩
 refine ?a13; rotate_left
 intro i0a i0b hi0
 refine ⟨fun h14 => ?_, fun h14 => ?_⟩
 refine ⟨?_, ?_⟩
 refine ?a14; rotate_left
 refine ?a15; rotate_left
 refine ⟨fun h15 => ?_, fun h15 => ?_⟩
 refine ?a16; rotate_left
 refine ?a17; rotate_left
 refine ⟨?_, ?_⟩
 refine ?a18; rotate_left
 intro i1a i1b hi1
 refine ⟨fun h16 => ?_, fun h16 => ?_⟩
 refine ⟨?_, ?_⟩
 refine ?a19; rotate_left
 refine ?a20; rotate_left
 refine ⟨fun h17 => ?_, fun h17 => ?_⟩
 refine ?a21; rotate_left
 refine ?a22; rotate_left
 case a0 | a3 | a5 | a6 | a7 | a8 | a9 | a10 | a11 | a12 =>
  first
  | exact True.intro
  | (exfalso; omega)
  | omega
  | exact hc.1.1.2.2.1
  | exact ⟨hc.1.1.2.2.1, hc.1.2.1, hc.1.2.2⟩
  | skip
 case a1 | a2 | a4 | a16 | a17 | a21 | a22 =>
  first
  | (exfalso; omega)
  | (have q : E = 1 := by omega
     simp only [gw_n (show ¬ E = 0 by omega)]; simp only [q]
     first | done | rfl)
  | (have q : E = tmE pe pb pt pr gm gs qm qs pp pc kc := by omega
     simp only [gw_n (show ¬ E = 0 by omega)]; simp only [q]
     first | done | rfl)
  | (have q : E = 0 := by omega
     have qp : poP sk sb sa qu fw fc s f (Sy.rows l) := by (rcases hh with ⟨a, b⟩ | ⟨a, b⟩; exact a; omega)
     obtain ⟨b1, b2, b3, b4, b5, b6, b7, b8⟩ := id qp
     have wq : IntKind.wrap .i64 (qu - 1) = qu - 1 := by have := wr_i64 (qu - 1); omega
     simp only [gw_y q, wq]
     try simp only [q]
     first
     | (rw [show lpI sk = 1000000000 from if_pos (by assumption)]; skip; first | done | rfl)
     | (rw [show lpI sk = 0 from if_neg (by assumption)]; skip; first | done | rfl))
  | skip
 case a13 | a14 | a15 | a18 | a19 | a20 =>
  first
  | exact True.intro
  | (exfalso; omega)
  | skip
theorem bxg_rbofX : bxc_rbofX.Good Tryz.prog syG (bxE [] [] [] []) := good_of_walk (Γ := ⟨[byc_pomay, ybc_rtime, yac_rscale, yac_rsum, yac_rbound, bxc_bint, bxc_bmulN, bxc_bpow, bxc_bdivN, bxc_bnumN, bxc_bzero], syG, [], [], []⟩) (ρ := bxE [] [] [] []) sym rbofX_w rfl (fun _ _ _ _ => (ok_cons (Con.Good.env (Con.Good.up byg_pomay bxup rfl) _ _ _ _) (ok_cons (Con.Good.env (Con.Good.up (Con.Good.up (Con.Good.up ybg_rtime bzup rfl) byup rfl) bxup rfl) _ _ _ _) (ok_cons (Con.Good.env (Con.Good.up (Con.Good.up (Con.Good.up (Con.Good.up yag_rscale ybup rfl) bzup rfl) byup rfl) bxup rfl) _ _ _ _) (ok_cons (Con.Good.env (Con.Good.up (Con.Good.up (Con.Good.up (Con.Good.up yag_rsum ybup rfl) bzup rfl) byup rfl) bxup rfl) _ _ _ _) (ok_cons (Con.Good.env (Con.Good.up (Con.Good.up (Con.Good.up (Con.Good.up yag_rbound ybup rfl) bzup rfl) byup rfl) bxup rfl) _ _ _ _) (ok_cons (Con.Good.env bxg_bint _ _ _ _) (ok_cons (Con.Good.env bxg_bmulN _ _ _ _) (ok_cons (Con.Good.env bxg_bpow _ _ _ _) (ok_cons (Con.Good.env bxg_bdivN _ _ _ _) (ok_cons (Con.Good.env bxg_bnumN _ _ _ _) (ok_cons (Con.Good.env bxg_bzero _ _ _ _) ok_nil)))))))))))) rbofX_h
abbrev bxc_rbof : Con := ⟨27, [xrbxbndk9_, (.int .i64 (.var 10)), xrbxbndk10_, (.int .i64 (.var 18))], (.b2 .and xrbxbndk14_ xrbxbndk30_), (.tup (.cons xrbxbndk5_ (.cons (.int .i64 xrbxbndk0_) .nil))), ⟨19, 1, 1, 1⟩, none⟩
theorem bxg_rbof : bxc_rbof.Good Tryz.prog syG (bxE [] [] [] []) := by
 exact good_split (.b2 .eq (.iapp 38 (.cons (.int .i64 (.iapp 31 (.cons (.int .i64 (.var 11)) (.cons (.int .i64 (.var 12)) (.cons (.int .i64 (.var 13)) (.cons (.int .i64 (.var 14)) (.cons (.int .i64 (.var 15)) (.cons (.int .i64 (.var 16)) (.cons (.str 0) (.cons (.int .i64 (.var 17)) (.cons (.opq 0) .nil))))))))))) (.cons (.int .i64 (.var 18)) (.cons (.int .i64 (.iapp 20 (.cons (.int .i64 (.var 0)) (.cons (.int .i64 (.var 1)) (.cons (.int .i64 (.var 2)) (.cons (.int .i64 (.var 3)) (.cons (.int .u32 (.var 4)) (.cons (.int .i64 (.var 5)) (.cons (.int .u32 (.var 6)) (.cons (.int .i64 (.var 7)) (.cons (.int .i64 (.var 8)) (.cons (.int .i64 (.var 9)) (.cons (.int .i64 (.var 10)) .nil))))))))))))) .nil)))) (.lit (0))) bxg_rbofV bxg_rbofX
end Go.Proofs.YtgondiedehjkhaaGreatDoor
