/-
 Layer 30 by the second engine: BoundTells.
-/
import Derived.Test.YtgondiedehjkhaaGreatDoorSycbnd
import Derived.Test.YtgondiedehjkhaaGreatDoorBwbnd
import Derived.Test.YtgondiedehjkhaaGreatDoorE00bnd
import Derived.Test.YtgondiedehjkhaaGreatDoorNumbnd
namespace Go.Proofs.YtgondiedehjkhaaGreatDoor
open Go.RowKit Go.Extern.Stop Go.Stop Go.Extern Go.Proofs.YtgondiedehjkhaaGreatDoor.Sy
set_option linter.unusedVariables false
set_option linter.unusedSimpArgs false
abbrev xrbubndk0_ : Tm := (.iapp 38 (.cons (.int .i64 (.iapp 31 (.cons (.int .i64 (.var 10)) (.cons (.int .i64 (.var 11)) (.cons (.int .i64 (.var 12)) (.cons (.int .i64 (.var 13)) (.cons (.int .i64 (.var 14)) (.cons (.int .i64 (.var 15)) (.cons (.str 0) (.cons (.int .i64 (.var 16)) (.cons (.opq 0) .nil))))))))))) (.cons (.int .i64 (.var 18)) (.cons (.int .i64 (.iapp 20 (.cons (.int .i64 (.var 0)) (.cons (.int .i64 (.var 1)) (.cons (.int .i64 (.var 2)) (.cons (.int .i64 (.var 3)) (.cons (.int .u32 (.var 4)) (.cons (.int .i64 (.var 5)) (.cons (.int .u32 (.var 6)) (.cons (.int .i64 (.var 7)) (.cons (.int .i64 (.var 8)) (.cons (.int .i64 (.var 9)) (.cons (.int .i64 (.var 17)) .nil))))))))))))) .nil))))
abbrev xrbubndk1_ : Tm := (.iapp 38 (.cons (.int .i64 (.iapp 31 (.cons (.int .i64 (.lit (0))) (.cons (.int .i64 (.lit (0))) (.cons (.int .i64 (.lit (0))) (.cons (.int .i64 (.lit (1))) (.cons (.int .i64 (.lit (0))) (.cons (.int .i64 (.lit (1))) (.cons (.cst (.strc [85, 84, 67])) (.cons (.int .i64 (.lit (0))) (.cons (.tup .nil) .nil))))))))))) (.cons (.int .i64 (.lit (0))) (.cons (.int .i64 (.iapp 20 (.cons (.int .i64 (.lit (0))) (.cons (.int .i64 (.lit (0))) (.cons (.int .i64 (.lit (0))) (.cons (.int .i64 (.lit (5))) (.cons (.int .u32 (.lit (2147483648))) (.cons (.int .i64 (.lit (31))) (.cons (.int .u32 (.lit (2147483648))) (.cons (.int .i64 (.lit (31))) (.cons (.int .i64 (.lit (1048576))) (.cons (.int .i64 (.lit (1099511627776))) (.cons (.int .i64 (.lit (0))) .nil))))))))))))) .nil))))
abbrev xrbubndk2_ : Tm := (.b2 .and (.b2 .and (.b2 .le (.lit (-9223372036854775808)) (.var 0)) (.b2 .le (.var 0) (.lit (9223372036854775807)))) (.b2 .and (.b2 .and (.b2 .le (.lit (-9223372036854775808)) (.var 1)) (.b2 .le (.var 1) (.lit (9223372036854775807)))) (.b2 .and (.b2 .and (.b2 .le (.lit (-9223372036854775808)) (.var 2)) (.b2 .le (.var 2) (.lit (9223372036854775807)))) (.b2 .and (.b2 .and (.b2 .le (.lit (-9223372036854775808)) (.var 3)) (.b2 .le (.var 3) (.lit (9223372036854775807)))) (.b2 .and (.b2 .and (.b2 .le (.lit (0)) (.var 4)) (.b2 .le (.var 4) (.lit (4294967295)))) (.b2 .and (.b2 .and (.b2 .le (.lit (-9223372036854775808)) (.var 5)) (.b2 .le (.var 5) (.lit (9223372036854775807)))) (.b2 .and (.b2 .and (.b2 .le (.lit (0)) (.var 6)) (.b2 .le (.var 6) (.lit (4294967295)))) (.b2 .and (.b2 .and (.b2 .le (.lit (-9223372036854775808)) (.var 7)) (.b2 .le (.var 7) (.lit (9223372036854775807)))) (.b2 .and (.b2 .and (.b2 .le (.lit (-9223372036854775808)) (.var 8)) (.b2 .le (.var 8) (.lit (9223372036854775807)))) (.b2 .and (.b2 .le (.lit (-9223372036854775808)) (.var 9)) (.b2 .le (.var 9) (.lit (9223372036854775807)))))))))))))
abbrev xrbubndk22_ : Tm := (.iapp 35 (.cons (.int .i64 xrbubndk0_) (.cons (.int .i64 (.iapp 10 (.cons (.int .i64 (.iapp 1 (.cons (.int .i64 (.i2 .add (.iapp 12 (.cons (.int .u32 (.var 6)) (.cons (.int .i64 (.var 7)) (.cons (.int .i64 (.i2 .sub (.var 17) (.var 1))) .nil)))) (.lit (1)))) .nil))) (.cons (.int .i64 (.var 8)) .nil)))) .nil)))
abbrev xrbubndk3_ : Tm := (.b2 .and (.b2 .and (.b2 .le (.lit (-9223372036854775808)) (.iapp 35 (.cons (.int .i64 xrbubndk0_) (.cons (.int .i64 (.var 3)) .nil)))) (.b2 .le (.iapp 35 (.cons (.int .i64 xrbubndk0_) (.cons (.int .i64 (.var 3)) .nil))) (.lit (9223372036854775807)))) (.b2 .and (.b2 .and (.b2 .le (.lit (-9223372036854775808)) xrbubndk22_) (.b2 .le xrbubndk22_ (.lit (9223372036854775807)))) (.b2 .and (.b2 .and (.b2 .le (.lit (-9223372036854775808)) (.iapp 35 (.cons (.int .i64 xrbubndk0_) (.cons (.int .i64 (.i2 .add (.iapp 11 (.cons (.int .i64 (.i2 .sub (.var 17) (.var 1))) (.cons (.int .i64 (.var 7)) .nil))) (.lit (4)))) .nil)))) (.b2 .le (.iapp 35 (.cons (.int .i64 xrbubndk0_) (.cons (.int .i64 (.i2 .add (.iapp 11 (.cons (.int .i64 (.i2 .sub (.var 17) (.var 1))) (.cons (.int .i64 (.var 7)) .nil))) (.lit (4)))) .nil))) (.lit (9223372036854775807)))) (.b2 .and (.b2 .and (.b2 .le (.lit (-9223372036854775808)) (.iapp 35 (.cons (.int .i64 xrbubndk0_) (.cons (.int .i64 (.var 14)) .nil)))) (.b2 .le (.iapp 35 (.cons (.int .i64 xrbubndk0_) (.cons (.int .i64 (.var 14)) .nil))) (.lit (9223372036854775807)))) (.b2 .and (.b2 .and (.b2 .le (.lit (-9223372036854775808)) (.iapp 35 (.cons (.int .i64 xrbubndk0_) (.cons (.int .i64 (.i2 .sub (.var 13) (.lit (1)))) .nil)))) (.b2 .le (.iapp 35 (.cons (.int .i64 xrbubndk0_) (.cons (.int .i64 (.i2 .sub (.var 13) (.lit (1)))) .nil))) (.lit (9223372036854775807)))) (.b2 .and (.b2 .and (.b2 .le (.lit (-9223372036854775808)) (.iapp 35 (.cons (.int .i64 xrbubndk0_) (.cons (.int .i64 (.iapp 39 (.cons (.int .i64 (.var 10)) .nil))) .nil)))) (.b2 .le (.iapp 35 (.cons (.int .i64 xrbubndk0_) (.cons (.int .i64 (.iapp 39 (.cons (.int .i64 (.var 10)) .nil))) .nil))) (.lit (9223372036854775807)))) (.b2 .and (.b2 .le (.lit (-9223372036854775808)) (.iapp 35 (.cons (.int .i64 xrbubndk0_) (.cons (.int .i64 (.var 18)) .nil)))) (.b2 .le (.iapp 35 (.cons (.int .i64 xrbubndk0_) (.cons (.int .i64 (.var 18)) .nil))) (.lit (9223372036854775807))))))))))
abbrev xrbubndk4_ : Tm := (.b2 .and (.b2 .and (.b2 .le (.lit (-9223372036854775808)) (.var 10)) (.b2 .le (.var 10) (.lit (9223372036854775807)))) (.b2 .and (.b2 .and (.b2 .le (.lit (-9223372036854775808)) (.var 11)) (.b2 .le (.var 11) (.lit (9223372036854775807)))) (.b2 .and (.b2 .and (.b2 .le (.lit (-9223372036854775808)) (.var 12)) (.b2 .le (.var 12) (.lit (9223372036854775807)))) (.b2 .and (.b2 .and (.b2 .le (.lit (-9223372036854775808)) (.var 13)) (.b2 .le (.var 13) (.lit (9223372036854775807)))) (.b2 .and (.b2 .and (.b2 .le (.lit (-9223372036854775808)) (.var 14)) (.b2 .le (.var 14) (.lit (9223372036854775807)))) (.b2 .and (.b2 .and (.b2 .le (.lit (-9223372036854775808)) (.var 15)) (.b2 .le (.var 15) (.lit (9223372036854775807)))) (.b2 .and (.b2 .le (.lit (-9223372036854775808)) (.var 16)) (.b2 .le (.var 16) (.lit (9223372036854775807))))))))))
abbrev xrbubndk5_ : Tm := (.b2 .eq (.iapp 40 (.cons (.int .i64 (.iapp 35 (.cons (.int .i64 xrbubndk0_) (.cons (.int .i64 (.var 3)) .nil)))) (.cons (.int .i64 xrbubndk22_) (.cons (.int .i64 (.iapp 35 (.cons (.int .i64 xrbubndk0_) (.cons (.int .i64 (.i2 .add (.iapp 11 (.cons (.int .i64 (.i2 .sub (.var 17) (.var 1))) (.cons (.int .i64 (.var 7)) .nil))) (.lit (4)))) .nil)))) (.cons (.int .i64 (.iapp 35 (.cons (.int .i64 xrbubndk0_) (.cons (.int .i64 (.var 14)) .nil)))) (.cons (.int .i64 (.iapp 35 (.cons (.int .i64 xrbubndk0_) (.cons (.int .i64 (.i2 .sub (.var 13) (.lit (1)))) .nil)))) (.cons (.int .i64 (.iapp 35 (.cons (.int .i64 xrbubndk0_) (.cons (.int .i64 (.iapp 39 (.cons (.int .i64 (.var 10)) .nil))) .nil)))) (.cons (.int .i64 (.iapp 35 (.cons (.int .i64 xrbubndk0_) (.cons (.int .i64 (.var 18)) .nil)))) .nil)))))))) (.var 19))
abbrev xrbubndk6_ : Tm := (.iapp 42 (.cons (.int .i64 (.iapp 14 (.cons (.int .i64 (.lit (0))) (.cons (.int .i64 (.lit (0))) (.cons (.int .i64 (.lit (0))) (.cons (.int .i64 (.lit (5))) (.cons (.int .u32 (.lit (2147483648))) (.cons (.int .i64 (.lit (31))) (.cons (.int .u32 (.lit (2147483648))) (.cons (.int .i64 (.lit (31))) (.cons (.int .i64 (.lit (1048576))) (.cons (.int .i64 (.lit (1099511627776))) .nil)))))))))))) (.cons (.int .i64 (.iapp 31 (.cons (.int .i64 (.lit (0))) (.cons (.int .i64 (.lit (0))) (.cons (.int .i64 (.lit (0))) (.cons (.int .i64 (.lit (1))) (.cons (.int .i64 (.lit (0))) (.cons (.int .i64 (.lit (1))) (.cons (.cst (.strc [85, 84, 67])) (.cons (.int .i64 (.lit (0))) (.cons (.tup .nil) .nil))))))))))) (.cons (.int .i64 (.iapp 41 (.cons (.int .i64 (.lit (0))) (.cons (.int .i64 (.lit (0))) (.cons (.int .i64 (.lit (0))) (.cons (.int .i64 (.lit (5))) (.cons (.int .u32 (.lit (2147483648))) (.cons (.int .i64 (.lit (31))) (.cons (.int .u32 (.lit (2147483648))) (.cons (.int .i64 (.lit (31))) (.cons (.int .i64 (.lit (1048576))) (.cons (.int .i64 (.lit (1099511627776))) (.cons (.int .i64 (.lit (0))) (.cons (.int .i64 (.lit (0))) (.cons (.int .i64 (.lit (1))) (.cons (.int .i64 (.lit (1000000020))) .nil)))))))))))))))) .nil))))
abbrev xrbubndk7_ : Tm := (.b2 .eq (.iapp 40 (.cons (.int .i64 (.iapp 35 (.cons (.int .i64 xrbubndk0_) (.cons (.int .i64 (.var 3)) .nil)))) (.cons (.int .i64 xrbubndk22_) (.cons (.int .i64 (.iapp 35 (.cons (.int .i64 xrbubndk0_) (.cons (.int .i64 (.i2 .add (.iapp 11 (.cons (.int .i64 (.i2 .sub (.var 17) (.var 1))) (.cons (.int .i64 (.var 7)) .nil))) (.lit (4)))) .nil)))) (.cons (.int .i64 (.lit (0))) (.cons (.int .i64 (.lit (0))) (.cons (.int .i64 (.lit (0))) (.cons (.int .i64 (.lit (0))) .nil)))))))) (.var 18))
abbrev xrbubndk8_ : Tm := (.b2 .and (.b2 .le (.lit (-9223372036854775808)) (.var 18)) (.b2 .le (.var 18) (.lit (9223372036854775807))))
abbrev xrbubndk9_ : Tm := (.iapp 35 (.cons (.int .i64 xrbubndk1_) (.cons (.int .i64 (.iapp 10 (.cons (.int .i64 (.iapp 1 (.cons (.int .i64 (.i2 .add (.iapp 12 (.cons (.int .u32 (.lit (2147483648))) (.cons (.int .i64 (.lit (31))) (.cons (.int .i64 (.lit (0))) .nil)))) (.lit (1)))) .nil))) (.cons (.int .i64 (.lit (1048576))) .nil)))) .nil)))
abbrev xrbubndk10_ : Tm := (.agg (.cons (.int .i64 (.var 10)) (.cons (.int .i64 (.var 11)) (.cons (.int .i64 (.var 12)) (.cons (.int .i64 (.var 13)) (.cons (.int .i64 (.var 14)) (.cons (.int .i64 (.var 15)) (.cons (.bool (.bvar 0)) (.cons (.str 0) (.cons (.int .i64 (.var 16)) (.cons (.hs .no (.cons (.int .i64) (.cons (.int .i64) (.cons .str .nil))) (.opq 0)) .nil)))))))))))
abbrev xrbubndk11_ : Tm := (.b2 .and (.b2 .le (.lit (-9223372036854775808)) (.var 19)) (.b2 .le (.var 19) (.lit (9223372036854775807))))
abbrev xrbubndk12_ : Tm := (.b2 .and (.b2 .le (.lit (-9223372036854775808)) (.var 17)) (.b2 .le (.var 17) (.lit (9223372036854775807))))
abbrev xrbubndk13_ : Tm := (.agg (.cons (.int .i64 (.var 0)) (.cons (.int .i64 (.var 1)) (.cons (.int .i64 (.var 2)) (.cons (.int .i64 (.var 3)) (.cons (.int .u32 (.var 4)) (.cons (.int .i64 (.var 5)) (.cons (.int .u32 (.var 6)) (.cons (.int .i64 (.var 7)) (.cons (.int .i64 (.var 8)) (.cons (.int .i64 (.var 9)) .nil)))))))))))
abbrev xrbubndk14_ : Tm := (.iapp 35 (.cons (.int .i64 xrbubndk1_) (.cons (.int .i64 (.lit (0))) .nil)))
abbrev xrbubndk15_ : Tm := (.iapp 35 (.cons (.int .i64 xrbubndk1_) (.cons (.int .i64 (.i2 .add (.iapp 11 (.cons (.int .i64 (.lit (0))) (.cons (.int .i64 (.lit (31))) .nil))) (.lit (4)))) .nil)))
abbrev xrbubndk16_ : Tm := (.iapp 35 (.cons (.int .i64 xrbubndk6_) (.cons (.int .i64 (.i2 .sub (.iapp 41 (.cons (.int .i64 (.lit (0))) (.cons (.int .i64 (.lit (0))) (.cons (.int .i64 (.lit (0))) (.cons (.int .i64 (.lit (5))) (.cons (.int .u32 (.lit (2147483648))) (.cons (.int .i64 (.lit (31))) (.cons (.int .u32 (.lit (2147483648))) (.cons (.int .i64 (.lit (31))) (.cons (.int .i64 (.lit (1048576))) (.cons (.int .i64 (.lit (1099511627776))) (.cons (.int .i64 (.lit (0))) (.cons (.int .i64 (.lit (0))) (.cons (.int .i64 (.lit (1))) (.cons (.int .i64 (.lit (1000000020))) .nil))))))))))))))) (.lit (1)))) .nil)))
abbrev xrbubndk17_ : Tm := (.iapp 35 (.cons (.int .i64 xrbubndk1_) (.cons (.int .i64 (.iapp 39 (.cons (.int .i64 (.lit (0))) .nil))) .nil)))
abbrev xrbubndk18_ : Tm := (.agg (.cons (.int .i64 (.var 17)) (.cons (.int .i64 (.var 18)) (.cons (.int .i64 (.var 19)) .nil))))
abbrev xrbubndk19_ : Tm := (.b2 .and (.b2 .le (.blen (.str 0)) (.lit (200))) (.bapp 6 (.cons (.opq 0) .nil)))
abbrev xrbubndk20_ : Tm := (.agg (.cons (.int .i64 (.lit (0))) (.cons (.int .i64 (.lit (0))) (.cons (.int .i64 (.lit (0))) (.cons (.int .i64 (.lit (5))) (.cons (.int .u32 (.lit (2147483648))) (.cons (.int .i64 (.lit (31))) (.cons (.int .u32 (.lit (2147483648))) (.cons (.int .i64 (.lit (31))) (.cons (.int .i64 (.lit (1048576))) (.cons (.int .i64 (.lit (1099511627776))) .nil)))))))))))
abbrev xrbubndk21_ : Tm := (.iapp 35 (.cons (.int .i64 xrbubndk1_) (.cons (.int .i64 (.lit (5))) .nil)))
abbrev xrbubndk23_ : Tm := (.b2 .and (.b2 .and xrbubndk2_ (.b2 .and xrbubndk4_ (.b2 .and xrbubndk12_ (.b2 .and xrbubndk8_ xrbubndk11_)))) (.not (.bapp 10 (.cons (.str 0) (.cons (.opq 0) .nil)))))
abbrev xrbubndk24_ : Tm := (.b2 .eq (.iapp 40 (.cons (.int .i64 xrbubndk21_) (.cons (.int .i64 xrbubndk9_) (.cons (.int .i64 xrbubndk15_) (.cons (.int .i64 xrbubndk14_) (.cons (.int .i64 xrbubndk14_) (.cons (.int .i64 xrbubndk17_) (.cons (.int .i64 xrbubndk14_) .nil)))))))) (.lit (1000000010)))
abbrev xrbubndk25_ : Tm := (.b2 .and xrbubndk2_ (.b2 .and xrbubndk12_ (.b2 .and xrbubndk4_ xrbubndk8_)))
abbrev xrbubndk26_ : Tm := (.b2 .and (.b2 .le (.lit (-9223372036854775808)) xrbubndk14_) (.b2 .le xrbubndk14_ (.lit (9223372036854775807))))
theorem big_no {s : ByteArray} {l : List Value} (h : bigB s l = false) : s.size ≤ 200 ∧ l.length / 3 ≤ 60 ∧ shortR l = true := by
 simp only [bigB, Bool.or_eq_false_iff, Bool.not_eq_false', decide_eq_false_iff_not] at h
 obtain ⟨⟨h1, h2⟩, h3⟩ := h
 rw [show min (l.length / 3) 60 = l.length / 3 by omega] at h1
 exact ⟨by omega, by omega, h1⟩
theorem q_po : poE 0 0 0 1 0 1 ({ data := #[UInt8.ofNat 85, UInt8.ofNat 84, UInt8.ofNat 67] } : ByteArray) 0 [] = 0 := by decide
theorem q_tm : tmE 0 0 0 5 2147483648 31 2147483648 31 1048576 1099511627776 0 = 0 := by decide
theorem q_pg : pgE 0 0 0 5 2147483648 31 2147483648 31 1048576 1099511627776 = 0 := by decide
theorem q_q : qE 2147483648 31 0 = 0 := by decide
theorem q_up : upK (1 * 1048576) = 1 := by decide
theorem q_s7 : smI 5 1 4 0 0 1000000000 0 = 1000000010 := by decide
theorem q_s3 : smI 5 1 4 0 0 0 0 = 10 := by decide
theorem q_f : fmP 2147483648 31 := by decide
theorem q_a1 : agI 0 0 0 5 2147483648 31 2147483648 31 1048576 1099511627776 0 0 1 1000000020 = 11264 := ag_eq q_f q_f (by decide) ⟨by decide, by decide, .inr (by decide), .inr (by decide)⟩
theorem q_a2 : agI 0 0 0 5 2147483648 31 2147483648 31 1048576 1099511627776 0 0 1 3 = 0 := ag_eq q_f q_f (by decide) ⟨by decide, by decide, .inl rfl, .inr (by decide)⟩
theorem q_bo : boE 0 0 0 = 0 := by decide
theorem q_ae1 : aeE 0 0 11264 = 0 := by decide
theorem q_ae2 : aeE 0 0 0 = 13 := by decide
theorem q_sa : satE (0 + 1) = 1 := by decide
theorem q_lp : lpI 0 = 1000000000 := by decide
noncomputable def buI : Nat → List Value → Int
 | i, l => bwI i l
noncomputable def buB : Nat → List Value → Bool
 | i, l => bwB i l
noncomputable def buV : Nat → List Value → Value
 | i, l => bwV i l
noncomputable abbrev buE (iv : List Int) (bv : List Bool) (vv : List Value) (sv : List ByteArray) : Env := { iv := iv, bv := bv, vv := vv, sv := sv, fi := buI, fb := buB, fv := buV, et := 111 }
set_option maxHeartbeats 8000000 in
theorem buup : Agree 43 16 0 (bwE [] [] [] []) (buE [] [] [] []) := ⟨rfl, (by
   intro f hf
   funext l
   show buI f l = bwI f l
   unfold buI
   split <;> first | rfl | omega), (by
   intro f hf
   funext l
   show buB f l = bwB f l
   unfold buB
   split <;> first | rfl | omega), (by
   intro f hf
   funext l
   show buV f l = bwV f l
   unfold buV
   split <;> first | rfl | omega)⟩
theorem bui_sa (k1 : IntKind) (a : Int) : buI 1 [.int k1 a] = satE a := rfl
theorem bui_up (k1 : IntKind) (g : Int) (k2 : IntKind) (r : Int) : buI 10 [.int k1 g, .int k2 r] = upK (g * r) := rfl
theorem bui_hv (k1 : IntKind) (n : Int) (k2 : IntKind) (s : Int) : buI 11 [.int k1 n, .int k2 s] = n / 2 ^ s.toNat := rfl
theorem bui_q (k1 : IntKind) (a : Int) (k2 : IntKind) (s : Int) (k3 : IntKind) (g : Int) : buI 12 [.int k1 a, .int k2 s, .int k3 g] = qE a s g := rfl
theorem bui_pge (k1 : IntKind) (e : Int) (k2 : IntKind) (b : Int) (k3 : IntKind) (t : Int) (k4 : IntKind) (r : Int) (k5 : IntKind) (gm : Int) (k6 : IntKind) (gs : Int) (k7 : IntKind) (pm : Int) (k8 : IntKind) (ps : Int) (k9 : IntKind) (p : Int) (k10 : IntKind) (c : Int) : buI 14 [.int k1 e, .int k2 b, .int k3 t, .int k4 r, .int k5 gm, .int k6 gs, .int k7 pm, .int k8 ps, .int k9 p, .int k10 c] = pgE e b t r gm gs pm ps p c := rfl
theorem bui_tme (k1 : IntKind) (e : Int) (k2 : IntKind) (b : Int) (k3 : IntKind) (t : Int) (k4 : IntKind) (r : Int) (k5 : IntKind) (gm : Int) (k6 : IntKind) (gs : Int) (k7 : IntKind) (pm : Int) (k8 : IntKind) (ps : Int) (k9 : IntKind) (p : Int) (k10 : IntKind) (c : Int) (k11 : IntKind) (k : Int) : buI 20 [.int k1 e, .int k2 b, .int k3 t, .int k4 r, .int k5 gm, .int k6 gs, .int k7 pm, .int k8 ps, .int k9 p, .int k10 c, .int k11 k] = tmE e b t r gm gs pm ps p c k := rfl
theorem bui_poe (k1 : IntKind) (k : Int) (k2 : IntKind) (b : Int) (k3 : IntKind) (a : Int) (k4 : IntKind) (q : Int) (k5 : IntKind) (w : Int) (k6 : IntKind) (c : Int) (s : ByteArray) (k7 : IntKind) (f : Int) (l : Value) : buI 31 [.int k1 k, .int k2 b, .int k3 a, .int k4 q, .int k5 w, .int k6 c, .string s, .int k7 f, l] = poE k b a q w c s f (rows l) := rfl
theorem bui_gdw (k1 : IntKind) (e : Int) (k2 : IntKind) (x : Int) : buI 35 [.int k1 e, .int k2 x] = gdF e x := rfl
theorem bui_boe (k1 : IntKind) (p : Int) (k2 : IntKind) (r : Int) (k3 : IntKind) (t : Int) : buI 38 [.int k1 p, .int k2 r, .int k3 t] = boE p r t := rfl
theorem bui_lp (k1 : IntKind) (k : Int) : buI 39 [.int k1 k] = lpI k := rfl
theorem bui_sm (k1 : IntKind) (a : Int) (k2 : IntKind) (b : Int) (k3 : IntKind) (c : Int) (k4 : IntKind) (d : Int) (k5 : IntKind) (e : Int) (k6 : IntKind) (f : Int) (k7 : IntKind) (g : Int) : buI 40 [.int k1 a, .int k2 b, .int k3 c, .int k4 d, .int k5 e, .int k6 f, .int k7 g] = smI a b c d e f g := rfl
theorem bui_ag (k1 : IntKind) (e : Int) (k2 : IntKind) (b : Int) (k3 : IntKind) (t : Int) (k4 : IntKind) (r : Int) (k5 : IntKind) (gm : Int) (k6 : IntKind) (gs : Int) (k7 : IntKind) (pm : Int) (k8 : IntKind) (ps : Int) (k9 : IntKind) (p : Int) (k10 : IntKind) (c : Int) (k11 : IntKind) (sk : Int) (k12 : IntKind) (fw : Int) (k13 : IntKind) (qu : Int) (k14 : IntKind) (lim : Int) : buI 41 [.int k1 e, .int k2 b, .int k3 t, .int k4 r, .int k5 gm, .int k6 gs, .int k7 pm, .int k8 ps, .int k9 p, .int k10 c, .int k11 sk, .int k12 fw, .int k13 qu, .int k14 lim] = agI e b t r gm gs pm ps p c sk fw qu lim := rfl
theorem bui_ae (k1 : IntKind) (g : Int) (k2 : IntKind) (o : Int) (k3 : IntKind) (x : Int) : buI 42 [.int k1 g, .int k2 o, .int k3 x] = aeE g o x := rfl
theorem bub_shr (l : Value) : buB 6 [l] = shortR (rows l) := rfl
theorem bub_big (s : ByteArray) (l : Value) : buB 10 [.string s, l] = bigB s (rows l) := rfl
def some_tree : Tree :=
 (.ret xrbubndk20_)
abbrev buc_some : Con := ⟨57, [], (.tt true), xrbubndk20_, ⟨0, 0, 0, 0⟩, none⟩
theorem some_w : walk Tryz.prog 111 ⟨[], syG, [], [], []⟩ [] .v buc_some buc_some.n 3000 = some some_tree := by kernel_rfl
theorem some_h : Hyp_ buc_some some_tree (buE [] [] [] []) := by
 intro hc hty
 simp only [buc_some, Sy.holds, buE, denV, denI, denB, denL, I2.den, VOp.den, List.getD_cons_zero, List.getD_cons_succ, Cst.den, syso, syse, syio, sybo, B2.ofInts, B2.denI, B2.denB, if_true, Bool.false_eq_true, if_false, Nat.div_one, Nat.mul_one, Nat.add_zero] at hc
 simp only [buc_some, patsTyp, patTyp, patTypL, buE, denV, denL, List.getD_cons_zero, List.getD_cons_succ, and_true, true_and] at hty
 unfold some_tree
 simp only [buc_some, Tree.holds, Sy.holds, buE, denV, denI, denB, denL, I2.den, VOp.den, List.getD_cons_zero, List.getD_cons_succ, Cst.den, syso, syse, syio, sybo, B2.ofInts, B2.denI, B2.denB, if_true, Bool.false_eq_true, if_false, Nat.div_one, Nat.mul_one, Nat.add_zero]
 all_goals first | omega | rfl | (simp only [Value.tuple.injEq, Value.agg.injEq, Value.int.injEq, Value.bool.injEq, Array.mk.injEq, List.cons.injEq, true_and, and_true]; omega) | (refine congrArg Value.bool (Bool.eq_iff_iff.2 ?_); simp only [beq_iff_eq, decide_eq_true_eq, true_iff, false_iff, Bool.false_eq_true, Bool.not_eq_true', Bool.and_eq_true, Bool.or_eq_true, decide_eq_false_iff_not]; omega)
theorem bug_some : buc_some.Good Tryz.prog syG (buE [] [] [] []) := good_of_walk (Γ := ⟨[], syG, [], [], []⟩) (ρ := buE [] [] [] []) sym some_w rfl (fun _ _ _ _ => ok_nil) some_h
def sure30_tree : Tree :=
 (.br (.b2 .eq xrbubndk1_ (.lit (0)))
 (.br (.b2 .eq xrbubndk6_ (.lit (0)))
 (.br (.b2 .and (.b2 .eq xrbubndk21_ (.lit (5))) (.b2 .and (.b2 .eq xrbubndk9_ (.lit (1))) (.b2 .and (.b2 .eq xrbubndk15_ (.lit (4))) (.b2 .and (.b2 .eq xrbubndk14_ (.lit (0))) (.b2 .and (.b2 .eq xrbubndk14_ (.lit (0))) (.b2 .and (.b2 .eq xrbubndk17_ (.lit (1000000000))) (.b2 .eq xrbubndk14_ (.lit (0)))))))))
 (.need (.b2 .and (.b2 .and (.b2 .le (.lit (-9223372036854775808)) xrbubndk21_) (.b2 .le xrbubndk21_ (.lit (9223372036854775807)))) (.b2 .and (.b2 .and (.b2 .le (.lit (-9223372036854775808)) xrbubndk9_) (.b2 .le xrbubndk9_ (.lit (9223372036854775807)))) (.b2 .and (.b2 .and (.b2 .le (.lit (-9223372036854775808)) xrbubndk15_) (.b2 .le xrbubndk15_ (.lit (9223372036854775807)))) (.b2 .and xrbubndk26_ (.b2 .and xrbubndk26_ (.b2 .and (.b2 .and (.b2 .le (.lit (-9223372036854775808)) xrbubndk17_) (.b2 .le xrbubndk17_ (.lit (9223372036854775807)))) xrbubndk26_))))))
 (.br xrbubndk24_
 (.br (.b2 .lt (.lit (1000)) xrbubndk16_)
 (.br (.b2 .lt xrbubndk16_ (.lit (20000)))
 (.br (.b2 .eq (.iapp 42 (.cons (.int .i64 (.iapp 14 (.cons (.int .i64 (.lit (0))) (.cons (.int .i64 (.lit (0))) (.cons (.int .i64 (.lit (0))) (.cons (.int .i64 (.lit (5))) (.cons (.int .u32 (.lit (2147483648))) (.cons (.int .i64 (.lit (31))) (.cons (.int .u32 (.lit (2147483648))) (.cons (.int .i64 (.lit (31))) (.cons (.int .i64 (.lit (1048576))) (.cons (.int .i64 (.lit (1099511627776))) .nil)))))))))))) (.cons (.int .i64 (.iapp 31 (.cons (.int .i64 (.lit (0))) (.cons (.int .i64 (.lit (0))) (.cons (.int .i64 (.lit (0))) (.cons (.int .i64 (.lit (1))) (.cons (.int .i64 (.lit (0))) (.cons (.int .i64 (.lit (1))) (.cons (.cst (.strc [85, 84, 67])) (.cons (.int .i64 (.lit (0))) (.cons (.tup .nil) .nil))))))))))) (.cons (.int .i64 (.iapp 41 (.cons (.int .i64 (.lit (0))) (.cons (.int .i64 (.lit (0))) (.cons (.int .i64 (.lit (0))) (.cons (.int .i64 (.lit (5))) (.cons (.int .u32 (.lit (2147483648))) (.cons (.int .i64 (.lit (31))) (.cons (.int .u32 (.lit (2147483648))) (.cons (.int .i64 (.lit (31))) (.cons (.int .i64 (.lit (1048576))) (.cons (.int .i64 (.lit (1099511627776))) (.cons (.int .i64 (.lit (0))) (.cons (.int .i64 (.lit (0))) (.cons (.int .i64 (.lit (1))) (.cons (.int .i64 (.lit (3))) .nil)))))))))))))))) .nil)))) (.lit (13)))
 (.ret (.bool (.b2 .and (.b2 .eq xrbubndk1_ (.lit (0))) (.b2 .and xrbubndk24_ (.b2 .eq (.iapp 40 (.cons (.int .i64 xrbubndk21_) (.cons (.int .i64 xrbubndk9_) (.cons (.int .i64 xrbubndk15_) (.cons (.int .i64 (.lit (0))) (.cons (.int .i64 (.lit (0))) (.cons (.int .i64 (.lit (0))) (.cons (.int .i64 (.lit (0))) .nil)))))))) (.lit (10)))))))
 (.ret (.bool (.tt false))))
 (.ret (.bool (.tt false))))
 (.ret (.bool (.tt false))))
 (.ret (.bool (.tt false)))))
 (.ret (.bool (.tt false))))
 (.ret (.bool (.tt false))))
 (.ret (.bool (.tt false))))
abbrev buc_sure30 : Con := ⟨23, [], (.tt true), (.bool (.tt true)), ⟨0, 0, 0, 0⟩, none⟩
theorem sure30_w : walk Tryz.prog 111 ⟨[buc_some, byc_usual, bxc_bof, bwc_bage, bvc_bsum, bvc_btold, byc_num], syG, [39, 91, 2], [], []⟩ [] .v buc_sure30 buc_sure30.n 3000 = some sure30_tree := by kernel_rfl
theorem sure30_h : Hyp_ buc_sure30 sure30_tree (buE [] [] [] []) := by
 intro hc hty
 simp only [buc_sure30, Sy.holds, buE, denV, denI, denB, denL, I2.den, VOp.den, List.getD_cons_zero, List.getD_cons_succ, Cst.den, syso, syse, syio, sybo, List.map_nil, List.map_cons, B2.ofInts, B2.denI, B2.denB, if_true, Bool.false_eq_true, if_false, Nat.div_one, Nat.mul_one, Nat.add_zero] at hc
 simp only [buc_sure30, patsTyp, patTyp, patTypL, buE, denV, denL, List.getD_cons_zero, List.getD_cons_succ, and_true, true_and] at hty
 unfold sure30_tree
 simp only [buc_sure30, Tree.holds, Sy.holds, buE, denV, denI, denB, denL, I2.den, VOp.den, List.getD_cons_zero, List.getD_cons_succ, Cst.den, syso, syse, syio, sybo, bui_sa, bui_up, bui_hv, bui_q, bui_pge, bui_tme, bui_poe, bui_gdw, bui_boe, bui_lp, bui_sm, bui_ag, bui_ae, List.map_nil, List.map_cons, B2.ofInts, B2.denI, B2.denB, if_true, Bool.false_eq_true, if_false, Nat.div_one, Nat.mul_one, Nat.add_zero]
 have rn : Sy.rows (Value.tuple #[]) = [] := rfl
 have hv : (0 : Int) / 2 ^ Int.toNat 31 + 4 = 4 := by decide
 simp only [rn, hv, q_po, q_tm, q_pg, q_q, q_up, q_s7, q_s3, q_a1, q_a2, q_bo, q_ae1, q_ae2, q_sa, q_lp]
 try simp only [gw_y rfl, gw_n (show ¬ (13 : Int) = 0 by decide)]
 try simp only [hv, q_po, q_tm, q_pg, q_q, q_up, q_s7, q_s3, q_a1, q_a2, q_bo, q_ae1, q_ae2, q_sa, q_lp]
 refine ⟨fun h0 => ?_, fun h0 => ?_⟩
 refine ⟨fun h1 => ?_, fun h1 => ?_⟩
 refine ⟨fun h2 => ?_, fun h2 => ?_⟩
 refine ⟨?_, fun h3 => ?_⟩
 ·
  first
  | exact True.intro
  | omega
  | decide
  | skip
 refine ⟨fun h4 => ?_, fun h4 => ?_⟩
 refine ⟨fun h5 => ?_, fun h5 => ?_⟩
 refine ⟨fun h6 => ?_, fun h6 => ?_⟩
 refine ⟨fun h7 => ?_, fun h7 => ?_⟩
 refine ?a0; rotate_left
 refine ?a1; rotate_left
 refine ?a2; rotate_left
 refine ?a3; rotate_left
 refine ?a4; rotate_left
 refine ?a5; rotate_left
 refine ?a6; rotate_left
 refine ?a7; rotate_left
 case a0 | a1 | a2 | a3 | a4 | a5 | a6 | a7 =>
  first
  | exact True.intro
  | rfl
  | exact absurd True.intro (by assumption)
  | (exfalso; omega)
  | (exfalso; simp only [not_true_eq_false, and_self] at *; done)
  | skip
theorem bug_sure30 : buc_sure30.Good Tryz.prog syG (buE [] [] [] []) := good_of_walk (Γ := ⟨[buc_some, byc_usual, bxc_bof, bwc_bage, bvc_bsum, bvc_btold, byc_num], syG, [39, 91, 2], [], []⟩) (ρ := buE [] [] [] []) sym sure30_w rfl (fun _ _ _ _ => (ok_cons (Con.Good.env bug_some _ _ _ _) (ok_cons (Con.Good.env (Con.Good.up (Con.Good.up (Con.Good.up (Con.Good.up byg_usual bxup rfl) bvup rfl) bwup rfl) buup rfl) _ _ _ _) (ok_cons (Con.Good.env (Con.Good.up (Con.Good.up (Con.Good.up bxg_bof bvup rfl) bwup rfl) buup rfl) _ _ _ _) (ok_cons (Con.Good.env (Con.Good.up bwg_bage buup rfl) _ _ _ _) (ok_cons (Con.Good.env (Con.Good.up (Con.Good.up bvg_bsum bwup rfl) buup rfl) _ _ _ _) (ok_cons (Con.Good.env (Con.Good.up (Con.Good.up bvg_btold bwup rfl) buup rfl) _ _ _ _) (ok_cons (Con.Good.env (Con.Good.up (Con.Good.up (Con.Good.up (Con.Good.up byg_num bxup rfl) bvup rfl) bwup rfl) buup rfl) _ _ _ _) ok_nil)))))))) sure30_h
def wTB_tree : Tree :=
 (.ret (.bool (.tt true)))
abbrev buc_wTB : Con := ⟨5, [xrbubndk13_, xrbubndk10_, xrbubndk18_], (.b2 .and (.b2 .and xrbubndk2_ (.b2 .and xrbubndk4_ (.b2 .and xrbubndk12_ (.b2 .and xrbubndk8_ xrbubndk11_)))) (.bapp 10 (.cons (.str 0) (.cons (.opq 0) .nil)))), (.bool (.tt true)), ⟨20, 1, 1, 1⟩, none⟩
theorem wTB_w : walkQ Tryz.prog 111 ⟨[byc_lbig, byc_givepg, byc_givep, bxc_bof, bxc_rbof, bvc_bsum, bvc_rbsum, bwc_bage, bwc_rage, bvc_btold, byc_pock, byc_pomay, byc_num, buc_sure30], syG, [39, 91, 2], [], []⟩ [] .v buc_wTB buc_wTB.n 3000 (pcOf buc_wTB.cnd) = some wTB_tree := by kernel_rfl
theorem wTB_h (pe pb pt pr gm gs qm qs pp pc sk sb sa qu fw fc f o0 o1 o2 : Int) (j : Bool) (l : Value) (s : ByteArray) : Hyp_ buc_wTB wTB_tree (buE [pe, pb, pt, pr, gm, gs, qm, qs, pp, pc, sk, sb, sa, qu, fw, fc, f, o0, o1, o2] [j] [l] [s]) := by
 intro hc hty
 simp only [buc_wTB, Sy.holds, buE, denV, denI, denB, denL, I2.den, VOp.den, List.getD_cons_zero, List.getD_cons_succ, Cst.den, syso, syse, syio, sybo, bub_big, B2.ofInts, B2.denI, B2.denB, if_true, Bool.false_eq_true, if_false, Nat.div_one, Nat.mul_one, Nat.add_zero] at hc
 simp only [buc_wTB, patsTyp, patTyp, patTypL, buE, denV, denL, List.getD_cons_zero, List.getD_cons_succ, and_true, true_and] at hty
 have hL_l : typ (.sl (.cons (.int .i64) (.cons (.int .i64) (.cons .str .nil)))) l := by first | exact hty | exact hty.1 | exact hty.2 | exact hty.1.1 | exact hty.1.2 | exact hty.2.1 | exact hty.2.2 | exact hty.2.2.1 | exact hty.2.2.2
 have hN_l := typ_len (n := 3) hL_l rfl (by omega)
 unfold wTB_tree
 simp only [buc_wTB, Tree.holds, Sy.holds, buE, denV, denI, denB, denL, I2.den, VOp.den, List.getD_cons_zero, List.getD_cons_succ, Cst.den, syso, syse, syio, sybo, B2.ofInts, B2.denI, B2.denB, if_true, Bool.false_eq_true, if_false, Nat.div_one, Nat.mul_one, Nat.add_zero]
 first
 | exact True.intro
 | rfl
 | exact absurd True.intro (by assumption)
 | (exfalso; omega)
 | (exfalso; simp only [not_true_eq_false, and_self] at *; done)
 | skip
theorem bug_wTB : buc_wTB.Good Tryz.prog syG (buE [] [] [] []) := good_of_walkC (Γ := ⟨[byc_lbig, byc_givepg, byc_givep, bxc_bof, bxc_rbof, bvc_bsum, bvc_rbsum, bwc_bage, bwc_rage, bvc_btold, byc_pock, byc_pomay, byc_num, buc_sure30], syG, [39, 91, 2], [], []⟩) (ρ := buE [] [] [] []) sym wTB_w rfl (fun _ _ _ _ => (ok_cons (Con.Good.env (Con.Good.up (Con.Good.up (Con.Good.up (Con.Good.up byg_lbig bxup rfl) bvup rfl) bwup rfl) buup rfl) _ _ _ _) (ok_cons (Con.Good.env (Con.Good.up (Con.Good.up (Con.Good.up (Con.Good.up byg_givepg bxup rfl) bvup rfl) bwup rfl) buup rfl) _ _ _ _) (ok_cons (Con.Good.env (Con.Good.up (Con.Good.up (Con.Good.up (Con.Good.up byg_givep bxup rfl) bvup rfl) bwup rfl) buup rfl) _ _ _ _) (ok_cons (Con.Good.env (Con.Good.up (Con.Good.up (Con.Good.up bxg_bof bvup rfl) bwup rfl) buup rfl) _ _ _ _) (ok_cons (Con.Good.env (Con.Good.up (Con.Good.up (Con.Good.up bxg_rbof bvup rfl) bwup rfl) buup rfl) _ _ _ _) (ok_cons (Con.Good.env (Con.Good.up (Con.Good.up bvg_bsum bwup rfl) buup rfl) _ _ _ _) (ok_cons (Con.Good.env (Con.Good.up (Con.Good.up bvg_rbsum bwup rfl) buup rfl) _ _ _ _) (ok_cons (Con.Good.env (Con.Good.up bwg_bage buup rfl) _ _ _ _) (ok_cons (Con.Good.env (Con.Good.up bwg_rage buup rfl) _ _ _ _) (ok_cons (Con.Good.env (Con.Good.up (Con.Good.up bvg_btold bwup rfl) buup rfl) _ _ _ _) (ok_cons (Con.Good.env (Con.Good.up (Con.Good.up (Con.Good.up (Con.Good.up byg_pock bxup rfl) bvup rfl) bwup rfl) buup rfl) _ _ _ _) (ok_cons (Con.Good.env (Con.Good.up (Con.Good.up (Con.Good.up (Con.Good.up byg_pomay bxup rfl) bvup rfl) bwup rfl) buup rfl) _ _ _ _) (ok_cons (Con.Good.env (Con.Good.up (Con.Good.up (Con.Good.up (Con.Good.up byg_num bxup rfl) bvup rfl) bwup rfl) buup rfl) _ _ _ _) (ok_cons (Con.Good.env bug_sure30 _ _ _ _) ok_nil))))))))))))))) wTB_h
def wTX_tree : Tree :=
 (.need (.b2 .le (.ofI (.vop (.len 3) (.cons (.opq 0) .nil))) (.lit (4398046511103)))
 (.need xrbubndk25_
 (.need (.b2 .and xrbubndk25_ xrbubndk19_)
 (.need (.b2 .and xrbubndk2_ (.b2 .and xrbubndk4_ xrbubndk11_))
 (.need (.b2 .and (.b2 .and xrbubndk2_ (.b2 .and xrbubndk4_ xrbubndk11_)) xrbubndk19_)
 (.need xrbubndk3_
 (.need xrbubndk3_
 (.need (.b2 .and xrbubndk2_ (.b2 .and xrbubndk12_ (.b2 .and xrbubndk4_ (.b2 .and xrbubndk11_ (.b2 .and xrbubndk8_ xrbubndk8_)))))
 (.br (.not (.b2 .and (.b2 .eq xrbubndk0_ (.lit (0))) (.b2 .and xrbubndk5_ xrbubndk7_)))
 (.ret (.bool (.tt true)))
 (.ret (.bool (.tt false))))))))))))
abbrev buc_wTX : Con := ⟨5, [xrbubndk13_, xrbubndk10_, xrbubndk18_], (.b2 .and xrbubndk23_ (.not (.b2 .eq xrbubndk0_ (.lit (0))))), (.bool (.tt true)), ⟨20, 1, 1, 1⟩, none⟩
theorem wTX_w : walkQ Tryz.prog 111 ⟨[byc_lbig, byc_givepg, byc_givep, bxc_bof, bxc_rbof, bvc_bsum, bvc_rbsum, bwc_bage, bwc_rage, bvc_btold, byc_pock, byc_pomay, byc_num, buc_sure30], syG, [39, 91, 2], [], []⟩ [] .v buc_wTX buc_wTX.n 3000 (pcOf buc_wTX.cnd) = some wTX_tree := by kernel_rfl
set_option maxHeartbeats 4000000 in
theorem wTX_h (pe pb pt pr gm gs qm qs pp pc sk sb sa qu fw fc f o0 o1 o2 : Int) (j : Bool) (l : Value) (s : ByteArray) : Hyp_ buc_wTX wTX_tree (buE [pe, pb, pt, pr, gm, gs, qm, qs, pp, pc, sk, sb, sa, qu, fw, fc, f, o0, o1, o2] [j] [l] [s]) := by
 intro hc hty
 simp only [buc_wTX, Sy.holds, buE, denV, denI, denB, denL, I2.den, VOp.den, List.getD_cons_zero, List.getD_cons_succ, Cst.den, syso, syse, syio, sybo, bui_tme, bui_poe, bui_boe, bub_big, B2.ofInts, B2.denI, B2.denB, if_true, Bool.false_eq_true, if_false, Nat.div_one, Nat.mul_one, Nat.add_zero] at hc
 simp only [buc_wTX, patsTyp, patTyp, patTypL, buE, denV, denL, List.getD_cons_zero, List.getD_cons_succ, and_true, true_and] at hty
 have hL_l : typ (.sl (.cons (.int .i64) (.cons (.int .i64) (.cons .str .nil)))) l := by first | exact hty | exact hty.1 | exact hty.2 | exact hty.1.1 | exact hty.1.2 | exact hty.2.1 | exact hty.2.2 | exact hty.2.2.1 | exact hty.2.2.2
 have hN_l := typ_len (n := 3) hL_l rfl (by omega)
 unfold wTX_tree
 simp only [buc_wTX, Tree.holds, Sy.holds, buE, denV, denI, denB, denL, I2.den, VOp.den, List.getD_cons_zero, List.getD_cons_succ, Cst.den, syso, syse, syio, sybo, bui_sa, bui_up, bui_hv, bui_q, bui_tme, bui_poe, bui_gdw, bui_boe, bui_lp, bui_sm, bub_shr, B2.ofInts, B2.denI, B2.denB, if_true, Bool.false_eq_true, if_false, Nat.div_one, Nat.mul_one, Nat.add_zero]
 have hl := hc.1.1
 have hnb := hc.1.2
 have hx := hc.2
 have hb := big_no (Bool.eq_false_iff.2 hnb)
 have hlp := lp_rng sk
 have hpi := fun h : boE (poE sk sb sa qu fw fc s f (Sy.rows l)) o1 (tmE pe pb pt pr gm gs qm qs pp pc o0) = 0 => parts_in h
 obtain ⟨E, hE⟩ : ∃ x, boE (poE sk sb sa qu fw fc s f (Sy.rows l)) o1 (tmE pe pb pt pr gm gs qm qs pp pc o0) = x := ⟨_, rfl⟩
 simp only [hE] at hpi hx ⊢
 refine ⟨?_, fun h0 => ?_⟩
 refine ?a0; rotate_left
 refine ⟨?_, fun h1 => ?_⟩
 refine ?a1; rotate_left
 refine ⟨?_, fun h2 => ?_⟩
 refine ?a2; rotate_left
 refine ⟨?_, fun h3 => ?_⟩
 refine ?a3; rotate_left
 refine ⟨?_, fun h4 => ?_⟩
 refine ?a4; rotate_left
 refine ⟨?_, fun h5 => ?_⟩
 refine ?a5; rotate_left
 refine ⟨?_, fun h6 => ?_⟩
 refine ?a6; rotate_left
 refine ⟨?_, fun h7 => ?_⟩
 refine ?a7; rotate_left
 refine ⟨fun h8 => ?_, fun h8 => ?_⟩
 refine ?a8; rotate_left
 refine ?a9; rotate_left
 case a0 | a1 | a2 | a3 | a4 | a5 | a6 | a7 =>
  first
  | exact True.intro
  | exact hl.1
  | exact hl.2.1
  | omega
  | exact ⟨hl.2.1, hb.1, hb.2.2⟩
  | exact ⟨hl.2.1, by omega, hb.2.2⟩
  | exact ⟨⟨hl.1, hl.2.2.1, hl.2.1, hl.2.2.2.1⟩, by omega, hb.2.2⟩
  | exact ⟨hl.1, hl.2.2.1, hl.2.1, hl.2.2.2.1⟩
  | exact ⟨hl.1, hl.2.1, hl.2.2.2.2⟩
  | exact ⟨⟨hl.1, hl.2.1, hl.2.2.2.2⟩, by omega, hb.2.2⟩
  | exact ⟨hl.1, hl.2.2.1, hl.2.1, by omega, by omega, by omega, by omega⟩
  | (simp only [gw_n hx]; omega)
  | skip
 case a8 | a9 =>
  first
  | exact True.intro
  | rfl
  | exact absurd True.intro (by assumption)
  | (exfalso; omega)
  | (exfalso; simp only [not_true_eq_false, and_self] at *; done)
  | skip
theorem bug_wTX : buc_wTX.Good Tryz.prog syG (buE [] [] [] []) := good_of_walkC (Γ := ⟨[byc_lbig, byc_givepg, byc_givep, bxc_bof, bxc_rbof, bvc_bsum, bvc_rbsum, bwc_bage, bwc_rage, bvc_btold, byc_pock, byc_pomay, byc_num, buc_sure30], syG, [39, 91, 2], [], []⟩) (ρ := buE [] [] [] []) sym wTX_w rfl (fun _ _ _ _ => (ok_cons (Con.Good.env (Con.Good.up (Con.Good.up (Con.Good.up (Con.Good.up byg_lbig bxup rfl) bvup rfl) bwup rfl) buup rfl) _ _ _ _) (ok_cons (Con.Good.env (Con.Good.up (Con.Good.up (Con.Good.up (Con.Good.up byg_givepg bxup rfl) bvup rfl) bwup rfl) buup rfl) _ _ _ _) (ok_cons (Con.Good.env (Con.Good.up (Con.Good.up (Con.Good.up (Con.Good.up byg_givep bxup rfl) bvup rfl) bwup rfl) buup rfl) _ _ _ _) (ok_cons (Con.Good.env (Con.Good.up (Con.Good.up (Con.Good.up bxg_bof bvup rfl) bwup rfl) buup rfl) _ _ _ _) (ok_cons (Con.Good.env (Con.Good.up (Con.Good.up (Con.Good.up bxg_rbof bvup rfl) bwup rfl) buup rfl) _ _ _ _) (ok_cons (Con.Good.env (Con.Good.up (Con.Good.up bvg_bsum bwup rfl) buup rfl) _ _ _ _) (ok_cons (Con.Good.env (Con.Good.up (Con.Good.up bvg_rbsum bwup rfl) buup rfl) _ _ _ _) (ok_cons (Con.Good.env (Con.Good.up bwg_bage buup rfl) _ _ _ _) (ok_cons (Con.Good.env (Con.Good.up bwg_rage buup rfl) _ _ _ _) (ok_cons (Con.Good.env (Con.Good.up (Con.Good.up bvg_btold bwup rfl) buup rfl) _ _ _ _) (ok_cons (Con.Good.env (Con.Good.up (Con.Good.up (Con.Good.up (Con.Good.up byg_pock bxup rfl) bvup rfl) bwup rfl) buup rfl) _ _ _ _) (ok_cons (Con.Good.env (Con.Good.up (Con.Good.up (Con.Good.up (Con.Good.up byg_pomay bxup rfl) bvup rfl) bwup rfl) buup rfl) _ _ _ _) (ok_cons (Con.Good.env (Con.Good.up (Con.Good.up (Con.Good.up (Con.Good.up byg_num bxup rfl) bvup rfl) bwup rfl) buup rfl) _ _ _ _) (ok_cons (Con.Good.env bug_sure30 _ _ _ _) ok_nil))))))))))))))) wTX_h
def wTY_tree : Tree :=
 (.need (.b2 .le (.ofI (.vop (.len 3) (.cons (.opq 0) .nil))) (.lit (4398046511103)))
 (.need xrbubndk25_
 (.need (.b2 .and xrbubndk25_ xrbubndk19_)
 (.need (.b2 .and xrbubndk2_ (.b2 .and xrbubndk4_ xrbubndk11_))
 (.need (.b2 .and (.b2 .and xrbubndk2_ (.b2 .and xrbubndk4_ xrbubndk11_)) xrbubndk19_)
 (.need xrbubndk3_
 (.need xrbubndk3_
 (.need xrbubndk3_
 (.need (.b2 .and xrbubndk2_ (.b2 .and xrbubndk12_ (.b2 .and xrbubndk4_ (.b2 .and xrbubndk11_ (.b2 .and xrbubndk8_ xrbubndk8_)))))
 (.br (.not (.b2 .and (.b2 .eq xrbubndk0_ (.lit (0))) (.b2 .and xrbubndk5_ xrbubndk7_)))
 (.ret (.bool (.tt true)))
 (.ret (.bool (.tt false)))))))))))))
abbrev buc_wTY : Con := ⟨5, [xrbubndk13_, xrbubndk10_, xrbubndk18_], (.b2 .and (.b2 .and xrbubndk23_ (.b2 .eq xrbubndk0_ (.lit (0)))) (.not xrbubndk5_)), (.bool (.tt true)), ⟨20, 1, 1, 1⟩, none⟩
theorem wTY_w : walkQ Tryz.prog 111 ⟨[byc_lbig, byc_givepg, byc_givep, bxc_bof, bxc_rbof, bvc_bsum, bvc_rbsum, bwc_bage, bwc_rage, bvc_btold, byc_pock, byc_pomay, byc_num, buc_sure30], syG, [39, 91, 2], [], []⟩ [] .v buc_wTY buc_wTY.n 3000 (pcOf buc_wTY.cnd) = some wTY_tree := by kernel_rfl
set_option maxHeartbeats 4000000 in
theorem wTY_h (pe pb pt pr gm gs qm qs pp pc sk sb sa qu fw fc f o0 o1 o2 : Int) (j : Bool) (l : Value) (s : ByteArray) : Hyp_ buc_wTY wTY_tree (buE [pe, pb, pt, pr, gm, gs, qm, qs, pp, pc, sk, sb, sa, qu, fw, fc, f, o0, o1, o2] [j] [l] [s]) := by
 intro hc hty
 simp only [buc_wTY, Sy.holds, buE, denV, denI, denB, denL, I2.den, VOp.den, List.getD_cons_zero, List.getD_cons_succ, Cst.den, syso, syse, syio, sybo, bui_sa, bui_up, bui_hv, bui_q, bui_tme, bui_poe, bui_gdw, bui_boe, bui_lp, bui_sm, bub_big, B2.ofInts, B2.denI, B2.denB, if_true, Bool.false_eq_true, if_false, Nat.div_one, Nat.mul_one, Nat.add_zero] at hc
 simp only [buc_wTY, patsTyp, patTyp, patTypL, buE, denV, denL, List.getD_cons_zero, List.getD_cons_succ, and_true, true_and] at hty
 have hL_l : typ (.sl (.cons (.int .i64) (.cons (.int .i64) (.cons .str .nil)))) l := by first | exact hty | exact hty.1 | exact hty.2 | exact hty.1.1 | exact hty.1.2 | exact hty.2.1 | exact hty.2.2 | exact hty.2.2.1 | exact hty.2.2.2
 have hN_l := typ_len (n := 3) hL_l rfl (by omega)
 unfold wTY_tree
 simp only [buc_wTY, Tree.holds, Sy.holds, buE, denV, denI, denB, denL, I2.den, VOp.den, List.getD_cons_zero, List.getD_cons_succ, Cst.den, syso, syse, syio, sybo, bui_sa, bui_up, bui_hv, bui_q, bui_tme, bui_poe, bui_gdw, bui_boe, bui_lp, bui_sm, bub_shr, B2.ofInts, B2.denI, B2.denB, if_true, Bool.false_eq_true, if_false, Nat.div_one, Nat.mul_one, Nat.add_zero]
 have hl := hc.1.1.1
 have hnb := hc.1.1.2
 have hx := hc.1.2
 have h3 := hc.2
 have hb := big_no (Bool.eq_false_iff.2 hnb)
 have hlp := lp_rng sk
 have hpi := fun h : boE (poE sk sb sa qu fw fc s f (Sy.rows l)) o1 (tmE pe pb pt pr gm gs qm qs pp pc o0) = 0 => parts_in h
 obtain ⟨E, hE⟩ : ∃ x, boE (poE sk sb sa qu fw fc s f (Sy.rows l)) o1 (tmE pe pb pt pr gm gs qm qs pp pc o0) = x := ⟨_, rfl⟩
 simp only [hE] at hpi hx h3 ⊢
 obtain ⟨hp, qp, z0, z1, z2, z3⟩ := hpi hx
 obtain ⟨a1, a2, a3, a4, a5, a6, a7, a8, f1, f2, a11, a12, a13, a14⟩ := id hp
 obtain ⟨b1, b2, b3, b4, b5, b6, b7, b8⟩ := id qp
 refine ⟨?_, fun h0 => ?_⟩
 refine ?a0; rotate_left
 refine ⟨?_, fun h1 => ?_⟩
 refine ?a1; rotate_left
 refine ⟨?_, fun h2 => ?_⟩
 refine ?a2; rotate_left
 refine ⟨?_, fun h3 => ?_⟩
 refine ?a3; rotate_left
 refine ⟨?_, fun h4 => ?_⟩
 refine ?a4; rotate_left
 refine ⟨?_, fun h5 => ?_⟩
 refine ?a5; rotate_left
 refine ⟨?_, fun h6 => ?_⟩
 refine ?a6; rotate_left
 refine ⟨?_, fun h7 => ?_⟩
 refine ?a7; rotate_left
 refine ⟨?_, fun h8 => ?_⟩
 refine ?a8; rotate_left
 refine ⟨fun h9 => ?_, fun h9 => ?_⟩
 refine ?a9; rotate_left
 refine ?a10; rotate_left
 case a0 | a1 | a2 | a3 | a4 | a5 | a6 | a7 | a8 =>
  first
  | exact True.intro
  | exact hl.1
  | exact hl.2.1
  | omega
  | exact ⟨hl.2.1, hb.1, hb.2.2⟩
  | exact ⟨hl.2.1, by omega, hb.2.2⟩
  | exact ⟨⟨hl.1, hl.2.2.1, hl.2.1, hl.2.2.2.1⟩, by omega, hb.2.2⟩
  | exact ⟨hl.1, hl.2.2.1, hl.2.1, hl.2.2.2.1⟩
  | exact ⟨hl.1, hl.2.1, hl.2.2.2.2⟩
  | exact ⟨⟨hl.1, hl.2.1, hl.2.2.2.2⟩, by omega, hb.2.2⟩
  | exact ⟨hl.1, hl.2.2.1, hl.2.1, by omega, by omega, by omega, by omega⟩
  | (simp only [gw_y hx]; omega)
  | skip
 case a9 | a10 =>
  first
  | exact True.intro
  | rfl
  | exact absurd True.intro (by assumption)
  | (exfalso; omega)
  | (exfalso; simp only [not_true_eq_false, and_self] at *; done)
  | skip
theorem bug_wTY : buc_wTY.Good Tryz.prog syG (buE [] [] [] []) := good_of_walkC (Γ := ⟨[byc_lbig, byc_givepg, byc_givep, bxc_bof, bxc_rbof, bvc_bsum, bvc_rbsum, bwc_bage, bwc_rage, bvc_btold, byc_pock, byc_pomay, byc_num, buc_sure30], syG, [39, 91, 2], [], []⟩) (ρ := buE [] [] [] []) sym wTY_w rfl (fun _ _ _ _ => (ok_cons (Con.Good.env (Con.Good.up (Con.Good.up (Con.Good.up (Con.Good.up byg_lbig bxup rfl) bvup rfl) bwup rfl) buup rfl) _ _ _ _) (ok_cons (Con.Good.env (Con.Good.up (Con.Good.up (Con.Good.up (Con.Good.up byg_givepg bxup rfl) bvup rfl) bwup rfl) buup rfl) _ _ _ _) (ok_cons (Con.Good.env (Con.Good.up (Con.Good.up (Con.Good.up (Con.Good.up byg_givep bxup rfl) bvup rfl) bwup rfl) buup rfl) _ _ _ _) (ok_cons (Con.Good.env (Con.Good.up (Con.Good.up (Con.Good.up bxg_bof bvup rfl) bwup rfl) buup rfl) _ _ _ _) (ok_cons (Con.Good.env (Con.Good.up (Con.Good.up (Con.Good.up bxg_rbof bvup rfl) bwup rfl) buup rfl) _ _ _ _) (ok_cons (Con.Good.env (Con.Good.up (Con.Good.up bvg_bsum bwup rfl) buup rfl) _ _ _ _) (ok_cons (Con.Good.env (Con.Good.up (Con.Good.up bvg_rbsum bwup rfl) buup rfl) _ _ _ _) (ok_cons (Con.Good.env (Con.Good.up bwg_bage buup rfl) _ _ _ _) (ok_cons (Con.Good.env (Con.Good.up bwg_rage buup rfl) _ _ _ _) (ok_cons (Con.Good.env (Con.Good.up (Con.Good.up bvg_btold bwup rfl) buup rfl) _ _ _ _) (ok_cons (Con.Good.env (Con.Good.up (Con.Good.up (Con.Good.up (Con.Good.up byg_pock bxup rfl) bvup rfl) bwup rfl) buup rfl) _ _ _ _) (ok_cons (Con.Good.env (Con.Good.up (Con.Good.up (Con.Good.up (Con.Good.up byg_pomay bxup rfl) bvup rfl) bwup rfl) buup rfl) _ _ _ _) (ok_cons (Con.Good.env (Con.Good.up (Con.Good.up (Con.Good.up (Con.Good.up byg_num bxup rfl) bvup rfl) bwup rfl) buup rfl) _ _ _ _) (ok_cons (Con.Good.env bug_sure30 _ _ _ _) ok_nil))))))))))))))) wTY_h
def wTZ_tree : Tree :=
 (.need (.b2 .le (.ofI (.vop (.len 3) (.cons (.opq 0) .nil))) (.lit (4398046511103)))
 (.need xrbubndk25_
 (.need (.b2 .and xrbubndk25_ xrbubndk19_)
 (.need (.b2 .and xrbubndk2_ (.b2 .and xrbubndk4_ xrbubndk11_))
 (.need (.b2 .and (.b2 .and xrbubndk2_ (.b2 .and xrbubndk4_ xrbubndk11_)) xrbubndk19_)
 (.need xrbubndk3_
 (.need (.b2 .and (.b2 .and (.b2 .le (.lit (-9223372036854775808)) (.iapp 35 (.cons (.int .i64 xrbubndk0_) (.cons (.int .i64 (.var 3)) .nil)))) (.b2 .le (.iapp 35 (.cons (.int .i64 xrbubndk0_) (.cons (.int .i64 (.var 3)) .nil))) (.lit (9223372036854775807)))) (.b2 .and (.b2 .and (.b2 .le (.lit (-9223372036854775808)) xrbubndk22_) (.b2 .le xrbubndk22_ (.lit (9223372036854775807)))) (.b2 .and (.b2 .le (.lit (-9223372036854775808)) (.iapp 35 (.cons (.int .i64 xrbubndk0_) (.cons (.int .i64 (.i2 .add (.iapp 11 (.cons (.int .i64 (.i2 .sub (.var 17) (.var 1))) (.cons (.int .i64 (.var 7)) .nil))) (.lit (4)))) .nil)))) (.b2 .le (.iapp 35 (.cons (.int .i64 xrbubndk0_) (.cons (.int .i64 (.i2 .add (.iapp 11 (.cons (.int .i64 (.i2 .sub (.var 17) (.var 1))) (.cons (.int .i64 (.var 7)) .nil))) (.lit (4)))) .nil))) (.lit (9223372036854775807))))))
 (.need xrbubndk3_
 (.need xrbubndk3_
 (.need (.b2 .and xrbubndk2_ (.b2 .and xrbubndk12_ (.b2 .and xrbubndk4_ (.b2 .and xrbubndk11_ (.b2 .and xrbubndk8_ xrbubndk8_)))))
 (.br (.b2 .beq (.b2 .and (.b2 .eq xrbubndk0_ (.lit (0))) (.b2 .and xrbubndk5_ xrbubndk7_)) xrbubndk7_)
 (.ret (.bool (.tt true)))
 (.ret (.bool (.tt false))))))))))))))
abbrev buc_wTZ : Con := ⟨5, [xrbubndk13_, xrbubndk10_, xrbubndk18_], (.b2 .and (.b2 .and xrbubndk23_ (.b2 .eq xrbubndk0_ (.lit (0)))) xrbubndk5_), (.bool (.tt true)), ⟨20, 1, 1, 1⟩, none⟩
theorem wTZ_w : walkQ Tryz.prog 111 ⟨[byc_lbig, byc_givepg, byc_givep, bxc_bof, bxc_rbof, bvc_bsum, bvc_rbsum, bwc_bage, bwc_rage, bvc_btold, byc_pock, byc_pomay, byc_num, buc_sure30], syG, [39, 91, 2], [], []⟩ [] .v buc_wTZ buc_wTZ.n 3000 (pcOf buc_wTZ.cnd) = some wTZ_tree := by kernel_rfl
set_option maxHeartbeats 4000000 in
theorem wTZ_h (pe pb pt pr gm gs qm qs pp pc sk sb sa qu fw fc f o0 o1 o2 : Int) (j : Bool) (l : Value) (s : ByteArray) : Hyp_ buc_wTZ wTZ_tree (buE [pe, pb, pt, pr, gm, gs, qm, qs, pp, pc, sk, sb, sa, qu, fw, fc, f, o0, o1, o2] [j] [l] [s]) := by
 intro hc hty
 simp only [buc_wTZ, Sy.holds, buE, denV, denI, denB, denL, I2.den, VOp.den, List.getD_cons_zero, List.getD_cons_succ, Cst.den, syso, syse, syio, sybo, bui_sa, bui_up, bui_hv, bui_q, bui_tme, bui_poe, bui_gdw, bui_boe, bui_lp, bui_sm, bub_big, B2.ofInts, B2.denI, B2.denB, if_true, Bool.false_eq_true, if_false, Nat.div_one, Nat.mul_one, Nat.add_zero] at hc
 simp only [buc_wTZ, patsTyp, patTyp, patTypL, buE, denV, denL, List.getD_cons_zero, List.getD_cons_succ, and_true, true_and] at hty
 have hL_l : typ (.sl (.cons (.int .i64) (.cons (.int .i64) (.cons .str .nil)))) l := by first | exact hty | exact hty.1 | exact hty.2 | exact hty.1.1 | exact hty.1.2 | exact hty.2.1 | exact hty.2.2 | exact hty.2.2.1 | exact hty.2.2.2
 have hN_l := typ_len (n := 3) hL_l rfl (by omega)
 unfold wTZ_tree
 simp only [buc_wTZ, Tree.holds, Sy.holds, buE, denV, denI, denB, denL, I2.den, VOp.den, List.getD_cons_zero, List.getD_cons_succ, Cst.den, syso, syse, syio, sybo, bui_sa, bui_up, bui_hv, bui_q, bui_tme, bui_poe, bui_gdw, bui_boe, bui_lp, bui_sm, bub_shr, B2.ofInts, B2.denI, B2.denB, if_true, Bool.false_eq_true, if_false, Nat.div_one, Nat.mul_one, Nat.add_zero]
 have hl := hc.1.1.1
 have hnb := hc.1.1.2
 have hx := hc.1.2
 have h3 := hc.2
 have hb := big_no (Bool.eq_false_iff.2 hnb)
 have hlp := lp_rng sk
 have hpi := fun h : boE (poE sk sb sa qu fw fc s f (Sy.rows l)) o1 (tmE pe pb pt pr gm gs qm qs pp pc o0) = 0 => parts_in h
 obtain ⟨E, hE⟩ : ∃ x, boE (poE sk sb sa qu fw fc s f (Sy.rows l)) o1 (tmE pe pb pt pr gm gs qm qs pp pc o0) = x := ⟨_, rfl⟩
 simp only [hE] at hpi hx h3 ⊢
 obtain ⟨hp, qp, z0, z1, z2, z3⟩ := hpi hx
 obtain ⟨a1, a2, a3, a4, a5, a6, a7, a8, f1, f2, a11, a12, a13, a14⟩ := id hp
 obtain ⟨b1, b2, b3, b4, b5, b6, b7, b8⟩ := id qp
 refine ⟨?_, fun h0 => ?_⟩
 refine ?a0; rotate_left
 refine ⟨?_, fun h1 => ?_⟩
 refine ?a1; rotate_left
 refine ⟨?_, fun h2 => ?_⟩
 refine ?a2; rotate_left
 refine ⟨?_, fun h3 => ?_⟩
 refine ?a3; rotate_left
 refine ⟨?_, fun h4 => ?_⟩
 refine ?a4; rotate_left
 refine ⟨?_, fun h5 => ?_⟩
 refine ?a5; rotate_left
 refine ⟨?_, fun h6 => ?_⟩
 refine ?a6; rotate_left
 refine ⟨?_, fun h7 => ?_⟩
 refine ?a7; rotate_left
 refine ⟨?_, fun h8 => ?_⟩
 refine ?a8; rotate_left
 refine ⟨?_, fun h9 => ?_⟩
 refine ?a9; rotate_left
 refine ⟨fun h10 => ?_, fun h10 => ?_⟩
 refine ?a10; rotate_left
 refine ?a11; rotate_left
 case a0 | a1 | a2 | a3 | a4 | a5 | a6 | a7 | a8 | a9 =>
  first
  | exact True.intro
  | exact hl.1
  | exact hl.2.1
  | omega
  | exact ⟨hl.2.1, hb.1, hb.2.2⟩
  | exact ⟨hl.2.1, by omega, hb.2.2⟩
  | exact ⟨⟨hl.1, hl.2.2.1, hl.2.1, hl.2.2.2.1⟩, by omega, hb.2.2⟩
  | exact ⟨hl.1, hl.2.2.1, hl.2.1, hl.2.2.2.1⟩
  | exact ⟨hl.1, hl.2.1, hl.2.2.2.2⟩
  | exact ⟨⟨hl.1, hl.2.1, hl.2.2.2.2⟩, by omega, hb.2.2⟩
  | exact ⟨hl.1, hl.2.2.1, hl.2.1, by omega, by omega, by omega, by omega⟩
  | (simp only [gw_y hx]; omega)
  | skip
 case a10 | a11 =>
  first
  | exact True.intro
  | rfl
  | exact absurd True.intro (by assumption)
  | (exfalso; omega)
  | (exfalso; simp only [not_true_eq_false, and_self] at *; done)
  | skip
theorem bug_wTZ : buc_wTZ.Good Tryz.prog syG (buE [] [] [] []) := good_of_walkC (Γ := ⟨[byc_lbig, byc_givepg, byc_givep, bxc_bof, bxc_rbof, bvc_bsum, bvc_rbsum, bwc_bage, bwc_rage, bvc_btold, byc_pock, byc_pomay, byc_num, buc_sure30], syG, [39, 91, 2], [], []⟩) (ρ := buE [] [] [] []) sym wTZ_w rfl (fun _ _ _ _ => (ok_cons (Con.Good.env (Con.Good.up (Con.Good.up (Con.Good.up (Con.Good.up byg_lbig bxup rfl) bvup rfl) bwup rfl) buup rfl) _ _ _ _) (ok_cons (Con.Good.env (Con.Good.up (Con.Good.up (Con.Good.up (Con.Good.up byg_givepg bxup rfl) bvup rfl) bwup rfl) buup rfl) _ _ _ _) (ok_cons (Con.Good.env (Con.Good.up (Con.Good.up (Con.Good.up (Con.Good.up byg_givep bxup rfl) bvup rfl) bwup rfl) buup rfl) _ _ _ _) (ok_cons (Con.Good.env (Con.Good.up (Con.Good.up (Con.Good.up bxg_bof bvup rfl) bwup rfl) buup rfl) _ _ _ _) (ok_cons (Con.Good.env (Con.Good.up (Con.Good.up (Con.Good.up bxg_rbof bvup rfl) bwup rfl) buup rfl) _ _ _ _) (ok_cons (Con.Good.env (Con.Good.up (Con.Good.up bvg_bsum bwup rfl) buup rfl) _ _ _ _) (ok_cons (Con.Good.env (Con.Good.up (Con.Good.up bvg_rbsum bwup rfl) buup rfl) _ _ _ _) (ok_cons (Con.Good.env (Con.Good.up bwg_bage buup rfl) _ _ _ _) (ok_cons (Con.Good.env (Con.Good.up bwg_rage buup rfl) _ _ _ _) (ok_cons (Con.Good.env (Con.Good.up (Con.Good.up bvg_btold bwup rfl) buup rfl) _ _ _ _) (ok_cons (Con.Good.env (Con.Good.up (Con.Good.up (Con.Good.up (Con.Good.up byg_pock bxup rfl) bvup rfl) bwup rfl) buup rfl) _ _ _ _) (ok_cons (Con.Good.env (Con.Good.up (Con.Good.up (Con.Good.up (Con.Good.up byg_pomay bxup rfl) bvup rfl) bwup rfl) buup rfl) _ _ _ _) (ok_cons (Con.Good.env (Con.Good.up (Con.Good.up (Con.Good.up (Con.Good.up byg_num bxup rfl) bvup rfl) bwup rfl) buup rfl) _ _ _ _) (ok_cons (Con.Good.env bug_sure30 _ _ _ _) ok_nil))))))))))))))) wTZ_h
abbrev buc_wTells : Con := ⟨5, [xrbubndk13_, xrbubndk10_, xrbubndk18_], (.b2 .and xrbubndk2_ (.b2 .and xrbubndk4_ (.b2 .and xrbubndk12_ (.b2 .and xrbubndk8_ xrbubndk11_)))), (.bool (.tt true)), ⟨20, 1, 1, 1⟩, none⟩
theorem bug_wTells : buc_wTells.Good Tryz.prog syG (buE [] [] [] []) := by
 exact good_split (.bapp 10 (.cons (.str 0) (.cons (.opq 0) .nil))) bug_wTB (good_split (.b2 .eq (.iapp 38 (.cons (.int .i64 (.iapp 31 (.cons (.int .i64 (.var 10)) (.cons (.int .i64 (.var 11)) (.cons (.int .i64 (.var 12)) (.cons (.int .i64 (.var 13)) (.cons (.int .i64 (.var 14)) (.cons (.int .i64 (.var 15)) (.cons (.str 0) (.cons (.int .i64 (.var 16)) (.cons (.opq 0) .nil))))))))))) (.cons (.int .i64 (.var 18)) (.cons (.int .i64 (.iapp 20 (.cons (.int .i64 (.var 0)) (.cons (.int .i64 (.var 1)) (.cons (.int .i64 (.var 2)) (.cons (.int .i64 (.var 3)) (.cons (.int .u32 (.var 4)) (.cons (.int .i64 (.var 5)) (.cons (.int .u32 (.var 6)) (.cons (.int .i64 (.var 7)) (.cons (.int .i64 (.var 8)) (.cons (.int .i64 (.var 9)) (.cons (.int .i64 (.var 17)) .nil))))))))))))) .nil)))) (.lit (0))) (good_split (.b2 .eq (.iapp 40 (.cons (.int .i64 (.iapp 35 (.cons (.int .i64 (.iapp 38 (.cons (.int .i64 (.iapp 31 (.cons (.int .i64 (.var 10)) (.cons (.int .i64 (.var 11)) (.cons (.int .i64 (.var 12)) (.cons (.int .i64 (.var 13)) (.cons (.int .i64 (.var 14)) (.cons (.int .i64 (.var 15)) (.cons (.str 0) (.cons (.int .i64 (.var 16)) (.cons (.opq 0) .nil))))))))))) (.cons (.int .i64 (.var 18)) (.cons (.int .i64 (.iapp 20 (.cons (.int .i64 (.var 0)) (.cons (.int .i64 (.var 1)) (.cons (.int .i64 (.var 2)) (.cons (.int .i64 (.var 3)) (.cons (.int .u32 (.var 4)) (.cons (.int .i64 (.var 5)) (.cons (.int .u32 (.var 6)) (.cons (.int .i64 (.var 7)) (.cons (.int .i64 (.var 8)) (.cons (.int .i64 (.var 9)) (.cons (.int .i64 (.var 17)) .nil))))))))))))) .nil))))) (.cons (.int .i64 (.var 3)) .nil)))) (.cons (.int .i64 (.iapp 35 (.cons (.int .i64 (.iapp 38 (.cons (.int .i64 (.iapp 31 (.cons (.int .i64 (.var 10)) (.cons (.int .i64 (.var 11)) (.cons (.int .i64 (.var 12)) (.cons (.int .i64 (.var 13)) (.cons (.int .i64 (.var 14)) (.cons (.int .i64 (.var 15)) (.cons (.str 0) (.cons (.int .i64 (.var 16)) (.cons (.opq 0) .nil))))))))))) (.cons (.int .i64 (.var 18)) (.cons (.int .i64 (.iapp 20 (.cons (.int .i64 (.var 0)) (.cons (.int .i64 (.var 1)) (.cons (.int .i64 (.var 2)) (.cons (.int .i64 (.var 3)) (.cons (.int .u32 (.var 4)) (.cons (.int .i64 (.var 5)) (.cons (.int .u32 (.var 6)) (.cons (.int .i64 (.var 7)) (.cons (.int .i64 (.var 8)) (.cons (.int .i64 (.var 9)) (.cons (.int .i64 (.var 17)) .nil))))))))))))) .nil))))) (.cons (.int .i64 (.iapp 10 (.cons (.int .i64 (.iapp 1 (.cons (.int .i64 (.i2 .add (.iapp 12 (.cons (.int .u32 (.var 6)) (.cons (.int .i64 (.var 7)) (.cons (.int .i64 (.i2 .sub (.var 17) (.var 1))) .nil)))) (.lit (1)))) .nil))) (.cons (.int .i64 (.var 8)) .nil)))) .nil)))) (.cons (.int .i64 (.iapp 35 (.cons (.int .i64 (.iapp 38 (.cons (.int .i64 (.iapp 31 (.cons (.int .i64 (.var 10)) (.cons (.int .i64 (.var 11)) (.cons (.int .i64 (.var 12)) (.cons (.int .i64 (.var 13)) (.cons (.int .i64 (.var 14)) (.cons (.int .i64 (.var 15)) (.cons (.str 0) (.cons (.int .i64 (.var 16)) (.cons (.opq 0) .nil))))))))))) (.cons (.int .i64 (.var 18)) (.cons (.int .i64 (.iapp 20 (.cons (.int .i64 (.var 0)) (.cons (.int .i64 (.var 1)) (.cons (.int .i64 (.var 2)) (.cons (.int .i64 (.var 3)) (.cons (.int .u32 (.var 4)) (.cons (.int .i64 (.var 5)) (.cons (.int .u32 (.var 6)) (.cons (.int .i64 (.var 7)) (.cons (.int .i64 (.var 8)) (.cons (.int .i64 (.var 9)) (.cons (.int .i64 (.var 17)) .nil))))))))))))) .nil))))) (.cons (.int .i64 (.i2 .add (.iapp 11 (.cons (.int .i64 (.i2 .sub (.var 17) (.var 1))) (.cons (.int .i64 (.var 7)) .nil))) (.lit (4)))) .nil)))) (.cons (.int .i64 (.iapp 35 (.cons (.int .i64 (.iapp 38 (.cons (.int .i64 (.iapp 31 (.cons (.int .i64 (.var 10)) (.cons (.int .i64 (.var 11)) (.cons (.int .i64 (.var 12)) (.cons (.int .i64 (.var 13)) (.cons (.int .i64 (.var 14)) (.cons (.int .i64 (.var 15)) (.cons (.str 0) (.cons (.int .i64 (.var 16)) (.cons (.opq 0) .nil))))))))))) (.cons (.int .i64 (.var 18)) (.cons (.int .i64 (.iapp 20 (.cons (.int .i64 (.var 0)) (.cons (.int .i64 (.var 1)) (.cons (.int .i64 (.var 2)) (.cons (.int .i64 (.var 3)) (.cons (.int .u32 (.var 4)) (.cons (.int .i64 (.var 5)) (.cons (.int .u32 (.var 6)) (.cons (.int .i64 (.var 7)) (.cons (.int .i64 (.var 8)) (.cons (.int .i64 (.var 9)) (.cons (.int .i64 (.var 17)) .nil))))))))))))) .nil))))) (.cons (.int .i64 (.var 14)) .nil)))) (.cons (.int .i64 (.iapp 35 (.cons (.int .i64 (.iapp 38 (.cons (.int .i64 (.iapp 31 (.cons (.int .i64 (.var 10)) (.cons (.int .i64 (.var 11)) (.cons (.int .i64 (.var 12)) (.cons (.int .i64 (.var 13)) (.cons (.int .i64 (.var 14)) (.cons (.int .i64 (.var 15)) (.cons (.str 0) (.cons (.int .i64 (.var 16)) (.cons (.opq 0) .nil))))))))))) (.cons (.int .i64 (.var 18)) (.cons (.int .i64 (.iapp 20 (.cons (.int .i64 (.var 0)) (.cons (.int .i64 (.var 1)) (.cons (.int .i64 (.var 2)) (.cons (.int .i64 (.var 3)) (.cons (.int .u32 (.var 4)) (.cons (.int .i64 (.var 5)) (.cons (.int .u32 (.var 6)) (.cons (.int .i64 (.var 7)) (.cons (.int .i64 (.var 8)) (.cons (.int .i64 (.var 9)) (.cons (.int .i64 (.var 17)) .nil))))))))))))) .nil))))) (.cons (.int .i64 (.i2 .sub (.var 13) (.lit (1)))) .nil)))) (.cons (.int .i64 (.iapp 35 (.cons (.int .i64 (.iapp 38 (.cons (.int .i64 (.iapp 31 (.cons (.int .i64 (.var 10)) (.cons (.int .i64 (.var 11)) (.cons (.int .i64 (.var 12)) (.cons (.int .i64 (.var 13)) (.cons (.int .i64 (.var 14)) (.cons (.int .i64 (.var 15)) (.cons (.str 0) (.cons (.int .i64 (.var 16)) (.cons (.opq 0) .nil))))))))))) (.cons (.int .i64 (.var 18)) (.cons (.int .i64 (.iapp 20 (.cons (.int .i64 (.var 0)) (.cons (.int .i64 (.var 1)) (.cons (.int .i64 (.var 2)) (.cons (.int .i64 (.var 3)) (.cons (.int .u32 (.var 4)) (.cons (.int .i64 (.var 5)) (.cons (.int .u32 (.var 6)) (.cons (.int .i64 (.var 7)) (.cons (.int .i64 (.var 8)) (.cons (.int .i64 (.var 9)) (.cons (.int .i64 (.var 17)) .nil))))))))))))) .nil))))) (.cons (.int .i64 (.iapp 39 (.cons (.int .i64 (.var 10)) .nil))) .nil)))) (.cons (.int .i64 (.iapp 35 (.cons (.int .i64 (.iapp 38 (.cons (.int .i64 (.iapp 31 (.cons (.int .i64 (.var 10)) (.cons (.int .i64 (.var 11)) (.cons (.int .i64 (.var 12)) (.cons (.int .i64 (.var 13)) (.cons (.int .i64 (.var 14)) (.cons (.int .i64 (.var 15)) (.cons (.str 0) (.cons (.int .i64 (.var 16)) (.cons (.opq 0) .nil))))))))))) (.cons (.int .i64 (.var 18)) (.cons (.int .i64 (.iapp 20 (.cons (.int .i64 (.var 0)) (.cons (.int .i64 (.var 1)) (.cons (.int .i64 (.var 2)) (.cons (.int .i64 (.var 3)) (.cons (.int .u32 (.var 4)) (.cons (.int .i64 (.var 5)) (.cons (.int .u32 (.var 6)) (.cons (.int .i64 (.var 7)) (.cons (.int .i64 (.var 8)) (.cons (.int .i64 (.var 9)) (.cons (.int .i64 (.var 17)) .nil))))))))))))) .nil))))) (.cons (.int .i64 (.var 18)) .nil)))) .nil)))))))) (.var 19)) bug_wTZ bug_wTY) bug_wTX)
end Go.Proofs.YtgondiedehjkhaaGreatDoor
