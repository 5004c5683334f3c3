/-
 Layer 2 by the second engine: wide numbers, and the big ones of the reference.
-/
import Derived.Test.YtgondiedehjkhaaDoorSycsums
import Derived.Test.YtgondiedehjkhaaDoorMathsums
import Derived.Test.YtgondiedehjkhaaDoorNumsums
import Derived.IntWalk
import Derived.Test.YtgondiedehjkhaaDoorSyosums
import Derived.Test.YtgondiedehjkhaaDoorW02rsums
import Derived.Test.YtgondiedehjkhaaDoorW02nsums
import Derived.Test.YtgondiedehjkhaaDoorW02jsums
import Derived.Test.YtgondiedehjkhaaDoorW02esums
import Derived.Test.YtgondiedehjkhaaDoorBig2sums
import Derived.Test.YtgondiedehjkhaaDoorW17sums
import Derived.Test.YtgondiedehjkhaaDoorW02ysums
namespace Go.Proofs.YtgondiedehjkhaaDoor
open Go.RowKit Go.Extern.Stop Go.Stop Go.Extern Go.Proofs.YtgondiedehjkhaaDoor.Sy
set_option linter.unusedVariables false
set_option linter.unusedSimpArgs false
abbrev xwasumsk0_ : Tm := (.agg (.cons (.int .u64 (.iapp 0 (.cons z0_ (.cons (.int .i64 (.lit 0)) .nil)))) (.cons (.int .u64 (.iapp 0 (.cons z0_ (.cons (.int .i64 (.lit 1)) .nil)))) (.cons (.int .u64 (.iapp 0 (.cons z0_ (.cons (.int .i64 (.lit 2)) .nil)))) (.cons (.int .u64 (.iapp 0 (.cons z0_ (.cons (.int .i64 (.lit 3)) .nil)))) (.cons (.int .u64 (.iapp 0 (.cons z0_ (.cons (.int .i64 (.lit 4)) .nil)))) (.cons (.int .u64 (.iapp 0 (.cons z0_ (.cons (.int .i64 (.lit 5)) .nil)))) (.cons (.int .u64 (.iapp 0 (.cons z0_ (.cons (.int .i64 (.lit 6)) .nil)))) (.cons (.int .u64 (.iapp 0 (.cons z0_ (.cons (.int .i64 (.lit 7)) .nil)))) .nil)))))))))
abbrev xwasumsk1_ : Tm := (.agg (.cons (.int .u64 (.iapp 0 (.cons z1_ (.cons (.int .i64 (.lit 0)) .nil)))) (.cons (.int .u64 (.iapp 0 (.cons z1_ (.cons (.int .i64 (.lit 1)) .nil)))) (.cons (.int .u64 (.iapp 0 (.cons z1_ (.cons (.int .i64 (.lit 2)) .nil)))) (.cons (.int .u64 (.iapp 0 (.cons z1_ (.cons (.int .i64 (.lit 3)) .nil)))) (.cons (.int .u64 (.iapp 0 (.cons z1_ (.cons (.int .i64 (.lit 4)) .nil)))) (.cons (.int .u64 (.iapp 0 (.cons z1_ (.cons (.int .i64 (.lit 5)) .nil)))) (.cons (.int .u64 (.iapp 0 (.cons z1_ (.cons (.int .i64 (.lit 6)) .nil)))) (.cons (.int .u64 (.iapp 0 (.cons z1_ (.cons (.int .i64 (.lit 7)) .nil)))) .nil)))))))))
abbrev xwasumsk2_ : Tm := (ad_ (.iapp 3 (.cons (.int .i64 (sb_ (.lit (-1)) v0_)) (.cons (.int .i64 (sb_ (.lit 18446744073709551615) v1_)) .nil))) (.iapp 3 (.cons (.int .i64 (.iapp 4 (.cons (.int .i64 (.lit 1)) .nil))) (.cons (.int .i64 (.iapp 5 (.cons (.int .i64 (.lit 1)) .nil))) .nil))))
abbrev xwasumsk3_ : Tm := (.iapp 3 (.cons z0_ (.cons z1_ .nil)))
abbrev xwasumsk4_ : Tm := (an_ (an_ (le_ lm_ v0_) (le_ v0_ lM_)) (an_ (le_ (.lit 0) v1_) (le_ v1_ (.lit 18446744073709551615))))
abbrev xwasumsk5_ : Tm := (.iapp 2 (.cons (.int .i64 xwasumsk3_) .nil))
abbrev xwasumsk6_ : Tm := (an_ (an_ (le_ lm_ v0_) (le_ v0_ lM_)) (an_ (an_ (le_ (.lit 0) v1_) (le_ v1_ (.lit 18446744073709551615))) (an_ (an_ (le_ lm_ v2_) (le_ v2_ lM_)) (an_ (le_ (.lit 0) v3_) (le_ v3_ (.lit 18446744073709551615))))))
abbrev xwasumsk7_ : Tm := (.agg (.cons z0_ (.cons (.int .u64 v1_) .nil)))
def sgI (b : Bool) (m : Int) : Int := if b then -m else m
def abI (x : Int) : Int := if x < 0 then -x else x
def wvI (h l : Int) : Int := h * 18446744073709551616 + l
def rgE (x : Int) : Int := if In128 x then 0 else 2
def r6E (x : Int) : Int := if InR x then 0 else 2
def gdF (e x : Int) : Int := if e = 0 then x else 0
def pwI (n : Int) : Int := if n < 0 ∨ 200 < n then 1 else 2 ^ n.toNat
def cpI (x : Int) : Int := if x = 0 then 0 else if x < 0 then -1 else 1
def sheI (n : Int) : Int := if n < 0 ∨ 127 < n then 1 else 0
def dveI (n : Int) : Int := if n < 1 then 1 else 0
theorem cp_spec (x : Int) : (x = 0 ∧ cpI x = 0) ∨ (x < 0 ∧ cpI x = -1) ∨ (0 < x ∧ cpI x = 1) := by unfold cpI; split <;> (try split) <;> omega
theorem sizeR_spec (x y : Int) : (y < x ∧ sizeR x y = 1) ∨ (x < y ∧ sizeR x y = -1) ∨ (x = y ∧ sizeR x y = 0) := by unfold sizeR; split <;> (try split) <;> omega
theorem sg_f (m : Int) : sgI false m = m := Eq.trans rfl rfl
theorem sg_t (m : Int) : sgI true m = -m := Eq.trans rfl rfl
theorem ab_spec (x : Int) : (x < 0 ∧ abI x = -x) ∨ (0 ≤ x ∧ abI x = x) := by unfold abI; split <;> omega
theorem sg_ab (x : Int) : sgI (decide (x < 0)) (abI x) = x := by
 by_cases h : x < 0
 · rw [decide_eq_true h, sg_t]; unfold abI; rw [if_pos h]; omega
 · rw [decide_eq_false h, sg_f]; unfold abI; rw [if_neg h]
theorem rg_spec (x : Int) : ((-170141183460469231731687303715884105728 ≤ x ∧ x < 170141183460469231731687303715884105728) ∧ rgE x = 0) ∨ ((x < -170141183460469231731687303715884105728 ∨ 170141183460469231731687303715884105728 ≤ x) ∧ rgE x = 2) := by
 unfold rgE
 split
 · rename_i h; unfold In128 at h; exact .inl ⟨by omega, rfl⟩
 · rename_i h; unfold In128 at h; exact .inr ⟨by omega, rfl⟩
theorem r6_spec (x : Int) : ((-9223372036854775808 ≤ x ∧ x ≤ 9223372036854775807) ∧ r6E x = 0) ∨ ((x < -9223372036854775808 ∨ 9223372036854775807 < x) ∧ r6E x = 2) := by
 unfold r6E
 split
 · rename_i h; exact .inl ⟨h, rfl⟩
 · rename_i h; exact .inr ⟨by omega, rfl⟩
theorem gd_y {e : Int} (h : e = 0) (x : Int) : gdF e x = x := by unfold gdF; rw [if_pos h]
theorem gd_n {e : Int} (h : e ≠ 0) (x : Int) : gdF e x = 0 := by unfold gdF; rw [if_neg h]
theorem wv_halves {h l : Int} (l0 : 0 ≤ l) (l1 : l ≤ 18446744073709551615) : wvI h l / 18446744073709551616 = h ∧ wvI h l % 18446744073709551616 = l := by unfold wvI; omega
theorem wv_in {h l : Int} (h0 : -9223372036854775808 ≤ h) (h1 : h ≤ 9223372036854775807) (l0 : 0 ≤ l) (l1 : l ≤ 18446744073709551615) : In128 (wvI h l) := by unfold wvI In128; omega
theorem wv_eq {h l : Int} (l0 : 0 ≤ l) (l1 : l ≤ 18446744073709551615) : Value.agg #[.int .i64 h, .int .u64 l] = WV (wvI h l) := by
 obtain ⟨e1, e2⟩ := wv_halves (h := h) l0 l1
 unfold WV
 rw [e1, e2]
theorem from_w (h l : Int) (w : World) (h0 : -9223372036854775808 ≤ h) (h1 : h ≤ 9223372036854775807) (l0 : 0 ≤ l) (l1 : l ≤ 18446744073709551615) : Calls Tryd.prog 10 #[.agg #[.int .i64 h, .int .u64 l]] w fun e w' => e = .returned (.agg #[.bool (decide (wvI h l < 0)), .int .u64 (dg (abI (wvI h l)) 0), .int .u64 (dg (abI (wvI h l)) 1), .int .u64 (dg (abI (wvI h l)) 2), .int .u64 (dg (abI (wvI h l)) 3), .int .u64 (dg (abI (wvI h l)) 4), .int .u64 (dg (abI (wvI h l)) 5), .int .u64 (dg (abI (wvI h l)) 6), .int .u64 (dg (abI (wvI h l)) 7)]) ∧ Below w.heap.size w w' := by
 obtain ⟨e1, e2⟩ := wv_halves (h := h) l0 l1
 exact from_c (wvI h l) h l w e1.symm e2.symm h0 h1
theorem to_w (b : Bool) (m : Int) (w : World) (h0 : 0 ≤ m) (h1 : m < B8) (hb : ¬ (b = true ∧ m = 0)) : Calls Tryd.prog 15 #[.agg #[.bool (b), .int .u64 (dg (m) 0), .int .u64 (dg (m) 1), .int .u64 (dg (m) 2), .int .u64 (dg (m) 3), .int .u64 (dg (m) 4), .int .u64 (dg (m) 5), .int .u64 (dg (m) 6), .int .u64 (dg (m) 7)]] w fun e w' => e = .returned (.tuple #[.agg #[.int .i64 (gdF (rgE (sgI b m)) ((sgI b m) / 18446744073709551616)), .int .u64 (gdF (rgE (sgI b m)) ((sgI b m) % 18446744073709551616))], .bool (rgE (sgI b m) == 0)]) ∧ Below w.heap.size w w' := by
 cases b with
 | false =>
   rcases rg_spec (sgI false m) with ⟨h, e⟩ | ⟨h, e⟩ <;> rw [sg_f] at h e
   · simp only [sg_f, e, gd_y rfl]
     exact to_pos_x m _ _ w h0 h.2 rfl rfl
   · simp only [sg_f, e, gd_n (show (2 : Int) ≠ 0 by decide)]
     exact to_pos_no m w (by omega) h1
 | true =>
   have hm : m ≠ 0 := fun h => hb ⟨rfl, h⟩
   rcases rg_spec (sgI true m) with ⟨h, e⟩ | ⟨h, e⟩ <;> rw [sg_t] at h e
   · simp only [sg_t, e, gd_y rfl]
     exact to_neg_x m _ _ w (by omega) (by omega) rfl rfl
   · simp only [sg_t, e, gd_n (show (2 : Int) ≠ 0 by decide)]
     exact to_neg_no m w (by omega) h1
theorem number_w (b : Bool) (m : Int) (w : World) (h0 : 0 ≤ m) (h1 : m < B8) (hb : ¬ (b = true ∧ m = 0)) : Calls Tryd.prog 17 #[.agg #[.bool (b), .int .u64 (dg (m) 0), .int .u64 (dg (m) 1), .int .u64 (dg (m) 2), .int .u64 (dg (m) 3), .int .u64 (dg (m) 4), .int .u64 (dg (m) 5), .int .u64 (dg (m) 6), .int .u64 (dg (m) 7)]] w fun e w' => e = .returned (.tuple #[.int .i64 (gdF (r6E (sgI b m)) (sgI b m)), .bool (r6E (sgI b m) == 0)]) ∧ Below w.heap.size w w' := by
 cases b with
 | false =>
   rcases r6_spec (sgI false m) with ⟨h, e⟩ | ⟨h, e⟩ <;> rw [sg_f] at h e
   · simp only [sg_f, e, gd_y rfl]
     exact number_p0 m w h0 (by omega)
   · simp only [sg_f, e, gd_n (show (2 : Int) ≠ 0 by decide)]
     exact number_pos_no m w (by omega) h1
 | true =>
   have hm : m ≠ 0 := fun h => hb ⟨rfl, h⟩
   rcases r6_spec (sgI true m) with ⟨h, e⟩ | ⟨h, e⟩ <;> rw [sg_t] at h e
   · simp only [sg_t, e, gd_y rfl]
     exact number_n0 m w (by omega) (by omega)
   · simp only [sg_t, e, gd_n (show (2 : Int) ≠ 0 by decide)]
     exact number_neg_no m w (by omega) h1
theorem zero_w (m : Int) (w : World) (h0 : 0 ≤ m) (h1 : m < B8) : Calls Tryd.prog 16 #[.agg #[.int .u64 (dg m 0), .int .u64 (dg m 1), .int .u64 (dg m 2), .int .u64 (dg m 3), .int .u64 (dg m 4), .int .u64 (dg m 5), .int .u64 (dg m 6), .int .u64 (dg m 7)]] w fun e w' => e = .returned (.bool (m == 0)) ∧ Below w.heap.size w w' := by
 by_cases h : m = 0
 · subst h; exact zero_yes w
 · rw [show (m == 0) = false from beq_eq_false_iff_ne.2 h]; exact zero_no m w ⟨h0, h1⟩ h
theorem add_w (h l k o : Int) (w : World) (a0 : -9223372036854775808 ≤ h) (a1 : h ≤ 9223372036854775807) (b0 : 0 ≤ l) (b1 : l ≤ 18446744073709551615) (c0 : -9223372036854775808 ≤ k) (c1 : k ≤ 9223372036854775807) (d0 : 0 ≤ o) (d1 : o ≤ 18446744073709551615) : Calls Tryd.prog 11 #[.agg #[.int .i64 h, .int .u64 l], .agg #[.int .i64 k, .int .u64 o]] w fun e w' => e = .returned (.tuple #[.agg #[.int .i64 (gdF (rgE (wvI h l + wvI k o)) ((wvI h l + wvI k o) / 18446744073709551616)), .int .u64 (gdF (rgE (wvI h l + wvI k o)) ((wvI h l + wvI k o) % 18446744073709551616))], errVal 142 (rgE (wvI h l + wvI k o))]) ∧ Below w.heap.size w w' := by
 rw [wv_eq b0 b1, wv_eq d0 d1]
 by_cases hs : In128 (wvI h l + wvI k o)
 · have e : rgE (wvI h l + wvI k o) = 0 := by unfold rgE; rw [if_pos hs]
   simp only [e, gd_y rfl]
   exact wadd _ _ w (wv_in a0 a1 b0 b1) (wv_in c0 c1 d0 d1) hs
 · have e : rgE (wvI h l + wvI k o) = 2 := by unfold rgE; rw [if_neg hs]
   simp only [e, gd_n (show (2 : Int) ≠ 0 by decide)]
   exact wadd_no _ _ w (wv_in a0 a1 b0 b1) (wv_in c0 c1 d0 d1) hs
theorem wint_w (h l : Int) (w : World) (a0 : -9223372036854775808 ≤ h) (a1 : h ≤ 9223372036854775807) (b0 : 0 ≤ l) (b1 : l ≤ 18446744073709551615) : Calls Tryd.prog 13 #[.agg #[.int .i64 h, .int .u64 l]] w fun e w' => e = .returned (.tuple #[.int .i64 (gdF (r6E (wvI h l)) (wvI h l)), errVal 142 (r6E (wvI h l))]) ∧ Below w.heap.size w w' := by
 rw [wv_eq b0 b1]
 by_cases hs : InR (wvI h l)
 · have e : r6E (wvI h l) = 0 := by unfold r6E; rw [if_pos hs]
   simp only [e, gd_y rfl]
   exact wint _ w hs
 · have e : r6E (wvI h l) = 2 := by unfold r6E; rw [if_neg hs]
   simp only [e, gd_n (show (2 : Int) ≠ 0 by decide)]
   exact wint_no _ w (wv_in a0 a1 b0 b1) hs
theorem flip_w (h l : Int) (w : World) (a0 : -9223372036854775808 ≤ h) (a1 : h ≤ 9223372036854775807) (b0 : 0 ≤ l) (b1 : l ≤ 18446744073709551615) : Calls Tryd.prog 70 #[.agg #[.int .i64 h, .int .u64 l]] w fun e w' => e = .returned (.agg #[.int .i64 (-1 - h), .int .u64 (18446744073709551615 - l)]) ∧ Below w.heap.size w w' := by
 have h1 := wflip (wvI h l) w (wv_in a0 a1 b0 b1)
 rw [wv_eq b0 b1, wv_eq (show 0 ≤ 18446744073709551615 - l by omega) (by omega), show wvI (-1 - h) (18446744073709551615 - l) = -1 - wvI h l by unfold wvI; omega]
 exact h1
theorem num02_any2 (n : Int) (w : World) (hg : w.cell? ⟨0, 0, none⟩ = some asHandle) : Calls Tryd.prog 19 #[errVal 142 n] w fun e w' => e = .returned (.int .i64 n) ∧ Below w.heap.size w w' := by
 unfold errVal
 split
 · rename_i h; subst h; exact num02_nil _
 · exact num02_err _ _ hg
noncomputable def waI : Nat → List Value → Int
 | 0, [.int _ m, .int _ k] => dg m k.toNat
 | 1, [.bool b, .int _ m] => sgI b m
 | 2, [.int _ x] => abI x
 | 3, [.int _ h, .int _ l] => wvI h l
 | 4, [.int _ x] => x / 18446744073709551616
 | 5, [.int _ x] => x % 18446744073709551616
 | 6, [.int _ x] => rgE x
 | 7, [.int _ x] => r6E x
 | 8, [.int _ e, .int _ x] => gdF e x
 | 9, [.int _ x, .int _ y] => sizeR x y
 | 10, [.int _ n] => pwI n
 | 11, [.int _ a, .int _ b] => a / b
 | 12, [.int _ a, .int _ b] => a % b
 | 13, [.int _ x] => cpI x
 | 14, [.int _ n] => sheI n
 | 15, [.int _ n] => dveI n
 | _, _ => 0
noncomputable def waB : Nat → List Value → Bool
 | 0, [.int _ x] => decide (x < 0)
 | _, _ => false
noncomputable def waV : Nat → List Value → Value
 | _, _ => Go.undef
noncomputable abbrev waE (iv : List Int) (bv : List Bool) (vv : List Value) (sv : List ByteArray) : Env := { iv := iv, bv := bv, vv := vv, sv := sv, fi := waI, fb := waB, fv := waV, et := 142 }
theorem wai_dg (k1 : IntKind) (m : Int) (k2 : IntKind) (k : Int) : waI 0 [.int k1 m, .int k2 k] = dg m k.toNat := rfl
theorem wai_ab (k1 : IntKind) (x : Int) : waI 2 [.int k1 x] = abI x := rfl
theorem wai_wv (k1 : IntKind) (h : Int) (k2 : IntKind) (l : Int) : waI 3 [.int k1 h, .int k2 l] = wvI h l := rfl
theorem wai_wh (k1 : IntKind) (x : Int) : waI 4 [.int k1 x] = x / 18446744073709551616 := rfl
theorem wai_wl (k1 : IntKind) (x : Int) : waI 5 [.int k1 x] = x % 18446744073709551616 := rfl
theorem wai_rg (k1 : IntKind) (x : Int) : waI 6 [.int k1 x] = rgE x := rfl
theorem wai_r6 (k1 : IntKind) (x : Int) : waI 7 [.int k1 x] = r6E x := rfl
theorem wai_gd (k1 : IntKind) (e : Int) (k2 : IntKind) (x : Int) : waI 8 [.int k1 e, .int k2 x] = gdF e x := rfl
theorem wai_sz (k1 : IntKind) (x : Int) (k2 : IntKind) (y : Int) : waI 9 [.int k1 x, .int k2 y] = sizeR x y := rfl
theorem wai_cp (k1 : IntKind) (x : Int) : waI 13 [.int k1 x] = cpI x := rfl
theorem wab_ng (k1 : IntKind) (x : Int) : waB 0 [.int k1 x] = decide (x < 0) := rfl
theorem syso (s : ByteArray) : strOf (.string s) = s := rfl
theorem syse (a b : ByteArray) : strEq (.string a) (.string b) = (a == b) := rfl
theorem syio (k : IntKind) (n : Int) : intOf (.int k n) = n := rfl
theorem sybo (b : Bool) : boolOf (.bool b) = b := rfl
theorem sym : Tryd.prog.follows .mixedOrders = true := by kernel_rfl
abbrev syG : Glob := [(0, 0, asHandle)]
abbrev wac_bfrom : Con := ⟨10, [xwasumsk7_], xwasumsk4_, (.agg (.cons (.bool (.bapp 0 (.cons (.int .i64 xwasumsk3_) .nil))) (.cons (.int .u64 (.iapp 0 (.cons (.int .i64 xwasumsk5_) (.cons (.int .i64 (.lit 0)) .nil)))) (.cons (.int .u64 (.iapp 0 (.cons (.int .i64 xwasumsk5_) (.cons (.int .i64 (.lit 1)) .nil)))) (.cons (.int .u64 (.iapp 0 (.cons (.int .i64 xwasumsk5_) (.cons (.int .i64 (.lit 2)) .nil)))) (.cons (.int .u64 (.iapp 0 (.cons (.int .i64 xwasumsk5_) (.cons (.int .i64 (.lit 3)) .nil)))) (.cons (.int .u64 (.iapp 0 (.cons (.int .i64 xwasumsk5_) (.cons (.int .i64 (.lit 4)) .nil)))) (.cons (.int .u64 (.iapp 0 (.cons (.int .i64 xwasumsk5_) (.cons (.int .i64 (.lit 5)) .nil)))) (.cons (.int .u64 (.iapp 0 (.cons (.int .i64 xwasumsk5_) (.cons (.int .i64 (.lit 6)) .nil)))) (.cons (.int .u64 (.iapp 0 (.cons (.int .i64 xwasumsk5_) (.cons (.int .i64 (.lit 7)) .nil)))) .nil)))))))))), ⟨2, 0, 0, 0⟩, none⟩
theorem wag_bfrom : wac_bfrom.Good Tryd.prog syG (waE [] [] [] []) := good_flat rfl rfl rfl (by
 intro h l hc β ok w hG
 have hc' := hc
 simp only [Tree.holds, Sy.holds, AllN, Env.more, waE, List.cons_append, List.nil_append, List.append_nil, denV, denI, denB, denL, I2.den, VOp.den, List.getD_cons_zero, List.getD_cons_succ, Cst.den, syso, syse, syio, sybo, wai_dg, wai_ab, wai_wv, wab_ng, List.map_nil, List.map_cons, B2.ofInts, B2.denI, B2.denB, if_true, Bool.false_eq_true, if_false, Nat.div_one, Nat.mul_one, Nat.add_zero, holds] at hc
 exact from_w h l w hc.1.1 hc.1.2 hc.2.1 hc.2.2)
abbrev wac_bzero : Con := ⟨16, [xwasumsk0_], (an_ (le_ (.lit 0) v0_) (le_ v0_ (.lit 1606938044258990275541962092341162602522202993782792835301376))), (.bool (eq_ v0_ (.lit 0))), ⟨1, 0, 0, 0⟩, none⟩
theorem wag_bzero : wac_bzero.Good Tryd.prog syG (waE [] [] [] []) := good_flat rfl rfl rfl (by
 intro m hc β ok w hG
 have hc' := hc
 simp only [Tree.holds, Sy.holds, AllN, Env.more, waE, List.cons_append, List.nil_append, List.append_nil, denV, denI, denB, denL, I2.den, VOp.den, List.getD_cons_zero, List.getD_cons_succ, Cst.den, syso, syse, syio, sybo, wai_dg, List.map_nil, List.map_cons, B2.ofInts, B2.denI, B2.denB, if_true, Bool.false_eq_true, if_false, Nat.div_one, Nat.mul_one, Nat.add_zero, holds] at hc
 exact zero_w m w hc.1 (by have := hc.2; unfold B8; omega))
abbrev wac_bplus : Con := ⟨67, [xwasumsk0_, xwasumsk1_], (.tt true), (.agg (.cons (.int .u64 (.iapp 0 (.cons (.int .i64 (ad_ v0_ v1_)) (.cons (.int .i64 (.lit 0)) .nil)))) (.cons (.int .u64 (.iapp 0 (.cons (.int .i64 (ad_ v0_ v1_)) (.cons (.int .i64 (.lit 1)) .nil)))) (.cons (.int .u64 (.iapp 0 (.cons (.int .i64 (ad_ v0_ v1_)) (.cons (.int .i64 (.lit 2)) .nil)))) (.cons (.int .u64 (.iapp 0 (.cons (.int .i64 (ad_ v0_ v1_)) (.cons (.int .i64 (.lit 3)) .nil)))) (.cons (.int .u64 (.iapp 0 (.cons (.int .i64 (ad_ v0_ v1_)) (.cons (.int .i64 (.lit 4)) .nil)))) (.cons (.int .u64 (.iapp 0 (.cons (.int .i64 (ad_ v0_ v1_)) (.cons (.int .i64 (.lit 5)) .nil)))) (.cons (.int .u64 (.iapp 0 (.cons (.int .i64 (ad_ v0_ v1_)) (.cons (.int .i64 (.lit 6)) .nil)))) (.cons (.int .u64 (.iapp 0 (.cons (.int .i64 (ad_ v0_ v1_)) (.cons (.int .i64 (.lit 7)) .nil)))) .nil))))))))), ⟨2, 0, 0, 0⟩, none⟩
theorem wag_bplus : wac_bplus.Good Tryd.prog syG (waE [] [] [] []) := good_flat rfl rfl rfl (by
 intro x y hc β ok w hG
 have hc' := hc
 simp only [Tree.holds, Sy.holds, AllN, Env.more, waE, List.cons_append, List.nil_append, List.append_nil, denV, denI, denB, denL, I2.den, VOp.den, List.getD_cons_zero, List.getD_cons_succ, Cst.den, syso, syse, syio, sybo, wai_dg, List.map_nil, List.map_cons, B2.ofInts, B2.denI, B2.denB, if_true, Bool.false_eq_true, if_false, Nat.div_one, Nat.mul_one, Nat.add_zero, holds] at hc
 exact plus_c x y w)
abbrev wac_bless : Con := ⟨72, [xwasumsk0_, xwasumsk1_], (.tt true), (.agg (.cons (.int .u64 (.iapp 0 (.cons (.int .i64 (sb_ v0_ v1_)) (.cons (.int .i64 (.lit 0)) .nil)))) (.cons (.int .u64 (.iapp 0 (.cons (.int .i64 (sb_ v0_ v1_)) (.cons (.int .i64 (.lit 1)) .nil)))) (.cons (.int .u64 (.iapp 0 (.cons (.int .i64 (sb_ v0_ v1_)) (.cons (.int .i64 (.lit 2)) .nil)))) (.cons (.int .u64 (.iapp 0 (.cons (.int .i64 (sb_ v0_ v1_)) (.cons (.int .i64 (.lit 3)) .nil)))) (.cons (.int .u64 (.iapp 0 (.cons (.int .i64 (sb_ v0_ v1_)) (.cons (.int .i64 (.lit 4)) .nil)))) (.cons (.int .u64 (.iapp 0 (.cons (.int .i64 (sb_ v0_ v1_)) (.cons (.int .i64 (.lit 5)) .nil)))) (.cons (.int .u64 (.iapp 0 (.cons (.int .i64 (sb_ v0_ v1_)) (.cons (.int .i64 (.lit 6)) .nil)))) (.cons (.int .u64 (.iapp 0 (.cons (.int .i64 (sb_ v0_ v1_)) (.cons (.int .i64 (.lit 7)) .nil)))) .nil))))))))), ⟨2, 0, 0, 0⟩, none⟩
theorem wag_bless : wac_bless.Good Tryd.prog syG (waE [] [] [] []) := good_flat rfl rfl rfl (by
 intro x y hc β ok w hG
 have hc' := hc
 simp only [Tree.holds, Sy.holds, AllN, Env.more, waE, List.cons_append, List.nil_append, List.append_nil, denV, denI, denB, denL, I2.den, VOp.den, List.getD_cons_zero, List.getD_cons_succ, Cst.den, syso, syse, syio, sybo, wai_dg, List.map_nil, List.map_cons, B2.ofInts, B2.denI, B2.denB, if_true, Bool.false_eq_true, if_false, Nat.div_one, Nat.mul_one, Nat.add_zero, holds] at hc
 exact less_c x y w)
abbrev wac_bsize : Con := ⟨71, [xwasumsk0_, xwasumsk1_], (an_ (an_ (le_ (.lit 0) v0_) (le_ v0_ (.lit 1606938044258990275541962092341162602522202993782792835301376))) (an_ (le_ (.lit 0) v1_) (le_ v1_ (.lit 1606938044258990275541962092341162602522202993782792835301376)))), (.int .i64 (.iapp 9 (.cons z0_ (.cons z1_ .nil)))), ⟨2, 0, 0, 0⟩, none⟩
theorem wag_bsize : wac_bsize.Good Tryd.prog syG (waE [] [] [] []) := good_flat rfl rfl rfl (by
 intro x y hc β ok w hG
 have hc' := hc
 simp only [Tree.holds, Sy.holds, AllN, Env.more, waE, List.cons_append, List.nil_append, List.append_nil, denV, denI, denB, denL, I2.den, VOp.den, List.getD_cons_zero, List.getD_cons_succ, Cst.den, syso, syse, syio, sybo, wai_dg, wai_sz, List.map_nil, List.map_cons, B2.ofInts, B2.denI, B2.denB, if_true, Bool.false_eq_true, if_false, Nat.div_one, Nat.mul_one, Nat.add_zero, holds] at hc
 exact size_c x y w ⟨hc.1.1, by have := hc.1.2; unfold B8; omega⟩ ⟨hc.2.1, by have := hc.2.2; unfold B8; omega⟩)
abbrev wac_wadd : Con := ⟨11, [xwasumsk7_, (.agg (.cons z2_ (.cons (.int .u64 v3_) .nil)))], xwasumsk6_, (.tup (.cons (.agg (.cons (.int .i64 (.iapp 8 (.cons (.int .i64 (.iapp 6 (.cons (.int .i64 (ad_ xwasumsk3_ (.iapp 3 (.cons z2_ (.cons z3_ .nil))))) .nil))) (.cons (.int .i64 (.iapp 4 (.cons (.int .i64 (ad_ xwasumsk3_ (.iapp 3 (.cons z2_ (.cons z3_ .nil))))) .nil))) .nil)))) (.cons (.int .u64 (.iapp 8 (.cons (.int .i64 (.iapp 6 (.cons (.int .i64 (ad_ xwasumsk3_ (.iapp 3 (.cons z2_ (.cons z3_ .nil))))) .nil))) (.cons (.int .i64 (.iapp 5 (.cons (.int .i64 (ad_ xwasumsk3_ (.iapp 3 (.cons z2_ (.cons z3_ .nil))))) .nil))) .nil)))) .nil))) (.cons (.err (.iapp 6 (.cons (.int .i64 (ad_ xwasumsk3_ (.iapp 3 (.cons z2_ (.cons z3_ .nil))))) .nil))) .nil))), ⟨4, 0, 0, 0⟩, none⟩
theorem wag_wadd : wac_wadd.Good Tryd.prog syG (waE [] [] [] []) := good_flat rfl rfl rfl (by
 intro h l k o hc β ok w hG
 have hc' := hc
 simp only [Tree.holds, Sy.holds, AllN, Env.more, waE, List.cons_append, List.nil_append, List.append_nil, denV, denI, denB, denL, I2.den, VOp.den, List.getD_cons_zero, List.getD_cons_succ, Cst.den, syso, syse, syio, sybo, wai_wv, wai_wh, wai_wl, wai_rg, wai_gd, List.map_nil, List.map_cons, B2.ofInts, B2.denI, B2.denB, if_true, Bool.false_eq_true, if_false, Nat.div_one, Nat.mul_one, Nat.add_zero, holds] at hc
 exact add_w h l k o w hc.1.1 hc.1.2 hc.2.1.1 hc.2.1.2 hc.2.2.1.1 hc.2.2.1.2 hc.2.2.2.1 hc.2.2.2.2)
abbrev wac_wint : Con := ⟨13, [xwasumsk7_], xwasumsk4_, (.tup (.cons (.int .i64 (.iapp 8 (.cons (.int .i64 (.iapp 7 (.cons (.int .i64 xwasumsk3_) .nil))) (.cons (.int .i64 xwasumsk3_) .nil)))) (.cons (.err (.iapp 7 (.cons (.int .i64 xwasumsk3_) .nil))) .nil))), ⟨2, 0, 0, 0⟩, none⟩
theorem wag_wint : wac_wint.Good Tryd.prog syG (waE [] [] [] []) := good_flat rfl rfl rfl (by
 intro h l hc β ok w hG
 have hc' := hc
 simp only [Tree.holds, Sy.holds, AllN, Env.more, waE, List.cons_append, List.nil_append, List.append_nil, denV, denI, denB, denL, I2.den, VOp.den, List.getD_cons_zero, List.getD_cons_succ, Cst.den, syso, syse, syio, sybo, wai_wv, wai_r6, wai_gd, List.map_nil, List.map_cons, B2.ofInts, B2.denI, B2.denB, if_true, Bool.false_eq_true, if_false, Nat.div_one, Nat.mul_one, Nat.add_zero, holds] at hc
 exact wint_w h l w hc.1.1 hc.1.2 hc.2.1 hc.2.2)
abbrev wac_wof : Con := ⟨21, [z0_], (an_ (le_ lm_ v0_) (le_ v0_ lM_)), (.agg (.cons (.int .i64 (.iapp 4 (.cons z0_ .nil))) (.cons (.int .u64 (.iapp 5 (.cons z0_ .nil))) .nil))), ⟨1, 0, 0, 0⟩, none⟩
theorem wag_wof : wac_wof.Good Tryd.prog syG (waE [] [] [] []) := good_flat rfl rfl rfl (by
 intro a hc β ok w hG
 have hc' := hc
 simp only [Tree.holds, Sy.holds, AllN, Env.more, waE, List.cons_append, List.nil_append, List.append_nil, denV, denI, denB, denL, I2.den, VOp.den, List.getD_cons_zero, List.getD_cons_succ, Cst.den, syso, syse, syio, sybo, wai_wh, wai_wl, List.map_nil, List.map_cons, B2.ofInts, B2.denI, B2.denB, if_true, Bool.false_eq_true, if_false, Nat.div_one, Nat.mul_one, Nat.add_zero, holds] at hc
 exact wof a w hc)
abbrev wac_wmul : Con := ⟨23, [z0_, z1_], (an_ (an_ (le_ lm_ v0_) (le_ v0_ lM_)) (an_ (le_ lm_ v1_) (le_ v1_ lM_))), (.agg (.cons (.int .i64 (.iapp 4 (.cons (.int .i64 (ml_ v0_ v1_)) .nil))) (.cons (.int .u64 (.iapp 5 (.cons (.int .i64 (ml_ v0_ v1_)) .nil))) .nil))), ⟨2, 0, 0, 0⟩, none⟩
theorem wag_wmul : wac_wmul.Good Tryd.prog syG (waE [] [] [] []) := good_flat rfl rfl rfl (by
 intro a b hc β ok w hG
 have hc' := hc
 simp only [Tree.holds, Sy.holds, AllN, Env.more, waE, List.cons_append, List.nil_append, List.append_nil, denV, denI, denB, denL, I2.den, VOp.den, List.getD_cons_zero, List.getD_cons_succ, Cst.den, syso, syse, syio, sybo, wai_wh, wai_wl, List.map_nil, List.map_cons, B2.ofInts, B2.denI, B2.denB, if_true, Bool.false_eq_true, if_false, Nat.div_one, Nat.mul_one, Nat.add_zero, holds] at hc
 exact wmul a b w hc.1 hc.2)
abbrev wac_wflip : Con := ⟨70, [xwasumsk7_], xwasumsk4_, (.agg (.cons (.int .i64 (sb_ (.lit (-1)) v0_)) (.cons (.int .u64 (sb_ (.lit 18446744073709551615) v1_)) .nil))), ⟨2, 0, 0, 0⟩, none⟩
theorem wag_wflip : wac_wflip.Good Tryd.prog syG (waE [] [] [] []) := good_flat rfl rfl rfl (by
 intro h l hc β ok w hG
 have hc' := hc
 simp only [Tree.holds, Sy.holds, AllN, Env.more, waE, List.cons_append, List.nil_append, List.append_nil, denV, denI, denB, denL, I2.den, VOp.den, List.getD_cons_zero, List.getD_cons_succ, Cst.den, syso, syse, syio, sybo, List.map_nil, List.map_cons, B2.ofInts, B2.denI, B2.denB, if_true, Bool.false_eq_true, if_false, Nat.div_one, Nat.mul_one, Nat.add_zero, holds] at hc
 exact flip_w h l w hc.1.1 hc.1.2 hc.2.1 hc.2.2)
def wneg_tree : Tree :=
 (.br (an_ (eq_ v0_ lm_) (eq_ v1_ (.lit 0)))
 (.ret (.tup (.cons (.agg (.cons (.int .i64 (.lit 0)) (.cons (.int .u64 (.lit 0)) .nil))) (.cons (.iface 142 (.int .i64 (.lit 2))) .nil))))
 (.need xwasumsk4_
 (.need (an_ (an_ (le_ lm_ (sb_ (.lit (-1)) v0_)) (le_ (sb_ (.lit (-1)) v0_) lM_)) (an_ (an_ (le_ (.lit 0) (sb_ (.lit 18446744073709551615) v1_)) (le_ (sb_ (.lit 18446744073709551615) v1_) (.lit 18446744073709551615))) (an_ (an_ (le_ lm_ (.iapp 4 (.cons (.int .i64 (.lit 1)) .nil))) (le_ (.iapp 4 (.cons (.int .i64 (.lit 1)) .nil)) lM_)) (an_ (le_ (.lit 0) (.iapp 5 (.cons (.int .i64 (.lit 1)) .nil))) (le_ (.iapp 5 (.cons (.int .i64 (.lit 1)) .nil)) (.lit 18446744073709551615))))))
 (.ret (.tup (.cons (.agg (.cons (.int .i64 (.iapp 8 (.cons (.int .i64 (.iapp 6 (.cons (.int .i64 xwasumsk2_) .nil))) (.cons (.int .i64 (.iapp 4 (.cons (.int .i64 xwasumsk2_) .nil))) .nil)))) (.cons (.int .u64 (.iapp 8 (.cons (.int .i64 (.iapp 6 (.cons (.int .i64 xwasumsk2_) .nil))) (.cons (.int .i64 (.iapp 5 (.cons (.int .i64 xwasumsk2_) .nil))) .nil)))) .nil))) (.cons (.err (.iapp 6 (.cons (.int .i64 xwasumsk2_) .nil))) .nil)))))))
abbrev wac_wneg : Con := ⟨12, [xwasumsk7_], xwasumsk4_, (.tup (.cons (.agg (.cons (.int .i64 (.iapp 8 (.cons (.int .i64 (.iapp 6 (.cons (.int .i64 (sb_ (.lit 0) xwasumsk3_)) .nil))) (.cons (.int .i64 (.iapp 4 (.cons (.int .i64 (sb_ (.lit 0) xwasumsk3_)) .nil))) .nil)))) (.cons (.int .u64 (.iapp 8 (.cons (.int .i64 (.iapp 6 (.cons (.int .i64 (sb_ (.lit 0) xwasumsk3_)) .nil))) (.cons (.int .i64 (.iapp 5 (.cons (.int .i64 (sb_ (.lit 0) xwasumsk3_)) .nil))) .nil)))) .nil))) (.cons (.err (.iapp 6 (.cons (.int .i64 (sb_ (.lit 0) xwasumsk3_)) .nil))) .nil))), ⟨2, 0, 0, 0⟩, none⟩
theorem wneg_w : walk Tryd.prog 142 ⟨[wac_wflip, wac_wof, wac_wadd], syG, [], [], []⟩ [] .v wac_wneg wac_wneg.n 3000 = some wneg_tree := by kernel_rfl
theorem wneg_h (h l : Int) : Hyp_ wac_wneg wneg_tree (waE [h, l] [] [] []) := by
 intro hc hty
 simp only [wac_wneg, Sy.holds, waE, denV, denI, denB, denL, I2.den, VOp.den, List.getD_cons_zero, List.getD_cons_succ, Cst.den, syso, syse, syio, sybo, B2.ofInts, B2.denI, B2.denB, if_true, Bool.false_eq_true, if_false, Nat.div_one, Nat.mul_one, Nat.add_zero] at hc
 simp only [wac_wneg, patsTyp, patTyp, patTypL, waE, denV, denL, List.getD_cons_zero, List.getD_cons_succ, and_true, true_and] at hty
 unfold wneg_tree
 simp only [wac_wneg, Tree.holds, Sy.holds, waE, denV, denI, denB, denL, I2.den, VOp.den, List.getD_cons_zero, List.getD_cons_succ, Cst.den, syso, syse, syio, sybo, wai_wv, wai_wh, wai_wl, wai_rg, wai_gd, B2.ofInts, B2.denI, B2.denB, if_true, Bool.false_eq_true, if_false, Nat.div_one, Nat.mul_one, Nat.add_zero]
 refine ⟨fun h0 => ?_, fun h0 => ?_⟩
 refine ?a0; rotate_left
 refine ⟨?_, fun h1 => ?_⟩
 ·
  omega
 refine ⟨?_, fun h2 => ?_⟩
 ·
  omega
 refine ?a1; rotate_left
 case a0 | a1 =>
  have hr := rg_spec (0 - wvI h l)
  have hw : wvI h l = h * 18446744073709551616 + l := rfl
  first
  | (rw [show rgE (0 - wvI h l) = 2 by omega, gd_n (by decide), gd_n (by decide)]; rfl)
  | (rw [show wvI (-1 - h) (18446744073709551615 - l) + wvI (1 / 18446744073709551616) (1 % 18446744073709551616) = 0 - wvI h l by (unfold wvI; omega)]; done)
  | skip
theorem wag_wneg : wac_wneg.Good Tryd.prog syG (waE [] [] [] []) := good_of_walk (Γ := ⟨[wac_wflip, wac_wof, wac_wadd], syG, [], [], []⟩) (ρ := waE [] [] [] []) sym wneg_w rfl (fun _ _ _ _ => (ok_cons (Con.Good.env wag_wflip _ _ _ _) (ok_cons (Con.Good.env wag_wof _ _ _ _) (ok_cons (Con.Good.env wag_wadd _ _ _ _) ok_nil)))) wneg_h
def wcmp_tree : Tree :=
 (.br (an_ (eq_ v0_ v2_) (eq_ v1_ v3_))
 (.ret (.int .i64 (.lit 0)))
 (.br (lt_ v0_ v2_)
 (.ret (.int .i64 (.lit (-1))))
 (.br (eq_ v0_ v2_)
 (.br (lt_ v1_ v3_)
 (.ret (.int .i64 (.lit (-1))))
 (.ret (.int .i64 (.lit 1))))
 (.ret (.int .i64 (.lit 1))))))
abbrev wac_wcmp : Con := ⟨20, [xwasumsk7_, (.agg (.cons z2_ (.cons (.int .u64 v3_) .nil)))], xwasumsk6_, (.int .i64 (.iapp 13 (.cons (.int .i64 (sb_ xwasumsk3_ (.iapp 3 (.cons z2_ (.cons z3_ .nil))))) .nil))), ⟨4, 0, 0, 0⟩, none⟩
theorem wcmp_w : walk Tryd.prog 142 ⟨[], syG, [], [], []⟩ [] .v wac_wcmp wac_wcmp.n 3000 = some wcmp_tree := by kernel_rfl
theorem wcmp_h (h l k o : Int) : Hyp_ wac_wcmp wcmp_tree (waE [h, l, k, o] [] [] []) := by
 intro hc hty
 simp only [wac_wcmp, Sy.holds, waE, denV, denI, denB, denL, I2.den, VOp.den, List.getD_cons_zero, List.getD_cons_succ, Cst.den, syso, syse, syio, sybo, B2.ofInts, B2.denI, B2.denB, if_true, Bool.false_eq_true, if_false, Nat.div_one, Nat.mul_one, Nat.add_zero] at hc
 simp only [wac_wcmp, patsTyp, patTyp, patTypL, waE, denV, denL, List.getD_cons_zero, List.getD_cons_succ, and_true, true_and] at hty
 unfold wcmp_tree
 simp only [wac_wcmp, Tree.holds, Sy.holds, waE, denV, denI, denB, denL, I2.den, VOp.den, List.getD_cons_zero, List.getD_cons_succ, Cst.den, syso, syse, syio, sybo, wai_wv, wai_cp, B2.ofInts, B2.denI, B2.denB, if_true, Bool.false_eq_true, if_false, Nat.div_one, Nat.mul_one, Nat.add_zero]
 refine ⟨fun h0 => ?_, fun h0 => ?_⟩
 refine ?a0; rotate_left
 refine ⟨fun h1 => ?_, fun h1 => ?_⟩
 refine ?a1; rotate_left
 refine ⟨fun h2 => ?_, fun h2 => ?_⟩
 refine ⟨fun h3 => ?_, fun h3 => ?_⟩
 refine ?a2; rotate_left
 refine ?a3; rotate_left
 refine ?a4; rotate_left
 case a0 | a1 | a2 | a3 | a4 =>
  have hs := cp_spec (wvI h l - wvI k o)
  have e1 : wvI h l = h * 18446744073709551616 + l := rfl
  have e2 : wvI k o = k * 18446744073709551616 + o := rfl
  first
  | (rw [show cpI (wvI h l - wvI k o) = 0 by omega]; done)
  | (rw [show cpI (wvI h l - wvI k o) = -1 by omega]; done)
  | (rw [show cpI (wvI h l - wvI k o) = 1 by omega]; done)
  | skip
theorem wag_wcmp : wac_wcmp.Good Tryd.prog syG (waE [] [] [] []) := good_of_walk (Γ := ⟨[], syG, [], [], []⟩) (ρ := waE [] [] [] []) sym wcmp_w rfl (fun _ _ _ _ => ok_nil) wcmp_h
abbrev wac_num : Con := ⟨19, [(.err v0_)], (.tt true), z0_, ⟨1, 0, 0, 0⟩, none⟩
theorem wag_num : wac_num.Good Tryd.prog syG (waE [] [] [] []) := good_flat rfl rfl rfl (by
 intro n hc β ok w hG
 have hc' := hc
 simp only [Tree.holds, Sy.holds, AllN, Env.more, waE, List.cons_append, List.nil_append, List.append_nil, denV, denI, denB, denL, I2.den, VOp.den, List.getD_cons_zero, List.getD_cons_succ, Cst.den, syso, syse, syio, sybo, List.map_nil, List.map_cons, B2.ofInts, B2.denI, B2.denB, if_true, Bool.false_eq_true, if_false, Nat.div_one, Nat.mul_one, Nat.add_zero, holds] at hc
 exact num02_any2 n w (hG _ (List.mem_singleton.2 rfl)).2.2)
end Go.Proofs.YtgondiedehjkhaaDoor
