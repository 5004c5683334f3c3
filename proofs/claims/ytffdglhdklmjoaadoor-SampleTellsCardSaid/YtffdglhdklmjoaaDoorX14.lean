/-
  Layer 14 by symbolic walks: the program and the reference tell the same of any sample.
-/
import Derived.Test.YtffdglhdklmjoaaDoorSx
import Derived.Test.YtffdglhdklmjoaaDoorX01
import Derived.Test.YtffdglhdklmjoaaDoorW14d
import Derived.Test.YtffdglhdklmjoaaDoorW13
import Derived.Test.YtffdglhdklmjoaaDoorW02u
namespace Go.Proofs.YtffdglhdklmjoaaDoor
open Go.RowKit Go.Extern.Stop Go.Stop Go.Extern Go.Proofs.YtffdglhdklmjoaaDoor.Sx
set_option linter.unusedVariables false
set_option linter.unusedSimpArgs false
instance (A C S G E : Int) : Decidable (OkS A C S G E) := by unfold OkS; infer_instance
instance (A C S G E rho : Int) : Decidable (OkR A C S G E rho) := by unfold OkR; infer_instance
def ckS (A C S G E : Int) : Int := if OkS A C S G E then 0 else 1
def ckR (A C S G E rho : Int) : Int := if OkR A C S G E rho then 0 else 1
def ofLo (A C S G E rho : Int) : Int := if OkR A C S G E rho then sat (S - G - (E + mU rho (G - A))) else 0
def ofHi (A C S G E rho : Int) : Int := if OkR A C S G E rho then sat (C - A + (E + mU rho (G - A))) else 0
def toE (A C S G E rho now : Int) : Int := if OkR A C S G E rho then (if 4611686018427387904 ≤ now then 1 else if now < G then 10 else 0) else 1
def toLo (A C S G E rho now : Int) : Int := if toE A C S G E rho now = 0 then sat (sat (ofLo A C S G E rho + now) - mU rho (now - G)) else 0
def toHi (A C S G E rho now : Int) : Int := if toE A C S G E rho now = 0 then sat (sat (ofHi A C S G E rho + now) + mU rho (now - G)) else 0
theorem ckS_spec (A C S G E : Int) : (ckS A C S G E = 0 ∧ -4611686018427387904 < A ∧ A < 4611686018427387904 ∧ -4611686018427387904 < C ∧ C < 4611686018427387904 ∧ -4611686018427387904 < S ∧ S < 4611686018427387904 ∧ -4611686018427387904 < G ∧ G < 4611686018427387904 ∧ 0 ≤ E ∧ E ≤ 1099511627776 ∧ 0 ≤ G - A ∧ 0 ≤ S - C ∧ G - A ≤ 1099511627776 ∧ S - C ≤ G - A) ∨
    (ckS A C S G E = 1 ∧ ¬ (-4611686018427387904 < A ∧ A < 4611686018427387904 ∧ -4611686018427387904 < C ∧ C < 4611686018427387904 ∧ -4611686018427387904 < S ∧ S < 4611686018427387904 ∧ -4611686018427387904 < G ∧ G < 4611686018427387904 ∧ 0 ≤ E ∧ E ≤ 1099511627776 ∧ 0 ≤ G - A ∧ 0 ≤ S - C ∧ G - A ≤ 1099511627776 ∧ S - C ≤ G - A)) := by
  unfold ckS
  by_cases h : OkS A C S G E
  · rw [if_pos h]; unfold OkS at h; left; omega
  · rw [if_neg h]; unfold OkS at h; right; omega
def dlS (A C S G E : Int) : Int := if OkS A C S G E then G - A - (S - C) else 0
theorem dlS_spec (A C S G E : Int) : (ckS A C S G E = 0 ∧ dlS A C S G E = G - A - (S - C)) ∨ (ckS A C S G E = 1 ∧ dlS A C S G E = 0) := by
  unfold ckS dlS
  by_cases h : OkS A C S G E
  · rw [if_pos h, if_pos h]; exact .inl ⟨rfl, rfl⟩
  · rw [if_neg h, if_neg h]; exact .inr ⟨rfl, rfl⟩
theorem check_x (A C S G E : Int) (w : World) (iA : InR A) (iC : InR C) (iS : InR S) (iG : InR G) (iE : InR E) : Calls Tryd.prog 88 #[.agg #[.int .i64 A, .int .i64 C, .int .i64 S, .int .i64 G, .int .i64 E]] w fun e w' => e = .returned (errVal 150 (ckS A C S G E)) ∧ Below w.heap.size w w' := by
  unfold ckS
  by_cases h : OkS A C S G E
  · rw [if_pos h]; exact scheck_yes A C S G E w h
  · rw [if_neg h]; exact scheck_no A C S G E w iA iC iS iG iE h
theorem delay_x (A C S G E : Int) (w : World) (iA : InR A) (iC : InR C) (iS : InR S) (iG : InR G) (iE : InR E) : Calls Tryd.prog 87 #[.agg #[.int .i64 A, .int .i64 C, .int .i64 S, .int .i64 G, .int .i64 E]] w fun e w' => e = .returned (.tuple #[.int .i64 (dlS A C S G E), errVal 150 (ckS A C S G E)]) ∧ Below w.heap.size w w' := by
  unfold ckS dlS
  by_cases h : OkS A C S G E
  · rw [if_pos h, if_pos h]; exact delay_ok A C S G E w h.1 h.2.1 h.2.2.1 h.2.2.2.1 ⟨h.2.2.2.2.1, h.2.2.2.2.2.1⟩ h.2.2.2.2.2.2.1 h.2.2.2.2.2.2.2.2.1 h.2.2.2.2.2.2.2.1 h.2.2.2.2.2.2.2.2.2
  · rw [if_neg h, if_neg h]; exact delay_no A C S G E w iA iC iS iG iE h
theorem of_x (A C S G E rho : Int) (w : World) (iA : InR A) (iC : InR C) (iS : InR S) (iG : InR G) (iE : InR E) : Calls Tryd.prog 83 #[.agg #[.int .i64 A, .int .i64 C, .int .i64 S, .int .i64 G, .int .i64 E], .int .i64 rho] w fun e w' => e = .returned (.tuple #[.agg #[.int .i64 (ofLo A C S G E rho), .int .i64 (ofHi A C S G E rho)], errVal 150 (ckR A C S G E rho)]) ∧ Below w.heap.size w w' := by
  unfold ofLo ofHi ckR
  by_cases h : OkR A C S G E rho
  · rw [if_pos h, if_pos h, if_pos h]; exact of_yes A C S G E rho _ w h rfl
  · rw [if_neg h, if_neg h, if_neg h]; exact of_no A C S G E rho w iA iC iS iG iE h
theorem told_x (A C S G E rho now : Int) (w : World) (iA : InR A) (iC : InR C) (iS : InR S) (iG : InR G) (iE : InR E) (iN : InR now) : Calls Tryd.prog 85 #[.agg #[.int .i64 A, .int .i64 C, .int .i64 S, .int .i64 G, .int .i64 E], .int .i64 rho, .int .i64 now] w fun e w' => e = .returned (.tuple #[.agg #[.int .i64 (toLo A C S G E rho now), .int .i64 (toHi A C S G E rho now)], errVal 150 (toE A C S G E rho now)]) ∧ Below w.heap.size w w' := by
  unfold toLo toHi
  by_cases h : OkR A C S G E rho
  · by_cases h1 : 4611686018427387904 ≤ now
    · have e : toE A C S G E rho now = 1 := by unfold toE; rw [if_pos h, if_pos h1]
      rw [e]; exact told_late A C S G E rho now w iA iC iS iG iE iN h h1
    · by_cases h2 : now < G
      · have e : toE A C S G E rho now = 10 := by unfold toE; rw [if_pos h, if_neg h1, if_pos h2]
        rw [e]; exact told_p A C S G E rho now w h iN h2
      · have e : toE A C S G E rho now = 0 := by unfold toE; rw [if_pos h, if_neg h1, if_neg h2]
        rw [e, if_pos rfl, if_pos rfl]
        unfold ofLo ofHi
        rw [if_pos h, if_pos h]
        exact told_yes A C S G E rho now _ _ w h iN (by omega) (by omega) rfl rfl
  · have e : toE A C S G E rho now = 1 := by unfold toE; rw [if_neg h]
    rw [e]; exact told_no A C S G E rho now w iA iC iS iG iE iN h
def x14I : Nat → List Value → Int
  | 0, [.int _ a, .int _ c, .int _ s, .int _ g, .int _ e] => ckS a c s g e
  | 1, [.int _ a, .int _ c, .int _ s, .int _ g, .int _ e, .int _ r] => ckR a c s g e r
  | 2, [.int _ a, .int _ c, .int _ s, .int _ g, .int _ e, .int _ r] => ofLo a c s g e r
  | 3, [.int _ a, .int _ c, .int _ s, .int _ g, .int _ e, .int _ r] => ofHi a c s g e r
  | 4, [.int _ a, .int _ c, .int _ s, .int _ g, .int _ e, .int _ r, .int _ n] => toE a c s g e r n
  | 5, [.int _ a, .int _ c, .int _ s, .int _ g, .int _ e, .int _ r, .int _ n] => toLo a c s g e r n
  | 6, [.int _ a, .int _ c, .int _ s, .int _ g, .int _ e, .int _ r, .int _ n] => toHi a c s g e r n
  | 7, [.int _ a, .int _ c, .int _ s, .int _ g, .int _ e] => dlS a c s g e
  | 8, [.int _ r, .int _ g] => mU r g
  | 9, [.int _ a] => sat a
  | 10, [.int _ a] => svN a
  | 11, [.int _ a] => soN a
  | 12, [.int _ a, .int _ o] => bdN a o
  | _, _ => 0
def x14B : Nat → List Value → Bool
  | _, _ => false
def x14V : Nat → List Value → Value
  | _, _ => Go.undef
abbrev x14E (iv : List Int) (bv : List Bool) (vv : List Value) (sv : List ByteArray) : Env := { iv := iv, bv := bv, vv := vv, sv := sv, fi := x14I, fb := x14B, fv := x14V, et := 150 }
theorem x14m : Tryd.prog.follows .mixedOrders = true := by kernel_rfl
abbrev x14c_check : Con := ⟨88, [(.agg (.cons (.int .i64 (.var 0)) (.cons (.int .i64 (.var 1)) (.cons (.int .i64 (.var 2)) (.cons (.int .i64 (.var 3)) (.cons (.int .i64 (.var 4)) .nil))))))], (.b2 .and (.b2 .and (.b2 .le (.lit (-9223372036854775808)) (.var 0)) (.b2 .le (.var 0) (.lit (9223372036854775807)))) (.b2 .and (.b2 .and (.b2 .le (.lit (-9223372036854775808)) (.var 1)) (.b2 .le (.var 1) (.lit (9223372036854775807)))) (.b2 .and (.b2 .and (.b2 .le (.lit (-9223372036854775808)) (.var 2)) (.b2 .le (.var 2) (.lit (9223372036854775807)))) (.b2 .and (.b2 .and (.b2 .le (.lit (-9223372036854775808)) (.var 3)) (.b2 .le (.var 3) (.lit (9223372036854775807)))) (.b2 .and (.b2 .le (.lit (-9223372036854775808)) (.var 4)) (.b2 .le (.var 4) (.lit (9223372036854775807)))))))), (.err (.iapp 0 (.cons (.int .i64 (.var 0)) (.cons (.int .i64 (.var 1)) (.cons (.int .i64 (.var 2)) (.cons (.int .i64 (.var 3)) (.cons (.int .i64 (.var 4)) .nil)))))))⟩
theorem x14g_check (iv : List Int) (bv : List Bool) (vv : List Value) (sv : List ByteArray) (W : World) : x14c_check.Good Tryd.prog (x14E iv bv vv sv) W := by
  intro iv bv vv sv β hc w hb
  exact check_x (iv.getD 0 0) (iv.getD 1 0) (iv.getD 2 0) (iv.getD 3 0) (iv.getD 4 0) w hc.1 hc.2.1 hc.2.2.1 hc.2.2.2.1 hc.2.2.2.2
abbrev x14c_delay : Con := ⟨87, [(.agg (.cons (.int .i64 (.var 0)) (.cons (.int .i64 (.var 1)) (.cons (.int .i64 (.var 2)) (.cons (.int .i64 (.var 3)) (.cons (.int .i64 (.var 4)) .nil))))))], (.b2 .and (.b2 .and (.b2 .le (.lit (-9223372036854775808)) (.var 0)) (.b2 .le (.var 0) (.lit (9223372036854775807)))) (.b2 .and (.b2 .and (.b2 .le (.lit (-9223372036854775808)) (.var 1)) (.b2 .le (.var 1) (.lit (9223372036854775807)))) (.b2 .and (.b2 .and (.b2 .le (.lit (-9223372036854775808)) (.var 2)) (.b2 .le (.var 2) (.lit (9223372036854775807)))) (.b2 .and (.b2 .and (.b2 .le (.lit (-9223372036854775808)) (.var 3)) (.b2 .le (.var 3) (.lit (9223372036854775807)))) (.b2 .and (.b2 .le (.lit (-9223372036854775808)) (.var 4)) (.b2 .le (.var 4) (.lit (9223372036854775807)))))))), (.tup (.cons (.int .i64 (.iapp 7 (.cons (.int .i64 (.var 0)) (.cons (.int .i64 (.var 1)) (.cons (.int .i64 (.var 2)) (.cons (.int .i64 (.var 3)) (.cons (.int .i64 (.var 4)) .nil))))))) (.cons (.err (.iapp 0 (.cons (.int .i64 (.var 0)) (.cons (.int .i64 (.var 1)) (.cons (.int .i64 (.var 2)) (.cons (.int .i64 (.var 3)) (.cons (.int .i64 (.var 4)) .nil))))))) .nil)))⟩
theorem x14g_delay (iv : List Int) (bv : List Bool) (vv : List Value) (sv : List ByteArray) (W : World) : x14c_delay.Good Tryd.prog (x14E iv bv vv sv) W := by
  intro iv bv vv sv β hc w hb
  exact delay_x (iv.getD 0 0) (iv.getD 1 0) (iv.getD 2 0) (iv.getD 3 0) (iv.getD 4 0) w hc.1 hc.2.1 hc.2.2.1 hc.2.2.2.1 hc.2.2.2.2
abbrev x14c_of : Con := ⟨83, [(.agg (.cons (.int .i64 (.var 0)) (.cons (.int .i64 (.var 1)) (.cons (.int .i64 (.var 2)) (.cons (.int .i64 (.var 3)) (.cons (.int .i64 (.var 4)) .nil)))))), (.int .i64 (.var 5))], (.b2 .and (.b2 .and (.b2 .le (.lit (-9223372036854775808)) (.var 0)) (.b2 .le (.var 0) (.lit (9223372036854775807)))) (.b2 .and (.b2 .and (.b2 .le (.lit (-9223372036854775808)) (.var 1)) (.b2 .le (.var 1) (.lit (9223372036854775807)))) (.b2 .and (.b2 .and (.b2 .le (.lit (-9223372036854775808)) (.var 2)) (.b2 .le (.var 2) (.lit (9223372036854775807)))) (.b2 .and (.b2 .and (.b2 .le (.lit (-9223372036854775808)) (.var 3)) (.b2 .le (.var 3) (.lit (9223372036854775807)))) (.b2 .and (.b2 .le (.lit (-9223372036854775808)) (.var 4)) (.b2 .le (.var 4) (.lit (9223372036854775807)))))))), (.tup (.cons (.agg (.cons (.int .i64 (.iapp 2 (.cons (.int .i64 (.var 0)) (.cons (.int .i64 (.var 1)) (.cons (.int .i64 (.var 2)) (.cons (.int .i64 (.var 3)) (.cons (.int .i64 (.var 4)) (.cons (.int .i64 (.var 5)) .nil)))))))) (.cons (.int .i64 (.iapp 3 (.cons (.int .i64 (.var 0)) (.cons (.int .i64 (.var 1)) (.cons (.int .i64 (.var 2)) (.cons (.int .i64 (.var 3)) (.cons (.int .i64 (.var 4)) (.cons (.int .i64 (.var 5)) .nil)))))))) .nil))) (.cons (.err (.iapp 1 (.cons (.int .i64 (.var 0)) (.cons (.int .i64 (.var 1)) (.cons (.int .i64 (.var 2)) (.cons (.int .i64 (.var 3)) (.cons (.int .i64 (.var 4)) (.cons (.int .i64 (.var 5)) .nil)))))))) .nil)))⟩
theorem x14g_of (iv : List Int) (bv : List Bool) (vv : List Value) (sv : List ByteArray) (W : World) : x14c_of.Good Tryd.prog (x14E iv bv vv sv) W := by
  intro iv bv vv sv β hc w hb
  exact of_x (iv.getD 0 0) (iv.getD 1 0) (iv.getD 2 0) (iv.getD 3 0) (iv.getD 4 0) (iv.getD 5 0) w hc.1 hc.2.1 hc.2.2.1 hc.2.2.2.1 hc.2.2.2.2
abbrev x14c_told : Con := ⟨85, [(.agg (.cons (.int .i64 (.var 0)) (.cons (.int .i64 (.var 1)) (.cons (.int .i64 (.var 2)) (.cons (.int .i64 (.var 3)) (.cons (.int .i64 (.var 4)) .nil)))))), (.int .i64 (.var 5)), (.int .i64 (.var 6))], (.b2 .and (.b2 .and (.b2 .le (.lit (-9223372036854775808)) (.var 0)) (.b2 .le (.var 0) (.lit (9223372036854775807)))) (.b2 .and (.b2 .and (.b2 .le (.lit (-9223372036854775808)) (.var 1)) (.b2 .le (.var 1) (.lit (9223372036854775807)))) (.b2 .and (.b2 .and (.b2 .le (.lit (-9223372036854775808)) (.var 2)) (.b2 .le (.var 2) (.lit (9223372036854775807)))) (.b2 .and (.b2 .and (.b2 .le (.lit (-9223372036854775808)) (.var 3)) (.b2 .le (.var 3) (.lit (9223372036854775807)))) (.b2 .and (.b2 .and (.b2 .le (.lit (-9223372036854775808)) (.var 4)) (.b2 .le (.var 4) (.lit (9223372036854775807)))) (.b2 .and (.b2 .le (.lit (-9223372036854775808)) (.var 6)) (.b2 .le (.var 6) (.lit (9223372036854775807))))))))), (.tup (.cons (.agg (.cons (.int .i64 (.iapp 5 (.cons (.int .i64 (.var 0)) (.cons (.int .i64 (.var 1)) (.cons (.int .i64 (.var 2)) (.cons (.int .i64 (.var 3)) (.cons (.int .i64 (.var 4)) (.cons (.int .i64 (.var 5)) (.cons (.int .i64 (.var 6)) .nil))))))))) (.cons (.int .i64 (.iapp 6 (.cons (.int .i64 (.var 0)) (.cons (.int .i64 (.var 1)) (.cons (.int .i64 (.var 2)) (.cons (.int .i64 (.var 3)) (.cons (.int .i64 (.var 4)) (.cons (.int .i64 (.var 5)) (.cons (.int .i64 (.var 6)) .nil))))))))) .nil))) (.cons (.err (.iapp 4 (.cons (.int .i64 (.var 0)) (.cons (.int .i64 (.var 1)) (.cons (.int .i64 (.var 2)) (.cons (.int .i64 (.var 3)) (.cons (.int .i64 (.var 4)) (.cons (.int .i64 (.var 5)) (.cons (.int .i64 (.var 6)) .nil))))))))) .nil)))⟩
theorem x14g_told (iv : List Int) (bv : List Bool) (vv : List Value) (sv : List ByteArray) (W : World) : x14c_told.Good Tryd.prog (x14E iv bv vv sv) W := by
  intro iv bv vv sv β hc w hb
  exact told_x (iv.getD 0 0) (iv.getD 1 0) (iv.getD 2 0) (iv.getD 3 0) (iv.getD 4 0) (iv.getD 5 0) (iv.getD 6 0) w hc.1 hc.2.1 hc.2.2.1 hc.2.2.2.1 hc.2.2.2.2.1 (hc.2.2.2.2.2)
def rtime_x_tree : Tree :=
 (.br (.b2 .lt (.lit (-4611686018427387904)) (.var 0))
 (.ret (.bool (.b2 .lt (.var 0) (.lit (4611686018427387904)))))
 (.ret (.bool (.tt false))))
theorem rtime_x_w : walk Tryd.prog 150 [] [] 124 [(.int .i64 (.var 0))] ⟨1, 0, 0, 0⟩ 2000 = some rtime_x_tree := by kernel_rfl
theorem rtime_x_h (t : Int)  : rtime_x_tree.holds (fun v => v = .bool (decide (-4611686018427387904 < t) && decide (t < 4611686018427387904))) (x14E [t] [] [] []) := by
  unfold rtime_x_tree
  simp only [Tree.holds, Sx.holds, denV, denI, denB, denL, I2.den, x14I, x14B, x14V, List.getD_cons_zero, List.getD_cons_succ, Cst.den, B2.ofInts, B2.denI, B2.denB, if_true, Bool.false_eq_true, if_false]
  repeat' (first | (refine ⟨fun h => ?_, fun h => ?_⟩) | intro h)
  all_goals (simp only [Value.bool.injEq]; rw [Bool.eq_iff_iff]; simp only [Bool.and_eq_true, Bool.or_eq_true, Bool.not_eq_true', decide_eq_true_eq, beq_iff_eq, decide_eq_false_iff_not, true_iff, iff_true, iff_false, Bool.false_eq_true, false_iff]; omega)
theorem rtime_x (t : Int)  (w : World) : Calls Tryd.prog 124 #[.int .i64 t] w fun e w' => e = .returned (.bool (decide (-4611686018427387904 < t) && decide (t < 4611686018427387904))) ∧ Below w.heap.size w w' := by
  have h := calls_by (n := ⟨1, 0, 0, 0⟩) (x14E [t] [] [] []) (vs := [.int .i64 t]) (W := w) x14m rtime_x_w rfl ⟨rfl, rfl, rfl, rfl⟩ good_nil (rtime_x_h t ) rfl
  exact calls_eq h
abbrev x14c_rtime : Con := ⟨124, [(.int .i64 (.var 0))], (.tt true), (.bool (.b2 .and (.b2 .lt (.lit (-4611686018427387904)) (.var 0)) (.b2 .lt (.var 0) (.lit (4611686018427387904)))))⟩
theorem x14g_rtime (iv : List Int) (bv : List Bool) (vv : List Value) (sv : List ByteArray) (W : World) : x14c_rtime.Good Tryd.prog (x14E iv bv vv sv) W := by
  intro iv bv vv sv β hc w hb
  exact rtime_x (iv.getD 0 0) w
def rmay_x_tree : Tree :=
 (.br (.not (.b2 .and (.b2 .lt (.lit (-4611686018427387904)) (.var 0)) (.b2 .lt (.var 0) (.lit (4611686018427387904)))))
 (.ret (.bool (.tt false)))
 (.br (.not (.b2 .and (.b2 .lt (.lit (-4611686018427387904)) (.var 1)) (.b2 .lt (.var 1) (.lit (4611686018427387904)))))
 (.ret (.bool (.tt false)))
 (.br (.not (.b2 .and (.b2 .lt (.lit (-4611686018427387904)) (.var 2)) (.b2 .lt (.var 2) (.lit (4611686018427387904)))))
 (.ret (.bool (.tt false)))
 (.br (.not (.b2 .and (.b2 .lt (.lit (-4611686018427387904)) (.var 3)) (.b2 .lt (.var 3) (.lit (4611686018427387904)))))
 (.ret (.bool (.tt false)))
 (.br (.b2 .lt (.var 4) (.lit (0)))
 (.ret (.bool (.tt false)))
 (.br (.b2 .lt (.lit (1099511627776)) (.var 4))
 (.ret (.bool (.tt false)))
 (.br (.b2 .le (.lit (0)) (.wrap .i64 (.i2 .sub (.var 3) (.var 0))))
 (.br (.b2 .le (.lit (0)) (.wrap .i64 (.i2 .sub (.var 2) (.var 1))))
 (.br (.b2 .le (.wrap .i64 (.i2 .sub (.var 3) (.var 0))) (.lit (1099511627776)))
 (.ret (.bool (.b2 .le (.wrap .i64 (.i2 .sub (.var 2) (.var 1))) (.wrap .i64 (.i2 .sub (.var 3) (.var 0))))))
 (.ret (.bool (.tt false))))
 (.ret (.bool (.tt false))))
 (.ret (.bool (.tt false))))))))))
theorem rmay_x_w : walk Tryd.prog 150 [x14c_rtime] [] 89 [(.agg (.cons (.int .i64 (.var 0)) (.cons (.int .i64 (.var 1)) (.cons (.int .i64 (.var 2)) (.cons (.int .i64 (.var 3)) (.cons (.int .i64 (.var 4)) .nil))))))] ⟨5, 0, 0, 0⟩ 2000 = some rmay_x_tree := by kernel_rfl
theorem rmay_x_h (A : Int) (C : Int) (S : Int) (G : Int) (E : Int) (iA : InR A) (iC : InR C) (iS : InR S) (iG : InR G) (iE : InR E) : rmay_x_tree.holds (fun v => v = .bool (ckS A C S G E == 0)) (x14E [A, C, S, G, E] [] [] []) := by
  unfold rmay_x_tree
  simp only [Tree.holds, Sx.holds, denV, denI, denB, denL, I2.den, x14I, x14B, x14V, List.getD_cons_zero, List.getD_cons_succ, Cst.den, B2.ofInts, B2.denI, B2.denB, if_true, Bool.false_eq_true, if_false]
  have wf0 := wr_i64 (G - A)
  have wf1 := wr_i64 (S - C)
  have ff0 := ckS_spec A C S G E
  repeat' (first | (refine ⟨fun h => ?_, fun h => ?_⟩) | intro h)
  all_goals (simp only [Value.bool.injEq]; rw [Bool.eq_iff_iff]; simp only [Bool.and_eq_true, Bool.or_eq_true, Bool.not_eq_true', decide_eq_true_eq, beq_iff_eq, decide_eq_false_iff_not, true_iff, iff_true, iff_false, Bool.false_eq_true, false_iff]; omega)
theorem rmay_x (A : Int) (C : Int) (S : Int) (G : Int) (E : Int) (iA : InR A) (iC : InR C) (iS : InR S) (iG : InR G) (iE : InR E) (w : World) : Calls Tryd.prog 89 #[.agg #[.int .i64 A, .int .i64 C, .int .i64 S, .int .i64 G, .int .i64 E]] w fun e w' => e = .returned (.bool (ckS A C S G E == 0)) ∧ Below w.heap.size w w' := by
  have h := calls_by (n := ⟨5, 0, 0, 0⟩) (x14E [A, C, S, G, E] [] [] []) (vs := [.agg #[.int .i64 A, .int .i64 C, .int .i64 S, .int .i64 G, .int .i64 E]]) (W := w) x14m rmay_x_w rfl ⟨rfl, rfl, rfl, rfl⟩ (good_cons (x14g_rtime _ _ _ _ _) good_nil) (rmay_x_h A C S G E iA iC iS iG iE) rfl
  exact calls_eq h
abbrev x14c_rmay : Con := ⟨89, [(.agg (.cons (.int .i64 (.var 0)) (.cons (.int .i64 (.var 1)) (.cons (.int .i64 (.var 2)) (.cons (.int .i64 (.var 3)) (.cons (.int .i64 (.var 4)) .nil))))))], (.b2 .and (.b2 .and (.b2 .le (.lit (-9223372036854775808)) (.var 0)) (.b2 .le (.var 0) (.lit (9223372036854775807)))) (.b2 .and (.b2 .and (.b2 .le (.lit (-9223372036854775808)) (.var 1)) (.b2 .le (.var 1) (.lit (9223372036854775807)))) (.b2 .and (.b2 .and (.b2 .le (.lit (-9223372036854775808)) (.var 2)) (.b2 .le (.var 2) (.lit (9223372036854775807)))) (.b2 .and (.b2 .and (.b2 .le (.lit (-9223372036854775808)) (.var 3)) (.b2 .le (.var 3) (.lit (9223372036854775807)))) (.b2 .and (.b2 .le (.lit (-9223372036854775808)) (.var 4)) (.b2 .le (.var 4) (.lit (9223372036854775807)))))))), (.bool (.b2 .eq (.iapp 0 (.cons (.int .i64 (.var 0)) (.cons (.int .i64 (.var 1)) (.cons (.int .i64 (.var 2)) (.cons (.int .i64 (.var 3)) (.cons (.int .i64 (.var 4)) .nil)))))) (.lit (0))))⟩
theorem x14g_rmay (iv : List Int) (bv : List Bool) (vv : List Value) (sv : List ByteArray) (W : World) : x14c_rmay.Good Tryd.prog (x14E iv bv vv sv) W := by
  intro iv bv vv sv β hc w hb
  exact rmay_x (iv.getD 0 0) (iv.getD 1 0) (iv.getD 2 0) (iv.getD 3 0) (iv.getD 4 0) hc.1 hc.2.1 hc.2.2.1 hc.2.2.2.1 hc.2.2.2.2 w
theorem mU_fact (rho gone : Int) : ¬ (0 ≤ rho ∧ rho ≤ 1048576 ∧ 0 ≤ gone ∧ gone ≤ 9223372036854775807) ∨ (0 ≤ mU rho gone ∧ mU rho gone ≤ 9007199254740992) := by
  by_cases h : 0 ≤ rho ∧ rho ≤ 1048576 ∧ 0 ≤ gone ∧ gone ≤ 9223372036854775807
  · exact .inr (mU_rng h.1 h.2.1 h.2.2.1 h.2.2.2)
  · exact .inl h
abbrev x14c_rmore : Con := ⟨118, [(.int .i64 (.var 0)), (.int .i64 (.var 1))], (.b2 .and (.b2 .le (.lit (0)) (.var 0)) (.b2 .and (.b2 .le (.var 0) (.lit (1048576))) (.b2 .and (.b2 .le (.lit (0)) (.var 1)) (.b2 .le (.var 1) (.lit (9223372036854775807)))))), (.int .i64 (.iapp 8 (.cons (.int .i64 (.var 0)) (.cons (.int .i64 (.var 1)) .nil))))⟩
theorem x14g_rmore (iv : List Int) (bv : List Bool) (vv : List Value) (sv : List ByteArray) (W : World) : x14c_rmore.Good Tryd.prog (x14E iv bv vv sv) W := by
  intro iv bv vv sv β hc w hb
  exact rmore14 (iv.getD 0 0) (iv.getD 1 0) w hc.1 (Int.le_trans (show (iv.getD 0 0) ≤ 1048576 from hc.2.1) (by decide)) hc.2.2.1 hc.2.2.2
abbrev x14c_rgrow : Con := ⟨119, [(.agg (.cons (.int .i64 (.var 0)) (.cons (.int .i64 (.var 1)) .nil))), (.int .i64 (.var 2))], (.b2 .and (.b2 .le (.lit (0)) (.var 2)) (.b2 .and (.b2 .and (.b2 .le (.lit (-9223372036854775808)) (.var 0)) (.b2 .le (.var 0) (.lit (9223372036854775807)))) (.b2 .and (.b2 .and (.b2 .le (.lit (-9223372036854775808)) (.var 1)) (.b2 .le (.var 1) (.lit (9223372036854775807)))) (.b2 .and (.b2 .le (.lit (-9223372036854775808)) (.var 2)) (.b2 .le (.var 2) (.lit (9223372036854775807))))))), (.agg (.cons (.int .i64 (.iapp 9 (.cons (.int .i64 (.i2 .sub (.var 0) (.var 2))) .nil))) (.cons (.int .i64 (.iapp 9 (.cons (.int .i64 (.i2 .add (.var 1) (.var 2))) .nil))) .nil)))⟩
theorem x14g_rgrow (iv : List Int) (bv : List Bool) (vv : List Value) (sv : List ByteArray) (W : World) : x14c_rgrow.Good Tryd.prog (x14E iv bv vv sv) W := by
  intro iv bv vv sv β hc w hb
  exact rgrow13 (iv.getD 0 0) (iv.getD 1 0) (iv.getD 2 0) w hc.1 hc.2.1 hc.2.2.1 hc.2.2.2
def rof_x_tree : Tree :=
 (.need (.b2 .and (.b2 .and (.b2 .le (.lit (-9223372036854775808)) (.var 0)) (.b2 .le (.var 0) (.lit (9223372036854775807)))) (.b2 .and (.b2 .and (.b2 .le (.lit (-9223372036854775808)) (.var 1)) (.b2 .le (.var 1) (.lit (9223372036854775807)))) (.b2 .and (.b2 .and (.b2 .le (.lit (-9223372036854775808)) (.var 2)) (.b2 .le (.var 2) (.lit (9223372036854775807)))) (.b2 .and (.b2 .and (.b2 .le (.lit (-9223372036854775808)) (.var 3)) (.b2 .le (.var 3) (.lit (9223372036854775807)))) (.b2 .and (.b2 .le (.lit (-9223372036854775808)) (.var 4)) (.b2 .le (.var 4) (.lit (9223372036854775807))))))))
 (.br (.not (.b2 .eq (.iapp 0 (.cons (.int .i64 (.var 0)) (.cons (.int .i64 (.var 1)) (.cons (.int .i64 (.var 2)) (.cons (.int .i64 (.var 3)) (.cons (.int .i64 (.var 4)) .nil)))))) (.lit (0))))
 (.ret (.tup (.cons (.agg (.cons (.int .i64 (.lit (0))) (.cons (.int .i64 (.lit (0))) .nil))) (.cons (.int .i64 (.lit (1))) .nil))))
 (.br (.b2 .lt (.var 5) (.lit (0)))
 (.ret (.tup (.cons (.agg (.cons (.int .i64 (.lit (0))) (.cons (.int .i64 (.lit (0))) .nil))) (.cons (.int .i64 (.lit (1))) .nil))))
 (.br (.b2 .lt (.lit (1048576)) (.var 5))
 (.ret (.tup (.cons (.agg (.cons (.int .i64 (.lit (0))) (.cons (.int .i64 (.lit (0))) .nil))) (.cons (.int .i64 (.lit (1))) .nil))))
 (.need (.b2 .and (.b2 .le (.lit (0)) (.var 5)) (.b2 .and (.b2 .le (.var 5) (.lit (1048576))) (.b2 .and (.b2 .le (.lit (0)) (.wrap .i64 (.i2 .sub (.var 3) (.var 0)))) (.b2 .le (.wrap .i64 (.i2 .sub (.var 3) (.var 0))) (.lit (9223372036854775807))))))
 (.need (.b2 .and (.b2 .le (.lit (0)) (.wrap .i64 (.i2 .add (.var 4) (.iapp 8 (.cons (.int .i64 (.var 5)) (.cons (.int .i64 (.wrap .i64 (.i2 .sub (.var 3) (.var 0)))) .nil)))))) (.b2 .and (.b2 .and (.b2 .le (.lit (-9223372036854775808)) (.wrap .i64 (.i2 .sub (.var 2) (.var 3)))) (.b2 .le (.wrap .i64 (.i2 .sub (.var 2) (.var 3))) (.lit (9223372036854775807)))) (.b2 .and (.b2 .and (.b2 .le (.lit (-9223372036854775808)) (.wrap .i64 (.i2 .sub (.var 1) (.var 0)))) (.b2 .le (.wrap .i64 (.i2 .sub (.var 1) (.var 0))) (.lit (9223372036854775807)))) (.b2 .and (.b2 .le (.lit (-9223372036854775808)) (.wrap .i64 (.i2 .add (.var 4) (.iapp 8 (.cons (.int .i64 (.var 5)) (.cons (.int .i64 (.wrap .i64 (.i2 .sub (.var 3) (.var 0)))) .nil)))))) (.b2 .le (.wrap .i64 (.i2 .add (.var 4) (.iapp 8 (.cons (.int .i64 (.var 5)) (.cons (.int .i64 (.wrap .i64 (.i2 .sub (.var 3) (.var 0)))) .nil))))) (.lit (9223372036854775807)))))))
 (.ret (.tup (.cons (.agg (.cons (.int .i64 (.iapp 9 (.cons (.int .i64 (.i2 .sub (.wrap .i64 (.i2 .sub (.var 2) (.var 3))) (.wrap .i64 (.i2 .add (.var 4) (.iapp 8 (.cons (.int .i64 (.var 5)) (.cons (.int .i64 (.wrap .i64 (.i2 .sub (.var 3) (.var 0)))) .nil))))))) .nil))) (.cons (.int .i64 (.iapp 9 (.cons (.int .i64 (.i2 .add (.wrap .i64 (.i2 .sub (.var 1) (.var 0))) (.wrap .i64 (.i2 .add (.var 4) (.iapp 8 (.cons (.int .i64 (.var 5)) (.cons (.int .i64 (.wrap .i64 (.i2 .sub (.var 3) (.var 0)))) .nil))))))) .nil))) .nil))) (.cons (.int .i64 (.lit (0))) .nil))))))))))
theorem rof_x_w : walk Tryd.prog 150 [x14c_rmay, x14c_rmore, x14c_rgrow] [] 84 [(.agg (.cons (.int .i64 (.var 0)) (.cons (.int .i64 (.var 1)) (.cons (.int .i64 (.var 2)) (.cons (.int .i64 (.var 3)) (.cons (.int .i64 (.var 4)) .nil)))))), (.int .i64 (.var 5))] ⟨6, 0, 0, 0⟩ 2000 = some rof_x_tree := by kernel_rfl
theorem rof_x_h (A : Int) (C : Int) (S : Int) (G : Int) (E : Int) (rho : Int) (iA : InR A) (iC : InR C) (iS : InR S) (iG : InR G) (iE : InR E) (iR : InR rho) : rof_x_tree.holds (fun v => v = .tuple #[.agg #[.int .i64 (ofLo A C S G E rho), .int .i64 (ofHi A C S G E rho)], .int .i64 (ckR A C S G E rho)]) (x14E [A, C, S, G, E, rho] [] [] []) := by
  unfold rof_x_tree
  simp only [Tree.holds, Sx.holds, denV, denI, denB, denL, I2.den, x14I, x14B, x14V, List.getD_cons_zero, List.getD_cons_succ, Cst.den, B2.ofInts, B2.denI, B2.denB, if_true, Bool.false_eq_true, if_false]
  by_cases h : OkR A C S G E rho
  · have h' := h
    obtain ⟨⟨hA, hC, hS, hG, hE0, hE1, h1, h3, h2, h4⟩, r0, r1⟩ := h'
    have e1 : IntKind.wrap .i64 (G - A) = G - A := IntWalk.i64_in _ (by omega)
    have e2 : IntKind.wrap .i64 (S - G) = S - G := IntWalk.i64_in _ (by omega)
    have e3 : IntKind.wrap .i64 (C - A) = C - A := IntWalk.i64_in _ (by omega)
    have hm := mU_fact rho (G - A)
    have e4 : IntKind.wrap .i64 (E + mU rho (G - A)) = E + mU rho (G - A) := IntWalk.i64_in _ (by omega)
    have k1 : ckS A C S G E = 0 := by unfold ckS; rw [if_pos h.1]
    have k2 : ckR A C S G E rho = 0 := by unfold ckR; rw [if_pos h]
    have k3 : ofLo A C S G E rho = sat (S - G - (E + mU rho (G - A))) := by unfold ofLo; rw [if_pos h]
    have k4 : ofHi A C S G E rho = sat (C - A + (E + mU rho (G - A))) := by unfold ofHi; rw [if_pos h]
    simp only [e1, e2, e3, e4, k1, k2, k3, k4, not_true_eq_false, not_false_eq_true, false_implies, true_implies, implies_true, and_true, true_and]
    repeat' (first | (refine ⟨fun h => ?_, fun h => ?_⟩) | (refine And.intro ?_ ?_) | intro h)
    all_goals first | rfl | omega | (exfalso; omega) | trivial
  · have k2 : ckR A C S G E rho = 1 := by unfold ckR; rw [if_neg h]
    have k3 : ofLo A C S G E rho = 0 := by unfold ofLo; rw [if_neg h]
    have k4 : ofHi A C S G E rho = 0 := by unfold ofHi; rw [if_neg h]
    have k5 : ckS A C S G E = 1 ∨ (ckS A C S G E = 0 ∧ (rho < 0 ∨ 1048576 < rho)) := by
      unfold ckS
      by_cases hs : OkS A C S G E
      · rw [if_pos hs]; refine .inr ⟨rfl, ?_⟩; unfold OkR at h; by_cases hr : rho < 0 <;> by_cases hr2 : 1048576 < rho <;> first | (exact .inl hr) | (exact .inr hr2) | exact absurd ⟨hs, by omega, by omega⟩ h
      · rw [if_neg hs]; exact .inl rfl
    simp only [k2, k3, k4, not_true_eq_false, not_false_eq_true, false_implies, true_implies, implies_true, and_true, true_and]
    repeat' (first | (refine ⟨fun h => ?_, fun h => ?_⟩) | intro h)
    all_goals first | rfl | omega | (exfalso; omega) | trivial
theorem rof_x (A : Int) (C : Int) (S : Int) (G : Int) (E : Int) (rho : Int) (iA : InR A) (iC : InR C) (iS : InR S) (iG : InR G) (iE : InR E) (iR : InR rho) (w : World) : Calls Tryd.prog 84 #[.agg #[.int .i64 A, .int .i64 C, .int .i64 S, .int .i64 G, .int .i64 E], .int .i64 rho] w fun e w' => e = .returned (.tuple #[.agg #[.int .i64 (ofLo A C S G E rho), .int .i64 (ofHi A C S G E rho)], .int .i64 (ckR A C S G E rho)]) ∧ Below w.heap.size w w' := by
  have h := calls_by (n := ⟨6, 0, 0, 0⟩) (x14E [A, C, S, G, E, rho] [] [] []) (vs := [.agg #[.int .i64 A, .int .i64 C, .int .i64 S, .int .i64 G, .int .i64 E], .int .i64 rho]) (W := w) x14m rof_x_w rfl ⟨rfl, rfl, rfl, rfl⟩ (good_cons (x14g_rmay _ _ _ _ _) (good_cons (x14g_rmore _ _ _ _ _) (good_cons (x14g_rgrow _ _ _ _ _) good_nil))) (rof_x_h A C S G E rho iA iC iS iG iE iR) rfl
  exact calls_eq h
abbrev x14c_rof : Con := ⟨84, [(.agg (.cons (.int .i64 (.var 0)) (.cons (.int .i64 (.var 1)) (.cons (.int .i64 (.var 2)) (.cons (.int .i64 (.var 3)) (.cons (.int .i64 (.var 4)) .nil)))))), (.int .i64 (.var 5))], (.b2 .and (.b2 .and (.b2 .le (.lit (-9223372036854775808)) (.var 0)) (.b2 .le (.var 0) (.lit (9223372036854775807)))) (.b2 .and (.b2 .and (.b2 .le (.lit (-9223372036854775808)) (.var 1)) (.b2 .le (.var 1) (.lit (9223372036854775807)))) (.b2 .and (.b2 .and (.b2 .le (.lit (-9223372036854775808)) (.var 2)) (.b2 .le (.var 2) (.lit (9223372036854775807)))) (.b2 .and (.b2 .and (.b2 .le (.lit (-9223372036854775808)) (.var 3)) (.b2 .le (.var 3) (.lit (9223372036854775807)))) (.b2 .and (.b2 .and (.b2 .le (.lit (-9223372036854775808)) (.var 4)) (.b2 .le (.var 4) (.lit (9223372036854775807)))) (.b2 .and (.b2 .le (.lit (-9223372036854775808)) (.var 5)) (.b2 .le (.var 5) (.lit (9223372036854775807))))))))), (.tup (.cons (.agg (.cons (.int .i64 (.iapp 2 (.cons (.int .i64 (.var 0)) (.cons (.int .i64 (.var 1)) (.cons (.int .i64 (.var 2)) (.cons (.int .i64 (.var 3)) (.cons (.int .i64 (.var 4)) (.cons (.int .i64 (.var 5)) .nil)))))))) (.cons (.int .i64 (.iapp 3 (.cons (.int .i64 (.var 0)) (.cons (.int .i64 (.var 1)) (.cons (.int .i64 (.var 2)) (.cons (.int .i64 (.var 3)) (.cons (.int .i64 (.var 4)) (.cons (.int .i64 (.var 5)) .nil)))))))) .nil))) (.cons (.int .i64 (.iapp 1 (.cons (.int .i64 (.var 0)) (.cons (.int .i64 (.var 1)) (.cons (.int .i64 (.var 2)) (.cons (.int .i64 (.var 3)) (.cons (.int .i64 (.var 4)) (.cons (.int .i64 (.var 5)) .nil)))))))) .nil)))⟩
theorem x14g_rof (iv : List Int) (bv : List Bool) (vv : List Value) (sv : List ByteArray) (W : World) : x14c_rof.Good Tryd.prog (x14E iv bv vv sv) W := by
  intro iv bv vv sv β hc w hb
  exact rof_x (iv.getD 0 0) (iv.getD 1 0) (iv.getD 2 0) (iv.getD 3 0) (iv.getD 4 0) (iv.getD 5 0) hc.1 hc.2.1 hc.2.2.1 hc.2.2.2.1 hc.2.2.2.2.1 hc.2.2.2.2.2 w
abbrev x14c_rsum : Con := ⟨121, [(.int .i64 (.var 0)), (.int .i64 (.var 1))], (.b2 .and (.b2 .and (.b2 .le (.lit (-9223372036854775808)) (.var 0)) (.b2 .le (.var 0) (.lit (9223372036854775807)))) (.b2 .and (.b2 .le (.lit (-9223372036854775808)) (.var 1)) (.b2 .le (.var 1) (.lit (9223372036854775807))))), (.tup (.cons (.int .i64 (.iapp 10 (.cons (.int .i64 (.i2 .add (.var 0) (.var 1))) .nil))) (.cons (.int .i64 (.iapp 11 (.cons (.int .i64 (.i2 .add (.var 0) (.var 1))) .nil))) .nil)))⟩
theorem x14g_rsum (iv : List Int) (bv : List Bool) (vv : List Value) (sv : List ByteArray) (W : World) : x14c_rsum.Good Tryd.prog (x14E iv bv vv sv) W := by
  intro iv bv vv sv β hc w hb
  exact rsum_x (iv.getD 0 0) (iv.getD 1 0) hc.1 hc.2 w
abbrev x14c_rbd : Con := ⟨122, [(.int .i64 (.var 0)), (.int .i64 (.var 1))], (.tt true), (.int .i64 (.iapp 12 (.cons (.int .i64 (.var 0)) (.cons (.int .i64 (.var 1)) .nil))))⟩
theorem x14g_rbd (iv : List Int) (bv : List Bool) (vv : List Value) (sv : List ByteArray) (W : World) : x14c_rbd.Good Tryd.prog (x14E iv bv vv sv) W := by
  intro iv bv vv sv β hc w hb
  exact rbounded_x (iv.getD 0 0) (iv.getD 1 0) w
def rtold_x_tree : Tree :=
 (.need (.b2 .and (.b2 .and (.b2 .le (.lit (-9223372036854775808)) (.var 0)) (.b2 .le (.var 0) (.lit (9223372036854775807)))) (.b2 .and (.b2 .and (.b2 .le (.lit (-9223372036854775808)) (.var 1)) (.b2 .le (.var 1) (.lit (9223372036854775807)))) (.b2 .and (.b2 .and (.b2 .le (.lit (-9223372036854775808)) (.var 2)) (.b2 .le (.var 2) (.lit (9223372036854775807)))) (.b2 .and (.b2 .and (.b2 .le (.lit (-9223372036854775808)) (.var 3)) (.b2 .le (.var 3) (.lit (9223372036854775807)))) (.b2 .and (.b2 .and (.b2 .le (.lit (-9223372036854775808)) (.var 4)) (.b2 .le (.var 4) (.lit (9223372036854775807)))) (.b2 .and (.b2 .le (.lit (-9223372036854775808)) (.var 5)) (.b2 .le (.var 5) (.lit (9223372036854775807)))))))))
 (.br (.not (.b2 .eq (.iapp 1 (.cons (.int .i64 (.var 0)) (.cons (.int .i64 (.var 1)) (.cons (.int .i64 (.var 2)) (.cons (.int .i64 (.var 3)) (.cons (.int .i64 (.var 4)) (.cons (.int .i64 (.var 5)) .nil))))))) (.lit (0))))
 (.ret (.tup (.cons (.agg (.cons (.int .i64 (.lit (0))) (.cons (.int .i64 (.lit (0))) .nil))) (.cons (.int .i64 (.iapp 1 (.cons (.int .i64 (.var 0)) (.cons (.int .i64 (.var 1)) (.cons (.int .i64 (.var 2)) (.cons (.int .i64 (.var 3)) (.cons (.int .i64 (.var 4)) (.cons (.int .i64 (.var 5)) .nil)))))))) .nil))))
 (.br (.b2 .le (.lit (4611686018427387904)) (.var 6))
 (.ret (.tup (.cons (.agg (.cons (.int .i64 (.lit (0))) (.cons (.int .i64 (.lit (0))) .nil))) (.cons (.int .i64 (.lit (1))) .nil))))
 (.br (.b2 .lt (.var 6) (.var 3))
 (.ret (.tup (.cons (.agg (.cons (.int .i64 (.lit (0))) (.cons (.int .i64 (.lit (0))) .nil))) (.cons (.int .i64 (.lit (10))) .nil))))
 (.need (.b2 .and (.b2 .and (.b2 .le (.lit (-9223372036854775808)) (.iapp 2 (.cons (.int .i64 (.var 0)) (.cons (.int .i64 (.var 1)) (.cons (.int .i64 (.var 2)) (.cons (.int .i64 (.var 3)) (.cons (.int .i64 (.var 4)) (.cons (.int .i64 (.var 5)) .nil)))))))) (.b2 .le (.iapp 2 (.cons (.int .i64 (.var 0)) (.cons (.int .i64 (.var 1)) (.cons (.int .i64 (.var 2)) (.cons (.int .i64 (.var 3)) (.cons (.int .i64 (.var 4)) (.cons (.int .i64 (.var 5)) .nil))))))) (.lit (9223372036854775807)))) (.b2 .and (.b2 .le (.lit (-9223372036854775808)) (.var 6)) (.b2 .le (.var 6) (.lit (9223372036854775807)))))
 (.need (.b2 .and (.b2 .and (.b2 .le (.lit (-9223372036854775808)) (.iapp 3 (.cons (.int .i64 (.var 0)) (.cons (.int .i64 (.var 1)) (.cons (.int .i64 (.var 2)) (.cons (.int .i64 (.var 3)) (.cons (.int .i64 (.var 4)) (.cons (.int .i64 (.var 5)) .nil)))))))) (.b2 .le (.iapp 3 (.cons (.int .i64 (.var 0)) (.cons (.int .i64 (.var 1)) (.cons (.int .i64 (.var 2)) (.cons (.int .i64 (.var 3)) (.cons (.int .i64 (.var 4)) (.cons (.int .i64 (.var 5)) .nil))))))) (.lit (9223372036854775807)))) (.b2 .and (.b2 .le (.lit (-9223372036854775808)) (.var 6)) (.b2 .le (.var 6) (.lit (9223372036854775807)))))
 (.need (.b2 .and (.b2 .le (.lit (0)) (.var 5)) (.b2 .and (.b2 .le (.var 5) (.lit (1048576))) (.b2 .and (.b2 .le (.lit (0)) (.wrap .i64 (.i2 .sub (.var 6) (.var 3)))) (.b2 .le (.wrap .i64 (.i2 .sub (.var 6) (.var 3))) (.lit (9223372036854775807))))))
 (.need (.b2 .and (.b2 .le (.lit (0)) (.iapp 8 (.cons (.int .i64 (.var 5)) (.cons (.int .i64 (.wrap .i64 (.i2 .sub (.var 6) (.var 3)))) .nil)))) (.b2 .and (.b2 .and (.b2 .le (.lit (-9223372036854775808)) (.iapp 12 (.cons (.int .i64 (.iapp 10 (.cons (.int .i64 (.i2 .add (.iapp 2 (.cons (.int .i64 (.var 0)) (.cons (.int .i64 (.var 1)) (.cons (.int .i64 (.var 2)) (.cons (.int .i64 (.var 3)) (.cons (.int .i64 (.var 4)) (.cons (.int .i64 (.var 5)) .nil))))))) (.var 6))) .nil))) (.cons (.int .i64 (.iapp 11 (.cons (.int .i64 (.i2 .add (.iapp 2 (.cons (.int .i64 (.var 0)) (.cons (.int .i64 (.var 1)) (.cons (.int .i64 (.var 2)) (.cons (.int .i64 (.var 3)) (.cons (.int .i64 (.var 4)) (.cons (.int .i64 (.var 5)) .nil))))))) (.var 6))) .nil))) .nil)))) (.b2 .le (.iapp 12 (.cons (.int .i64 (.iapp 10 (.cons (.int .i64 (.i2 .add (.iapp 2 (.cons (.int .i64 (.var 0)) (.cons (.int .i64 (.var 1)) (.cons (.int .i64 (.var 2)) (.cons (.int .i64 (.var 3)) (.cons (.int .i64 (.var 4)) (.cons (.int .i64 (.var 5)) .nil))))))) (.var 6))) .nil))) (.cons (.int .i64 (.iapp 11 (.cons (.int .i64 (.i2 .add (.iapp 2 (.cons (.int .i64 (.var 0)) (.cons (.int .i64 (.var 1)) (.cons (.int .i64 (.var 2)) (.cons (.int .i64 (.var 3)) (.cons (.int .i64 (.var 4)) (.cons (.int .i64 (.var 5)) .nil))))))) (.var 6))) .nil))) .nil))) (.lit (9223372036854775807)))) (.b2 .and (.b2 .and (.b2 .le (.lit (-9223372036854775808)) (.iapp 12 (.cons (.int .i64 (.iapp 10 (.cons (.int .i64 (.i2 .add (.iapp 3 (.cons (.int .i64 (.var 0)) (.cons (.int .i64 (.var 1)) (.cons (.int .i64 (.var 2)) (.cons (.int .i64 (.var 3)) (.cons (.int .i64 (.var 4)) (.cons (.int .i64 (.var 5)) .nil))))))) (.var 6))) .nil))) (.cons (.int .i64 (.iapp 11 (.cons (.int .i64 (.i2 .add (.iapp 3 (.cons (.int .i64 (.var 0)) (.cons (.int .i64 (.var 1)) (.cons (.int .i64 (.var 2)) (.cons (.int .i64 (.var 3)) (.cons (.int .i64 (.var 4)) (.cons (.int .i64 (.var 5)) .nil))))))) (.var 6))) .nil))) .nil)))) (.b2 .le (.iapp 12 (.cons (.int .i64 (.iapp 10 (.cons (.int .i64 (.i2 .add (.iapp 3 (.cons (.int .i64 (.var 0)) (.cons (.int .i64 (.var 1)) (.cons (.int .i64 (.var 2)) (.cons (.int .i64 (.var 3)) (.cons (.int .i64 (.var 4)) (.cons (.int .i64 (.var 5)) .nil))))))) (.var 6))) .nil))) (.cons (.int .i64 (.iapp 11 (.cons (.int .i64 (.i2 .add (.iapp 3 (.cons (.int .i64 (.var 0)) (.cons (.int .i64 (.var 1)) (.cons (.int .i64 (.var 2)) (.cons (.int .i64 (.var 3)) (.cons (.int .i64 (.var 4)) (.cons (.int .i64 (.var 5)) .nil))))))) (.var 6))) .nil))) .nil))) (.lit (9223372036854775807)))) (.b2 .and (.b2 .le (.lit (-9223372036854775808)) (.iapp 8 (.cons (.int .i64 (.var 5)) (.cons (.int .i64 (.wrap .i64 (.i2 .sub (.var 6) (.var 3)))) .nil)))) (.b2 .le (.iapp 8 (.cons (.int .i64 (.var 5)) (.cons (.int .i64 (.wrap .i64 (.i2 .sub (.var 6) (.var 3)))) .nil))) (.lit (9223372036854775807)))))))
 (.ret (.tup (.cons (.agg (.cons (.int .i64 (.iapp 9 (.cons (.int .i64 (.i2 .sub (.iapp 12 (.cons (.int .i64 (.iapp 10 (.cons (.int .i64 (.i2 .add (.iapp 2 (.cons (.int .i64 (.var 0)) (.cons (.int .i64 (.var 1)) (.cons (.int .i64 (.var 2)) (.cons (.int .i64 (.var 3)) (.cons (.int .i64 (.var 4)) (.cons (.int .i64 (.var 5)) .nil))))))) (.var 6))) .nil))) (.cons (.int .i64 (.iapp 11 (.cons (.int .i64 (.i2 .add (.iapp 2 (.cons (.int .i64 (.var 0)) (.cons (.int .i64 (.var 1)) (.cons (.int .i64 (.var 2)) (.cons (.int .i64 (.var 3)) (.cons (.int .i64 (.var 4)) (.cons (.int .i64 (.var 5)) .nil))))))) (.var 6))) .nil))) .nil))) (.iapp 8 (.cons (.int .i64 (.var 5)) (.cons (.int .i64 (.wrap .i64 (.i2 .sub (.var 6) (.var 3)))) .nil))))) .nil))) (.cons (.int .i64 (.iapp 9 (.cons (.int .i64 (.i2 .add (.iapp 12 (.cons (.int .i64 (.iapp 10 (.cons (.int .i64 (.i2 .add (.iapp 3 (.cons (.int .i64 (.var 0)) (.cons (.int .i64 (.var 1)) (.cons (.int .i64 (.var 2)) (.cons (.int .i64 (.var 3)) (.cons (.int .i64 (.var 4)) (.cons (.int .i64 (.var 5)) .nil))))))) (.var 6))) .nil))) (.cons (.int .i64 (.iapp 11 (.cons (.int .i64 (.i2 .add (.iapp 3 (.cons (.int .i64 (.var 0)) (.cons (.int .i64 (.var 1)) (.cons (.int .i64 (.var 2)) (.cons (.int .i64 (.var 3)) (.cons (.int .i64 (.var 4)) (.cons (.int .i64 (.var 5)) .nil))))))) (.var 6))) .nil))) .nil))) (.iapp 8 (.cons (.int .i64 (.var 5)) (.cons (.int .i64 (.wrap .i64 (.i2 .sub (.var 6) (.var 3)))) .nil))))) .nil))) .nil))) (.cons (.int .i64 (.lit (0))) .nil))))))))))))
theorem rtold_x_w : walk Tryd.prog 150 [x14c_rof, x14c_rsum, x14c_rbd, x14c_rmore, x14c_rgrow] [] 86 [(.agg (.cons (.int .i64 (.var 0)) (.cons (.int .i64 (.var 1)) (.cons (.int .i64 (.var 2)) (.cons (.int .i64 (.var 3)) (.cons (.int .i64 (.var 4)) .nil)))))), (.int .i64 (.var 5)), (.int .i64 (.var 6))] ⟨7, 0, 0, 0⟩ 2000 = some rtold_x_tree := by kernel_rfl
theorem rtold_x_h (A : Int) (C : Int) (S : Int) (G : Int) (E : Int) (rho : Int) (now : Int) (iA : InR A) (iC : InR C) (iS : InR S) (iG : InR G) (iE : InR E) (iR : InR rho) (iN : InR now) : rtold_x_tree.holds (fun v => v = .tuple #[.agg #[.int .i64 (toLo A C S G E rho now), .int .i64 (toHi A C S G E rho now)], .int .i64 (toE A C S G E rho now)]) (x14E [A, C, S, G, E, rho, now] [] [] []) := by
  unfold rtold_x_tree
  simp only [Tree.holds, Sx.holds, denV, denI, denB, denL, I2.den, x14I, x14B, x14V, List.getD_cons_zero, List.getD_cons_succ, Cst.den, B2.ofInts, B2.denI, B2.denB, if_true, Bool.false_eq_true, if_false]
  simp only [bd_sv]
  by_cases h : OkR A C S G E rho
  · have h' := h
    obtain ⟨⟨hA, hC, hS, hG, hE0, hE1, h1, h3, h2, h4⟩, r0, r1⟩ := h'
    have k2 : ckR A C S G E rho = 0 := by unfold ckR; rw [if_pos h]
    have k3 : InR (ofLo A C S G E rho) := by unfold ofLo; rw [if_pos h]; exact sat_r _
    have k4 : InR (ofHi A C S G E rho) := by unfold ofHi; rw [if_pos h]; exact sat_r _
    have s1 := sat_r (ofLo A C S G E rho + now)
    have s2 := sat_r (ofHi A C S G E rho + now)
    have hm := mU_fact rho (now - G)
    by_cases n1 : 4611686018427387904 ≤ now
    · have k5 : toE A C S G E rho now = 1 := by unfold toE; rw [if_pos h, if_pos n1]
      have k6 : toLo A C S G E rho now = 0 := by unfold toLo; rw [k5]; rfl
      have k7 : toHi A C S G E rho now = 0 := by unfold toHi; rw [k5]; rfl
      simp only [k2, k5, k6, k7, not_true_eq_false, not_false_eq_true, false_implies, true_implies, implies_true, and_true, true_and]
      repeat' (first | (refine ⟨fun h => ?_, fun h => ?_⟩) | (refine And.intro ?_ ?_) | intro h)
      all_goals first | rfl | omega | (exfalso; omega) | trivial
    · by_cases n2 : now < G
      · have k5 : toE A C S G E rho now = 10 := by unfold toE; rw [if_pos h, if_neg n1, if_pos n2]
        have k6 : toLo A C S G E rho now = 0 := by unfold toLo; rw [k5]; rfl
        have k7 : toHi A C S G E rho now = 0 := by unfold toHi; rw [k5]; rfl
        simp only [k2, k5, k6, k7, not_true_eq_false, not_false_eq_true, false_implies, true_implies, implies_true, and_true, true_and]
        repeat' (first | (refine ⟨fun h => ?_, fun h => ?_⟩) | (refine And.intro ?_ ?_) | intro h)
        all_goals first | rfl | omega | (exfalso; omega) | trivial
      · have k5 : toE A C S G E rho now = 0 := by unfold toE; rw [if_pos h, if_neg n1, if_neg n2]
        have k6 : toLo A C S G E rho now = sat (sat (ofLo A C S G E rho + now) - mU rho (now - G)) := by unfold toLo; rw [k5, if_pos rfl]
        have k7 : toHi A C S G E rho now = sat (sat (ofHi A C S G E rho + now) + mU rho (now - G)) := by unfold toHi; rw [k5, if_pos rfl]
        have e1 : IntKind.wrap .i64 (now - G) = now - G := IntWalk.i64_in _ (by omega)
        simp only [k2, k5, k6, k7, e1, not_true_eq_false, not_false_eq_true, false_implies, true_implies, implies_true, and_true, true_and]
        repeat' (first | (refine ⟨fun h => ?_, fun h => ?_⟩) | (refine And.intro ?_ ?_) | intro h)
        all_goals first | rfl | omega | (exfalso; omega) | trivial
  · have k2 : ckR A C S G E rho = 1 := by unfold ckR; rw [if_neg h]
    have k5 : toE A C S G E rho now = 1 := by unfold toE; rw [if_neg h]
    have k6 : toLo A C S G E rho now = 0 := by unfold toLo; rw [k5]; rfl
    have k7 : toHi A C S G E rho now = 0 := by unfold toHi; rw [k5]; rfl
    have k8 : ofLo A C S G E rho = 0 := by unfold ofLo; rw [if_neg h]
    have k9 : ofHi A C S G E rho = 0 := by unfold ofHi; rw [if_neg h]
    simp only [k2, k5, k6, k7, not_true_eq_false, not_false_eq_true, false_implies, true_implies, implies_true, and_true, true_and]
    repeat' (first | (refine ⟨fun h => ?_, fun h => ?_⟩) | (refine And.intro ?_ ?_) | intro h)
    all_goals first | rfl | omega | (exfalso; omega) | trivial
theorem rtold_x (A : Int) (C : Int) (S : Int) (G : Int) (E : Int) (rho : Int) (now : Int) (iA : InR A) (iC : InR C) (iS : InR S) (iG : InR G) (iE : InR E) (iR : InR rho) (iN : InR now) (w : World) : Calls Tryd.prog 86 #[.agg #[.int .i64 A, .int .i64 C, .int .i64 S, .int .i64 G, .int .i64 E], .int .i64 rho, .int .i64 now] w fun e w' => e = .returned (.tuple #[.agg #[.int .i64 (toLo A C S G E rho now), .int .i64 (toHi A C S G E rho now)], .int .i64 (toE A C S G E rho now)]) ∧ Below w.heap.size w w' := by
  have h := calls_by (n := ⟨7, 0, 0, 0⟩) (x14E [A, C, S, G, E, rho, now] [] [] []) (vs := [.agg #[.int .i64 A, .int .i64 C, .int .i64 S, .int .i64 G, .int .i64 E], .int .i64 rho, .int .i64 now]) (W := w) x14m rtold_x_w rfl ⟨rfl, rfl, rfl, rfl⟩ (good_cons (x14g_rof _ _ _ _ _) (good_cons (x14g_rsum _ _ _ _ _) (good_cons (x14g_rbd _ _ _ _ _) (good_cons (x14g_rmore _ _ _ _ _) (good_cons (x14g_rgrow _ _ _ _ _) good_nil))))) (rtold_x_h A C S G E rho now iA iC iS iG iE iR iN) rfl
  exact calls_eq h
abbrev x14c_rtold : Con := ⟨86, [(.agg (.cons (.int .i64 (.var 0)) (.cons (.int .i64 (.var 1)) (.cons (.int .i64 (.var 2)) (.cons (.int .i64 (.var 3)) (.cons (.int .i64 (.var 4)) .nil)))))), (.int .i64 (.var 5)), (.int .i64 (.var 6))], (.b2 .and (.b2 .and (.b2 .le (.lit (-9223372036854775808)) (.var 0)) (.b2 .le (.var 0) (.lit (9223372036854775807)))) (.b2 .and (.b2 .and (.b2 .le (.lit (-9223372036854775808)) (.var 1)) (.b2 .le (.var 1) (.lit (9223372036854775807)))) (.b2 .and (.b2 .and (.b2 .le (.lit (-9223372036854775808)) (.var 2)) (.b2 .le (.var 2) (.lit (9223372036854775807)))) (.b2 .and (.b2 .and (.b2 .le (.lit (-9223372036854775808)) (.var 3)) (.b2 .le (.var 3) (.lit (9223372036854775807)))) (.b2 .and (.b2 .and (.b2 .le (.lit (-9223372036854775808)) (.var 4)) (.b2 .le (.var 4) (.lit (9223372036854775807)))) (.b2 .and (.b2 .and (.b2 .le (.lit (-9223372036854775808)) (.var 5)) (.b2 .le (.var 5) (.lit (9223372036854775807)))) (.b2 .and (.b2 .le (.lit (-9223372036854775808)) (.var 6)) (.b2 .le (.var 6) (.lit (9223372036854775807)))))))))), (.tup (.cons (.agg (.cons (.int .i64 (.iapp 5 (.cons (.int .i64 (.var 0)) (.cons (.int .i64 (.var 1)) (.cons (.int .i64 (.var 2)) (.cons (.int .i64 (.var 3)) (.cons (.int .i64 (.var 4)) (.cons (.int .i64 (.var 5)) (.cons (.int .i64 (.var 6)) .nil))))))))) (.cons (.int .i64 (.iapp 6 (.cons (.int .i64 (.var 0)) (.cons (.int .i64 (.var 1)) (.cons (.int .i64 (.var 2)) (.cons (.int .i64 (.var 3)) (.cons (.int .i64 (.var 4)) (.cons (.int .i64 (.var 5)) (.cons (.int .i64 (.var 6)) .nil))))))))) .nil))) (.cons (.int .i64 (.iapp 4 (.cons (.int .i64 (.var 0)) (.cons (.int .i64 (.var 1)) (.cons (.int .i64 (.var 2)) (.cons (.int .i64 (.var 3)) (.cons (.int .i64 (.var 4)) (.cons (.int .i64 (.var 5)) (.cons (.int .i64 (.var 6)) .nil))))))))) .nil)))⟩
theorem x14g_rtold (iv : List Int) (bv : List Bool) (vv : List Value) (sv : List ByteArray) (W : World) : x14c_rtold.Good Tryd.prog (x14E iv bv vv sv) W := by
  intro iv bv vv sv β hc w hb
  exact rtold_x (iv.getD 0 0) (iv.getD 1 0) (iv.getD 2 0) (iv.getD 3 0) (iv.getD 4 0) (iv.getD 5 0) (iv.getD 6 0) hc.1 hc.2.1 hc.2.2.1 hc.2.2.2.1 hc.2.2.2.2.1 hc.2.2.2.2.2.1 hc.2.2.2.2.2.2 w
theorem num14_anyx (n : Int) (w : World) (hg : w.cell? ⟨0, 0, none⟩ = some asHandle) : Calls Tryd.prog 90 #[errVal 150 n] w fun e w' => e = .returned (.int .i64 n) ∧ Below w.heap.size w w' := by
  unfold errVal
  split
  · rename_i h; subst h; exact num14_nil _
  · exact num14_err _ _ hg
abbrev x14c_num : Con := ⟨90, [(.err (.var 0))], (.tt true), (.int .i64 (.var 0))⟩
theorem x14g_num (iv : List Int) (bv : List Bool) (vv : List Value) (sv : List ByteArray) (W : World) (hg : W.cell? ⟨0, 0, none⟩ = some asHandle) : x14c_num.Good Tryd.prog (x14E iv bv vv sv) W := by
  intro iv bv vv sv β hc w hb
  have hgw := handle_below hg hb (handle_lt hg)
  exact num14_anyx (iv.getD 0 0) w hgw
def sure14x_tree : Tree :=
 (.need (.b2 .and (.b2 .and (.b2 .le (.lit (-9223372036854775808)) (.lit (0))) (.b2 .le (.lit (0)) (.lit (9223372036854775807)))) (.b2 .and (.b2 .and (.b2 .le (.lit (-9223372036854775808)) (.lit (15))) (.b2 .le (.lit (15)) (.lit (9223372036854775807)))) (.b2 .and (.b2 .and (.b2 .le (.lit (-9223372036854775808)) (.lit (16))) (.b2 .le (.lit (16)) (.lit (9223372036854775807)))) (.b2 .and (.b2 .and (.b2 .le (.lit (-9223372036854775808)) (.lit (11))) (.b2 .le (.lit (11)) (.lit (9223372036854775807)))) (.b2 .and (.b2 .le (.lit (-9223372036854775808)) (.lit (0))) (.b2 .le (.lit (0)) (.lit (9223372036854775807))))))))
 (.need (.b2 .and (.b2 .and (.b2 .le (.lit (-9223372036854775808)) (.lit (0))) (.b2 .le (.lit (0)) (.lit (9223372036854775807)))) (.b2 .and (.b2 .and (.b2 .le (.lit (-9223372036854775808)) (.lit (15))) (.b2 .le (.lit (15)) (.lit (9223372036854775807)))) (.b2 .and (.b2 .and (.b2 .le (.lit (-9223372036854775808)) (.lit (16))) (.b2 .le (.lit (16)) (.lit (9223372036854775807)))) (.b2 .and (.b2 .and (.b2 .le (.lit (-9223372036854775808)) (.lit (11))) (.b2 .le (.lit (11)) (.lit (9223372036854775807)))) (.b2 .and (.b2 .le (.lit (-9223372036854775808)) (.lit (0))) (.b2 .le (.lit (0)) (.lit (9223372036854775807))))))))
 (.need (.b2 .and (.b2 .and (.b2 .le (.lit (-9223372036854775808)) (.lit (0))) (.b2 .le (.lit (0)) (.lit (9223372036854775807)))) (.b2 .and (.b2 .and (.b2 .le (.lit (-9223372036854775808)) (.lit (15))) (.b2 .le (.lit (15)) (.lit (9223372036854775807)))) (.b2 .and (.b2 .and (.b2 .le (.lit (-9223372036854775808)) (.lit (16))) (.b2 .le (.lit (16)) (.lit (9223372036854775807)))) (.b2 .and (.b2 .and (.b2 .le (.lit (-9223372036854775808)) (.lit (11))) (.b2 .le (.lit (11)) (.lit (9223372036854775807)))) (.b2 .and (.b2 .and (.b2 .le (.lit (-9223372036854775808)) (.lit (0))) (.b2 .le (.lit (0)) (.lit (9223372036854775807)))) (.b2 .and (.b2 .le (.lit (-9223372036854775808)) (.lit (20))) (.b2 .le (.lit (20)) (.lit (9223372036854775807)))))))))
 (.need (.b2 .and (.b2 .and (.b2 .le (.lit (-9223372036854775808)) (.lit (0))) (.b2 .le (.lit (0)) (.lit (9223372036854775807)))) (.b2 .and (.b2 .and (.b2 .le (.lit (-9223372036854775808)) (.lit (15))) (.b2 .le (.lit (15)) (.lit (9223372036854775807)))) (.b2 .and (.b2 .and (.b2 .le (.lit (-9223372036854775808)) (.lit (16))) (.b2 .le (.lit (16)) (.lit (9223372036854775807)))) (.b2 .and (.b2 .and (.b2 .le (.lit (-9223372036854775808)) (.lit (11))) (.b2 .le (.lit (11)) (.lit (9223372036854775807)))) (.b2 .and (.b2 .and (.b2 .le (.lit (-9223372036854775808)) (.lit (0))) (.b2 .le (.lit (0)) (.lit (9223372036854775807)))) (.b2 .and (.b2 .le (.lit (-9223372036854775808)) (.lit (10))) (.b2 .le (.lit (10)) (.lit (9223372036854775807)))))))))
 (.br (.b2 .eq (.iapp 1 (.cons (.int .i64 (.lit (0))) (.cons (.int .i64 (.lit (15))) (.cons (.int .i64 (.lit (16))) (.cons (.int .i64 (.lit (11))) (.cons (.int .i64 (.lit (0))) (.cons (.int .i64 (.lit (0))) .nil))))))) (.lit (0)))
 (.br (.b2 .eq (.iapp 0 (.cons (.int .i64 (.lit (0))) (.cons (.int .i64 (.lit (15))) (.cons (.int .i64 (.lit (16))) (.cons (.int .i64 (.lit (11))) (.cons (.int .i64 (.lit (0))) .nil)))))) (.lit (0)))
 (.br (.b2 .eq (.iapp 4 (.cons (.int .i64 (.lit (0))) (.cons (.int .i64 (.lit (15))) (.cons (.int .i64 (.lit (16))) (.cons (.int .i64 (.lit (11))) (.cons (.int .i64 (.lit (0))) (.cons (.int .i64 (.lit (0))) (.cons (.int .i64 (.lit (20))) .nil)))))))) (.lit (0)))
 (.br (.b2 .and (.b2 .eq (.iapp 2 (.cons (.int .i64 (.lit (0))) (.cons (.int .i64 (.lit (15))) (.cons (.int .i64 (.lit (16))) (.cons (.int .i64 (.lit (11))) (.cons (.int .i64 (.lit (0))) (.cons (.int .i64 (.lit (0))) .nil))))))) (.lit (5))) (.b2 .eq (.iapp 3 (.cons (.int .i64 (.lit (0))) (.cons (.int .i64 (.lit (15))) (.cons (.int .i64 (.lit (16))) (.cons (.int .i64 (.lit (11))) (.cons (.int .i64 (.lit (0))) (.cons (.int .i64 (.lit (0))) .nil))))))) (.lit (15))))
 (.br (.b2 .eq (.iapp 7 (.cons (.int .i64 (.lit (0))) (.cons (.int .i64 (.lit (15))) (.cons (.int .i64 (.lit (16))) (.cons (.int .i64 (.lit (11))) (.cons (.int .i64 (.lit (0))) .nil)))))) (.lit (10)))
 (.br (.b2 .and (.b2 .eq (.iapp 5 (.cons (.int .i64 (.lit (0))) (.cons (.int .i64 (.lit (15))) (.cons (.int .i64 (.lit (16))) (.cons (.int .i64 (.lit (11))) (.cons (.int .i64 (.lit (0))) (.cons (.int .i64 (.lit (0))) (.cons (.int .i64 (.lit (20))) .nil)))))))) (.lit (25))) (.b2 .eq (.iapp 6 (.cons (.int .i64 (.lit (0))) (.cons (.int .i64 (.lit (15))) (.cons (.int .i64 (.lit (16))) (.cons (.int .i64 (.lit (11))) (.cons (.int .i64 (.lit (0))) (.cons (.int .i64 (.lit (0))) (.cons (.int .i64 (.lit (20))) .nil)))))))) (.lit (35))))
 (.ret (.bool (.b2 .eq (.iapp 4 (.cons (.int .i64 (.lit (0))) (.cons (.int .i64 (.lit (15))) (.cons (.int .i64 (.lit (16))) (.cons (.int .i64 (.lit (11))) (.cons (.int .i64 (.lit (0))) (.cons (.int .i64 (.lit (0))) (.cons (.int .i64 (.lit (10))) .nil)))))))) (.lit (10)))))
 (.ret (.bool (.tt false))))
 (.ret (.bool (.tt false))))
 (.ret (.bool (.tt false))))
 (.ret (.bool (.tt false))))
 (.ret (.bool (.tt false))))
 (.ret (.bool (.tt false))))))))
theorem sure14x_w : walk Tryd.prog 150 [x14c_check, x14c_delay, x14c_of, x14c_told, x14c_num] [] 91 [] ⟨0, 0, 0, 0⟩ 2000 = some sure14x_tree := by kernel_rfl
theorem sure14x_h   : sure14x_tree.holds (fun v => v = .bool true) (x14E [] [] [] []) := by
  unfold sure14x_tree
  simp only [Tree.holds, Sx.holds, denV, denI, denB, denL, I2.den, x14I, x14B, x14V, List.getD_cons_zero, List.getD_cons_succ, Cst.den, B2.ofInts, B2.denI, B2.denB, if_true, Bool.false_eq_true, if_false]
  have hok : OkR 0 15 16 11 0 0 := by unfold OkR OkS OkT; omega
  have k1 : ckR 0 15 16 11 0 0 = 0 := by unfold ckR; rw [if_pos hok]
  have k2 : ckS 0 15 16 11 0 = 0 := by unfold ckS; rw [if_pos hok.1]
  have k3 : toE 0 15 16 11 0 0 20 = 0 := by unfold toE; rw [if_pos hok]; decide
  have k4 : toE 0 15 16 11 0 0 10 = 10 := by unfold toE; rw [if_pos hok]; decide
  have k5 : ofLo 0 15 16 11 0 0 = 5 := by unfold ofLo; rw [if_pos hok]; decide
  have k6 : ofHi 0 15 16 11 0 0 = 15 := by unfold ofHi; rw [if_pos hok]; decide
  have k7 : toLo 0 15 16 11 0 0 20 = 25 := by unfold toLo; rw [k3, k5]; decide
  have k8 : toHi 0 15 16 11 0 0 20 = 35 := by unfold toHi; rw [k3, k6]; decide
  have k9 : dlS 0 15 16 11 0 = 10 := by unfold dlS; rw [if_pos hok.1]; decide
  simp only [k1, k2, k3, k4, k5, k6, k7, k8, k9, not_true_eq_false, false_implies, true_implies, and_true, true_and, and_self]
  repeat' (first | (refine And.intro ?_ ?_) | intro h)
  all_goals first | rfl | omega
theorem sure14x   (w : World) (hg : w.cell? ⟨0, 0, none⟩ = some asHandle) : Calls Tryd.prog 91 #[] w fun e w' => e = .returned (.bool true) ∧ Below w.heap.size w w' := by
  have h := calls_by (n := ⟨0, 0, 0, 0⟩) (x14E [] [] [] []) (vs := []) (W := w) x14m sure14x_w rfl ⟨rfl, rfl, rfl, rfl⟩ (good_cons (x14g_check _ _ _ _ _) (good_cons (x14g_delay _ _ _ _ _) (good_cons (x14g_of _ _ _ _ _) (good_cons (x14g_told _ _ _ _ _) (good_cons (x14g_num _ _ _ _ _ hg) good_nil))))) (sure14x_h  ) rfl
  exact calls_eq h
abbrev x14c_sure : Con := ⟨91, [], (.tt true), (.bool (.tt true))⟩
theorem x14g_sure (iv : List Int) (bv : List Bool) (vv : List Value) (sv : List ByteArray) (W : World) (hg : W.cell? ⟨0, 0, none⟩ = some asHandle) : x14c_sure.Good Tryd.prog (x14E iv bv vv sv) W := by
  intro iv bv vv sv β hc w hb
  have hgw := handle_below hg hb (handle_lt hg)
  exact sure14x w hgw
def walkSampleTells_tree : Tree :=
 (.need (.b2 .and (.b2 .and (.b2 .le (.lit (-9223372036854775808)) (.var 0)) (.b2 .le (.var 0) (.lit (9223372036854775807)))) (.b2 .and (.b2 .and (.b2 .le (.lit (-9223372036854775808)) (.var 1)) (.b2 .le (.var 1) (.lit (9223372036854775807)))) (.b2 .and (.b2 .and (.b2 .le (.lit (-9223372036854775808)) (.var 2)) (.b2 .le (.var 2) (.lit (9223372036854775807)))) (.b2 .and (.b2 .and (.b2 .le (.lit (-9223372036854775808)) (.var 3)) (.b2 .le (.var 3) (.lit (9223372036854775807)))) (.b2 .and (.b2 .le (.lit (-9223372036854775808)) (.var 4)) (.b2 .le (.var 4) (.lit (9223372036854775807))))))))
 (.need (.b2 .and (.b2 .and (.b2 .le (.lit (-9223372036854775808)) (.var 0)) (.b2 .le (.var 0) (.lit (9223372036854775807)))) (.b2 .and (.b2 .and (.b2 .le (.lit (-9223372036854775808)) (.var 1)) (.b2 .le (.var 1) (.lit (9223372036854775807)))) (.b2 .and (.b2 .and (.b2 .le (.lit (-9223372036854775808)) (.var 2)) (.b2 .le (.var 2) (.lit (9223372036854775807)))) (.b2 .and (.b2 .and (.b2 .le (.lit (-9223372036854775808)) (.var 3)) (.b2 .le (.var 3) (.lit (9223372036854775807)))) (.b2 .and (.b2 .and (.b2 .le (.lit (-9223372036854775808)) (.var 4)) (.b2 .le (.var 4) (.lit (9223372036854775807)))) (.b2 .and (.b2 .le (.lit (-9223372036854775808)) (.var 5)) (.b2 .le (.var 5) (.lit (9223372036854775807)))))))))
 (.need (.b2 .and (.b2 .and (.b2 .le (.lit (-9223372036854775808)) (.var 0)) (.b2 .le (.var 0) (.lit (9223372036854775807)))) (.b2 .and (.b2 .and (.b2 .le (.lit (-9223372036854775808)) (.var 1)) (.b2 .le (.var 1) (.lit (9223372036854775807)))) (.b2 .and (.b2 .and (.b2 .le (.lit (-9223372036854775808)) (.var 2)) (.b2 .le (.var 2) (.lit (9223372036854775807)))) (.b2 .and (.b2 .and (.b2 .le (.lit (-9223372036854775808)) (.var 3)) (.b2 .le (.var 3) (.lit (9223372036854775807)))) (.b2 .and (.b2 .and (.b2 .le (.lit (-9223372036854775808)) (.var 4)) (.b2 .le (.var 4) (.lit (9223372036854775807)))) (.b2 .and (.b2 .le (.lit (-9223372036854775808)) (.var 6)) (.b2 .le (.var 6) (.lit (9223372036854775807)))))))))
 (.need (.b2 .and (.b2 .and (.b2 .le (.lit (-9223372036854775808)) (.var 0)) (.b2 .le (.var 0) (.lit (9223372036854775807)))) (.b2 .and (.b2 .and (.b2 .le (.lit (-9223372036854775808)) (.var 1)) (.b2 .le (.var 1) (.lit (9223372036854775807)))) (.b2 .and (.b2 .and (.b2 .le (.lit (-9223372036854775808)) (.var 2)) (.b2 .le (.var 2) (.lit (9223372036854775807)))) (.b2 .and (.b2 .and (.b2 .le (.lit (-9223372036854775808)) (.var 3)) (.b2 .le (.var 3) (.lit (9223372036854775807)))) (.b2 .and (.b2 .and (.b2 .le (.lit (-9223372036854775808)) (.var 4)) (.b2 .le (.var 4) (.lit (9223372036854775807)))) (.b2 .and (.b2 .and (.b2 .le (.lit (-9223372036854775808)) (.var 5)) (.b2 .le (.var 5) (.lit (9223372036854775807)))) (.b2 .and (.b2 .le (.lit (-9223372036854775808)) (.var 6)) (.b2 .le (.var 6) (.lit (9223372036854775807))))))))))
 (.need (.b2 .and (.b2 .and (.b2 .le (.lit (-9223372036854775808)) (.var 0)) (.b2 .le (.var 0) (.lit (9223372036854775807)))) (.b2 .and (.b2 .and (.b2 .le (.lit (-9223372036854775808)) (.var 1)) (.b2 .le (.var 1) (.lit (9223372036854775807)))) (.b2 .and (.b2 .and (.b2 .le (.lit (-9223372036854775808)) (.var 2)) (.b2 .le (.var 2) (.lit (9223372036854775807)))) (.b2 .and (.b2 .and (.b2 .le (.lit (-9223372036854775808)) (.var 3)) (.b2 .le (.var 3) (.lit (9223372036854775807)))) (.b2 .and (.b2 .le (.lit (-9223372036854775808)) (.var 4)) (.b2 .le (.var 4) (.lit (9223372036854775807))))))))
 (.need (.b2 .and (.b2 .and (.b2 .le (.lit (-9223372036854775808)) (.var 0)) (.b2 .le (.var 0) (.lit (9223372036854775807)))) (.b2 .and (.b2 .and (.b2 .le (.lit (-9223372036854775808)) (.var 1)) (.b2 .le (.var 1) (.lit (9223372036854775807)))) (.b2 .and (.b2 .and (.b2 .le (.lit (-9223372036854775808)) (.var 2)) (.b2 .le (.var 2) (.lit (9223372036854775807)))) (.b2 .and (.b2 .and (.b2 .le (.lit (-9223372036854775808)) (.var 3)) (.b2 .le (.var 3) (.lit (9223372036854775807)))) (.b2 .and (.b2 .le (.lit (-9223372036854775808)) (.var 4)) (.b2 .le (.var 4) (.lit (9223372036854775807))))))))
 (.need (.b2 .and (.b2 .and (.b2 .le (.lit (-9223372036854775808)) (.var 0)) (.b2 .le (.var 0) (.lit (9223372036854775807)))) (.b2 .and (.b2 .and (.b2 .le (.lit (-9223372036854775808)) (.var 1)) (.b2 .le (.var 1) (.lit (9223372036854775807)))) (.b2 .and (.b2 .and (.b2 .le (.lit (-9223372036854775808)) (.var 2)) (.b2 .le (.var 2) (.lit (9223372036854775807)))) (.b2 .and (.b2 .and (.b2 .le (.lit (-9223372036854775808)) (.var 3)) (.b2 .le (.var 3) (.lit (9223372036854775807)))) (.b2 .and (.b2 .le (.lit (-9223372036854775808)) (.var 4)) (.b2 .le (.var 4) (.lit (9223372036854775807))))))))
 (.need (.b2 .and (.b2 .and (.b2 .le (.lit (-9223372036854775808)) (.var 0)) (.b2 .le (.var 0) (.lit (9223372036854775807)))) (.b2 .and (.b2 .and (.b2 .le (.lit (-9223372036854775808)) (.var 1)) (.b2 .le (.var 1) (.lit (9223372036854775807)))) (.b2 .and (.b2 .and (.b2 .le (.lit (-9223372036854775808)) (.var 2)) (.b2 .le (.var 2) (.lit (9223372036854775807)))) (.b2 .and (.b2 .and (.b2 .le (.lit (-9223372036854775808)) (.var 3)) (.b2 .le (.var 3) (.lit (9223372036854775807)))) (.b2 .and (.b2 .le (.lit (-9223372036854775808)) (.var 4)) (.b2 .le (.var 4) (.lit (9223372036854775807))))))))
 (.br (.not (.b2 .eq (.iapp 0 (.cons (.int .i64 (.var 0)) (.cons (.int .i64 (.var 1)) (.cons (.int .i64 (.var 2)) (.cons (.int .i64 (.var 3)) (.cons (.int .i64 (.var 4)) .nil)))))) (.lit (0))))
 (.br (.not (.b2 .eq (.iapp 0 (.cons (.int .i64 (.var 0)) (.cons (.int .i64 (.var 1)) (.cons (.int .i64 (.var 2)) (.cons (.int .i64 (.var 3)) (.cons (.int .i64 (.var 4)) .nil)))))) (.lit (1))))
 (.ret (.bool (.tt false)))
 (.br (.not (.b2 .eq (.iapp 7 (.cons (.int .i64 (.var 0)) (.cons (.int .i64 (.var 1)) (.cons (.int .i64 (.var 2)) (.cons (.int .i64 (.var 3)) (.cons (.int .i64 (.var 4)) .nil)))))) (.lit (0))))
 (.ret (.bool (.tt false)))
 (.ret (.bool (.tt true)))))
 (.br (.not (.b2 .eq (.iapp 7 (.cons (.int .i64 (.var 0)) (.cons (.int .i64 (.var 1)) (.cons (.int .i64 (.var 2)) (.cons (.int .i64 (.var 3)) (.cons (.int .i64 (.var 4)) .nil)))))) (.wrap .i64 (.i2 .add (.wrap .i64 (.i2 .sub (.wrap .i64 (.i2 .sub (.var 3) (.var 0))) (.var 2))) (.var 1)))))
 (.ret (.bool (.tt false)))
 (.ret (.bool (.tt true)))))))))))))
theorem walkSampleTells_w : walk Tryd.prog 150 [x14c_check, x14c_delay, x14c_of, x14c_told, x14c_rof, x14c_rtold, x14c_rmay, x14c_num, x14c_sure] [] 15 [(.agg (.cons (.int .i64 (.var 0)) (.cons (.int .i64 (.var 1)) (.cons (.int .i64 (.var 2)) (.cons (.int .i64 (.var 3)) (.cons (.int .i64 (.var 4)) .nil)))))), (.int .i64 (.var 5)), (.int .i64 (.var 6))] ⟨7, 0, 0, 0⟩ 2000 = some walkSampleTells_tree := by kernel_rfl
theorem walkSampleTells_h (A : Int) (C : Int) (S : Int) (G : Int) (E : Int) (rho : Int) (now : Int) (iA : InR A) (iC : InR C) (iS : InR S) (iG : InR G) (iE : InR E) (iR : InR rho) (iN : InR now) : walkSampleTells_tree.holds (fun v => v = .bool true) (x14E [A, C, S, G, E, rho, now] [] [] []) := by
  unfold walkSampleTells_tree
  simp only [Tree.holds, Sx.holds, denV, denI, denB, denL, I2.den, x14I, x14B, x14V, List.getD_cons_zero, List.getD_cons_succ, Cst.den, B2.ofInts, B2.denI, B2.denB, if_true, Bool.false_eq_true, if_false]
  have wf0 := wr_i64 ((IntKind.wrap .i64 ((IntKind.wrap .i64 (G - A)) - S)) + C)
  have wf1 := wr_i64 ((IntKind.wrap .i64 (G - A)) - S)
  have wf2 := wr_i64 (G - A)
  have ff0 := ckS_spec A C S G E
  have ff1 := dlS_spec A C S G E
  repeat' (first | (refine ⟨fun h => ?_, fun h => ?_⟩) | (refine And.intro ?_ ?_) | intro h)
  all_goals first | rfl | omega | (exfalso; omega) | (simp only [Value.bool.injEq]; done) | (simp only [Value.bool.injEq]; rw [Bool.eq_iff_iff]; simp only [Bool.and_eq_true, Bool.or_eq_true, Bool.not_eq_true', decide_eq_true_eq, beq_iff_eq, Bool.false_eq_true, iff_true, true_iff, iff_false, false_iff]; omega)
theorem walkSampleTells (A : Int) (C : Int) (S : Int) (G : Int) (E : Int) (rho : Int) (now : Int) (iA : InR A) (iC : InR C) (iS : InR S) (iG : InR G) (iE : InR E) (iR : InR rho) (iN : InR now) (w : World) (hg : w.cell? ⟨0, 0, none⟩ = some asHandle) : Calls Tryd.prog 15 #[.agg #[.int .i64 A, .int .i64 C, .int .i64 S, .int .i64 G, .int .i64 E], .int .i64 rho, .int .i64 now] w fun e w' => e = .returned (.bool true) ∧ Below w.heap.size w w' := by
  have h := calls_by (n := ⟨7, 0, 0, 0⟩) (x14E [A, C, S, G, E, rho, now] [] [] []) (vs := [.agg #[.int .i64 A, .int .i64 C, .int .i64 S, .int .i64 G, .int .i64 E], .int .i64 rho, .int .i64 now]) (W := w) x14m walkSampleTells_w rfl ⟨rfl, rfl, rfl, rfl⟩ (good_cons (x14g_check _ _ _ _ _) (good_cons (x14g_delay _ _ _ _ _) (good_cons (x14g_of _ _ _ _ _) (good_cons (x14g_told _ _ _ _ _) (good_cons (x14g_rof _ _ _ _ _) (good_cons (x14g_rtold _ _ _ _ _) (good_cons (x14g_rmay _ _ _ _ _) (good_cons (x14g_num _ _ _ _ _ hg) (good_cons (x14g_sure _ _ _ _ _ hg) good_nil))))))))) (walkSampleTells_h A C S G E rho now iA iC iS iG iE iR iN) rfl
  exact calls_eq h
end Go.Proofs.YtffdglhdklmjoaaDoor
