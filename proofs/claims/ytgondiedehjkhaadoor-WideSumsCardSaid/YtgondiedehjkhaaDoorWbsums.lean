/-
 Layer 2 by the second engine: WideSums.
-/
import Derived.Test.YtgondiedehjkhaaDoorSycsums
import Derived.Test.YtgondiedehjkhaaDoorWasums
import Derived.Test.YtgondiedehjkhaaDoorMathsums
import Derived.Test.YtgondiedehjkhaaDoorNumsums
import Derived.IntWalk
import Derived.Test.YtgondiedehjkhaaDoorV02sums
namespace Go.Proofs.YtgondiedehjkhaaDoor
open Go.RowKit Go.Extern.Stop Go.Stop Go.Extern Go.Proofs.YtgondiedehjkhaaDoor.Sy
set_option linter.unusedVariables false
set_option linter.unusedSimpArgs false
abbrev xwbsumsk0_ : Tm := (.agg (.cons (.bool (.bapp 0 (.cons z0_ .nil))) (.cons (.int .u64 (.iapp 0 (.cons (.int .i64 (.iapp 2 (.cons z0_ .nil))) (.cons (.int .i64 (.lit 0)) .nil)))) (.cons (.int .u64 (.iapp 0 (.cons (.int .i64 (.iapp 2 (.cons z0_ .nil))) (.cons (.int .i64 (.lit 1)) .nil)))) (.cons (.int .u64 (.iapp 0 (.cons (.int .i64 (.iapp 2 (.cons z0_ .nil))) (.cons (.int .i64 (.lit 2)) .nil)))) (.cons (.int .u64 (.iapp 0 (.cons (.int .i64 (.iapp 2 (.cons z0_ .nil))) (.cons (.int .i64 (.lit 3)) .nil)))) (.cons (.int .u64 (.iapp 0 (.cons (.int .i64 (.iapp 2 (.cons z0_ .nil))) (.cons (.int .i64 (.lit 4)) .nil)))) (.cons (.int .u64 (.iapp 0 (.cons (.int .i64 (.iapp 2 (.cons z0_ .nil))) (.cons (.int .i64 (.lit 5)) .nil)))) (.cons (.int .u64 (.iapp 0 (.cons (.int .i64 (.iapp 2 (.cons z0_ .nil))) (.cons (.int .i64 (.lit 6)) .nil)))) (.cons (.int .u64 (.iapp 0 (.cons (.int .i64 (.iapp 2 (.cons z0_ .nil))) (.cons (.int .i64 (.lit 7)) .nil)))) .nil))))))))))
abbrev xwbsumsk1_ : Tm := (sb_ (.iapp 2 (.cons z1_ .nil)) (.iapp 2 (.cons z0_ .nil)))
abbrev xwbsumsk2_ : Tm := (sb_ (.iapp 2 (.cons z0_ .nil)) (.iapp 2 (.cons z1_ .nil)))
abbrev xwbsumsk3_ : Tm := (ad_ (.iapp 2 (.cons z0_ .nil)) (.iapp 2 (.cons z1_ .nil)))
abbrev xwbsumsk4_ : Tm := (an_ (le_ (.lit (-1569275433846670190958947355801916604025588861116008628224)) v0_) (le_ v0_ (.lit 1569275433846670190958947355801916604025588861116008628224)))
abbrev xwbsumsk5_ : Tm := (.agg (.cons (.int .i64 (.iapp 8 (.cons (.int .i64 (.iapp 6 (.cons (.int .i64 (sb_ (.lit 0) v0_)) .nil))) (.cons (.int .i64 (.iapp 4 (.cons (.int .i64 (sb_ (.lit 0) v0_)) .nil))) .nil)))) (.cons (.int .u64 (.iapp 8 (.cons (.int .i64 (.iapp 6 (.cons (.int .i64 (sb_ (.lit 0) v0_)) .nil))) (.cons (.int .i64 (.iapp 5 (.cons (.int .i64 (sb_ (.lit 0) v0_)) .nil))) .nil)))) .nil)))
abbrev xwbsumsk6_ : Tm := (.agg (.cons (.bool (.not (eq_ v0_ (.lit 0)))) (.cons (.int .u64 (.iapp 0 (.cons (.int .i64 (.iapp 2 (.cons z0_ .nil))) (.cons (.int .i64 (.lit 0)) .nil)))) (.cons (.int .u64 (.iapp 0 (.cons (.int .i64 (.iapp 2 (.cons z0_ .nil))) (.cons (.int .i64 (.lit 1)) .nil)))) (.cons (.int .u64 (.iapp 0 (.cons (.int .i64 (.iapp 2 (.cons z0_ .nil))) (.cons (.int .i64 (.lit 2)) .nil)))) (.cons (.int .u64 (.iapp 0 (.cons (.int .i64 (.iapp 2 (.cons z0_ .nil))) (.cons (.int .i64 (.lit 3)) .nil)))) (.cons (.int .u64 (.iapp 0 (.cons (.int .i64 (.iapp 2 (.cons z0_ .nil))) (.cons (.int .i64 (.lit 4)) .nil)))) (.cons (.int .u64 (.iapp 0 (.cons (.int .i64 (.iapp 2 (.cons z0_ .nil))) (.cons (.int .i64 (.lit 5)) .nil)))) (.cons (.int .u64 (.iapp 0 (.cons (.int .i64 (.iapp 2 (.cons z0_ .nil))) (.cons (.int .i64 (.lit 6)) .nil)))) (.cons (.int .u64 (.iapp 0 (.cons (.int .i64 (.iapp 2 (.cons z0_ .nil))) (.cons (.int .i64 (.lit 7)) .nil)))) .nil))))))))))
abbrev xwbsumsk7_ : Tm := (.agg (.cons (.bool (.tt false)) (.cons (.int .u64 (.iapp 0 (.cons (.int .i64 (.iapp 2 (.cons z0_ .nil))) (.cons (.int .i64 (.lit 0)) .nil)))) (.cons (.int .u64 (.iapp 0 (.cons (.int .i64 (.iapp 2 (.cons z0_ .nil))) (.cons (.int .i64 (.lit 1)) .nil)))) (.cons (.int .u64 (.iapp 0 (.cons (.int .i64 (.iapp 2 (.cons z0_ .nil))) (.cons (.int .i64 (.lit 2)) .nil)))) (.cons (.int .u64 (.iapp 0 (.cons (.int .i64 (.iapp 2 (.cons z0_ .nil))) (.cons (.int .i64 (.lit 3)) .nil)))) (.cons (.int .u64 (.iapp 0 (.cons (.int .i64 (.iapp 2 (.cons z0_ .nil))) (.cons (.int .i64 (.lit 4)) .nil)))) (.cons (.int .u64 (.iapp 0 (.cons (.int .i64 (.iapp 2 (.cons z0_ .nil))) (.cons (.int .i64 (.lit 5)) .nil)))) (.cons (.int .u64 (.iapp 0 (.cons (.int .i64 (.iapp 2 (.cons z0_ .nil))) (.cons (.int .i64 (.lit 6)) .nil)))) (.cons (.int .u64 (.iapp 0 (.cons (.int .i64 (.iapp 2 (.cons z0_ .nil))) (.cons (.int .i64 (.lit 7)) .nil)))) .nil))))))))))
abbrev xwbsumsk8_ : Tm := (.agg (.cons (.bool (.not (eq_ xwbsumsk3_ (.lit 0)))) (.cons (.int .u64 (.iapp 0 (.cons (.int .i64 xwbsumsk3_) (.cons (.int .i64 (.lit 0)) .nil)))) (.cons (.int .u64 (.iapp 0 (.cons (.int .i64 xwbsumsk3_) (.cons (.int .i64 (.lit 1)) .nil)))) (.cons (.int .u64 (.iapp 0 (.cons (.int .i64 xwbsumsk3_) (.cons (.int .i64 (.lit 2)) .nil)))) (.cons (.int .u64 (.iapp 0 (.cons (.int .i64 xwbsumsk3_) (.cons (.int .i64 (.lit 3)) .nil)))) (.cons (.int .u64 (.iapp 0 (.cons (.int .i64 xwbsumsk3_) (.cons (.int .i64 (.lit 4)) .nil)))) (.cons (.int .u64 (.iapp 0 (.cons (.int .i64 xwbsumsk3_) (.cons (.int .i64 (.lit 5)) .nil)))) (.cons (.int .u64 (.iapp 0 (.cons (.int .i64 xwbsumsk3_) (.cons (.int .i64 (.lit 6)) .nil)))) (.cons (.int .u64 (.iapp 0 (.cons (.int .i64 xwbsumsk3_) (.cons (.int .i64 (.lit 7)) .nil)))) .nil))))))))))
abbrev xwbsumsk9_ : Tm := (.agg (.cons (.bool (.not (eq_ xwbsumsk2_ (.lit 0)))) (.cons (.int .u64 (.iapp 0 (.cons (.int .i64 xwbsumsk2_) (.cons (.int .i64 (.lit 0)) .nil)))) (.cons (.int .u64 (.iapp 0 (.cons (.int .i64 xwbsumsk2_) (.cons (.int .i64 (.lit 1)) .nil)))) (.cons (.int .u64 (.iapp 0 (.cons (.int .i64 xwbsumsk2_) (.cons (.int .i64 (.lit 2)) .nil)))) (.cons (.int .u64 (.iapp 0 (.cons (.int .i64 xwbsumsk2_) (.cons (.int .i64 (.lit 3)) .nil)))) (.cons (.int .u64 (.iapp 0 (.cons (.int .i64 xwbsumsk2_) (.cons (.int .i64 (.lit 4)) .nil)))) (.cons (.int .u64 (.iapp 0 (.cons (.int .i64 xwbsumsk2_) (.cons (.int .i64 (.lit 5)) .nil)))) (.cons (.int .u64 (.iapp 0 (.cons (.int .i64 xwbsumsk2_) (.cons (.int .i64 (.lit 6)) .nil)))) (.cons (.int .u64 (.iapp 0 (.cons (.int .i64 xwbsumsk2_) (.cons (.int .i64 (.lit 7)) .nil)))) .nil))))))))))
abbrev xwbsumsk10_ : Tm := (.agg (.cons (.bool (.not (eq_ xwbsumsk1_ (.lit 0)))) (.cons (.int .u64 (.iapp 0 (.cons (.int .i64 xwbsumsk1_) (.cons (.int .i64 (.lit 0)) .nil)))) (.cons (.int .u64 (.iapp 0 (.cons (.int .i64 xwbsumsk1_) (.cons (.int .i64 (.lit 1)) .nil)))) (.cons (.int .u64 (.iapp 0 (.cons (.int .i64 xwbsumsk1_) (.cons (.int .i64 (.lit 2)) .nil)))) (.cons (.int .u64 (.iapp 0 (.cons (.int .i64 xwbsumsk1_) (.cons (.int .i64 (.lit 3)) .nil)))) (.cons (.int .u64 (.iapp 0 (.cons (.int .i64 xwbsumsk1_) (.cons (.int .i64 (.lit 4)) .nil)))) (.cons (.int .u64 (.iapp 0 (.cons (.int .i64 xwbsumsk1_) (.cons (.int .i64 (.lit 5)) .nil)))) (.cons (.int .u64 (.iapp 0 (.cons (.int .i64 xwbsumsk1_) (.cons (.int .i64 (.lit 6)) .nil)))) (.cons (.int .u64 (.iapp 0 (.cons (.int .i64 xwbsumsk1_) (.cons (.int .i64 (.lit 7)) .nil)))) .nil))))))))))
abbrev xwbsumsk11_ : Tm := (.agg (.cons (.bool (.tt false)) (.cons (.int .u64 (.iapp 0 (.cons (.int .i64 xwbsumsk3_) (.cons (.int .i64 (.lit 0)) .nil)))) (.cons (.int .u64 (.iapp 0 (.cons (.int .i64 xwbsumsk3_) (.cons (.int .i64 (.lit 1)) .nil)))) (.cons (.int .u64 (.iapp 0 (.cons (.int .i64 xwbsumsk3_) (.cons (.int .i64 (.lit 2)) .nil)))) (.cons (.int .u64 (.iapp 0 (.cons (.int .i64 xwbsumsk3_) (.cons (.int .i64 (.lit 3)) .nil)))) (.cons (.int .u64 (.iapp 0 (.cons (.int .i64 xwbsumsk3_) (.cons (.int .i64 (.lit 4)) .nil)))) (.cons (.int .u64 (.iapp 0 (.cons (.int .i64 xwbsumsk3_) (.cons (.int .i64 (.lit 5)) .nil)))) (.cons (.int .u64 (.iapp 0 (.cons (.int .i64 xwbsumsk3_) (.cons (.int .i64 (.lit 6)) .nil)))) (.cons (.int .u64 (.iapp 0 (.cons (.int .i64 xwbsumsk3_) (.cons (.int .i64 (.lit 7)) .nil)))) .nil))))))))))
abbrev xwbsumsk12_ : Tm := (.agg (.cons (.bool (.tt false)) (.cons (.int .u64 (.iapp 0 (.cons (.int .i64 xwbsumsk2_) (.cons (.int .i64 (.lit 0)) .nil)))) (.cons (.int .u64 (.iapp 0 (.cons (.int .i64 xwbsumsk2_) (.cons (.int .i64 (.lit 1)) .nil)))) (.cons (.int .u64 (.iapp 0 (.cons (.int .i64 xwbsumsk2_) (.cons (.int .i64 (.lit 2)) .nil)))) (.cons (.int .u64 (.iapp 0 (.cons (.int .i64 xwbsumsk2_) (.cons (.int .i64 (.lit 3)) .nil)))) (.cons (.int .u64 (.iapp 0 (.cons (.int .i64 xwbsumsk2_) (.cons (.int .i64 (.lit 4)) .nil)))) (.cons (.int .u64 (.iapp 0 (.cons (.int .i64 xwbsumsk2_) (.cons (.int .i64 (.lit 5)) .nil)))) (.cons (.int .u64 (.iapp 0 (.cons (.int .i64 xwbsumsk2_) (.cons (.int .i64 (.lit 6)) .nil)))) (.cons (.int .u64 (.iapp 0 (.cons (.int .i64 xwbsumsk2_) (.cons (.int .i64 (.lit 7)) .nil)))) .nil))))))))))
abbrev xwbsumsk13_ : Tm := (.agg (.cons (.bool (.tt false)) (.cons (.int .u64 (.iapp 0 (.cons (.int .i64 xwbsumsk1_) (.cons (.int .i64 (.lit 0)) .nil)))) (.cons (.int .u64 (.iapp 0 (.cons (.int .i64 xwbsumsk1_) (.cons (.int .i64 (.lit 1)) .nil)))) (.cons (.int .u64 (.iapp 0 (.cons (.int .i64 xwbsumsk1_) (.cons (.int .i64 (.lit 2)) .nil)))) (.cons (.int .u64 (.iapp 0 (.cons (.int .i64 xwbsumsk1_) (.cons (.int .i64 (.lit 3)) .nil)))) (.cons (.int .u64 (.iapp 0 (.cons (.int .i64 xwbsumsk1_) (.cons (.int .i64 (.lit 4)) .nil)))) (.cons (.int .u64 (.iapp 0 (.cons (.int .i64 xwbsumsk1_) (.cons (.int .i64 (.lit 5)) .nil)))) (.cons (.int .u64 (.iapp 0 (.cons (.int .i64 xwbsumsk1_) (.cons (.int .i64 (.lit 6)) .nil)))) (.cons (.int .u64 (.iapp 0 (.cons (.int .i64 xwbsumsk1_) (.cons (.int .i64 (.lit 7)) .nil)))) .nil))))))))))
abbrev xwbsumsk14_ : Tm := (eq_ (.iapp 6 (.cons (.int .i64 (sb_ (.lit 0) v0_)) .nil)) (.lit 0))
abbrev xwbsumsk15_ : Tm := (an_ (an_ (le_ (.lit 0) (.iapp 2 (.cons z0_ .nil))) (le_ (.iapp 2 (.cons z0_ .nil)) (.lit 1606938044258990275541962092341162602522202993782792835301376))) (an_ (le_ (.lit 0) (.iapp 2 (.cons z1_ .nil))) (le_ (.iapp 2 (.cons z1_ .nil)) (.lit 1606938044258990275541962092341162602522202993782792835301376))))
abbrev xwbsumsk16_ : Tm := (.iapp 2 (.cons (.int .i64 (sb_ v0_ v1_)) .nil))
abbrev xwbsumsk17_ : Tm := (.iapp 2 (.cons (.int .i64 (ad_ v0_ v1_)) .nil))
abbrev xwbsumsk18_ : Tm := (.agg (.cons (.int .i64 (.iapp 8 (.cons (.int .i64 (.iapp 6 (.cons z0_ .nil))) (.cons (.int .i64 (.iapp 4 (.cons z0_ .nil))) .nil)))) (.cons (.int .u64 (.iapp 8 (.cons (.int .i64 (.iapp 6 (.cons z0_ .nil))) (.cons (.int .i64 (.iapp 5 (.cons z0_ .nil))) .nil)))) .nil)))
abbrev xwbsumsk19_ : Tm := (an_ (le_ (.lit (-1569275433846670190958947355801916604025588861116008628224)) v0_) (le_ v0_ (.lit 0)))
abbrev xwbsumsk20_ : Tm := (an_ (le_ (.lit 0) v0_) (le_ v0_ (.lit 1569275433846670190958947355801916604025588861116008628224)))
theorem ab_rng {x : Int} (h0 : -1569275433846670190958947355801916604025588861116008628224 ≤ x) (h1 : x ≤ 1569275433846670190958947355801916604025588861116008628224) : 0 ≤ abI x ∧ abI x < B8 := by
 have := ab_spec x
 unfold B8
 omega
theorem toN_w (x : Int) (w : World) (h0 : -1569275433846670190958947355801916604025588861116008628224 ≤ x) (h1 : x ≤ 1569275433846670190958947355801916604025588861116008628224) : Calls Tryd.prog 15 #[.agg #[.bool (decide (x < 0)), .int .u64 (dg (abI (x)) 0), .int .u64 (dg (abI (x)) 1), .int .u64 (dg (abI (x)) 2), .int .u64 (dg (abI (x)) 3), .int .u64 (dg (abI (x)) 4), .int .u64 (dg (abI (x)) 5), .int .u64 (dg (abI (x)) 6), .int .u64 (dg (abI (x)) 7)]] w fun e w' => e = .returned (.tuple #[.agg #[.int .i64 (gdF (rgE (x)) ((x) / 18446744073709551616)), .int .u64 (gdF (rgE (x)) ((x) % 18446744073709551616))], .bool (rgE (x) == 0)]) ∧ Below w.heap.size w w' := by
 have h := to_w (decide (x < 0)) (abI x) w (ab_rng h0 h1).1 (ab_rng h0 h1).2 (fun h => by have h1 := of_decide_eq_true h.1; have h2 := ab_spec x; omega)
 rw [sg_ab] at h
 exact h
theorem toF_w (x : Int) (w : World) (h0 : -1569275433846670190958947355801916604025588861116008628224 ≤ x) (h1 : x ≤ 0) : Calls Tryd.prog 15 #[.agg #[.bool (false), .int .u64 (dg (abI x) 0), .int .u64 (dg (abI x) 1), .int .u64 (dg (abI x) 2), .int .u64 (dg (abI x) 3), .int .u64 (dg (abI x) 4), .int .u64 (dg (abI x) 5), .int .u64 (dg (abI x) 6), .int .u64 (dg (abI x) 7)]] w fun e w' => e = .returned (.tuple #[.agg #[.int .i64 (gdF (rgE (0 - x)) ((0 - x) / 18446744073709551616)), .int .u64 (gdF (rgE (0 - x)) ((0 - x) % 18446744073709551616))], .bool (rgE (0 - x) == 0)]) ∧ Below w.heap.size w w' := by
 have h := to_w false (abI x) w (ab_rng h0 (by omega)).1 (ab_rng h0 (by omega)).2 (fun h => Bool.noConfusion h.1)
 rw [sg_f, show abI x = 0 - x by (have := ab_spec x; omega)] at h
 rw [show abI x = 0 - x by (have := ab_spec x; omega)]
 exact h
theorem toT_w (x : Int) (w : World) (h0 : 0 ≤ x) (h1 : x ≤ 1569275433846670190958947355801916604025588861116008628224) : Calls Tryd.prog 15 #[.agg #[.bool (!(x == 0)), .int .u64 (dg (abI x) 0), .int .u64 (dg (abI x) 1), .int .u64 (dg (abI x) 2), .int .u64 (dg (abI x) 3), .int .u64 (dg (abI x) 4), .int .u64 (dg (abI x) 5), .int .u64 (dg (abI x) 6), .int .u64 (dg (abI x) 7)]] w fun e w' => e = .returned (.tuple #[.agg #[.int .i64 (gdF (rgE (0 - x)) ((0 - x) / 18446744073709551616)), .int .u64 (gdF (rgE (0 - x)) ((0 - x) % 18446744073709551616))], .bool (rgE (0 - x) == 0)]) ∧ Below w.heap.size w w' := by
 by_cases hz : x = 0
 · subst hz; exact toF_w 0 w (by decide) (by decide)
 rw [show (!(x == 0)) = true by (rw [beq_eq_false_iff_ne.2 hz]; rfl)]
 have h := to_w true (abI x) w (ab_rng (by omega) h1).1 (ab_rng (by omega) h1).2 (fun h => by have h2 := ab_spec x; omega)
 rw [sg_t, show abI x = x by (have := ab_spec x; omega), show -x = 0 - x by omega] at h
 rw [show abI x = x by (have := ab_spec x; omega)]
 exact h
theorem numN_w (x : Int) (w : World) (h0 : -1569275433846670190958947355801916604025588861116008628224 ≤ x) (h1 : x ≤ 1569275433846670190958947355801916604025588861116008628224) : Calls Tryd.prog 17 #[.agg #[.bool (decide (x < 0)), .int .u64 (dg (abI (x)) 0), .int .u64 (dg (abI (x)) 1), .int .u64 (dg (abI (x)) 2), .int .u64 (dg (abI (x)) 3), .int .u64 (dg (abI (x)) 4), .int .u64 (dg (abI (x)) 5), .int .u64 (dg (abI (x)) 6), .int .u64 (dg (abI (x)) 7)]] w fun e w' => e = .returned (.tuple #[.int .i64 (gdF (r6E x) x), .bool (r6E x == 0)]) ∧ Below w.heap.size w w' := by
 have h := number_w (decide (x < 0)) (abI x) w (ab_rng h0 h1).1 (ab_rng h0 h1).2 (fun h => by have h1 := of_decide_eq_true h.1; have h2 := ab_spec x; omega)
 rw [sg_ab] at h
 exact h
theorem zeroN_w (x : Int) (w : World) (h0 : -1569275433846670190958947355801916604025588861116008628224 ≤ x) (h1 : x ≤ 1569275433846670190958947355801916604025588861116008628224) : Calls Tryd.prog 16 #[.agg #[.int .u64 (dg (abI x) 0), .int .u64 (dg (abI x) 1), .int .u64 (dg (abI x) 2), .int .u64 (dg (abI x) 3), .int .u64 (dg (abI x) 4), .int .u64 (dg (abI x) 5), .int .u64 (dg (abI x) 6), .int .u64 (dg (abI x) 7)]] w fun e w' => e = .returned (.bool (x == 0)) ∧ Below w.heap.size w w' := by
 have h := zero_w (abI x) w (ab_rng h0 h1).1 (ab_rng h0 h1).2
 rw [show (abI x == 0) = (x == 0) by (rw [Bool.eq_iff_iff]; simp only [beq_iff_eq]; have := ab_spec x; omega)] at h
 exact h
theorem mulO_w (x y : Int) (w : World) (h0 : -9223372036854775808 ≤ x) (h1 : x ≤ 9223372036854775807) (h2 : -9223372036854775808 ≤ y) (h3 : y ≤ 9223372036854775807) : Calls Tryd.prog 24 #[bigV x, bigV y] w fun e w' => e = .returned (bigV (x * y)) ∧ Below w.heap.size w w' := by
 have e : BS ^ 4 = 340282366920938463463374607431768211456 := rfl
 exact mul_c x y _ w (by omega) (by omega) rfl
theorem good_split {P : Program} {G : Glob} {ρ : Env} {c : Con} (C : Tm) (h1 : Con.Good P G ρ { c with cnd := .b2 .and c.cnd C }) (h2 : Con.Good P G ρ { c with cnd := .b2 .and c.cnd (.not C) }) : c.Good P G ρ := by
 intro iv bv vv sv β ok w xs n1 n2 n3 n4 hc ho hG hr he
 by_cases h : holds { ρ with iv := iv, bv := bv, vv := vv, sv := sv } C
 · exact h1 iv bv vv sv β ok w xs n1 n2 n3 n4 ⟨hc, h⟩ ho hG hr he
 · exact h2 iv bv vv sv β ok w xs n1 n2 n3 n4 ⟨hc, h⟩ ho hG hr he
theorem sure02_any (w : World) (hg : w.cell? ⟨0, 0, none⟩ = some asHandle) : Calls Tryd.prog 25 #[] w fun e w' => e = .returned (.bool true) ∧ Below w.heap.size w w' := sure02 w hg
noncomputable def wbI : Nat → List Value → Int
 | i, l => waI i l
noncomputable def wbB : Nat → List Value → Bool
 | i, l => waB i l
noncomputable def wbV : Nat → List Value → Value
 | 0, [.int _ x] => bigV x
 | i, l => waV i l
noncomputable abbrev wbE (iv : List Int) (bv : List Bool) (vv : List Value) (sv : List ByteArray) : Env := { iv := iv, bv := bv, vv := vv, sv := sv, fi := wbI, fb := wbB, fv := wbV, et := 142 }
set_option maxHeartbeats 8000000 in
theorem wbup : Agree 16 1 0 (waE [] [] [] []) (wbE [] [] [] []) := ⟨rfl, (by
   intro f hf
   funext l
   show wbI f l = waI f l
   unfold wbI
   split <;> first | rfl | omega), (by
   intro f hf
   funext l
   show wbB f l = waB f l
   unfold wbB
   split <;> first | rfl | omega), (by
   intro f hf
   funext l
   show wbV f l = waV f l
   unfold wbV
   split <;> first | rfl | omega)⟩
theorem wbi_dg (k1 : IntKind) (m : Int) (k2 : IntKind) (k : Int) : wbI 0 [.int k1 m, .int k2 k] = dg m k.toNat := rfl
theorem wbi_ab (k1 : IntKind) (x : Int) : wbI 2 [.int k1 x] = abI x := rfl
theorem wbi_wv (k1 : IntKind) (h : Int) (k2 : IntKind) (l : Int) : wbI 3 [.int k1 h, .int k2 l] = wvI h l := rfl
theorem wbi_wh (k1 : IntKind) (x : Int) : wbI 4 [.int k1 x] = x / 18446744073709551616 := rfl
theorem wbi_wl (k1 : IntKind) (x : Int) : wbI 5 [.int k1 x] = x % 18446744073709551616 := rfl
theorem wbi_rg (k1 : IntKind) (x : Int) : wbI 6 [.int k1 x] = rgE x := rfl
theorem wbi_r6 (k1 : IntKind) (x : Int) : wbI 7 [.int k1 x] = r6E x := rfl
theorem wbi_gd (k1 : IntKind) (e : Int) (k2 : IntKind) (x : Int) : wbI 8 [.int k1 e, .int k2 x] = gdF e x := rfl
theorem wbi_sz (k1 : IntKind) (x : Int) (k2 : IntKind) (y : Int) : wbI 9 [.int k1 x, .int k2 y] = sizeR x y := rfl
theorem wbi_cp (k1 : IntKind) (x : Int) : wbI 13 [.int k1 x] = cpI x := rfl
theorem wbb_ng (k1 : IntKind) (x : Int) : wbB 0 [.int k1 x] = decide (x < 0) := rfl
theorem wbv_bv (k1 : IntKind) (x : Int) : wbV 0 [.int k1 x] = bigV x := rfl
abbrev wbc_bintO : Con := ⟨22, [z0_], (an_ (le_ lm_ v0_) (le_ v0_ lM_)), (.vapp 0 (.cons z0_ .nil)), ⟨1, 0, 0, 0⟩, none⟩
theorem wbg_bintO : wbc_bintO.Good Tryd.prog syG (wbE [] [] [] []) := good_flat rfl rfl rfl (by
 intro a hc β ok w hG
 have hc' := hc
 simp only [Tree.holds, Sy.holds, AllN, Env.more, wbE, List.cons_append, List.nil_append, List.append_nil, denV, denI, denB, denL, I2.den, VOp.den, List.getD_cons_zero, List.getD_cons_succ, Cst.den, syso, syse, syio, sybo, wbv_bv, List.map_nil, List.map_cons, B2.ofInts, B2.denI, B2.denB, if_true, Bool.false_eq_true, if_false, Nat.div_one, Nat.mul_one, Nat.add_zero, holds] at hc
 exact int_c a w hc)
abbrev wbc_bmulO : Con := ⟨24, [(.vapp 0 (.cons z0_ .nil)), (.vapp 0 (.cons z1_ .nil))], (an_ (an_ (le_ lm_ v0_) (le_ v0_ lM_)) (an_ (le_ lm_ v1_) (le_ v1_ lM_))), (.vapp 0 (.cons (.int .i64 (ml_ v0_ v1_)) .nil)), ⟨2, 0, 0, 0⟩, none⟩
theorem wbg_bmulO : wbc_bmulO.Good Tryd.prog syG (wbE [] [] [] []) := good_flat rfl rfl rfl (by
 intro x y hc β ok w hG
 have hc' := hc
 simp only [Tree.holds, Sy.holds, AllN, Env.more, wbE, List.cons_append, List.nil_append, List.append_nil, denV, denI, denB, denL, I2.den, VOp.den, List.getD_cons_zero, List.getD_cons_succ, Cst.den, syso, syse, syio, sybo, wbv_bv, List.map_nil, List.map_cons, B2.ofInts, B2.denI, B2.denB, if_true, Bool.false_eq_true, if_false, Nat.div_one, Nat.mul_one, Nat.add_zero, holds] at hc
 exact mulO_w x y w hc.1.1 hc.1.2 hc.2.1 hc.2.2)
abbrev wbc_btoN : Con := ⟨15, [xwbsumsk0_], xwbsumsk4_, (.tup (.cons xwbsumsk18_ (.cons (.bool (eq_ (.iapp 6 (.cons z0_ .nil)) (.lit 0))) .nil))), ⟨1, 0, 0, 0⟩, none⟩
theorem wbg_btoN : wbc_btoN.Good Tryd.prog syG (wbE [] [] [] []) := good_flat rfl rfl rfl (by
 intro x hc β ok w hG
 have hc' := hc
 simp only [Tree.holds, Sy.holds, AllN, Env.more, wbE, List.cons_append, List.nil_append, List.append_nil, denV, denI, denB, denL, I2.den, VOp.den, List.getD_cons_zero, List.getD_cons_succ, Cst.den, syso, syse, syio, sybo, wbi_dg, wbi_ab, wbi_wh, wbi_wl, wbi_rg, wbi_gd, wbb_ng, List.map_nil, List.map_cons, B2.ofInts, B2.denI, B2.denB, if_true, Bool.false_eq_true, if_false, Nat.div_one, Nat.mul_one, Nat.add_zero, holds] at hc
 exact toN_w x w hc.1 hc.2)
abbrev wbc_btoF : Con := ⟨15, [xwbsumsk7_], xwbsumsk19_, (.tup (.cons xwbsumsk5_ (.cons (.bool xwbsumsk14_) .nil))), ⟨1, 0, 0, 0⟩, none⟩
theorem wbg_btoF : wbc_btoF.Good Tryd.prog syG (wbE [] [] [] []) := good_flat rfl rfl rfl (by
 intro x hc β ok w hG
 have hc' := hc
 simp only [Tree.holds, Sy.holds, AllN, Env.more, wbE, List.cons_append, List.nil_append, List.append_nil, denV, denI, denB, denL, I2.den, VOp.den, List.getD_cons_zero, List.getD_cons_succ, Cst.den, syso, syse, syio, sybo, wbi_dg, wbi_ab, wbi_wh, wbi_wl, wbi_rg, wbi_gd, List.map_nil, List.map_cons, B2.ofInts, B2.denI, B2.denB, if_true, Bool.false_eq_true, if_false, Nat.div_one, Nat.mul_one, Nat.add_zero, holds] at hc
 exact toF_w x w hc.1 hc.2)
abbrev wbc_btoT : Con := ⟨15, [xwbsumsk6_], xwbsumsk20_, (.tup (.cons xwbsumsk5_ (.cons (.bool xwbsumsk14_) .nil))), ⟨1, 0, 0, 0⟩, none⟩
theorem wbg_btoT : wbc_btoT.Good Tryd.prog syG (wbE [] [] [] []) := good_flat rfl rfl rfl (by
 intro x hc β ok w hG
 have hc' := hc
 simp only [Tree.holds, Sy.holds, AllN, Env.more, wbE, List.cons_append, List.nil_append, List.append_nil, denV, denI, denB, denL, I2.den, VOp.den, List.getD_cons_zero, List.getD_cons_succ, Cst.den, syso, syse, syio, sybo, wbi_dg, wbi_ab, wbi_wh, wbi_wl, wbi_rg, wbi_gd, List.map_nil, List.map_cons, B2.ofInts, B2.denI, B2.denB, if_true, Bool.false_eq_true, if_false, Nat.div_one, Nat.mul_one, Nat.add_zero, holds] at hc
 exact toT_w x w hc.1 hc.2)
abbrev wbc_bnumN : Con := ⟨17, [xwbsumsk0_], xwbsumsk4_, (.tup (.cons (.int .i64 (.iapp 8 (.cons (.int .i64 (.iapp 7 (.cons z0_ .nil))) (.cons z0_ .nil)))) (.cons (.bool (eq_ (.iapp 7 (.cons z0_ .nil)) (.lit 0))) .nil))), ⟨1, 0, 0, 0⟩, none⟩
theorem wbg_bnumN : wbc_bnumN.Good Tryd.prog syG (wbE [] [] [] []) := good_flat rfl rfl rfl (by
 intro x hc β ok w hG
 have hc' := hc
 simp only [Tree.holds, Sy.holds, AllN, Env.more, wbE, List.cons_append, List.nil_append, List.append_nil, denV, denI, denB, denL, I2.den, VOp.den, List.getD_cons_zero, List.getD_cons_succ, Cst.den, syso, syse, syio, sybo, wbi_dg, wbi_ab, wbi_r6, wbi_gd, wbb_ng, List.map_nil, List.map_cons, B2.ofInts, B2.denI, B2.denB, if_true, Bool.false_eq_true, if_false, Nat.div_one, Nat.mul_one, Nat.add_zero, holds] at hc
 exact numN_w x w hc.1 hc.2)
abbrev wbc_bzeroN : Con := ⟨16, [(.agg (.cons (.int .u64 (.iapp 0 (.cons (.int .i64 (.iapp 2 (.cons z0_ .nil))) (.cons (.int .i64 (.lit 0)) .nil)))) (.cons (.int .u64 (.iapp 0 (.cons (.int .i64 (.iapp 2 (.cons z0_ .nil))) (.cons (.int .i64 (.lit 1)) .nil)))) (.cons (.int .u64 (.iapp 0 (.cons (.int .i64 (.iapp 2 (.cons z0_ .nil))) (.cons (.int .i64 (.lit 2)) .nil)))) (.cons (.int .u64 (.iapp 0 (.cons (.int .i64 (.iapp 2 (.cons z0_ .nil))) (.cons (.int .i64 (.lit 3)) .nil)))) (.cons (.int .u64 (.iapp 0 (.cons (.int .i64 (.iapp 2 (.cons z0_ .nil))) (.cons (.int .i64 (.lit 4)) .nil)))) (.cons (.int .u64 (.iapp 0 (.cons (.int .i64 (.iapp 2 (.cons z0_ .nil))) (.cons (.int .i64 (.lit 5)) .nil)))) (.cons (.int .u64 (.iapp 0 (.cons (.int .i64 (.iapp 2 (.cons z0_ .nil))) (.cons (.int .i64 (.lit 6)) .nil)))) (.cons (.int .u64 (.iapp 0 (.cons (.int .i64 (.iapp 2 (.cons z0_ .nil))) (.cons (.int .i64 (.lit 7)) .nil)))) .nil)))))))))], xwbsumsk4_, (.bool (eq_ v0_ (.lit 0))), ⟨1, 0, 0, 0⟩, none⟩
theorem wbg_bzeroN : wbc_bzeroN.Good Tryd.prog syG (wbE [] [] [] []) := good_flat rfl rfl rfl (by
 intro x hc β ok w hG
 have hc' := hc
 simp only [Tree.holds, Sy.holds, AllN, Env.more, wbE, List.cons_append, List.nil_append, List.append_nil, denV, denI, denB, denL, I2.den, VOp.den, List.getD_cons_zero, List.getD_cons_succ, Cst.den, syso, syse, syio, sybo, wbi_dg, wbi_ab, List.map_nil, List.map_cons, B2.ofInts, B2.denI, B2.denB, if_true, Bool.false_eq_true, if_false, Nat.div_one, Nat.mul_one, Nat.add_zero, holds] at hc
 exact zeroN_w x w hc.1 hc.2)
def baddN_tree : Tree :=
 (.br (.b2 .beq (.bapp 0 (.cons z0_ .nil)) (.bapp 0 (.cons z1_ .nil)))
 (.br (.bapp 0 (.cons z0_ .nil))
 (.need (an_ (le_ (.lit 0) xwbsumsk3_) (le_ xwbsumsk3_ (.lit 1606938044258990275541962092341162602522202993782792835301376)))
 (.ret xwbsumsk8_))
 (.ret xwbsumsk11_))
 (.need xwbsumsk15_
 (.br (le_ (.lit 0) (.iapp 9 (.cons (.int .i64 (.iapp 2 (.cons z0_ .nil))) (.cons (.int .i64 (.iapp 2 (.cons z1_ .nil))) .nil))))
 (.br (.bapp 0 (.cons z0_ .nil))
 (.need (an_ (le_ (.lit 0) xwbsumsk2_) (le_ xwbsumsk2_ (.lit 1606938044258990275541962092341162602522202993782792835301376)))
 (.ret xwbsumsk9_))
 (.ret xwbsumsk12_))
 (.br (.bapp 0 (.cons z1_ .nil))
 (.need (an_ (le_ (.lit 0) xwbsumsk1_) (le_ xwbsumsk1_ (.lit 1606938044258990275541962092341162602522202993782792835301376)))
 (.ret xwbsumsk10_))
 (.ret xwbsumsk13_)))))
abbrev wbc_baddN : Con := ⟨14, [xwbsumsk0_, (.agg (.cons (.bool (.bapp 0 (.cons z1_ .nil))) (.cons (.int .u64 (.iapp 0 (.cons (.int .i64 (.iapp 2 (.cons z1_ .nil))) (.cons (.int .i64 (.lit 0)) .nil)))) (.cons (.int .u64 (.iapp 0 (.cons (.int .i64 (.iapp 2 (.cons z1_ .nil))) (.cons (.int .i64 (.lit 1)) .nil)))) (.cons (.int .u64 (.iapp 0 (.cons (.int .i64 (.iapp 2 (.cons z1_ .nil))) (.cons (.int .i64 (.lit 2)) .nil)))) (.cons (.int .u64 (.iapp 0 (.cons (.int .i64 (.iapp 2 (.cons z1_ .nil))) (.cons (.int .i64 (.lit 3)) .nil)))) (.cons (.int .u64 (.iapp 0 (.cons (.int .i64 (.iapp 2 (.cons z1_ .nil))) (.cons (.int .i64 (.lit 4)) .nil)))) (.cons (.int .u64 (.iapp 0 (.cons (.int .i64 (.iapp 2 (.cons z1_ .nil))) (.cons (.int .i64 (.lit 5)) .nil)))) (.cons (.int .u64 (.iapp 0 (.cons (.int .i64 (.iapp 2 (.cons z1_ .nil))) (.cons (.int .i64 (.lit 6)) .nil)))) (.cons (.int .u64 (.iapp 0 (.cons (.int .i64 (.iapp 2 (.cons z1_ .nil))) (.cons (.int .i64 (.lit 7)) .nil)))) .nil))))))))))], (an_ xwbsumsk4_ (an_ (le_ (.lit (-1569275433846670190958947355801916604025588861116008628224)) v1_) (le_ v1_ (.lit 1569275433846670190958947355801916604025588861116008628224)))), (.agg (.cons (.bool (.bapp 0 (.cons (.int .i64 (ad_ v0_ v1_)) .nil))) (.cons (.int .u64 (.iapp 0 (.cons (.int .i64 xwbsumsk17_) (.cons (.int .i64 (.lit 0)) .nil)))) (.cons (.int .u64 (.iapp 0 (.cons (.int .i64 xwbsumsk17_) (.cons (.int .i64 (.lit 1)) .nil)))) (.cons (.int .u64 (.iapp 0 (.cons (.int .i64 xwbsumsk17_) (.cons (.int .i64 (.lit 2)) .nil)))) (.cons (.int .u64 (.iapp 0 (.cons (.int .i64 xwbsumsk17_) (.cons (.int .i64 (.lit 3)) .nil)))) (.cons (.int .u64 (.iapp 0 (.cons (.int .i64 xwbsumsk17_) (.cons (.int .i64 (.lit 4)) .nil)))) (.cons (.int .u64 (.iapp 0 (.cons (.int .i64 xwbsumsk17_) (.cons (.int .i64 (.lit 5)) .nil)))) (.cons (.int .u64 (.iapp 0 (.cons (.int .i64 xwbsumsk17_) (.cons (.int .i64 (.lit 6)) .nil)))) (.cons (.int .u64 (.iapp 0 (.cons (.int .i64 xwbsumsk17_) (.cons (.int .i64 (.lit 7)) .nil)))) .nil)))))))))), ⟨2, 0, 0, 0⟩, none⟩
theorem baddN_w : walk Tryd.prog 142 ⟨[wac_bplus, wac_bless, wac_bsize, wac_bzero], syG, [], [], []⟩ [] .v wbc_baddN wbc_baddN.n 3000 = some baddN_tree := by kernel_rfl
theorem baddN_h (x y : Int) : Hyp_ wbc_baddN baddN_tree (wbE [x, y] [] [] []) := by
 intro hc hty
 simp only [wbc_baddN, Sy.holds, wbE, denV, denI, denB, denL, I2.den, VOp.den, List.getD_cons_zero, List.getD_cons_succ, Cst.den, syso, syse, syio, sybo, B2.ofInts, B2.denI, B2.denB, if_true, Bool.false_eq_true, if_false, Nat.div_one, Nat.mul_one, Nat.add_zero] at hc
 simp only [wbc_baddN, patsTyp, patTyp, patTypL, wbE, denV, denL, List.getD_cons_zero, List.getD_cons_succ, and_true, true_and] at hty
 unfold baddN_tree
 simp only [wbc_baddN, Tree.holds, Sy.holds, wbE, denV, denI, denB, denL, I2.den, VOp.den, List.getD_cons_zero, List.getD_cons_succ, Cst.den, syso, syse, syio, sybo, wbi_dg, wbi_ab, wbi_sz, wbb_ng, B2.ofInts, B2.denI, B2.denB, if_true, Bool.false_eq_true, if_false, Nat.div_one, Nat.mul_one, Nat.add_zero]
 have zs := sizeR_spec (abI x) (abI y)
 have ax := ab_spec x
 have ay := ab_spec y
 refine ⟨fun h0 => ?_, fun h0 => ?_⟩
 refine ⟨fun h1 => ?_, fun h1 => ?_⟩
 refine ⟨?_, fun h2 => ?_⟩
 ·
  omega
 refine ?a0; rotate_left
 refine ?a1; rotate_left
 refine ⟨?_, fun h3 => ?_⟩
 ·
  omega
 refine ⟨fun h4 => ?_, fun h4 => ?_⟩
 refine ⟨fun h5 => ?_, fun h5 => ?_⟩
 refine ⟨?_, fun h6 => ?_⟩
 ·
  omega
 refine ?a2; rotate_left
 refine ?a3; rotate_left
 refine ⟨fun h7 => ?_, fun h7 => ?_⟩
 refine ⟨?_, fun h8 => ?_⟩
 ·
  omega
 refine ?a4; rotate_left
 refine ?a5; rotate_left
 case a0 | a1 | a2 | a3 | a4 | a5 =>
  try simp only [decide_eq_true_eq] at *
  have ha := ab_spec (x + y)
  first
  | (exfalso; omega)
  | (rw [show abI (x + y) = abI x + abI y by omega, show decide (x + y < 0) = false from decide_eq_false (by omega)]; first | done | rfl)
  | (rw [show abI (x + y) = abI x + abI y by omega, show decide (x + y < 0) = !(abI x + abI y == 0) from by (rw [Bool.eq_iff_iff]; simp only [decide_eq_true_eq, Bool.not_eq_true', beq_eq_false_iff_ne, ne_eq]; omega)]; first | done | rfl)
  | (rw [show abI (x + y) = abI x - abI y by omega, show decide (x + y < 0) = false from decide_eq_false (by omega)]; first | done | rfl)
  | (rw [show abI (x + y) = abI x - abI y by omega, show decide (x + y < 0) = !(abI x - abI y == 0) from by (rw [Bool.eq_iff_iff]; simp only [decide_eq_true_eq, Bool.not_eq_true', beq_eq_false_iff_ne, ne_eq]; omega)]; first | done | rfl)
  | (rw [show abI (x + y) = abI y - abI x by omega, show decide (x + y < 0) = false from decide_eq_false (by omega)]; first | done | rfl)
  | (rw [show abI (x + y) = abI y - abI x by omega, show decide (x + y < 0) = !(abI y - abI x == 0) from by (rw [Bool.eq_iff_iff]; simp only [decide_eq_true_eq, Bool.not_eq_true', beq_eq_false_iff_ne, ne_eq]; omega)]; first | done | rfl)
  | skip
theorem wbg_baddN : wbc_baddN.Good Tryd.prog syG (wbE [] [] [] []) := good_of_walk (Γ := ⟨[wac_bplus, wac_bless, wac_bsize, wac_bzero], syG, [], [], []⟩) (ρ := wbE [] [] [] []) sym baddN_w rfl (fun _ _ _ _ => (ok_cons (Con.Good.env (Con.Good.up wag_bplus wbup rfl) _ _ _ _) (ok_cons (Con.Good.env (Con.Good.up wag_bless wbup rfl) _ _ _ _) (ok_cons (Con.Good.env (Con.Good.up wag_bsize wbup rfl) _ _ _ _) (ok_cons (Con.Good.env (Con.Good.up wag_bzero wbup rfl) _ _ _ _) ok_nil))))) baddN_h
def baddM_tree : Tree :=
 (.br (.b2 .beq (.bapp 0 (.cons z0_ .nil)) (.not (.bapp 0 (.cons z1_ .nil))))
 (.br (.bapp 0 (.cons z0_ .nil))
 (.need (an_ (le_ (.lit 0) xwbsumsk3_) (le_ xwbsumsk3_ (.lit 1606938044258990275541962092341162602522202993782792835301376)))
 (.ret xwbsumsk8_))
 (.ret xwbsumsk11_))
 (.need xwbsumsk15_
 (.br (le_ (.lit 0) (.iapp 9 (.cons (.int .i64 (.iapp 2 (.cons z0_ .nil))) (.cons (.int .i64 (.iapp 2 (.cons z1_ .nil))) .nil))))
 (.br (.bapp 0 (.cons z0_ .nil))
 (.need (an_ (le_ (.lit 0) xwbsumsk2_) (le_ xwbsumsk2_ (.lit 1606938044258990275541962092341162602522202993782792835301376)))
 (.ret xwbsumsk9_))
 (.ret xwbsumsk12_))
 (.br (.not (.bapp 0 (.cons z1_ .nil)))
 (.need (an_ (le_ (.lit 0) xwbsumsk1_) (le_ xwbsumsk1_ (.lit 1606938044258990275541962092341162602522202993782792835301376)))
 (.ret xwbsumsk10_))
 (.ret xwbsumsk13_)))))
abbrev wbc_baddM : Con := ⟨14, [xwbsumsk0_, (.agg (.cons (.bool (.not (.bapp 0 (.cons z1_ .nil)))) (.cons (.int .u64 (.iapp 0 (.cons (.int .i64 (.iapp 2 (.cons z1_ .nil))) (.cons (.int .i64 (.lit 0)) .nil)))) (.cons (.int .u64 (.iapp 0 (.cons (.int .i64 (.iapp 2 (.cons z1_ .nil))) (.cons (.int .i64 (.lit 1)) .nil)))) (.cons (.int .u64 (.iapp 0 (.cons (.int .i64 (.iapp 2 (.cons z1_ .nil))) (.cons (.int .i64 (.lit 2)) .nil)))) (.cons (.int .u64 (.iapp 0 (.cons (.int .i64 (.iapp 2 (.cons z1_ .nil))) (.cons (.int .i64 (.lit 3)) .nil)))) (.cons (.int .u64 (.iapp 0 (.cons (.int .i64 (.iapp 2 (.cons z1_ .nil))) (.cons (.int .i64 (.lit 4)) .nil)))) (.cons (.int .u64 (.iapp 0 (.cons (.int .i64 (.iapp 2 (.cons z1_ .nil))) (.cons (.int .i64 (.lit 5)) .nil)))) (.cons (.int .u64 (.iapp 0 (.cons (.int .i64 (.iapp 2 (.cons z1_ .nil))) (.cons (.int .i64 (.lit 6)) .nil)))) (.cons (.int .u64 (.iapp 0 (.cons (.int .i64 (.iapp 2 (.cons z1_ .nil))) (.cons (.int .i64 (.lit 7)) .nil)))) .nil))))))))))], (an_ xwbsumsk4_ (an_ (le_ (.lit (-1569275433846670190958947355801916604025588861116008628224)) v1_) (le_ v1_ (.lit 1569275433846670190958947355801916604025588861116008628224)))), (.agg (.cons (.bool (.bapp 0 (.cons (.int .i64 (sb_ v0_ v1_)) .nil))) (.cons (.int .u64 (.iapp 0 (.cons (.int .i64 xwbsumsk16_) (.cons (.int .i64 (.lit 0)) .nil)))) (.cons (.int .u64 (.iapp 0 (.cons (.int .i64 xwbsumsk16_) (.cons (.int .i64 (.lit 1)) .nil)))) (.cons (.int .u64 (.iapp 0 (.cons (.int .i64 xwbsumsk16_) (.cons (.int .i64 (.lit 2)) .nil)))) (.cons (.int .u64 (.iapp 0 (.cons (.int .i64 xwbsumsk16_) (.cons (.int .i64 (.lit 3)) .nil)))) (.cons (.int .u64 (.iapp 0 (.cons (.int .i64 xwbsumsk16_) (.cons (.int .i64 (.lit 4)) .nil)))) (.cons (.int .u64 (.iapp 0 (.cons (.int .i64 xwbsumsk16_) (.cons (.int .i64 (.lit 5)) .nil)))) (.cons (.int .u64 (.iapp 0 (.cons (.int .i64 xwbsumsk16_) (.cons (.int .i64 (.lit 6)) .nil)))) (.cons (.int .u64 (.iapp 0 (.cons (.int .i64 xwbsumsk16_) (.cons (.int .i64 (.lit 7)) .nil)))) .nil)))))))))), ⟨2, 0, 0, 0⟩, none⟩
theorem baddM_w : walk Tryd.prog 142 ⟨[wac_bplus, wac_bless, wac_bsize, wac_bzero], syG, [], [], []⟩ [] .v wbc_baddM wbc_baddM.n 3000 = some baddM_tree := by kernel_rfl
theorem baddM_h (x y : Int) : Hyp_ wbc_baddM baddM_tree (wbE [x, y] [] [] []) := by
 intro hc hty
 simp only [wbc_baddM, Sy.holds, wbE, denV, denI, denB, denL, I2.den, VOp.den, List.getD_cons_zero, List.getD_cons_succ, Cst.den, syso, syse, syio, sybo, B2.ofInts, B2.denI, B2.denB, if_true, Bool.false_eq_true, if_false, Nat.div_one, Nat.mul_one, Nat.add_zero] at hc
 simp only [wbc_baddM, patsTyp, patTyp, patTypL, wbE, denV, denL, List.getD_cons_zero, List.getD_cons_succ, and_true, true_and] at hty
 unfold baddM_tree
 simp only [wbc_baddM, Tree.holds, Sy.holds, wbE, denV, denI, denB, denL, I2.den, VOp.den, List.getD_cons_zero, List.getD_cons_succ, Cst.den, syso, syse, syio, sybo, wbi_dg, wbi_ab, wbi_sz, wbb_ng, B2.ofInts, B2.denI, B2.denB, if_true, Bool.false_eq_true, if_false, Nat.div_one, Nat.mul_one, Nat.add_zero]
 have zs := sizeR_spec (abI x) (abI y)
 have ax := ab_spec x
 have ay := ab_spec y
 refine ⟨fun h0 => ?_, fun h0 => ?_⟩
 refine ⟨fun h1 => ?_, fun h1 => ?_⟩
 refine ⟨?_, fun h2 => ?_⟩
 ·
  omega
 refine ?a0; rotate_left
 refine ?a1; rotate_left
 refine ⟨?_, fun h3 => ?_⟩
 ·
  omega
 refine ⟨fun h4 => ?_, fun h4 => ?_⟩
 refine ⟨fun h5 => ?_, fun h5 => ?_⟩
 refine ⟨?_, fun h6 => ?_⟩
 ·
  omega
 refine ?a2; rotate_left
 refine ?a3; rotate_left
 refine ⟨fun h7 => ?_, fun h7 => ?_⟩
 refine ⟨?_, fun h8 => ?_⟩
 ·
  omega
 refine ?a4; rotate_left
 refine ?a5; rotate_left
 case a0 | a1 | a2 | a3 | a4 | a5 =>
  try simp only [decide_eq_true_eq] at *
  have ha := ab_spec (x - y)
  first
  | (exfalso; omega)
  | (rw [show abI (x - y) = abI x + abI y by omega, show decide (x - y < 0) = false from decide_eq_false (by omega)]; first | done | rfl)
  | (rw [show abI (x - y) = abI x + abI y by omega, show decide (x - y < 0) = !(abI x + abI y == 0) from by (rw [Bool.eq_iff_iff]; simp only [decide_eq_true_eq, Bool.not_eq_true', beq_eq_false_iff_ne, ne_eq]; omega)]; first | done | rfl)
  | (rw [show abI (x - y) = abI x - abI y by omega, show decide (x - y < 0) = false from decide_eq_false (by omega)]; first | done | rfl)
  | (rw [show abI (x - y) = abI x - abI y by omega, show decide (x - y < 0) = !(abI x - abI y == 0) from by (rw [Bool.eq_iff_iff]; simp only [decide_eq_true_eq, Bool.not_eq_true', beq_eq_false_iff_ne, ne_eq]; omega)]; first | done | rfl)
  | (rw [show abI (x - y) = abI y - abI x by omega, show decide (x - y < 0) = false from decide_eq_false (by omega)]; first | done | rfl)
  | (rw [show abI (x - y) = abI y - abI x by omega, show decide (x - y < 0) = !(abI y - abI x == 0) from by (rw [Bool.eq_iff_iff]; simp only [decide_eq_true_eq, Bool.not_eq_true', beq_eq_false_iff_ne, ne_eq]; omega)]; first | done | rfl)
  | skip
theorem wbg_baddM : wbc_baddM.Good Tryd.prog syG (wbE [] [] [] []) := good_of_walk (Γ := ⟨[wac_bplus, wac_bless, wac_bsize, wac_bzero], syG, [], [], []⟩) (ρ := wbE [] [] [] []) sym baddM_w rfl (fun _ _ _ _ => (ok_cons (Con.Good.env (Con.Good.up wag_bplus wbup rfl) _ _ _ _) (ok_cons (Con.Good.env (Con.Good.up wag_bless wbup rfl) _ _ _ _) (ok_cons (Con.Good.env (Con.Good.up wag_bsize wbup rfl) _ _ _ _) (ok_cons (Con.Good.env (Con.Good.up wag_bzero wbup rfl) _ _ _ _) ok_nil))))) baddM_h
def lis1_tree : Tree :=
 (.need xwbsumsk4_
 (.br (eq_ (.iapp 6 (.cons z0_ .nil)) (.lit 0))
 (.ret (.bool (an_ (eq_ (.iapp 4 (.cons z0_ .nil)) (.iapp 8 (.cons (.int .i64 (.iapp 6 (.cons z0_ .nil))) (.cons (.int .i64 (.iapp 4 (.cons z0_ .nil))) .nil)))) (eq_ (.iapp 5 (.cons z0_ .nil)) (.iapp 8 (.cons (.int .i64 (.iapp 6 (.cons z0_ .nil))) (.cons (.int .i64 (.iapp 5 (.cons z0_ .nil))) .nil)))))))
 (.ret (.bool (.tt false)))))
abbrev wbc_lis1 : Con := ⟨18, [(.agg (.cons (.int .i64 (.iapp 4 (.cons z0_ .nil))) (.cons (.int .u64 (.iapp 5 (.cons z0_ .nil))) .nil))), xwbsumsk0_], (an_ (eq_ (.iapp 6 (.cons z0_ .nil)) (.lit 0)) xwbsumsk4_), (.bool (.tt true)), ⟨1, 0, 0, 0⟩, none⟩
theorem lis1_w : walk Tryd.prog 142 ⟨[wbc_btoN], syG, [], [], []⟩ [] .v wbc_lis1 wbc_lis1.n 3000 = some lis1_tree := by kernel_rfl
theorem lis1_h (x : Int) : Hyp_ wbc_lis1 lis1_tree (wbE [x] [] [] []) := by
 intro hc hty
 simp only [wbc_lis1, Sy.holds, wbE, denV, denI, denB, denL, I2.den, VOp.den, List.getD_cons_zero, List.getD_cons_succ, Cst.den, syso, syse, syio, sybo, wbi_rg, B2.ofInts, B2.denI, B2.denB, if_true, Bool.false_eq_true, if_false, Nat.div_one, Nat.mul_one, Nat.add_zero] at hc
 simp only [wbc_lis1, patsTyp, patTyp, patTypL, wbE, denV, denL, List.getD_cons_zero, List.getD_cons_succ, and_true, true_and] at hty
 unfold lis1_tree
 simp only [wbc_lis1, Tree.holds, Sy.holds, wbE, denV, denI, denB, denL, I2.den, VOp.den, List.getD_cons_zero, List.getD_cons_succ, Cst.den, syso, syse, syio, sybo, wbi_wh, wbi_wl, wbi_rg, wbi_gd, B2.ofInts, B2.denI, B2.denB, if_true, Bool.false_eq_true, if_false, Nat.div_one, Nat.mul_one, Nat.add_zero]
 have hz : rgE (x) = 0 := hc.1
 try simp only [gd_y hz]
 try simp only [hz]
 refine ⟨?_, fun h0 => ?_⟩
 ·
  first
  | exact hc.2
  | omega
 refine ⟨fun h1 => ?_, fun h1 => ?_⟩
 refine ?a0; rotate_left
 refine ?a1; rotate_left
 case a0 | a1 =>
  first
  | rfl
  | exact absurd rfl (by assumption)
  | contradiction
  | (simp only [beq_self_eq_true, Bool.true_and, Bool.and_self]; done)
  | skip
theorem wbg_lis1 : wbc_lis1.Good Tryd.prog syG (wbE [] [] [] []) := good_of_walk (Γ := ⟨[wbc_btoN], syG, [], [], []⟩) (ρ := wbE [] [] [] []) sym lis1_w rfl (fun _ _ _ _ => (ok_cons (Con.Good.env wbg_btoN _ _ _ _) ok_nil)) lis1_h
abbrev wbc_lisO : Con := ⟨18, [(.agg (.cons (.int .i64 (.iapp 4 (.cons z0_ .nil))) (.cons (.int .u64 (.iapp 5 (.cons z0_ .nil))) .nil))), (.vapp 0 (.cons z0_ .nil))], (an_ (eq_ (.iapp 6 (.cons z0_ .nil)) (.lit 0)) xwbsumsk4_), (.bool (.tt true)), ⟨1, 0, 0, 0⟩, none⟩
theorem wbg_lisO : wbc_lisO.Good Tryd.prog syG (wbE [] [] [] []) := by
 intro iv bv vv sv β ok w xs n1 n2 n3 n4 hc ho hG hr he
 refine wbg_lis1 iv bv vv sv β ok w xs n1 n2 n3 n4 hc ho hG ?_ he
 match xs, hr with
 | [v1, v2], hr => exact ⟨hr.1, ((flat_rel _ _ rfl).1 _).2 hr.2.1, trivial⟩
def lis2_tree : Tree :=
 (.need xwbsumsk4_
 (.br (eq_ (.iapp 6 (.cons z0_ .nil)) (.lit 0))
 (.ret (.bool (.tt true)))
 (.ret (.bool (.tt false)))))
abbrev wbc_lis2 : Con := ⟨18, [xwbsumsk18_, xwbsumsk0_], (an_ (eq_ (.iapp 6 (.cons z0_ .nil)) (.lit 0)) xwbsumsk4_), (.bool (.tt true)), ⟨1, 0, 0, 0⟩, none⟩
theorem lis2_w : walk Tryd.prog 142 ⟨[wbc_btoN], syG, [], [], []⟩ [] .v wbc_lis2 wbc_lis2.n 3000 = some lis2_tree := by kernel_rfl
theorem lis2_h (x : Int) : Hyp_ wbc_lis2 lis2_tree (wbE [x] [] [] []) := by
 intro hc hty
 simp only [wbc_lis2, Sy.holds, wbE, denV, denI, denB, denL, I2.den, VOp.den, List.getD_cons_zero, List.getD_cons_succ, Cst.den, syso, syse, syio, sybo, wbi_rg, B2.ofInts, B2.denI, B2.denB, if_true, Bool.false_eq_true, if_false, Nat.div_one, Nat.mul_one, Nat.add_zero] at hc
 simp only [wbc_lis2, patsTyp, patTyp, patTypL, wbE, denV, denL, List.getD_cons_zero, List.getD_cons_succ, and_true, true_and] at hty
 unfold lis2_tree
 simp only [wbc_lis2, Tree.holds, Sy.holds, wbE, denV, denI, denB, denL, I2.den, VOp.den, List.getD_cons_zero, List.getD_cons_succ, Cst.den, syso, syse, syio, sybo, wbi_rg, B2.ofInts, B2.denI, B2.denB, if_true, Bool.false_eq_true, if_false, Nat.div_one, Nat.mul_one, Nat.add_zero]
 have hz : rgE (x) = 0 := hc.1
 try simp only [gd_y hz]
 try simp only [hz]
 refine ⟨?_, fun h0 => ?_⟩
 ·
  first
  | exact hc.2
  | omega
 refine ⟨fun h1 => ?_, fun h1 => ?_⟩
 refine ?a0; rotate_left
 refine ?a1; rotate_left
 case a0 | a1 =>
  first
  | rfl
  | exact absurd rfl (by assumption)
  | contradiction
  | (simp only [beq_self_eq_true, Bool.true_and, Bool.and_self]; done)
  | skip
theorem wbg_lis2 : wbc_lis2.Good Tryd.prog syG (wbE [] [] [] []) := good_of_walk (Γ := ⟨[wbc_btoN], syG, [], [], []⟩) (ρ := wbE [] [] [] []) sym lis2_w rfl (fun _ _ _ _ => (ok_cons (Con.Good.env wbg_btoN _ _ _ _) ok_nil)) lis2_h
def lis3_tree : Tree :=
 (.need xwbsumsk19_
 (.br xwbsumsk14_
 (.ret (.bool (.tt true)))
 (.ret (.bool (.tt false)))))
abbrev wbc_lis3 : Con := ⟨18, [xwbsumsk5_, xwbsumsk7_], (an_ xwbsumsk14_ xwbsumsk19_), (.bool (.tt true)), ⟨1, 0, 0, 0⟩, none⟩
theorem lis3_w : walk Tryd.prog 142 ⟨[wbc_btoF], syG, [], [], []⟩ [] .v wbc_lis3 wbc_lis3.n 3000 = some lis3_tree := by kernel_rfl
theorem lis3_h (x : Int) : Hyp_ wbc_lis3 lis3_tree (wbE [x] [] [] []) := by
 intro hc hty
 simp only [wbc_lis3, Sy.holds, wbE, denV, denI, denB, denL, I2.den, VOp.den, List.getD_cons_zero, List.getD_cons_succ, Cst.den, syso, syse, syio, sybo, wbi_rg, B2.ofInts, B2.denI, B2.denB, if_true, Bool.false_eq_true, if_false, Nat.div_one, Nat.mul_one, Nat.add_zero] at hc
 simp only [wbc_lis3, patsTyp, patTyp, patTypL, wbE, denV, denL, List.getD_cons_zero, List.getD_cons_succ, and_true, true_and] at hty
 unfold lis3_tree
 simp only [wbc_lis3, Tree.holds, Sy.holds, wbE, denV, denI, denB, denL, I2.den, VOp.den, List.getD_cons_zero, List.getD_cons_succ, Cst.den, syso, syse, syio, sybo, wbi_rg, B2.ofInts, B2.denI, B2.denB, if_true, Bool.false_eq_true, if_false, Nat.div_one, Nat.mul_one, Nat.add_zero]
 have hz : rgE (0 - x) = 0 := hc.1
 try simp only [gd_y hz]
 try simp only [hz]
 refine ⟨?_, fun h0 => ?_⟩
 ·
  first
  | exact hc.2
  | omega
 refine ⟨fun h1 => ?_, fun h1 => ?_⟩
 refine ?a0; rotate_left
 refine ?a1; rotate_left
 case a0 | a1 =>
  first
  | rfl
  | exact absurd rfl (by assumption)
  | contradiction
  | (simp only [beq_self_eq_true, Bool.true_and, Bool.and_self]; done)
  | skip
theorem wbg_lis3 : wbc_lis3.Good Tryd.prog syG (wbE [] [] [] []) := good_of_walk (Γ := ⟨[wbc_btoF], syG, [], [], []⟩) (ρ := wbE [] [] [] []) sym lis3_w rfl (fun _ _ _ _ => (ok_cons (Con.Good.env wbg_btoF _ _ _ _) ok_nil)) lis3_h
def lis4_tree : Tree :=
 (.need xwbsumsk20_
 (.br xwbsumsk14_
 (.ret (.bool (.tt true)))
 (.ret (.bool (.tt false)))))
abbrev wbc_lis4 : Con := ⟨18, [xwbsumsk5_, xwbsumsk6_], (an_ xwbsumsk14_ xwbsumsk20_), (.bool (.tt true)), ⟨1, 0, 0, 0⟩, none⟩
theorem lis4_w : walk Tryd.prog 142 ⟨[wbc_btoT], syG, [], [], []⟩ [] .v wbc_lis4 wbc_lis4.n 3000 = some lis4_tree := by kernel_rfl
theorem lis4_h (x : Int) : Hyp_ wbc_lis4 lis4_tree (wbE [x] [] [] []) := by
 intro hc hty
 simp only [wbc_lis4, Sy.holds, wbE, denV, denI, denB, denL, I2.den, VOp.den, List.getD_cons_zero, List.getD_cons_succ, Cst.den, syso, syse, syio, sybo, wbi_rg, B2.ofInts, B2.denI, B2.denB, if_true, Bool.false_eq_true, if_false, Nat.div_one, Nat.mul_one, Nat.add_zero] at hc
 simp only [wbc_lis4, patsTyp, patTyp, patTypL, wbE, denV, denL, List.getD_cons_zero, List.getD_cons_succ, and_true, true_and] at hty
 unfold lis4_tree
 simp only [wbc_lis4, Tree.holds, Sy.holds, wbE, denV, denI, denB, denL, I2.den, VOp.den, List.getD_cons_zero, List.getD_cons_succ, Cst.den, syso, syse, syio, sybo, wbi_rg, B2.ofInts, B2.denI, B2.denB, if_true, Bool.false_eq_true, if_false, Nat.div_one, Nat.mul_one, Nat.add_zero]
 have hz : rgE (0 - x) = 0 := hc.1
 try simp only [gd_y hz]
 try simp only [hz]
 refine ⟨?_, fun h0 => ?_⟩
 ·
  first
  | exact hc.2
  | omega
 refine ⟨fun h1 => ?_, fun h1 => ?_⟩
 refine ?a0; rotate_left
 refine ?a1; rotate_left
 case a0 | a1 =>
  first
  | rfl
  | exact absurd rfl (by assumption)
  | contradiction
  | (simp only [beq_self_eq_true, Bool.true_and, Bool.and_self]; done)
  | skip
theorem wbg_lis4 : wbc_lis4.Good Tryd.prog syG (wbE [] [] [] []) := good_of_walk (Γ := ⟨[wbc_btoT], syG, [], [], []⟩) (ρ := wbE [] [] [] []) sym lis4_w rfl (fun _ _ _ _ => (ok_cons (Con.Good.env wbg_btoT _ _ _ _) ok_nil)) lis4_h
abbrev wbc_sure : Con := ⟨25, [], (.tt true), (.bool (.tt true)), ⟨0, 0, 0, 0⟩, none⟩
theorem wbg_sure : wbc_sure.Good Tryd.prog syG (wbE [] [] [] []) := good_flat rfl rfl rfl (by
 intro  hc β ok w hG
 have hc' := hc
 simp only [Tree.holds, Sy.holds, AllN, Env.more, wbE, List.cons_append, List.nil_append, List.append_nil, denV, denI, denB, denL, I2.den, VOp.den, List.getD_cons_zero, List.getD_cons_succ, Cst.den, syso, syse, syio, sybo, List.map_nil, List.map_cons, B2.ofInts, B2.denI, B2.denB, if_true, Bool.false_eq_true, if_false, Nat.div_one, Nat.mul_one, Nat.add_zero, holds] at hc
 exact sure02_any w (hG _ (List.mem_singleton.2 rfl)).2.2)
end Go.Proofs.YtgondiedehjkhaaDoor
