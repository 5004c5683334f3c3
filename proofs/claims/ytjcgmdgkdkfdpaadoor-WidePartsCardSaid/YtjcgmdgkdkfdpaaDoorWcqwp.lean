/-
  Layer 2 by the second engine: WideParts.
-/
import Derived.Test.YtjcgmdgkdkfdpaaDoorSycqwp
import Derived.Test.YtjcgmdgkdkfdpaaDoorWaqwp
import Derived.Test.YtjcgmdgkdkfdpaaDoorMathqwp
import Derived.Test.YtjcgmdgkdkfdpaaDoorNumqwp
import Derived.IntWalk
import Derived.Test.YtjcgmdgkdkfdpaaDoorV02qwp
namespace Go.Proofs.YtjcgmdgkdkfdpaaDoor
open Go.RowKit Go.Extern.Stop Go.Stop Go.Extern Go.Proofs.YtjcgmdgkdkfdpaaDoor.Sy
set_option linter.unusedVariables false
set_option linter.unusedSimpArgs false
theorem in_rg {x : Int} (h : rgE x = 0) : -170141183460469231731687303715884105728 ≤ x ∧ x < 170141183460469231731687303715884105728 := by
  have := rg_spec x
  omega
theorem md_rng {x d : Int} (h : 1 ≤ d) : 0 ≤ x % d ∧ x % d < d := ⟨Int.emod_nonneg x (by omega), Int.emod_lt_of_pos x (by omega)⟩
theorem divN_w (x d : Int) (w : World) (h0 : -170141183460469231731687303715884105728 ≤ x) (h1 : x < 170141183460469231731687303715884105728) (d0 : 1 ≤ d) (d1 : d ≤ 170141183460469231731687303715884105728) : Calls Tryd.prog 32 #[.agg #[.bool (decide (x < 0)), .int .u64 (dg (abI (x)) 0), .int .u64 (dg (abI (x)) 1), .int .u64 (dg (abI (x)) 2), .int .u64 (dg (abI (x)) 3), .int .u64 (dg (abI (x)) 4), .int .u64 (dg (abI (x)) 5), .int .u64 (dg (abI (x)) 6), .int .u64 (dg (abI (x)) 7)], .agg #[.bool (false), .int .u64 (dg (d) 0), .int .u64 (dg (d) 1), .int .u64 (dg (d) 2), .int .u64 (dg (d) 3), .int .u64 (dg (d) 4), .int .u64 (dg (d) 5), .int .u64 (dg (d) 6), .int .u64 (dg (d) 7)]] w fun e w' => e = .returned (.tuple #[.agg #[.bool (decide (x / d < 0)), .int .u64 (dg (abI (x / d)) 0), .int .u64 (dg (abI (x / d)) 1), .int .u64 (dg (abI (x / d)) 2), .int .u64 (dg (abI (x / d)) 3), .int .u64 (dg (abI (x / d)) 4), .int .u64 (dg (abI (x / d)) 5), .int .u64 (dg (abI (x / d)) 6), .int .u64 (dg (abI (x / d)) 7)], .agg #[.bool (false), .int .u64 (dg (x % d) 0), .int .u64 (dg (x % d) 1), .int .u64 (dg (x % d) 2), .int .u64 (dg (x % d) 3), .int .u64 (dg (x % d) 4), .int .u64 (dg (x % d) 5), .int .u64 (dg (x % d) 6), .int .u64 (dg (x % d) 7)]]) ∧ Below w.heap.size w w' := by
  have ha := ab_spec x
  have h := bdiv_w (decide (x < 0)) (abI x) d w (by omega) (by omega) (fun h => by have h1 := of_decide_eq_true h.1; omega) d0 d1
  rw [sg_ab] at h
  exact h
theorem divM_w (x d : Int) (w : World) (h0 : -170141183460469231731687303715884105728 ≤ x) (h1 : x < 170141183460469231731687303715884105728) (d0 : 1 ≤ d) (d1 : d ≤ 170141183460469231731687303715884105728) : Calls Tryd.prog 32 #[.agg #[.bool (decide (x < 0)), .int .u64 (dg (abI (x)) 0), .int .u64 (dg (abI (x)) 1), .int .u64 (dg (abI (x)) 2), .int .u64 (dg (abI (x)) 3), .int .u64 (dg (abI (x)) 4), .int .u64 (dg (abI (x)) 5), .int .u64 (dg (abI (x)) 6), .int .u64 (dg (abI (x)) 7)], .agg #[.bool (decide (d < 0)), .int .u64 (dg (abI (d)) 0), .int .u64 (dg (abI (d)) 1), .int .u64 (dg (abI (d)) 2), .int .u64 (dg (abI (d)) 3), .int .u64 (dg (abI (d)) 4), .int .u64 (dg (abI (d)) 5), .int .u64 (dg (abI (d)) 6), .int .u64 (dg (abI (d)) 7)]] w fun e w' => e = .returned (.tuple #[.agg #[.bool (decide (x / d < 0)), .int .u64 (dg (abI (x / d)) 0), .int .u64 (dg (abI (x / d)) 1), .int .u64 (dg (abI (x / d)) 2), .int .u64 (dg (abI (x / d)) 3), .int .u64 (dg (abI (x / d)) 4), .int .u64 (dg (abI (x / d)) 5), .int .u64 (dg (abI (x / d)) 6), .int .u64 (dg (abI (x / d)) 7)], .agg #[.bool (false), .int .u64 (dg (x % d) 0), .int .u64 (dg (x % d) 1), .int .u64 (dg (x % d) 2), .int .u64 (dg (x % d) 3), .int .u64 (dg (x % d) 4), .int .u64 (dg (x % d) 5), .int .u64 (dg (x % d) 6), .int .u64 (dg (x % d) 7)]]) ∧ Below w.heap.size w w' := by
  have h := divN_w x d w h0 h1 d0 d1
  rw [show decide (d < 0) = false from decide_eq_false (by omega), show abI d = d by (have := ab_spec d; omega)]
  exact h
theorem numF_w (m : Int) (w : World) (h0 : 0 ≤ m) (h1 : m ≤ 9223372036854775807) : Calls Tryd.prog 21 #[.agg #[.bool (false), .int .u64 (dg (m) 0), .int .u64 (dg (m) 1), .int .u64 (dg (m) 2), .int .u64 (dg (m) 3), .int .u64 (dg (m) 4), .int .u64 (dg (m) 5), .int .u64 (dg (m) 6), .int .u64 (dg (m) 7)]] w fun e w' => e = .returned (.tuple #[.int .i64 m, .bool true]) ∧ Below w.heap.size w w' := number_p0 m w h0 (by omega)
theorem toN_w (x : Int) (w : World) (h : rgE x = 0) : Calls Tryd.prog 19 #[.agg #[.bool (decide (x < 0)), .int .u64 (dg (abI (x)) 0), .int .u64 (dg (abI (x)) 1), .int .u64 (dg (abI (x)) 2), .int .u64 (dg (abI (x)) 3), .int .u64 (dg (abI (x)) 4), .int .u64 (dg (abI (x)) 5), .int .u64 (dg (abI (x)) 6), .int .u64 (dg (abI (x)) 7)]] w fun e w' => e = .returned (.tuple #[.agg #[.int .i64 (gdF (rgE (x)) ((x) / 18446744073709551616)), .int .u64 (gdF (rgE (x)) ((x) % 18446744073709551616))], .bool (rgE (x) == 0)]) ∧ Below w.heap.size w w' := by
  have hi := in_rg h
  have ha := ab_spec x
  have h := to_w (decide (x < 0)) (abI x) w (by omega) (by unfold B8; omega) (fun h => by have h1 := of_decide_eq_true h.1; omega)
  rw [sg_ab] at h
  exact h
theorem sure02_any (w : World) (hg : w.cell? ⟨0, 0, none⟩ = some asHandle) : Calls Tryd.prog 29 #[] w fun e w' => e = .returned (.bool true) ∧ Below w.heap.size w w' := sure02 w hg
noncomputable def wcI : Nat → List Value → Int
  | i, l => waI i l
noncomputable def wcB : Nat → List Value → Bool
  | i, l => waB i l
noncomputable def wcV : Nat → List Value → Value
  | i, l => waV i l
noncomputable abbrev wcE (iv : List Int) (bv : List Bool) (vv : List Value) (sv : List ByteArray) : Env := { iv := iv, bv := bv, vv := vv, sv := sv, fi := wcI, fb := wcB, fv := wcV, et := 186 }
set_option maxHeartbeats 8000000 in
theorem wcup : Agree 16 1 0 (waE [] [] [] []) (wcE [] [] [] []) := ⟨rfl, (by
    intro f hf
    funext l
    show wcI f l = waI f l
    unfold wcI
    split <;> first | rfl | omega), (by
    intro f hf
    funext l
    show wcB f l = waB f l
    unfold wcB
    split <;> first | rfl | omega), (by
    intro f hf
    funext l
    show wcV f l = waV f l
    unfold wcV
    split <;> first | rfl | omega)⟩
theorem wci_dg (k1 : IntKind) (m : Int) (k2 : IntKind) (k : Int) : wcI 0 [.int k1 m, .int k2 k] = dg m k.toNat := rfl
theorem wci_ab (k1 : IntKind) (x : Int) : wcI 2 [.int k1 x] = abI x := rfl
theorem wci_wv (k1 : IntKind) (h : Int) (k2 : IntKind) (l : Int) : wcI 3 [.int k1 h, .int k2 l] = wvI h l := rfl
theorem wci_wh (k1 : IntKind) (x : Int) : wcI 4 [.int k1 x] = x / 18446744073709551616 := rfl
theorem wci_wl (k1 : IntKind) (x : Int) : wcI 5 [.int k1 x] = x % 18446744073709551616 := rfl
theorem wci_rg (k1 : IntKind) (x : Int) : wcI 6 [.int k1 x] = rgE x := rfl
theorem wci_gd (k1 : IntKind) (e : Int) (k2 : IntKind) (x : Int) : wcI 8 [.int k1 e, .int k2 x] = gdF e x := rfl
theorem wci_pw (k1 : IntKind) (n : Int) : wcI 10 [.int k1 n] = pwI n := rfl
theorem wci_dv (k1 : IntKind) (a : Int) (k2 : IntKind) (b : Int) : wcI 11 [.int k1 a, .int k2 b] = a / b := rfl
theorem wci_md (k1 : IntKind) (a : Int) (k2 : IntKind) (b : Int) : wcI 12 [.int k1 a, .int k2 b] = a % b := rfl
theorem wci_she (k1 : IntKind) (n : Int) : wcI 14 [.int k1 n] = sheI n := rfl
theorem wci_dve (k1 : IntKind) (n : Int) : wcI 15 [.int k1 n] = dveI n := rfl
theorem wcb_ng (k1 : IntKind) (x : Int) : wcB 0 [.int k1 x] = decide (x < 0) := rfl
abbrev wcc_divN : Con := ⟨32, [(.agg (.cons (.bool (.bapp 0 (.cons (.int .i64 (.var 0)) .nil))) (.cons (.int .u64 (.iapp 0 (.cons (.int .i64 (.iapp 2 (.cons (.int .i64 (.var 0)) .nil))) (.cons (.int .i64 (.lit (0))) .nil)))) (.cons (.int .u64 (.iapp 0 (.cons (.int .i64 (.iapp 2 (.cons (.int .i64 (.var 0)) .nil))) (.cons (.int .i64 (.lit (1))) .nil)))) (.cons (.int .u64 (.iapp 0 (.cons (.int .i64 (.iapp 2 (.cons (.int .i64 (.var 0)) .nil))) (.cons (.int .i64 (.lit (2))) .nil)))) (.cons (.int .u64 (.iapp 0 (.cons (.int .i64 (.iapp 2 (.cons (.int .i64 (.var 0)) .nil))) (.cons (.int .i64 (.lit (3))) .nil)))) (.cons (.int .u64 (.iapp 0 (.cons (.int .i64 (.iapp 2 (.cons (.int .i64 (.var 0)) .nil))) (.cons (.int .i64 (.lit (4))) .nil)))) (.cons (.int .u64 (.iapp 0 (.cons (.int .i64 (.iapp 2 (.cons (.int .i64 (.var 0)) .nil))) (.cons (.int .i64 (.lit (5))) .nil)))) (.cons (.int .u64 (.iapp 0 (.cons (.int .i64 (.iapp 2 (.cons (.int .i64 (.var 0)) .nil))) (.cons (.int .i64 (.lit (6))) .nil)))) (.cons (.int .u64 (.iapp 0 (.cons (.int .i64 (.iapp 2 (.cons (.int .i64 (.var 0)) .nil))) (.cons (.int .i64 (.lit (7))) .nil)))) .nil)))))))))), (.agg (.cons (.bool (.tt false)) (.cons (.int .u64 (.iapp 0 (.cons (.int .i64 (.var 1)) (.cons (.int .i64 (.lit (0))) .nil)))) (.cons (.int .u64 (.iapp 0 (.cons (.int .i64 (.var 1)) (.cons (.int .i64 (.lit (1))) .nil)))) (.cons (.int .u64 (.iapp 0 (.cons (.int .i64 (.var 1)) (.cons (.int .i64 (.lit (2))) .nil)))) (.cons (.int .u64 (.iapp 0 (.cons (.int .i64 (.var 1)) (.cons (.int .i64 (.lit (3))) .nil)))) (.cons (.int .u64 (.iapp 0 (.cons (.int .i64 (.var 1)) (.cons (.int .i64 (.lit (4))) .nil)))) (.cons (.int .u64 (.iapp 0 (.cons (.int .i64 (.var 1)) (.cons (.int .i64 (.lit (5))) .nil)))) (.cons (.int .u64 (.iapp 0 (.cons (.int .i64 (.var 1)) (.cons (.int .i64 (.lit (6))) .nil)))) (.cons (.int .u64 (.iapp 0 (.cons (.int .i64 (.var 1)) (.cons (.int .i64 (.lit (7))) .nil)))) .nil))))))))))], (.b2 .and (.b2 .and (.b2 .le (.lit (-170141183460469231731687303715884105728)) (.var 0)) (.b2 .lt (.var 0) (.lit (170141183460469231731687303715884105728)))) (.b2 .and (.b2 .le (.lit (1)) (.var 1)) (.b2 .le (.var 1) (.lit (170141183460469231731687303715884105728))))), (.tup (.cons (.agg (.cons (.bool (.bapp 0 (.cons (.int .i64 (.iapp 11 (.cons (.int .i64 (.var 0)) (.cons (.int .i64 (.var 1)) .nil)))) .nil))) (.cons (.int .u64 (.iapp 0 (.cons (.int .i64 (.iapp 2 (.cons (.int .i64 (.iapp 11 (.cons (.int .i64 (.var 0)) (.cons (.int .i64 (.var 1)) .nil)))) .nil))) (.cons (.int .i64 (.lit (0))) .nil)))) (.cons (.int .u64 (.iapp 0 (.cons (.int .i64 (.iapp 2 (.cons (.int .i64 (.iapp 11 (.cons (.int .i64 (.var 0)) (.cons (.int .i64 (.var 1)) .nil)))) .nil))) (.cons (.int .i64 (.lit (1))) .nil)))) (.cons (.int .u64 (.iapp 0 (.cons (.int .i64 (.iapp 2 (.cons (.int .i64 (.iapp 11 (.cons (.int .i64 (.var 0)) (.cons (.int .i64 (.var 1)) .nil)))) .nil))) (.cons (.int .i64 (.lit (2))) .nil)))) (.cons (.int .u64 (.iapp 0 (.cons (.int .i64 (.iapp 2 (.cons (.int .i64 (.iapp 11 (.cons (.int .i64 (.var 0)) (.cons (.int .i64 (.var 1)) .nil)))) .nil))) (.cons (.int .i64 (.lit (3))) .nil)))) (.cons (.int .u64 (.iapp 0 (.cons (.int .i64 (.iapp 2 (.cons (.int .i64 (.iapp 11 (.cons (.int .i64 (.var 0)) (.cons (.int .i64 (.var 1)) .nil)))) .nil))) (.cons (.int .i64 (.lit (4))) .nil)))) (.cons (.int .u64 (.iapp 0 (.cons (.int .i64 (.iapp 2 (.cons (.int .i64 (.iapp 11 (.cons (.int .i64 (.var 0)) (.cons (.int .i64 (.var 1)) .nil)))) .nil))) (.cons (.int .i64 (.lit (5))) .nil)))) (.cons (.int .u64 (.iapp 0 (.cons (.int .i64 (.iapp 2 (.cons (.int .i64 (.iapp 11 (.cons (.int .i64 (.var 0)) (.cons (.int .i64 (.var 1)) .nil)))) .nil))) (.cons (.int .i64 (.lit (6))) .nil)))) (.cons (.int .u64 (.iapp 0 (.cons (.int .i64 (.iapp 2 (.cons (.int .i64 (.iapp 11 (.cons (.int .i64 (.var 0)) (.cons (.int .i64 (.var 1)) .nil)))) .nil))) (.cons (.int .i64 (.lit (7))) .nil)))) .nil)))))))))) (.cons (.agg (.cons (.bool (.tt false)) (.cons (.int .u64 (.iapp 0 (.cons (.int .i64 (.iapp 12 (.cons (.int .i64 (.var 0)) (.cons (.int .i64 (.var 1)) .nil)))) (.cons (.int .i64 (.lit (0))) .nil)))) (.cons (.int .u64 (.iapp 0 (.cons (.int .i64 (.iapp 12 (.cons (.int .i64 (.var 0)) (.cons (.int .i64 (.var 1)) .nil)))) (.cons (.int .i64 (.lit (1))) .nil)))) (.cons (.int .u64 (.iapp 0 (.cons (.int .i64 (.iapp 12 (.cons (.int .i64 (.var 0)) (.cons (.int .i64 (.var 1)) .nil)))) (.cons (.int .i64 (.lit (2))) .nil)))) (.cons (.int .u64 (.iapp 0 (.cons (.int .i64 (.iapp 12 (.cons (.int .i64 (.var 0)) (.cons (.int .i64 (.var 1)) .nil)))) (.cons (.int .i64 (.lit (3))) .nil)))) (.cons (.int .u64 (.iapp 0 (.cons (.int .i64 (.iapp 12 (.cons (.int .i64 (.var 0)) (.cons (.int .i64 (.var 1)) .nil)))) (.cons (.int .i64 (.lit (4))) .nil)))) (.cons (.int .u64 (.iapp 0 (.cons (.int .i64 (.iapp 12 (.cons (.int .i64 (.var 0)) (.cons (.int .i64 (.var 1)) .nil)))) (.cons (.int .i64 (.lit (5))) .nil)))) (.cons (.int .u64 (.iapp 0 (.cons (.int .i64 (.iapp 12 (.cons (.int .i64 (.var 0)) (.cons (.int .i64 (.var 1)) .nil)))) (.cons (.int .i64 (.lit (6))) .nil)))) (.cons (.int .u64 (.iapp 0 (.cons (.int .i64 (.iapp 12 (.cons (.int .i64 (.var 0)) (.cons (.int .i64 (.var 1)) .nil)))) (.cons (.int .i64 (.lit (7))) .nil)))) .nil)))))))))) .nil))), ⟨2, 0, 0, 0⟩, none⟩
theorem wcg_divN : wcc_divN.Good Tryd.prog syG (wcE [] [] [] []) := good_flat rfl rfl rfl (by
  intro x d hc β ok w hG
  have hc' := hc
  simp only [Tree.holds, Sy.holds, AllN, Env.more, wcE, List.cons_append, List.nil_append, List.append_nil, denV, denI, denB, denL, I2.den, VOp.den, List.getD_cons_zero, List.getD_cons_succ, Cst.den, syso, syse, syio, sybo, wci_dg, wci_ab, wci_dv, wci_md, wcb_ng, List.map_nil, List.map_cons, B2.ofInts, B2.denI, B2.denB, if_true, Bool.false_eq_true, if_false, Nat.div_one, Nat.mul_one, Nat.add_zero, holds] at hc
  exact divN_w x d w hc.1.1 hc.1.2 hc.2.1 hc.2.2)
abbrev wcc_divM : Con := ⟨32, [(.agg (.cons (.bool (.bapp 0 (.cons (.int .i64 (.var 0)) .nil))) (.cons (.int .u64 (.iapp 0 (.cons (.int .i64 (.iapp 2 (.cons (.int .i64 (.var 0)) .nil))) (.cons (.int .i64 (.lit (0))) .nil)))) (.cons (.int .u64 (.iapp 0 (.cons (.int .i64 (.iapp 2 (.cons (.int .i64 (.var 0)) .nil))) (.cons (.int .i64 (.lit (1))) .nil)))) (.cons (.int .u64 (.iapp 0 (.cons (.int .i64 (.iapp 2 (.cons (.int .i64 (.var 0)) .nil))) (.cons (.int .i64 (.lit (2))) .nil)))) (.cons (.int .u64 (.iapp 0 (.cons (.int .i64 (.iapp 2 (.cons (.int .i64 (.var 0)) .nil))) (.cons (.int .i64 (.lit (3))) .nil)))) (.cons (.int .u64 (.iapp 0 (.cons (.int .i64 (.iapp 2 (.cons (.int .i64 (.var 0)) .nil))) (.cons (.int .i64 (.lit (4))) .nil)))) (.cons (.int .u64 (.iapp 0 (.cons (.int .i64 (.iapp 2 (.cons (.int .i64 (.var 0)) .nil))) (.cons (.int .i64 (.lit (5))) .nil)))) (.cons (.int .u64 (.iapp 0 (.cons (.int .i64 (.iapp 2 (.cons (.int .i64 (.var 0)) .nil))) (.cons (.int .i64 (.lit (6))) .nil)))) (.cons (.int .u64 (.iapp 0 (.cons (.int .i64 (.iapp 2 (.cons (.int .i64 (.var 0)) .nil))) (.cons (.int .i64 (.lit (7))) .nil)))) .nil)))))))))), (.agg (.cons (.bool (.bapp 0 (.cons (.int .i64 (.var 1)) .nil))) (.cons (.int .u64 (.iapp 0 (.cons (.int .i64 (.iapp 2 (.cons (.int .i64 (.var 1)) .nil))) (.cons (.int .i64 (.lit (0))) .nil)))) (.cons (.int .u64 (.iapp 0 (.cons (.int .i64 (.iapp 2 (.cons (.int .i64 (.var 1)) .nil))) (.cons (.int .i64 (.lit (1))) .nil)))) (.cons (.int .u64 (.iapp 0 (.cons (.int .i64 (.iapp 2 (.cons (.int .i64 (.var 1)) .nil))) (.cons (.int .i64 (.lit (2))) .nil)))) (.cons (.int .u64 (.iapp 0 (.cons (.int .i64 (.iapp 2 (.cons (.int .i64 (.var 1)) .nil))) (.cons (.int .i64 (.lit (3))) .nil)))) (.cons (.int .u64 (.iapp 0 (.cons (.int .i64 (.iapp 2 (.cons (.int .i64 (.var 1)) .nil))) (.cons (.int .i64 (.lit (4))) .nil)))) (.cons (.int .u64 (.iapp 0 (.cons (.int .i64 (.iapp 2 (.cons (.int .i64 (.var 1)) .nil))) (.cons (.int .i64 (.lit (5))) .nil)))) (.cons (.int .u64 (.iapp 0 (.cons (.int .i64 (.iapp 2 (.cons (.int .i64 (.var 1)) .nil))) (.cons (.int .i64 (.lit (6))) .nil)))) (.cons (.int .u64 (.iapp 0 (.cons (.int .i64 (.iapp 2 (.cons (.int .i64 (.var 1)) .nil))) (.cons (.int .i64 (.lit (7))) .nil)))) .nil))))))))))], (.b2 .and (.b2 .and (.b2 .le (.lit (-170141183460469231731687303715884105728)) (.var 0)) (.b2 .lt (.var 0) (.lit (170141183460469231731687303715884105728)))) (.b2 .and (.b2 .le (.lit (1)) (.var 1)) (.b2 .le (.var 1) (.lit (170141183460469231731687303715884105728))))), (.tup (.cons (.agg (.cons (.bool (.bapp 0 (.cons (.int .i64 (.iapp 11 (.cons (.int .i64 (.var 0)) (.cons (.int .i64 (.var 1)) .nil)))) .nil))) (.cons (.int .u64 (.iapp 0 (.cons (.int .i64 (.iapp 2 (.cons (.int .i64 (.iapp 11 (.cons (.int .i64 (.var 0)) (.cons (.int .i64 (.var 1)) .nil)))) .nil))) (.cons (.int .i64 (.lit (0))) .nil)))) (.cons (.int .u64 (.iapp 0 (.cons (.int .i64 (.iapp 2 (.cons (.int .i64 (.iapp 11 (.cons (.int .i64 (.var 0)) (.cons (.int .i64 (.var 1)) .nil)))) .nil))) (.cons (.int .i64 (.lit (1))) .nil)))) (.cons (.int .u64 (.iapp 0 (.cons (.int .i64 (.iapp 2 (.cons (.int .i64 (.iapp 11 (.cons (.int .i64 (.var 0)) (.cons (.int .i64 (.var 1)) .nil)))) .nil))) (.cons (.int .i64 (.lit (2))) .nil)))) (.cons (.int .u64 (.iapp 0 (.cons (.int .i64 (.iapp 2 (.cons (.int .i64 (.iapp 11 (.cons (.int .i64 (.var 0)) (.cons (.int .i64 (.var 1)) .nil)))) .nil))) (.cons (.int .i64 (.lit (3))) .nil)))) (.cons (.int .u64 (.iapp 0 (.cons (.int .i64 (.iapp 2 (.cons (.int .i64 (.iapp 11 (.cons (.int .i64 (.var 0)) (.cons (.int .i64 (.var 1)) .nil)))) .nil))) (.cons (.int .i64 (.lit (4))) .nil)))) (.cons (.int .u64 (.iapp 0 (.cons (.int .i64 (.iapp 2 (.cons (.int .i64 (.iapp 11 (.cons (.int .i64 (.var 0)) (.cons (.int .i64 (.var 1)) .nil)))) .nil))) (.cons (.int .i64 (.lit (5))) .nil)))) (.cons (.int .u64 (.iapp 0 (.cons (.int .i64 (.iapp 2 (.cons (.int .i64 (.iapp 11 (.cons (.int .i64 (.var 0)) (.cons (.int .i64 (.var 1)) .nil)))) .nil))) (.cons (.int .i64 (.lit (6))) .nil)))) (.cons (.int .u64 (.iapp 0 (.cons (.int .i64 (.iapp 2 (.cons (.int .i64 (.iapp 11 (.cons (.int .i64 (.var 0)) (.cons (.int .i64 (.var 1)) .nil)))) .nil))) (.cons (.int .i64 (.lit (7))) .nil)))) .nil)))))))))) (.cons (.agg (.cons (.bool (.tt false)) (.cons (.int .u64 (.iapp 0 (.cons (.int .i64 (.iapp 12 (.cons (.int .i64 (.var 0)) (.cons (.int .i64 (.var 1)) .nil)))) (.cons (.int .i64 (.lit (0))) .nil)))) (.cons (.int .u64 (.iapp 0 (.cons (.int .i64 (.iapp 12 (.cons (.int .i64 (.var 0)) (.cons (.int .i64 (.var 1)) .nil)))) (.cons (.int .i64 (.lit (1))) .nil)))) (.cons (.int .u64 (.iapp 0 (.cons (.int .i64 (.iapp 12 (.cons (.int .i64 (.var 0)) (.cons (.int .i64 (.var 1)) .nil)))) (.cons (.int .i64 (.lit (2))) .nil)))) (.cons (.int .u64 (.iapp 0 (.cons (.int .i64 (.iapp 12 (.cons (.int .i64 (.var 0)) (.cons (.int .i64 (.var 1)) .nil)))) (.cons (.int .i64 (.lit (3))) .nil)))) (.cons (.int .u64 (.iapp 0 (.cons (.int .i64 (.iapp 12 (.cons (.int .i64 (.var 0)) (.cons (.int .i64 (.var 1)) .nil)))) (.cons (.int .i64 (.lit (4))) .nil)))) (.cons (.int .u64 (.iapp 0 (.cons (.int .i64 (.iapp 12 (.cons (.int .i64 (.var 0)) (.cons (.int .i64 (.var 1)) .nil)))) (.cons (.int .i64 (.lit (5))) .nil)))) (.cons (.int .u64 (.iapp 0 (.cons (.int .i64 (.iapp 12 (.cons (.int .i64 (.var 0)) (.cons (.int .i64 (.var 1)) .nil)))) (.cons (.int .i64 (.lit (6))) .nil)))) (.cons (.int .u64 (.iapp 0 (.cons (.int .i64 (.iapp 12 (.cons (.int .i64 (.var 0)) (.cons (.int .i64 (.var 1)) .nil)))) (.cons (.int .i64 (.lit (7))) .nil)))) .nil)))))))))) .nil))), ⟨2, 0, 0, 0⟩, none⟩
theorem wcg_divM : wcc_divM.Good Tryd.prog syG (wcE [] [] [] []) := good_flat rfl rfl rfl (by
  intro x d hc β ok w hG
  have hc' := hc
  simp only [Tree.holds, Sy.holds, AllN, Env.more, wcE, List.cons_append, List.nil_append, List.append_nil, denV, denI, denB, denL, I2.den, VOp.den, List.getD_cons_zero, List.getD_cons_succ, Cst.den, syso, syse, syio, sybo, wci_dg, wci_ab, wci_dv, wci_md, wcb_ng, List.map_nil, List.map_cons, B2.ofInts, B2.denI, B2.denB, if_true, Bool.false_eq_true, if_false, Nat.div_one, Nat.mul_one, Nat.add_zero, holds] at hc
  exact divM_w x d w hc.1.1 hc.1.2 hc.2.1 hc.2.2)
abbrev wcc_numF : Con := ⟨21, [(.agg (.cons (.bool (.tt false)) (.cons (.int .u64 (.iapp 0 (.cons (.int .i64 (.var 0)) (.cons (.int .i64 (.lit (0))) .nil)))) (.cons (.int .u64 (.iapp 0 (.cons (.int .i64 (.var 0)) (.cons (.int .i64 (.lit (1))) .nil)))) (.cons (.int .u64 (.iapp 0 (.cons (.int .i64 (.var 0)) (.cons (.int .i64 (.lit (2))) .nil)))) (.cons (.int .u64 (.iapp 0 (.cons (.int .i64 (.var 0)) (.cons (.int .i64 (.lit (3))) .nil)))) (.cons (.int .u64 (.iapp 0 (.cons (.int .i64 (.var 0)) (.cons (.int .i64 (.lit (4))) .nil)))) (.cons (.int .u64 (.iapp 0 (.cons (.int .i64 (.var 0)) (.cons (.int .i64 (.lit (5))) .nil)))) (.cons (.int .u64 (.iapp 0 (.cons (.int .i64 (.var 0)) (.cons (.int .i64 (.lit (6))) .nil)))) (.cons (.int .u64 (.iapp 0 (.cons (.int .i64 (.var 0)) (.cons (.int .i64 (.lit (7))) .nil)))) .nil))))))))))], (.b2 .and (.b2 .le (.lit (0)) (.var 0)) (.b2 .le (.var 0) (.lit (9223372036854775807)))), (.tup (.cons (.int .i64 (.var 0)) (.cons (.bool (.tt true)) .nil))), ⟨1, 0, 0, 0⟩, none⟩
theorem wcg_numF : wcc_numF.Good Tryd.prog syG (wcE [] [] [] []) := good_flat rfl rfl rfl (by
  intro x hc β ok w hG
  have hc' := hc
  simp only [Tree.holds, Sy.holds, AllN, Env.more, wcE, List.cons_append, List.nil_append, List.append_nil, denV, denI, denB, denL, I2.den, VOp.den, List.getD_cons_zero, List.getD_cons_succ, Cst.den, syso, syse, syio, sybo, wci_dg, List.map_nil, List.map_cons, B2.ofInts, B2.denI, B2.denB, if_true, Bool.false_eq_true, if_false, Nat.div_one, Nat.mul_one, Nat.add_zero, holds] at hc
  exact numF_w x w hc.1 hc.2)
abbrev wcc_toN : Con := ⟨19, [(.agg (.cons (.bool (.bapp 0 (.cons (.int .i64 (.var 0)) .nil))) (.cons (.int .u64 (.iapp 0 (.cons (.int .i64 (.iapp 2 (.cons (.int .i64 (.var 0)) .nil))) (.cons (.int .i64 (.lit (0))) .nil)))) (.cons (.int .u64 (.iapp 0 (.cons (.int .i64 (.iapp 2 (.cons (.int .i64 (.var 0)) .nil))) (.cons (.int .i64 (.lit (1))) .nil)))) (.cons (.int .u64 (.iapp 0 (.cons (.int .i64 (.iapp 2 (.cons (.int .i64 (.var 0)) .nil))) (.cons (.int .i64 (.lit (2))) .nil)))) (.cons (.int .u64 (.iapp 0 (.cons (.int .i64 (.iapp 2 (.cons (.int .i64 (.var 0)) .nil))) (.cons (.int .i64 (.lit (3))) .nil)))) (.cons (.int .u64 (.iapp 0 (.cons (.int .i64 (.iapp 2 (.cons (.int .i64 (.var 0)) .nil))) (.cons (.int .i64 (.lit (4))) .nil)))) (.cons (.int .u64 (.iapp 0 (.cons (.int .i64 (.iapp 2 (.cons (.int .i64 (.var 0)) .nil))) (.cons (.int .i64 (.lit (5))) .nil)))) (.cons (.int .u64 (.iapp 0 (.cons (.int .i64 (.iapp 2 (.cons (.int .i64 (.var 0)) .nil))) (.cons (.int .i64 (.lit (6))) .nil)))) (.cons (.int .u64 (.iapp 0 (.cons (.int .i64 (.iapp 2 (.cons (.int .i64 (.var 0)) .nil))) (.cons (.int .i64 (.lit (7))) .nil)))) .nil))))))))))], (.b2 .eq (.iapp 6 (.cons (.int .i64 (.var 0)) .nil)) (.lit (0))), (.tup (.cons (.agg (.cons (.int .i64 (.iapp 8 (.cons (.int .i64 (.iapp 6 (.cons (.int .i64 (.var 0)) .nil))) (.cons (.int .i64 (.iapp 4 (.cons (.int .i64 (.var 0)) .nil))) .nil)))) (.cons (.int .u64 (.iapp 8 (.cons (.int .i64 (.iapp 6 (.cons (.int .i64 (.var 0)) .nil))) (.cons (.int .i64 (.iapp 5 (.cons (.int .i64 (.var 0)) .nil))) .nil)))) .nil))) (.cons (.bool (.b2 .eq (.iapp 6 (.cons (.int .i64 (.var 0)) .nil)) (.lit (0)))) .nil))), ⟨1, 0, 0, 0⟩, none⟩
theorem wcg_toN : wcc_toN.Good Tryd.prog syG (wcE [] [] [] []) := good_flat rfl rfl rfl (by
  intro x hc β ok w hG
  have hc' := hc
  simp only [Tree.holds, Sy.holds, AllN, Env.more, wcE, List.cons_append, List.nil_append, List.append_nil, denV, denI, denB, denL, I2.den, VOp.den, List.getD_cons_zero, List.getD_cons_succ, Cst.den, syso, syse, syio, sybo, wci_dg, wci_ab, wci_wh, wci_wl, wci_rg, wci_gd, wcb_ng, List.map_nil, List.map_cons, B2.ofInts, B2.denI, B2.denB, if_true, Bool.false_eq_true, if_false, Nat.div_one, Nat.mul_one, Nat.add_zero, holds] at hc
  exact toN_w x w hc)
abbrev wcc_sure : Con := ⟨29, [], (.tt true), (.bool (.tt true)), ⟨0, 0, 0, 0⟩, none⟩
theorem wcg_sure : wcc_sure.Good Tryd.prog syG (wcE [] [] [] []) := good_flat rfl rfl rfl (by
  intro  hc β ok w hG
  have hc' := hc
  simp only [Tree.holds, Sy.holds, AllN, Env.more, wcE, List.cons_append, List.nil_append, List.append_nil, denV, denI, denB, denL, I2.den, VOp.den, List.getD_cons_zero, List.getD_cons_succ, Cst.den, syso, syse, syio, sybo, List.map_nil, List.map_cons, B2.ofInts, B2.denI, B2.denB, if_true, Bool.false_eq_true, if_false, Nat.div_one, Nat.mul_one, Nat.add_zero, holds] at hc
  exact sure02_any w (hG _ (List.mem_singleton.2 rfl)).2.2)
def lisG_tree : Tree :=
 (.need (.b2 .eq (.iapp 6 (.cons (.int .i64 (.var 1)) .nil)) (.lit (0)))
 (.br (.b2 .eq (.iapp 6 (.cons (.int .i64 (.var 1)) .nil)) (.lit (0)))
 (.ret (.bool (.b2 .and (.b2 .eq (.iapp 8 (.cons (.int .i64 (.var 0)) (.cons (.int .i64 (.iapp 4 (.cons (.int .i64 (.var 1)) .nil))) .nil))) (.iapp 8 (.cons (.int .i64 (.iapp 6 (.cons (.int .i64 (.var 1)) .nil))) (.cons (.int .i64 (.iapp 4 (.cons (.int .i64 (.var 1)) .nil))) .nil)))) (.b2 .eq (.iapp 8 (.cons (.int .i64 (.var 0)) (.cons (.int .i64 (.iapp 5 (.cons (.int .i64 (.var 1)) .nil))) .nil))) (.iapp 8 (.cons (.int .i64 (.iapp 6 (.cons (.int .i64 (.var 1)) .nil))) (.cons (.int .i64 (.iapp 5 (.cons (.int .i64 (.var 1)) .nil))) .nil)))))))
 (.ret (.bool (.tt false)))))
abbrev wcc_lisG : Con := ⟨22, [(.agg (.cons (.int .i64 (.iapp 8 (.cons (.int .i64 (.var 0)) (.cons (.int .i64 (.iapp 4 (.cons (.int .i64 (.var 1)) .nil))) .nil)))) (.cons (.int .u64 (.iapp 8 (.cons (.int .i64 (.var 0)) (.cons (.int .i64 (.iapp 5 (.cons (.int .i64 (.var 1)) .nil))) .nil)))) .nil))), (.agg (.cons (.bool (.bapp 0 (.cons (.int .i64 (.var 1)) .nil))) (.cons (.int .u64 (.iapp 0 (.cons (.int .i64 (.iapp 2 (.cons (.int .i64 (.var 1)) .nil))) (.cons (.int .i64 (.lit (0))) .nil)))) (.cons (.int .u64 (.iapp 0 (.cons (.int .i64 (.iapp 2 (.cons (.int .i64 (.var 1)) .nil))) (.cons (.int .i64 (.lit (1))) .nil)))) (.cons (.int .u64 (.iapp 0 (.cons (.int .i64 (.iapp 2 (.cons (.int .i64 (.var 1)) .nil))) (.cons (.int .i64 (.lit (2))) .nil)))) (.cons (.int .u64 (.iapp 0 (.cons (.int .i64 (.iapp 2 (.cons (.int .i64 (.var 1)) .nil))) (.cons (.int .i64 (.lit (3))) .nil)))) (.cons (.int .u64 (.iapp 0 (.cons (.int .i64 (.iapp 2 (.cons (.int .i64 (.var 1)) .nil))) (.cons (.int .i64 (.lit (4))) .nil)))) (.cons (.int .u64 (.iapp 0 (.cons (.int .i64 (.iapp 2 (.cons (.int .i64 (.var 1)) .nil))) (.cons (.int .i64 (.lit (5))) .nil)))) (.cons (.int .u64 (.iapp 0 (.cons (.int .i64 (.iapp 2 (.cons (.int .i64 (.var 1)) .nil))) (.cons (.int .i64 (.lit (6))) .nil)))) (.cons (.int .u64 (.iapp 0 (.cons (.int .i64 (.iapp 2 (.cons (.int .i64 (.var 1)) .nil))) (.cons (.int .i64 (.lit (7))) .nil)))) .nil))))))))))], (.b2 .and (.b2 .eq (.var 0) (.lit (0))) (.b2 .eq (.iapp 6 (.cons (.int .i64 (.var 1)) .nil)) (.lit (0)))), (.bool (.tt true)), ⟨2, 0, 0, 0⟩, none⟩
theorem lisG_w : walk Tryd.prog 186 ⟨[wcc_toN], syG, [], [], []⟩ [] .v wcc_lisG wcc_lisG.n 3000 = some lisG_tree := by kernel_rfl
theorem lisG_h (e z : Int) (hc : holds (wcE [e, z] [] [] []) wcc_lisG.cnd) (hty : patsTyp (wcE [e, z] [] [] []) wcc_lisG.pat) : lisG_tree.holds (fun v_ => v_ = denV (wcE [e, z] [] [] []) b0 wcc_lisG.res) (wcE [e, z] [] [] []) := by
  simp only [wcc_lisG, Tree.holds, Sy.holds, AllN, Env.more, wcE, List.cons_append, List.nil_append, List.append_nil, denV, denI, denB, denL, I2.den, VOp.den, List.getD_cons_zero, List.getD_cons_succ, Cst.den, syso, syse, syio, sybo, wci_rg, List.map_nil, List.map_cons, B2.ofInts, B2.denI, B2.denB, if_true, Bool.false_eq_true, if_false, Nat.div_one, Nat.mul_one, Nat.add_zero, holds] at hc
  simp only [wcc_lisG, patsTyp, patTyp, patTypL, wcE, denV, denL, List.getD_cons_zero, List.getD_cons_succ, and_true, true_and] at hty
  unfold lisG_tree
  simp only [wcc_lisG, Tree.holds, Sy.holds, AllN, Env.more, wcE, List.cons_append, List.nil_append, List.append_nil, denV, denI, denB, denL, I2.den, VOp.den, List.getD_cons_zero, List.getD_cons_succ, Cst.den, syso, syse, syio, sybo, wci_wh, wci_wl, wci_rg, wci_gd, List.map_nil, List.map_cons, B2.ofInts, B2.denI, B2.denB, if_true, Bool.false_eq_true, if_false, Nat.div_one, Nat.mul_one, Nat.add_zero]
  have hz : rgE z = 0 := hc.2
  simp only [gd_y hc.1, gd_y hz]
  simp only [hz]
  refine ⟨?_, fun h0 => ?_⟩
  ·
   first
   | exact hc.2
   | exact hz
   | omega
  refine ⟨fun h1 => ?_, fun h1 => ?_⟩
  refine ?a0; rotate_left
  refine ?a1; rotate_left
  case a0 | a1 =>
   first
   | rfl
   | exact absurd rfl (by assumption)
   | contradiction
   | (simp only [beq_self_eq_true, Bool.true_and, Bool.and_self]; done)
   | skip
theorem wcg_lisG : wcc_lisG.Good Tryd.prog syG (wcE [] [] [] []) := good_of_walk (Γ := ⟨[wcc_toN], syG, [], [], []⟩) (ρ := wcE [] [] [] []) sym lisG_w rfl (fun _ _ _ _ => (ok_cons (Con.Good.env wcg_toN _ _ _ _) ok_nil)) (fun e z hc hty => lisG_h e z hc hty)
def wParts_x0 : Tm := (.int .i64 (.iapp 3 (.cons (.int .i64 (.var 0)) (.cons (.int .i64 (.var 1)) .nil))))
def wParts_x1 : Tm := (.int .i64 (.iapp 11 (.cons wParts_x0 (.cons (.int .i64 (.var 3)) .nil))))
def wParts_x2 : Tm := (.int .i64 (.iapp 11 (.cons wParts_x0 (.cons (.int .i64 (.iapp 10 (.cons (.int .i64 (.var 2)) .nil))) .nil))))
def wParts_x3 : Tm := (.int .i64 (.iapp 12 (.cons wParts_x0 (.cons (.int .i64 (.var 3)) .nil))))
def wParts_tree : Tree :=
 (.need (.b2 .and (.b2 .and (.b2 .le (.lit (-9223372036854775808)) (.var 0)) (.b2 .le (.var 0) (.lit (9223372036854775807)))) (.b2 .and (.b2 .le (.lit (0)) (.var 1)) (.b2 .le (.var 1) (.lit (18446744073709551615)))))
 (.need (.b2 .and (.b2 .and (.b2 .le (.lit (-9223372036854775808)) (.var 0)) (.b2 .le (.var 0) (.lit (9223372036854775807)))) (.b2 .and (.b2 .le (.lit (0)) (.var 1)) (.b2 .le (.var 1) (.lit (18446744073709551615)))))
 (.need (.b2 .and (.b2 .and (.b2 .and (.b2 .le (.lit (-9223372036854775808)) (.var 0)) (.b2 .le (.var 0) (.lit (9223372036854775807)))) (.b2 .and (.b2 .le (.lit (0)) (.var 1)) (.b2 .le (.var 1) (.lit (18446744073709551615))))) (.b2 .and (.b2 .le (.lit (-9223372036854775808)) (.var 3)) (.b2 .le (.var 3) (.lit (9223372036854775807)))))
 (.br (.b2 .lt (.var 2) (.lit (0)))
 (.br (.not (.b2 .eq (.iapp 14 (.cons (.int .i64 (.var 2)) .nil)) (.lit (1))))
 (.ret (.bool (.tt false)))
 (.br (.not (.b2 .and (.b2 .eq (.iapp 8 (.cons (.int .i64 (.iapp 14 (.cons (.int .i64 (.var 2)) .nil))) (.cons (.int .i64 (.iapp 4 (.cons wParts_x2 .nil))) .nil))) (.lit (0))) (.b2 .eq (.iapp 8 (.cons (.int .i64 (.iapp 14 (.cons (.int .i64 (.var 2)) .nil))) (.cons (.int .i64 (.iapp 5 (.cons wParts_x2 .nil))) .nil))) (.lit (0)))))
 (.ret (.bool (.tt false)))
 (.br (.b2 .lt (.var 3) (.lit (1)))
 (.br (.b2 .eq (.iapp 15 (.cons (.int .i64 (.var 3)) .nil)) (.lit (1)))
 (.br (.b2 .and (.b2 .eq (.iapp 8 (.cons (.int .i64 (.iapp 15 (.cons (.int .i64 (.var 3)) .nil))) (.cons (.int .i64 (.iapp 4 (.cons wParts_x1 .nil))) .nil))) (.lit (0))) (.b2 .eq (.iapp 8 (.cons (.int .i64 (.iapp 15 (.cons (.int .i64 (.var 3)) .nil))) (.cons (.int .i64 (.iapp 5 (.cons wParts_x1 .nil))) .nil))) (.lit (0))))
 (.br (.b2 .eq (.iapp 8 (.cons (.int .i64 (.iapp 15 (.cons (.int .i64 (.var 3)) .nil))) (.cons wParts_x3 .nil))) (.lit (0)))
 (.ret (.bool (.tt true)))
 (.ret (.bool (.tt false))))
 (.ret (.bool (.tt false))))
 (.ret (.bool (.tt false))))
 (.need (.b2 .and (.b2 .le (.lit (-9223372036854775808)) (.var 3)) (.b2 .le (.var 3) (.lit (9223372036854775807))))
 (.need (.b2 .and (.b2 .and (.b2 .le (.lit (-170141183460469231731687303715884105728)) (.iapp 3 (.cons (.int .i64 (.var 0)) (.cons (.int .i64 (.var 1)) .nil)))) (.b2 .lt (.iapp 3 (.cons (.int .i64 (.var 0)) (.cons (.int .i64 (.var 1)) .nil))) (.lit (170141183460469231731687303715884105728)))) (.b2 .and (.b2 .le (.lit (1)) (.var 3)) (.b2 .le (.var 3) (.lit (170141183460469231731687303715884105728)))))
 (.need (.b2 .and (.b2 .le (.lit (0)) (.iapp 12 (.cons wParts_x0 (.cons (.int .i64 (.var 3)) .nil)))) (.b2 .le (.iapp 12 (.cons wParts_x0 (.cons (.int .i64 (.var 3)) .nil))) (.lit (9223372036854775807))))
 (.br (.b2 .eq (.iapp 15 (.cons (.int .i64 (.var 3)) .nil)) (.lit (0)))
 (.need (.b2 .and (.b2 .eq (.iapp 15 (.cons (.int .i64 (.var 3)) .nil)) (.lit (0))) (.b2 .eq (.iapp 6 (.cons wParts_x1 .nil)) (.lit (0))))
 (.br (.b2 .eq (.iapp 8 (.cons (.int .i64 (.iapp 15 (.cons (.int .i64 (.var 3)) .nil))) (.cons wParts_x3 .nil))) (.iapp 12 (.cons wParts_x0 (.cons (.int .i64 (.var 3)) .nil))))
 (.ret (.bool (.tt true)))
 (.ret (.bool (.tt false)))))
 (.ret (.bool (.tt false))))))))))
 (.br (.b2 .lt (.lit (127)) (.var 2))
 (.br (.not (.b2 .eq (.iapp 14 (.cons (.int .i64 (.var 2)) .nil)) (.lit (1))))
 (.ret (.bool (.tt false)))
 (.br (.not (.b2 .and (.b2 .eq (.iapp 8 (.cons (.int .i64 (.iapp 14 (.cons (.int .i64 (.var 2)) .nil))) (.cons (.int .i64 (.iapp 4 (.cons wParts_x2 .nil))) .nil))) (.lit (0))) (.b2 .eq (.iapp 8 (.cons (.int .i64 (.iapp 14 (.cons (.int .i64 (.var 2)) .nil))) (.cons (.int .i64 (.iapp 5 (.cons wParts_x2 .nil))) .nil))) (.lit (0)))))
 (.ret (.bool (.tt false)))
 (.br (.b2 .lt (.var 3) (.lit (1)))
 (.br (.b2 .eq (.iapp 15 (.cons (.int .i64 (.var 3)) .nil)) (.lit (1)))
 (.br (.b2 .and (.b2 .eq (.iapp 8 (.cons (.int .i64 (.iapp 15 (.cons (.int .i64 (.var 3)) .nil))) (.cons (.int .i64 (.iapp 4 (.cons wParts_x1 .nil))) .nil))) (.lit (0))) (.b2 .eq (.iapp 8 (.cons (.int .i64 (.iapp 15 (.cons (.int .i64 (.var 3)) .nil))) (.cons (.int .i64 (.iapp 5 (.cons wParts_x1 .nil))) .nil))) (.lit (0))))
 (.br (.b2 .eq (.iapp 8 (.cons (.int .i64 (.iapp 15 (.cons (.int .i64 (.var 3)) .nil))) (.cons wParts_x3 .nil))) (.lit (0)))
 (.ret (.bool (.tt true)))
 (.ret (.bool (.tt false))))
 (.ret (.bool (.tt false))))
 (.ret (.bool (.tt false))))
 (.need (.b2 .and (.b2 .le (.lit (-9223372036854775808)) (.var 3)) (.b2 .le (.var 3) (.lit (9223372036854775807))))
 (.need (.b2 .and (.b2 .and (.b2 .le (.lit (-170141183460469231731687303715884105728)) (.iapp 3 (.cons (.int .i64 (.var 0)) (.cons (.int .i64 (.var 1)) .nil)))) (.b2 .lt (.iapp 3 (.cons (.int .i64 (.var 0)) (.cons (.int .i64 (.var 1)) .nil))) (.lit (170141183460469231731687303715884105728)))) (.b2 .and (.b2 .le (.lit (1)) (.var 3)) (.b2 .le (.var 3) (.lit (170141183460469231731687303715884105728)))))
 (.need (.b2 .and (.b2 .le (.lit (0)) (.iapp 12 (.cons wParts_x0 (.cons (.int .i64 (.var 3)) .nil)))) (.b2 .le (.iapp 12 (.cons wParts_x0 (.cons (.int .i64 (.var 3)) .nil))) (.lit (9223372036854775807))))
 (.br (.b2 .eq (.iapp 15 (.cons (.int .i64 (.var 3)) .nil)) (.lit (0)))
 (.need (.b2 .and (.b2 .eq (.iapp 15 (.cons (.int .i64 (.var 3)) .nil)) (.lit (0))) (.b2 .eq (.iapp 6 (.cons wParts_x1 .nil)) (.lit (0))))
 (.br (.b2 .eq (.iapp 8 (.cons (.int .i64 (.iapp 15 (.cons (.int .i64 (.var 3)) .nil))) (.cons wParts_x3 .nil))) (.iapp 12 (.cons wParts_x0 (.cons (.int .i64 (.var 3)) .nil))))
 (.ret (.bool (.tt true)))
 (.ret (.bool (.tt false)))))
 (.ret (.bool (.tt false))))))))))
 (.need (.b2 .and (.b2 .le (.lit (0)) (.var 2)) (.b2 .le (.var 2) (.lit (127))))
 (.need (.b2 .and (.b2 .and (.b2 .le (.lit (-170141183460469231731687303715884105728)) (.iapp 3 (.cons (.int .i64 (.var 0)) (.cons (.int .i64 (.var 1)) .nil)))) (.b2 .lt (.iapp 3 (.cons (.int .i64 (.var 0)) (.cons (.int .i64 (.var 1)) .nil))) (.lit (170141183460469231731687303715884105728)))) (.b2 .and (.b2 .le (.lit (1)) (.iapp 10 (.cons (.int .i64 (.var 2)) .nil))) (.b2 .le (.iapp 10 (.cons (.int .i64 (.var 2)) .nil)) (.lit (170141183460469231731687303715884105728)))))
 (.br (.not (.b2 .eq (.iapp 14 (.cons (.int .i64 (.var 2)) .nil)) (.lit (0))))
 (.ret (.bool (.tt false)))
 (.need (.b2 .and (.b2 .eq (.iapp 14 (.cons (.int .i64 (.var 2)) .nil)) (.lit (0))) (.b2 .eq (.iapp 6 (.cons wParts_x2 .nil)) (.lit (0))))
 (.br (.b2 .lt (.var 3) (.lit (1)))
 (.br (.b2 .eq (.iapp 15 (.cons (.int .i64 (.var 3)) .nil)) (.lit (1)))
 (.br (.b2 .and (.b2 .eq (.iapp 8 (.cons (.int .i64 (.iapp 15 (.cons (.int .i64 (.var 3)) .nil))) (.cons (.int .i64 (.iapp 4 (.cons wParts_x1 .nil))) .nil))) (.lit (0))) (.b2 .eq (.iapp 8 (.cons (.int .i64 (.iapp 15 (.cons (.int .i64 (.var 3)) .nil))) (.cons (.int .i64 (.iapp 5 (.cons wParts_x1 .nil))) .nil))) (.lit (0))))
 (.br (.b2 .eq (.iapp 8 (.cons (.int .i64 (.iapp 15 (.cons (.int .i64 (.var 3)) .nil))) (.cons wParts_x3 .nil))) (.lit (0)))
 (.ret (.bool (.tt true)))
 (.ret (.bool (.tt false))))
 (.ret (.bool (.tt false))))
 (.ret (.bool (.tt false))))
 (.need (.b2 .and (.b2 .le (.lit (-9223372036854775808)) (.var 3)) (.b2 .le (.var 3) (.lit (9223372036854775807))))
 (.need (.b2 .and (.b2 .and (.b2 .le (.lit (-170141183460469231731687303715884105728)) (.iapp 3 (.cons (.int .i64 (.var 0)) (.cons (.int .i64 (.var 1)) .nil)))) (.b2 .lt (.iapp 3 (.cons (.int .i64 (.var 0)) (.cons (.int .i64 (.var 1)) .nil))) (.lit (170141183460469231731687303715884105728)))) (.b2 .and (.b2 .le (.lit (1)) (.var 3)) (.b2 .le (.var 3) (.lit (170141183460469231731687303715884105728)))))
 (.need (.b2 .and (.b2 .le (.lit (0)) (.iapp 12 (.cons wParts_x0 (.cons (.int .i64 (.var 3)) .nil)))) (.b2 .le (.iapp 12 (.cons wParts_x0 (.cons (.int .i64 (.var 3)) .nil))) (.lit (9223372036854775807))))
 (.br (.b2 .eq (.iapp 15 (.cons (.int .i64 (.var 3)) .nil)) (.lit (0)))
 (.need (.b2 .and (.b2 .eq (.iapp 15 (.cons (.int .i64 (.var 3)) .nil)) (.lit (0))) (.b2 .eq (.iapp 6 (.cons wParts_x1 .nil)) (.lit (0))))
 (.br (.b2 .eq (.iapp 8 (.cons (.int .i64 (.iapp 15 (.cons (.int .i64 (.var 3)) .nil))) (.cons wParts_x3 .nil))) (.iapp 12 (.cons wParts_x0 (.cons (.int .i64 (.var 3)) .nil))))
 (.ret (.bool (.tt true)))
 (.ret (.bool (.tt false)))))
 (.ret (.bool (.tt false)))))))))))))))))
abbrev wcc_wParts : Con := ⟨4, [(.agg (.cons (.int .i64 (.var 0)) (.cons (.int .u64 (.var 1)) .nil))), (.int .i64 (.var 2)), (.int .i64 (.var 3))], (.b2 .and (.b2 .and (.b2 .le (.lit (-9223372036854775808)) (.var 0)) (.b2 .le (.var 0) (.lit (9223372036854775807)))) (.b2 .and (.b2 .and (.b2 .le (.lit (0)) (.var 1)) (.b2 .le (.var 1) (.lit (18446744073709551615)))) (.b2 .and (.b2 .and (.b2 .le (.lit (-9223372036854775808)) (.var 2)) (.b2 .le (.var 2) (.lit (9223372036854775807)))) (.b2 .and (.b2 .le (.lit (-9223372036854775808)) (.var 3)) (.b2 .le (.var 3) (.lit (9223372036854775807))))))), (.bool (.tt true)), ⟨4, 0, 0, 0⟩, none⟩
theorem wParts_w : walk Tryd.prog 186 ⟨[wac_bfrom, wac_wshr, wac_wdiv, wcc_divN, wcc_divM, wac_bpow, wac_bint, wcc_numF, wac_num, wcc_lisG, wcc_sure], syG, [], [], []⟩ [] .v wcc_wParts wcc_wParts.n 3000 = some wParts_tree := by kernel_rfl
theorem wParts_h (xh xl n d : Int) (hc : holds (wcE [xh, xl, n, d] [] [] []) wcc_wParts.cnd) (hty : patsTyp (wcE [xh, xl, n, d] [] [] []) wcc_wParts.pat) : wParts_tree.holds (fun v_ => v_ = denV (wcE [xh, xl, n, d] [] [] []) b0 wcc_wParts.res) (wcE [xh, xl, n, d] [] [] []) := by
  simp only [wcc_wParts, Tree.holds, Sy.holds, AllN, Env.more, wcE, List.cons_append, List.nil_append, List.append_nil, denV, denI, denB, denL, I2.den, VOp.den, List.getD_cons_zero, List.getD_cons_succ, Cst.den, syso, syse, syio, sybo, List.map_nil, List.map_cons, B2.ofInts, B2.denI, B2.denB, if_true, Bool.false_eq_true, if_false, Nat.div_one, Nat.mul_one, Nat.add_zero, holds] at hc
  simp only [wcc_wParts, patsTyp, patTyp, patTypL, wcE, denV, denL, List.getD_cons_zero, List.getD_cons_succ, and_true, true_and] at hty
  unfold wParts_tree
  simp only [wParts_x0, wParts_x1, wParts_x2, wParts_x3]
  simp only [wcc_wParts, Tree.holds, Sy.holds, AllN, Env.more, wcE, List.cons_append, List.nil_append, List.append_nil, denV, denI, denB, denL, I2.den, VOp.den, List.getD_cons_zero, List.getD_cons_succ, Cst.den, syso, syse, syio, sybo, wci_wv, wci_wh, wci_wl, wci_rg, wci_gd, wci_pw, wci_dv, wci_md, wci_she, wci_dve, List.map_nil, List.map_cons, B2.ofInts, B2.denI, B2.denB, if_true, Bool.false_eq_true, if_false, Nat.div_one, Nat.mul_one, Nat.add_zero]
  have hx : -170141183460469231731687303715884105728 ≤ wvI xh xl ∧ wvI xh xl ≤ 170141183460469231731687303715884105727 := wv_in hc.1.1 hc.1.2 hc.2.1.1 hc.2.1.2
  rcases she_spec n with ⟨hs, es⟩ | ⟨hs, es⟩ <;> rcases dve_spec d with ⟨hd, ed⟩ | ⟨hd, ed⟩
  all_goals
   simp only [es, ed, gd_y rfl, gd_n (show (1 : Int) ≠ 0 by decide)]
   try have p := pw_rng hs.1 hs.2
   try have q1 := wdiv_rng (x := wvI xh xl) (d := pwI n) hx p.1
   have r1 := rg_spec (wvI xh xl / pwI n)
   try have q2 := wdiv_rng (x := wvI xh xl) (d := d) hx hd
   have r2 := rg_spec (wvI xh xl / d)
   try have q3 := md_rng (x := wvI xh xl) hd
   refine ⟨?_, fun h0 => ?_⟩
   ·
    first
    | exact True.intro
    | omega
    | (refine ⟨True.intro, ?_⟩; omega)
    | (simp only [decide_eq_true_eq]; omega)
    | skip
   ·
    refine ⟨?_, fun h1 => ?_⟩
    ·
     first
     | exact True.intro
     | omega
     | (refine ⟨True.intro, ?_⟩; omega)
     | (simp only [decide_eq_true_eq]; omega)
     | skip
    ·
     refine ⟨?_, fun h2 => ?_⟩
     ·
      first
      | exact True.intro
      | omega
      | (refine ⟨True.intro, ?_⟩; omega)
      | (simp only [decide_eq_true_eq]; omega)
      | skip
     ·
      refine ⟨fun h3 => ?_, fun h3 => ?_⟩
      ·
       refine ⟨fun h4 => ?_, fun h4 => ?_⟩
       ·
        first
        | exact True.intro
        | rfl
        | (exfalso; omega)
        | (exfalso; simp only [and_self, not_true_eq_false] at *; done)
        | skip
       ·
        refine ⟨fun h5 => ?_, fun h5 => ?_⟩
        ·
         first
         | exact True.intro
         | rfl
         | (exfalso; omega)
         | (exfalso; simp only [and_self, not_true_eq_false] at *; done)
         | skip
        ·
         refine ⟨fun h6 => ?_, fun h6 => ?_⟩
         ·
          refine ⟨fun h7 => ?_, fun h7 => ?_⟩
          ·
           refine ⟨fun h8 => ?_, fun h8 => ?_⟩
           ·
            refine ⟨fun h9 => ?_, fun h9 => ?_⟩
            ·
             first
             | exact True.intro
             | rfl
             | (exfalso; omega)
             | (exfalso; simp only [and_self, not_true_eq_false] at *; done)
             | skip
            ·
             first
             | exact True.intro
             | rfl
             | (exfalso; omega)
             | (exfalso; simp only [and_self, not_true_eq_false] at *; done)
             | skip
           ·
            first
            | exact True.intro
            | rfl
            | (exfalso; omega)
            | (exfalso; simp only [and_self, not_true_eq_false] at *; done)
            | skip
          ·
           first
           | exact True.intro
           | rfl
           | (exfalso; omega)
           | (exfalso; simp only [and_self, not_true_eq_false] at *; done)
           | skip
         ·
          refine ⟨?_, fun h10 => ?_⟩
          ·
           first
           | exact True.intro
           | omega
           | (refine ⟨True.intro, ?_⟩; omega)
           | (simp only [decide_eq_true_eq]; omega)
           | skip
          ·
           refine ⟨?_, fun h11 => ?_⟩
           ·
            first
            | exact True.intro
            | omega
            | (refine ⟨True.intro, ?_⟩; omega)
            | (simp only [decide_eq_true_eq]; omega)
            | skip
           ·
            refine ⟨?_, fun h12 => ?_⟩
            ·
             first
             | exact True.intro
             | omega
             | (refine ⟨True.intro, ?_⟩; omega)
             | (simp only [decide_eq_true_eq]; omega)
             | skip
            ·
             refine ⟨fun h13 => ?_, fun h13 => ?_⟩
             ·
              refine ⟨?_, fun h14 => ?_⟩
              ·
               first
               | exact True.intro
               | omega
               | (refine ⟨True.intro, ?_⟩; omega)
               | (simp only [decide_eq_true_eq]; omega)
               | skip
              ·
               refine ⟨fun h15 => ?_, fun h15 => ?_⟩
               ·
                first
                | exact True.intro
                | rfl
                | (exfalso; omega)
                | (exfalso; simp only [and_self, not_true_eq_false] at *; done)
                | skip
               ·
                first
                | exact True.intro
                | rfl
                | (exfalso; omega)
                | (exfalso; simp only [and_self, not_true_eq_false] at *; done)
                | skip
             ·
              first
              | exact True.intro
              | rfl
              | (exfalso; omega)
              | (exfalso; simp only [and_self, not_true_eq_false] at *; done)
              | skip
      ·
       refine ⟨fun h16 => ?_, fun h16 => ?_⟩
       ·
        refine ⟨fun h17 => ?_, fun h17 => ?_⟩
        ·
         first
         | exact True.intro
         | rfl
         | (exfalso; omega)
         | (exfalso; simp only [and_self, not_true_eq_false] at *; done)
         | skip
        ·
         refine ⟨fun h18 => ?_, fun h18 => ?_⟩
         ·
          first
          | exact True.intro
          | rfl
          | (exfalso; omega)
          | (exfalso; simp only [and_self, not_true_eq_false] at *; done)
          | skip
         ·
          refine ⟨fun h19 => ?_, fun h19 => ?_⟩
          ·
           refine ⟨fun h20 => ?_, fun h20 => ?_⟩
           ·
            refine ⟨fun h21 => ?_, fun h21 => ?_⟩
            ·
             refine ⟨fun h22 => ?_, fun h22 => ?_⟩
             ·
              first
              | exact True.intro
              | rfl
              | (exfalso; omega)
              | (exfalso; simp only [and_self, not_true_eq_false] at *; done)
              | skip
             ·
              first
              | exact True.intro
              | rfl
              | (exfalso; omega)
              | (exfalso; simp only [and_self, not_true_eq_false] at *; done)
              | skip
            ·
             first
             | exact True.intro
             | rfl
             | (exfalso; omega)
             | (exfalso; simp only [and_self, not_true_eq_false] at *; done)
             | skip
           ·
            first
            | exact True.intro
            | rfl
            | (exfalso; omega)
            | (exfalso; simp only [and_self, not_true_eq_false] at *; done)
            | skip
          ·
           refine ⟨?_, fun h23 => ?_⟩
           ·
            first
            | exact True.intro
            | omega
            | (refine ⟨True.intro, ?_⟩; omega)
            | (simp only [decide_eq_true_eq]; omega)
            | skip
           ·
            refine ⟨?_, fun h24 => ?_⟩
            ·
             first
             | exact True.intro
             | omega
             | (refine ⟨True.intro, ?_⟩; omega)
             | (simp only [decide_eq_true_eq]; omega)
             | skip
            ·
             refine ⟨?_, fun h25 => ?_⟩
             ·
              first
              | exact True.intro
              | omega
              | (refine ⟨True.intro, ?_⟩; omega)
              | (simp only [decide_eq_true_eq]; omega)
              | skip
             ·
              refine ⟨fun h26 => ?_, fun h26 => ?_⟩
              ·
               refine ⟨?_, fun h27 => ?_⟩
               ·
                first
                | exact True.intro
                | omega
                | (refine ⟨True.intro, ?_⟩; omega)
                | (simp only [decide_eq_true_eq]; omega)
                | skip
               ·
                refine ⟨fun h28 => ?_, fun h28 => ?_⟩
                ·
                 first
                 | exact True.intro
                 | rfl
                 | (exfalso; omega)
                 | (exfalso; simp only [and_self, not_true_eq_false] at *; done)
                 | skip
                ·
                 first
                 | exact True.intro
                 | rfl
                 | (exfalso; omega)
                 | (exfalso; simp only [and_self, not_true_eq_false] at *; done)
                 | skip
              ·
               first
               | exact True.intro
               | rfl
               | (exfalso; omega)
               | (exfalso; simp only [and_self, not_true_eq_false] at *; done)
               | skip
       ·
        refine ⟨?_, fun h29 => ?_⟩
        ·
         first
         | exact True.intro
         | omega
         | (refine ⟨True.intro, ?_⟩; omega)
         | (simp only [decide_eq_true_eq]; omega)
         | skip
        ·
         refine ⟨?_, fun h30 => ?_⟩
         ·
          first
          | exact True.intro
          | omega
          | (refine ⟨True.intro, ?_⟩; omega)
          | (simp only [decide_eq_true_eq]; omega)
          | skip
         ·
          refine ⟨fun h31 => ?_, fun h31 => ?_⟩
          ·
           first
           | exact True.intro
           | rfl
           | (exfalso; omega)
           | (exfalso; simp only [and_self, not_true_eq_false] at *; done)
           | skip
          ·
           refine ⟨?_, fun h32 => ?_⟩
           ·
            first
            | exact True.intro
            | omega
            | (refine ⟨True.intro, ?_⟩; omega)
            | (simp only [decide_eq_true_eq]; omega)
            | skip
           ·
            refine ⟨fun h33 => ?_, fun h33 => ?_⟩
            ·
             refine ⟨fun h34 => ?_, fun h34 => ?_⟩
             ·
              refine ⟨fun h35 => ?_, fun h35 => ?_⟩
              ·
               refine ⟨fun h36 => ?_, fun h36 => ?_⟩
               ·
                first
                | exact True.intro
                | rfl
                | (exfalso; omega)
                | (exfalso; simp only [and_self, not_true_eq_false] at *; done)
                | skip
               ·
                first
                | exact True.intro
                | rfl
                | (exfalso; omega)
                | (exfalso; simp only [and_self, not_true_eq_false] at *; done)
                | skip
              ·
               first
               | exact True.intro
               | rfl
               | (exfalso; omega)
               | (exfalso; simp only [and_self, not_true_eq_false] at *; done)
               | skip
             ·
              first
              | exact True.intro
              | rfl
              | (exfalso; omega)
              | (exfalso; simp only [and_self, not_true_eq_false] at *; done)
              | skip
            ·
             refine ⟨?_, fun h37 => ?_⟩
             ·
              first
              | exact True.intro
              | omega
              | (refine ⟨True.intro, ?_⟩; omega)
              | (simp only [decide_eq_true_eq]; omega)
              | skip
             ·
              refine ⟨?_, fun h38 => ?_⟩
              ·
               first
               | exact True.intro
               | omega
               | (refine ⟨True.intro, ?_⟩; omega)
               | (simp only [decide_eq_true_eq]; omega)
               | skip
              ·
               refine ⟨?_, fun h39 => ?_⟩
               ·
                first
                | exact True.intro
                | omega
                | (refine ⟨True.intro, ?_⟩; omega)
                | (simp only [decide_eq_true_eq]; omega)
                | skip
               ·
                refine ⟨fun h40 => ?_, fun h40 => ?_⟩
                ·
                 refine ⟨?_, fun h41 => ?_⟩
                 ·
                  first
                  | exact True.intro
                  | omega
                  | (refine ⟨True.intro, ?_⟩; omega)
                  | (simp only [decide_eq_true_eq]; omega)
                  | skip
                 ·
                  refine ⟨fun h42 => ?_, fun h42 => ?_⟩
                  ·
                   first
                   | exact True.intro
                   | rfl
                   | (exfalso; omega)
                   | (exfalso; simp only [and_self, not_true_eq_false] at *; done)
                   | skip
                  ·
                   first
                   | exact True.intro
                   | rfl
                   | (exfalso; omega)
                   | (exfalso; simp only [and_self, not_true_eq_false] at *; done)
                   | skip
                ·
                 first
                 | exact True.intro
                 | rfl
                 | (exfalso; omega)
                 | (exfalso; simp only [and_self, not_true_eq_false] at *; done)
                 | skip
theorem wcg_wParts : wcc_wParts.Good Tryd.prog syG (wcE [] [] [] []) := good_of_walk (Γ := ⟨[wac_bfrom, wac_wshr, wac_wdiv, wcc_divN, wcc_divM, wac_bpow, wac_bint, wcc_numF, wac_num, wcc_lisG, wcc_sure], syG, [], [], []⟩) (ρ := wcE [] [] [] []) sym wParts_w rfl (fun _ _ _ _ => (ok_cons (Con.Good.env (Con.Good.up wag_bfrom wcup rfl) _ _ _ _) (ok_cons (Con.Good.env (Con.Good.up wag_wshr wcup rfl) _ _ _ _) (ok_cons (Con.Good.env (Con.Good.up wag_wdiv wcup rfl) _ _ _ _) (ok_cons (Con.Good.env wcg_divN _ _ _ _) (ok_cons (Con.Good.env wcg_divM _ _ _ _) (ok_cons (Con.Good.env (Con.Good.up wag_bpow wcup rfl) _ _ _ _) (ok_cons (Con.Good.env (Con.Good.up wag_bint wcup rfl) _ _ _ _) (ok_cons (Con.Good.env wcg_numF _ _ _ _) (ok_cons (Con.Good.env (Con.Good.up wag_num wcup rfl) _ _ _ _) (ok_cons (Con.Good.env wcg_lisG _ _ _ _) (ok_cons (Con.Good.env wcg_sure _ _ _ _) ok_nil)))))))))))) (fun xh xl n d hc hty => wParts_h xh xl n d hc hty)
end Go.Proofs.YtjcgmdgkdkfdpaaDoor
