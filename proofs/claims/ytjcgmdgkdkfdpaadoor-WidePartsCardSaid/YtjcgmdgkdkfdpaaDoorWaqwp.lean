/-
  Layer 2 by the second engine: wide numbers, and the big ones of the reference.
-/
import Derived.Test.YtjcgmdgkdkfdpaaDoorSycqwp
import Derived.Test.YtjcgmdgkdkfdpaaDoorMathqwp
import Derived.Test.YtjcgmdgkdkfdpaaDoorNumqwp
import Derived.IntWalk
import Derived.Test.YtjcgmdgkdkfdpaaDoorSyoqwp
import Derived.Test.YtjcgmdgkdkfdpaaDoorW02sqwp
import Derived.Test.YtjcgmdgkdkfdpaaDoorW02uqwp
import Derived.Test.YtjcgmdgkdkfdpaaDoorW02eqwp
namespace Go.Proofs.YtjcgmdgkdkfdpaaDoor
open Go.RowKit Go.Extern.Stop Go.Stop Go.Extern Go.Proofs.YtjcgmdgkdkfdpaaDoor.Sy
set_option linter.unusedVariables false
set_option linter.unusedSimpArgs false
def sgI (b : Bool) (m : Int) : Int := if b then -m else m
def abI (x : Int) : Int := if x < 0 then -x else x
def wvI (h l : Int) : Int := h * 18446744073709551616 + l
def rgE (x : Int) : Int := if In128 x then 0 else 2
def r6E (x : Int) : Int := if InR x then 0 else 2
def gdF (e x : Int) : Int := if e = 0 then x else 0
def pwI (n : Int) : Int := if n < 0 ∨ 200 < n then 1 else 2 ^ n.toNat
def cpI (x : Int) : Int := if x = 0 then 0 else if x < 0 then -1 else 1
def sheI (n : Int) : Int := if n < 0 ∨ 127 < n then 1 else 0
def dveI (n : Int) : Int := if n < 1 then 1 else 0
theorem she_spec (n : Int) : ((n < 0 ∨ 127 < n) ∧ sheI n = 1) ∨ ((0 ≤ n ∧ n ≤ 127) ∧ sheI n = 0) := by unfold sheI; split <;> omega
theorem dve_spec (n : Int) : (n < 1 ∧ dveI n = 1) ∨ (1 ≤ n ∧ dveI n = 0) := by unfold dveI; split <;> omega
theorem sg_f (m : Int) : sgI false m = m := Eq.trans rfl rfl
theorem sg_t (m : Int) : sgI true m = -m := Eq.trans rfl rfl
theorem ab_spec (x : Int) : (x < 0 ∧ abI x = -x) ∨ (0 ≤ x ∧ abI x = x) := by unfold abI; split <;> omega
theorem sg_ab (x : Int) : sgI (decide (x < 0)) (abI x) = x := by
  by_cases h : x < 0
  · rw [decide_eq_true h, sg_t]; unfold abI; rw [if_pos h]; omega
  · rw [decide_eq_false h, sg_f]; unfold abI; rw [if_neg h]
theorem rg_spec (x : Int) : ((-170141183460469231731687303715884105728 ≤ x ∧ x < 170141183460469231731687303715884105728) ∧ rgE x = 0) ∨ ((x < -170141183460469231731687303715884105728 ∨ 170141183460469231731687303715884105728 ≤ x) ∧ rgE x = 2) := by
  unfold rgE
  split
  · rename_i h; unfold In128 at h; exact .inl ⟨by omega, rfl⟩
  · rename_i h; unfold In128 at h; exact .inr ⟨by omega, rfl⟩
theorem gd_y {e : Int} (h : e = 0) (x : Int) : gdF e x = x := by unfold gdF; rw [if_pos h]
theorem gd_n {e : Int} (h : e ≠ 0) (x : Int) : gdF e x = 0 := by unfold gdF; rw [if_neg h]
theorem wv_halves {h l : Int} (l0 : 0 ≤ l) (l1 : l ≤ 18446744073709551615) : wvI h l / 18446744073709551616 = h ∧ wvI h l % 18446744073709551616 = l := by unfold wvI; omega
theorem wv_in {h l : Int} (h0 : -9223372036854775808 ≤ h) (h1 : h ≤ 9223372036854775807) (l0 : 0 ≤ l) (l1 : l ≤ 18446744073709551615) : In128 (wvI h l) := by unfold wvI In128; omega
theorem wv_eq {h l : Int} (l0 : 0 ≤ l) (l1 : l ≤ 18446744073709551615) : Value.agg #[.int .i64 h, .int .u64 l] = WV (wvI h l) := by
  obtain ⟨e1, e2⟩ := wv_halves (h := h) l0 l1
  unfold WV
  rw [e1, e2]
theorem from_w (h l : Int) (w : World) (h0 : -9223372036854775808 ≤ h) (h1 : h ≤ 9223372036854775807) (l0 : 0 ≤ l) (l1 : l ≤ 18446744073709551615) : Calls Tryd.prog 14 #[.agg #[.int .i64 h, .int .u64 l]] w fun e w' => e = .returned (.agg #[.bool (decide (wvI h l < 0)), .int .u64 (dg (abI (wvI h l)) 0), .int .u64 (dg (abI (wvI h l)) 1), .int .u64 (dg (abI (wvI h l)) 2), .int .u64 (dg (abI (wvI h l)) 3), .int .u64 (dg (abI (wvI h l)) 4), .int .u64 (dg (abI (wvI h l)) 5), .int .u64 (dg (abI (wvI h l)) 6), .int .u64 (dg (abI (wvI h l)) 7)]) ∧ Below w.heap.size w w' := by
  obtain ⟨e1, e2⟩ := wv_halves (h := h) l0 l1
  exact from_c (wvI h l) h l w e1.symm e2.symm h0 h1
theorem to_w (b : Bool) (m : Int) (w : World) (h0 : 0 ≤ m) (h1 : m < B8) (hb : ¬ (b = true ∧ m = 0)) : Calls Tryd.prog 19 #[.agg #[.bool (b), .int .u64 (dg (m) 0), .int .u64 (dg (m) 1), .int .u64 (dg (m) 2), .int .u64 (dg (m) 3), .int .u64 (dg (m) 4), .int .u64 (dg (m) 5), .int .u64 (dg (m) 6), .int .u64 (dg (m) 7)]] w fun e w' => e = .returned (.tuple #[.agg #[.int .i64 (gdF (rgE (sgI b m)) ((sgI b m) / 18446744073709551616)), .int .u64 (gdF (rgE (sgI b m)) ((sgI b m) % 18446744073709551616))], .bool (rgE (sgI b m) == 0)]) ∧ Below w.heap.size w w' := by
  cases b with
  | false =>
    rcases rg_spec (sgI false m) with ⟨h, e⟩ | ⟨h, e⟩ <;> rw [sg_f] at h e
    · simp only [sg_f, e, gd_y rfl]
      exact to_pos_x m _ _ w h0 h.2 rfl rfl
    · simp only [sg_f, e, gd_n (show (2 : Int) ≠ 0 by decide)]
      exact to_pos_no m w (by omega) h1
  | true =>
    have hm : m ≠ 0 := fun h => hb ⟨rfl, h⟩
    rcases rg_spec (sgI true m) with ⟨h, e⟩ | ⟨h, e⟩ <;> rw [sg_t] at h e
    · simp only [sg_t, e, gd_y rfl]
      exact to_neg_x m _ _ w (by omega) (by omega) rfl rfl
    · simp only [sg_t, e, gd_n (show (2 : Int) ≠ 0 by decide)]
      exact to_neg_no m w (by omega) h1
theorem pw_rng {n : Int} (h0 : 0 ≤ n) (h1 : n ≤ 127) : 1 ≤ pwI n ∧ pwI n ≤ 170141183460469231731687303715884105728 ∧ pwI n = 2 ^ n.toNat := by
  have e : pwI n = 2 ^ n.toNat := by unfold pwI; rw [if_neg (by omega)]
  refine ⟨?_, ?_, e⟩
  · rw [e]; have : (0 : Int) < 2 ^ n.toNat := Int.pow_pos (by decide); omega
  · rw [e]
    have := Nat.pow_le_pow_right (show 0 < 2 by decide) (show n.toNat ≤ 127 by omega)
    have h2 : ((2 ^ n.toNat : Nat) : Int) ≤ ((2 ^ 127 : Nat) : Int) := by exact_mod_cast this
    simpa using h2
theorem power_w (n : Int) (w : World) (h0 : 0 ≤ n) (h1 : n ≤ 127) : Calls Tryd.prog 33 #[.int .i64 n] w fun e w' => e = .returned (.agg #[.bool (false), .int .u64 (dg (pwI n) 0), .int .u64 (dg (pwI n) 1), .int .u64 (dg (pwI n) 2), .int .u64 (dg (pwI n) 3), .int .u64 (dg (pwI n) 4), .int .u64 (dg (pwI n) 5), .int .u64 (dg (pwI n) 6), .int .u64 (dg (pwI n) 7)]) ∧ Below w.heap.size w w' := by
  obtain ⟨p1, p2, p3⟩ := pw_rng h0 h1
  have h := power_i n (pwI n) w h0 (by omega) p3
  rw [bigV_pos _ (by omega)] at h
  exact h
theorem shr_no_w (h l n : Int) (w : World) (hn : n < 0 ∨ 127 < n) (b0 : 0 ≤ l) (b1 : l ≤ 18446744073709551615) : Calls Tryd.prog 30 #[.agg #[.int .i64 h, .int .u64 l], .int .i64 n] w fun e w' => e = .returned (.tuple #[.agg #[.int .i64 0, .int .u64 0], errVal 186 1]) ∧ Below w.heap.size w w' := by
  rw [wv_eq b0 b1]
  exact wshr_no _ n w hn
theorem shr_w (h l n : Int) (w : World) (a0 : -9223372036854775808 ≤ h) (a1 : h ≤ 9223372036854775807) (b0 : 0 ≤ l) (b1 : l ≤ 18446744073709551615) (n0 : 0 ≤ n) (n1 : n ≤ 127) : Calls Tryd.prog 30 #[.agg #[.int .i64 h, .int .u64 l], .int .i64 n] w fun e w' => e = .returned (.tuple #[.agg #[.int .i64 (wvI h l / pwI n / 18446744073709551616), .int .u64 (wvI h l / pwI n % 18446744073709551616)], errVal 186 0]) ∧ Below w.heap.size w w' := by
  rw [wv_eq b0 b1, (pw_rng n0 n1).2.2]
  exact wshr_i _ n w (wv_in a0 a1 b0 b1) n0 n1
theorem div_no_w (h l d : Int) (w : World) (hd : d < 1) (b0 : 0 ≤ l) (b1 : l ≤ 18446744073709551615) : Calls Tryd.prog 31 #[.agg #[.int .i64 h, .int .u64 l], .int .i64 d] w fun e w' => e = .returned (.tuple #[.agg #[.int .i64 0, .int .u64 0], .int .i64 0, errVal 186 1]) ∧ Below w.heap.size w w' := by
  rw [wv_eq b0 b1]
  exact wdiv_no _ d w hd
theorem div_w (h l d : Int) (w : World) (a0 : -9223372036854775808 ≤ h) (a1 : h ≤ 9223372036854775807) (b0 : 0 ≤ l) (b1 : l ≤ 18446744073709551615) (d0 : 1 ≤ d) (d1 : d ≤ 9223372036854775807) : Calls Tryd.prog 31 #[.agg #[.int .i64 h, .int .u64 l], .int .i64 d] w fun e w' => e = .returned (.tuple #[.agg #[.int .i64 (wvI h l / d / 18446744073709551616), .int .u64 (wvI h l / d % 18446744073709551616)], .int .i64 (wvI h l % d), errVal 186 0]) ∧ Below w.heap.size w w' := by
  rw [wv_eq b0 b1]
  exact wdiv _ d w (wv_in a0 a1 b0 b1) d0 ⟨by omega, d1⟩
theorem bdiv_w (b : Bool) (m d : Int) (w : World) (h0 : 0 ≤ m) (h1 : m ≤ 170141183460469231731687303715884105728) (hb : ¬ (b = true ∧ m = 0)) (d0 : 1 ≤ d) (d1 : d ≤ 170141183460469231731687303715884105728) : Calls Tryd.prog 32 #[.agg #[.bool (b), .int .u64 (dg (m) 0), .int .u64 (dg (m) 1), .int .u64 (dg (m) 2), .int .u64 (dg (m) 3), .int .u64 (dg (m) 4), .int .u64 (dg (m) 5), .int .u64 (dg (m) 6), .int .u64 (dg (m) 7)], .agg #[.bool (false), .int .u64 (dg (d) 0), .int .u64 (dg (d) 1), .int .u64 (dg (d) 2), .int .u64 (dg (d) 3), .int .u64 (dg (d) 4), .int .u64 (dg (d) 5), .int .u64 (dg (d) 6), .int .u64 (dg (d) 7)]] w fun e w' => e = .returned (.tuple #[.agg #[.bool (decide (sgI b m / d < 0)), .int .u64 (dg (abI (sgI b m / d)) 0), .int .u64 (dg (abI (sgI b m / d)) 1), .int .u64 (dg (abI (sgI b m / d)) 2), .int .u64 (dg (abI (sgI b m / d)) 3), .int .u64 (dg (abI (sgI b m / d)) 4), .int .u64 (dg (abI (sgI b m / d)) 5), .int .u64 (dg (abI (sgI b m / d)) 6), .int .u64 (dg (abI (sgI b m / d)) 7)], .agg #[.bool (false), .int .u64 (dg (sgI b m % d) 0), .int .u64 (dg (sgI b m % d) 1), .int .u64 (dg (sgI b m % d) 2), .int .u64 (dg (sgI b m % d) 3), .int .u64 (dg (sgI b m % d) 4), .int .u64 (dg (sgI b m % d) 5), .int .u64 (dg (sgI b m % d) 6), .int .u64 (dg (sgI b m % d) 7)]]) ∧ Below w.heap.size w w' := by
  have e : (Value.agg #[.bool b, .int .u64 (dg m 0), .int .u64 (dg m 1), .int .u64 (dg m 2), .int .u64 (dg m 3), .int .u64 (dg m 4), .int .u64 (dg m 5), .int .u64 (dg m 6), .int .u64 (dg m 7)]) = bigV (sgI b m) := by
    cases b with
    | false => rw [sg_f, bigV_pos m h0]
    | true =>
      have hm : m ≠ 0 := fun h => hb ⟨rfl, h⟩
      rw [sg_t, bigV_neg (-m) m (by omega) (by omega)]
  have hx : -170141183460469231731687303715884105728 ≤ sgI b m ∧ sgI b m ≤ 170141183460469231731687303715884105728 := by cases b <;> simp only [sg_f, sg_t] <;> omega
  rw [e]
  have ed : (Value.agg #[.bool false, .int .u64 (dg d 0), .int .u64 (dg d 1), .int .u64 (dg d 2), .int .u64 (dg d 3), .int .u64 (dg d 4), .int .u64 (dg d 5), .int .u64 (dg d 6), .int .u64 (dg d 7)]) = bigV d := (bigV_pos d (by omega)).symm
  rw [ed]
  generalize sgI b m = x at *
  have hr := Int.emod_nonneg x (show d ≠ 0 by omega)
  by_cases hq : 0 ≤ x / d
  · have h := div_qp x d _ _ w hx.1 hx.2 d0 d1 rfl rfl hq
    rw [show decide (x / d < 0) = false from decide_eq_false (by omega), show abI (x / d) = x / d by (have := ab_spec (x / d); omega)]
    exact h
  · have h := div_qn x d (-(x / d)) _ w hx.1 hx.2 d0 d1 (by omega) rfl (by omega)
    rw [show decide (x / d < 0) = true from decide_eq_true (by omega), show abI (x / d) = -(x / d) by (have := ab_spec (x / d); omega)]
    exact h
theorem shr_all (h l n : Int) (w : World) (a0 : -9223372036854775808 ≤ h) (a1 : h ≤ 9223372036854775807) (b0 : 0 ≤ l) (b1 : l ≤ 18446744073709551615) : Calls Tryd.prog 30 #[.agg #[.int .i64 h, .int .u64 l], .int .i64 n] w fun e w' => e = .returned (.tuple #[.agg #[.int .i64 (gdF (sheI n) ((wvI h l / pwI n) / 18446744073709551616)), .int .u64 (gdF (sheI n) ((wvI h l / pwI n) % 18446744073709551616))], errVal 186 (sheI n)]) ∧ Below w.heap.size w w' := by
  rcases she_spec n with ⟨q, e⟩ | ⟨q, e⟩
  · simp only [e, gd_n (show (1 : Int) ≠ 0 by decide)]
    exact shr_no_w h l n w q b0 b1
  · simp only [e, gd_y rfl]
    exact shr_w h l n w a0 a1 b0 b1 q.1 q.2
theorem div_all (h l d : Int) (w : World) (a0 : -9223372036854775808 ≤ h) (a1 : h ≤ 9223372036854775807) (b0 : 0 ≤ l) (b1 : l ≤ 18446744073709551615) (d1 : d ≤ 9223372036854775807) : Calls Tryd.prog 31 #[.agg #[.int .i64 h, .int .u64 l], .int .i64 d] w fun e w' => e = .returned (.tuple #[.agg #[.int .i64 (gdF (dveI d) ((wvI h l / d) / 18446744073709551616)), .int .u64 (gdF (dveI d) ((wvI h l / d) % 18446744073709551616))], .int .i64 (gdF (dveI d) (wvI h l % d)), errVal 186 (dveI d)]) ∧ Below w.heap.size w w' := by
  rcases dve_spec d with ⟨q, e⟩ | ⟨q, e⟩
  · simp only [e, gd_n (show (1 : Int) ≠ 0 by decide)]
    exact div_no_w h l d w q b0 b1
  · simp only [e, gd_y rfl]
    exact div_w h l d w a0 a1 b0 b1 q d1
theorem num02_any2 (n : Int) (w : World) (hg : w.cell? ⟨0, 0, none⟩ = some asHandle) : Calls Tryd.prog 23 #[errVal 186 n] w fun e w' => e = .returned (.int .i64 n) ∧ Below w.heap.size w w' := by
  unfold errVal
  split
  · rename_i h; subst h; exact num02_nil _
  · exact num02_err _ _ hg
noncomputable def waI : Nat → List Value → Int
  | 0, [.int _ m, .int _ k] => dg m k.toNat
  | 1, [.bool b, .int _ m] => sgI b m
  | 2, [.int _ x] => abI x
  | 3, [.int _ h, .int _ l] => wvI h l
  | 4, [.int _ x] => x / 18446744073709551616
  | 5, [.int _ x] => x % 18446744073709551616
  | 6, [.int _ x] => rgE x
  | 7, [.int _ x] => r6E x
  | 8, [.int _ e, .int _ x] => gdF e x
  | 9, [.int _ x, .int _ y] => sizeR x y
  | 10, [.int _ n] => pwI n
  | 11, [.int _ a, .int _ b] => a / b
  | 12, [.int _ a, .int _ b] => a % b
  | 13, [.int _ x] => cpI x
  | 14, [.int _ n] => sheI n
  | 15, [.int _ n] => dveI n
  | _, _ => 0
noncomputable def waB : Nat → List Value → Bool
  | 0, [.int _ x] => decide (x < 0)
  | _, _ => false
noncomputable def waV : Nat → List Value → Value
  | _, _ => Go.undef
noncomputable abbrev waE (iv : List Int) (bv : List Bool) (vv : List Value) (sv : List ByteArray) : Env := { iv := iv, bv := bv, vv := vv, sv := sv, fi := waI, fb := waB, fv := waV, et := 186 }
theorem wai_dg (k1 : IntKind) (m : Int) (k2 : IntKind) (k : Int) : waI 0 [.int k1 m, .int k2 k] = dg m k.toNat := rfl
theorem wai_ab (k1 : IntKind) (x : Int) : waI 2 [.int k1 x] = abI x := rfl
theorem wai_wv (k1 : IntKind) (h : Int) (k2 : IntKind) (l : Int) : waI 3 [.int k1 h, .int k2 l] = wvI h l := rfl
theorem wai_wh (k1 : IntKind) (x : Int) : waI 4 [.int k1 x] = x / 18446744073709551616 := rfl
theorem wai_wl (k1 : IntKind) (x : Int) : waI 5 [.int k1 x] = x % 18446744073709551616 := rfl
theorem wai_gd (k1 : IntKind) (e : Int) (k2 : IntKind) (x : Int) : waI 8 [.int k1 e, .int k2 x] = gdF e x := rfl
theorem wai_pw (k1 : IntKind) (n : Int) : waI 10 [.int k1 n] = pwI n := rfl
theorem wai_dv (k1 : IntKind) (a : Int) (k2 : IntKind) (b : Int) : waI 11 [.int k1 a, .int k2 b] = a / b := rfl
theorem wai_md (k1 : IntKind) (a : Int) (k2 : IntKind) (b : Int) : waI 12 [.int k1 a, .int k2 b] = a % b := rfl
theorem wai_she (k1 : IntKind) (n : Int) : waI 14 [.int k1 n] = sheI n := rfl
theorem wai_dve (k1 : IntKind) (n : Int) : waI 15 [.int k1 n] = dveI n := rfl
theorem wab_ng (k1 : IntKind) (x : Int) : waB 0 [.int k1 x] = decide (x < 0) := rfl
theorem syso (s : ByteArray) : strOf (.string s) = s := rfl
theorem syse (a b : ByteArray) : strEq (.string a) (.string b) = (a == b) := rfl
theorem syio (k : IntKind) (n : Int) : intOf (.int k n) = n := rfl
theorem sybo (b : Bool) : boolOf (.bool b) = b := rfl
theorem sym : Tryd.prog.follows .mixedOrders = true := by kernel_rfl
abbrev syG : Glob := [(0, 0, asHandle)]
abbrev wac_bfrom : Con := ⟨14, [(.agg (.cons (.int .i64 (.var 0)) (.cons (.int .u64 (.var 1)) .nil)))], (.b2 .and (.b2 .and (.b2 .le (.lit (-9223372036854775808)) (.var 0)) (.b2 .le (.var 0) (.lit (9223372036854775807)))) (.b2 .and (.b2 .le (.lit (0)) (.var 1)) (.b2 .le (.var 1) (.lit (18446744073709551615))))), (.agg (.cons (.bool (.bapp 0 (.cons (.int .i64 (.iapp 3 (.cons (.int .i64 (.var 0)) (.cons (.int .i64 (.var 1)) .nil)))) .nil))) (.cons (.int .u64 (.iapp 0 (.cons (.int .i64 (.iapp 2 (.cons (.int .i64 (.iapp 3 (.cons (.int .i64 (.var 0)) (.cons (.int .i64 (.var 1)) .nil)))) .nil))) (.cons (.int .i64 (.lit (0))) .nil)))) (.cons (.int .u64 (.iapp 0 (.cons (.int .i64 (.iapp 2 (.cons (.int .i64 (.iapp 3 (.cons (.int .i64 (.var 0)) (.cons (.int .i64 (.var 1)) .nil)))) .nil))) (.cons (.int .i64 (.lit (1))) .nil)))) (.cons (.int .u64 (.iapp 0 (.cons (.int .i64 (.iapp 2 (.cons (.int .i64 (.iapp 3 (.cons (.int .i64 (.var 0)) (.cons (.int .i64 (.var 1)) .nil)))) .nil))) (.cons (.int .i64 (.lit (2))) .nil)))) (.cons (.int .u64 (.iapp 0 (.cons (.int .i64 (.iapp 2 (.cons (.int .i64 (.iapp 3 (.cons (.int .i64 (.var 0)) (.cons (.int .i64 (.var 1)) .nil)))) .nil))) (.cons (.int .i64 (.lit (3))) .nil)))) (.cons (.int .u64 (.iapp 0 (.cons (.int .i64 (.iapp 2 (.cons (.int .i64 (.iapp 3 (.cons (.int .i64 (.var 0)) (.cons (.int .i64 (.var 1)) .nil)))) .nil))) (.cons (.int .i64 (.lit (4))) .nil)))) (.cons (.int .u64 (.iapp 0 (.cons (.int .i64 (.iapp 2 (.cons (.int .i64 (.iapp 3 (.cons (.int .i64 (.var 0)) (.cons (.int .i64 (.var 1)) .nil)))) .nil))) (.cons (.int .i64 (.lit (5))) .nil)))) (.cons (.int .u64 (.iapp 0 (.cons (.int .i64 (.iapp 2 (.cons (.int .i64 (.iapp 3 (.cons (.int .i64 (.var 0)) (.cons (.int .i64 (.var 1)) .nil)))) .nil))) (.cons (.int .i64 (.lit (6))) .nil)))) (.cons (.int .u64 (.iapp 0 (.cons (.int .i64 (.iapp 2 (.cons (.int .i64 (.iapp 3 (.cons (.int .i64 (.var 0)) (.cons (.int .i64 (.var 1)) .nil)))) .nil))) (.cons (.int .i64 (.lit (7))) .nil)))) .nil)))))))))), ⟨2, 0, 0, 0⟩, none⟩
theorem wag_bfrom : wac_bfrom.Good Tryd.prog syG (waE [] [] [] []) := good_flat rfl rfl rfl (by
  intro h l hc β ok w hG
  have hc' := hc
  simp only [Tree.holds, Sy.holds, AllN, Env.more, waE, List.cons_append, List.nil_append, List.append_nil, denV, denI, denB, denL, I2.den, VOp.den, List.getD_cons_zero, List.getD_cons_succ, Cst.den, syso, syse, syio, sybo, wai_dg, wai_ab, wai_wv, wab_ng, List.map_nil, List.map_cons, B2.ofInts, B2.denI, B2.denB, if_true, Bool.false_eq_true, if_false, Nat.div_one, Nat.mul_one, Nat.add_zero, holds] at hc
  exact from_w h l w hc.1.1 hc.1.2 hc.2.1 hc.2.2)
abbrev wac_bint : Con := ⟨26, [(.int .i64 (.var 0))], (.b2 .and (.b2 .le (.lit (-9223372036854775808)) (.var 0)) (.b2 .le (.var 0) (.lit (9223372036854775807)))), (.agg (.cons (.bool (.bapp 0 (.cons (.int .i64 (.var 0)) .nil))) (.cons (.int .u64 (.iapp 0 (.cons (.int .i64 (.iapp 2 (.cons (.int .i64 (.var 0)) .nil))) (.cons (.int .i64 (.lit (0))) .nil)))) (.cons (.int .u64 (.iapp 0 (.cons (.int .i64 (.iapp 2 (.cons (.int .i64 (.var 0)) .nil))) (.cons (.int .i64 (.lit (1))) .nil)))) (.cons (.int .u64 (.iapp 0 (.cons (.int .i64 (.iapp 2 (.cons (.int .i64 (.var 0)) .nil))) (.cons (.int .i64 (.lit (2))) .nil)))) (.cons (.int .u64 (.iapp 0 (.cons (.int .i64 (.iapp 2 (.cons (.int .i64 (.var 0)) .nil))) (.cons (.int .i64 (.lit (3))) .nil)))) (.cons (.int .u64 (.iapp 0 (.cons (.int .i64 (.iapp 2 (.cons (.int .i64 (.var 0)) .nil))) (.cons (.int .i64 (.lit (4))) .nil)))) (.cons (.int .u64 (.iapp 0 (.cons (.int .i64 (.iapp 2 (.cons (.int .i64 (.var 0)) .nil))) (.cons (.int .i64 (.lit (5))) .nil)))) (.cons (.int .u64 (.iapp 0 (.cons (.int .i64 (.iapp 2 (.cons (.int .i64 (.var 0)) .nil))) (.cons (.int .i64 (.lit (6))) .nil)))) (.cons (.int .u64 (.iapp 0 (.cons (.int .i64 (.iapp 2 (.cons (.int .i64 (.var 0)) .nil))) (.cons (.int .i64 (.lit (7))) .nil)))) .nil)))))))))), ⟨1, 0, 0, 0⟩, none⟩
theorem wag_bint : wac_bint.Good Tryd.prog syG (waE [] [] [] []) := good_flat rfl rfl rfl (by
  intro a hc β ok w hG
  have hc' := hc
  simp only [Tree.holds, Sy.holds, AllN, Env.more, waE, List.cons_append, List.nil_append, List.append_nil, denV, denI, denB, denL, I2.den, VOp.den, List.getD_cons_zero, List.getD_cons_succ, Cst.den, syso, syse, syio, sybo, wai_dg, wai_ab, wab_ng, List.map_nil, List.map_cons, B2.ofInts, B2.denI, B2.denB, if_true, Bool.false_eq_true, if_false, Nat.div_one, Nat.mul_one, Nat.add_zero, holds] at hc
  exact int_c a w hc)
abbrev wac_bpow : Con := ⟨33, [(.int .i64 (.var 0))], (.b2 .and (.b2 .le (.lit (0)) (.var 0)) (.b2 .le (.var 0) (.lit (127)))), (.agg (.cons (.bool (.tt false)) (.cons (.int .u64 (.iapp 0 (.cons (.int .i64 (.iapp 10 (.cons (.int .i64 (.var 0)) .nil))) (.cons (.int .i64 (.lit (0))) .nil)))) (.cons (.int .u64 (.iapp 0 (.cons (.int .i64 (.iapp 10 (.cons (.int .i64 (.var 0)) .nil))) (.cons (.int .i64 (.lit (1))) .nil)))) (.cons (.int .u64 (.iapp 0 (.cons (.int .i64 (.iapp 10 (.cons (.int .i64 (.var 0)) .nil))) (.cons (.int .i64 (.lit (2))) .nil)))) (.cons (.int .u64 (.iapp 0 (.cons (.int .i64 (.iapp 10 (.cons (.int .i64 (.var 0)) .nil))) (.cons (.int .i64 (.lit (3))) .nil)))) (.cons (.int .u64 (.iapp 0 (.cons (.int .i64 (.iapp 10 (.cons (.int .i64 (.var 0)) .nil))) (.cons (.int .i64 (.lit (4))) .nil)))) (.cons (.int .u64 (.iapp 0 (.cons (.int .i64 (.iapp 10 (.cons (.int .i64 (.var 0)) .nil))) (.cons (.int .i64 (.lit (5))) .nil)))) (.cons (.int .u64 (.iapp 0 (.cons (.int .i64 (.iapp 10 (.cons (.int .i64 (.var 0)) .nil))) (.cons (.int .i64 (.lit (6))) .nil)))) (.cons (.int .u64 (.iapp 0 (.cons (.int .i64 (.iapp 10 (.cons (.int .i64 (.var 0)) .nil))) (.cons (.int .i64 (.lit (7))) .nil)))) .nil)))))))))), ⟨1, 0, 0, 0⟩, none⟩
theorem wag_bpow : wac_bpow.Good Tryd.prog syG (waE [] [] [] []) := good_flat rfl rfl rfl (by
  intro n hc β ok w hG
  have hc' := hc
  simp only [Tree.holds, Sy.holds, AllN, Env.more, waE, List.cons_append, List.nil_append, List.append_nil, denV, denI, denB, denL, I2.den, VOp.den, List.getD_cons_zero, List.getD_cons_succ, Cst.den, syso, syse, syio, sybo, wai_dg, wai_pw, List.map_nil, List.map_cons, B2.ofInts, B2.denI, B2.denB, if_true, Bool.false_eq_true, if_false, Nat.div_one, Nat.mul_one, Nat.add_zero, holds] at hc
  exact power_w n w hc.1 hc.2)
abbrev wac_wshr : Con := ⟨30, [(.agg (.cons (.int .i64 (.var 0)) (.cons (.int .u64 (.var 1)) .nil))), (.int .i64 (.var 2))], (.b2 .and (.b2 .and (.b2 .le (.lit (-9223372036854775808)) (.var 0)) (.b2 .le (.var 0) (.lit (9223372036854775807)))) (.b2 .and (.b2 .le (.lit (0)) (.var 1)) (.b2 .le (.var 1) (.lit (18446744073709551615))))), (.tup (.cons (.agg (.cons (.int .i64 (.iapp 8 (.cons (.int .i64 (.iapp 14 (.cons (.int .i64 (.var 2)) .nil))) (.cons (.int .i64 (.iapp 4 (.cons (.int .i64 (.iapp 11 (.cons (.int .i64 (.iapp 3 (.cons (.int .i64 (.var 0)) (.cons (.int .i64 (.var 1)) .nil)))) (.cons (.int .i64 (.iapp 10 (.cons (.int .i64 (.var 2)) .nil))) .nil)))) .nil))) .nil)))) (.cons (.int .u64 (.iapp 8 (.cons (.int .i64 (.iapp 14 (.cons (.int .i64 (.var 2)) .nil))) (.cons (.int .i64 (.iapp 5 (.cons (.int .i64 (.iapp 11 (.cons (.int .i64 (.iapp 3 (.cons (.int .i64 (.var 0)) (.cons (.int .i64 (.var 1)) .nil)))) (.cons (.int .i64 (.iapp 10 (.cons (.int .i64 (.var 2)) .nil))) .nil)))) .nil))) .nil)))) .nil))) (.cons (.err (.iapp 14 (.cons (.int .i64 (.var 2)) .nil))) .nil))), ⟨3, 0, 0, 0⟩, none⟩
theorem wag_wshr : wac_wshr.Good Tryd.prog syG (waE [] [] [] []) := good_flat rfl rfl rfl (by
  intro h l n hc β ok w hG
  have hc' := hc
  simp only [Tree.holds, Sy.holds, AllN, Env.more, waE, List.cons_append, List.nil_append, List.append_nil, denV, denI, denB, denL, I2.den, VOp.den, List.getD_cons_zero, List.getD_cons_succ, Cst.den, syso, syse, syio, sybo, wai_wv, wai_wh, wai_wl, wai_gd, wai_pw, wai_dv, wai_she, List.map_nil, List.map_cons, B2.ofInts, B2.denI, B2.denB, if_true, Bool.false_eq_true, if_false, Nat.div_one, Nat.mul_one, Nat.add_zero, holds] at hc
  exact shr_all h l n w hc.1.1 hc.1.2 hc.2.1 hc.2.2)
abbrev wac_wdiv : Con := ⟨31, [(.agg (.cons (.int .i64 (.var 0)) (.cons (.int .u64 (.var 1)) .nil))), (.int .i64 (.var 2))], (.b2 .and (.b2 .and (.b2 .and (.b2 .le (.lit (-9223372036854775808)) (.var 0)) (.b2 .le (.var 0) (.lit (9223372036854775807)))) (.b2 .and (.b2 .le (.lit (0)) (.var 1)) (.b2 .le (.var 1) (.lit (18446744073709551615))))) (.b2 .and (.b2 .le (.lit (-9223372036854775808)) (.var 2)) (.b2 .le (.var 2) (.lit (9223372036854775807))))), (.tup (.cons (.agg (.cons (.int .i64 (.iapp 8 (.cons (.int .i64 (.iapp 15 (.cons (.int .i64 (.var 2)) .nil))) (.cons (.int .i64 (.iapp 4 (.cons (.int .i64 (.iapp 11 (.cons (.int .i64 (.iapp 3 (.cons (.int .i64 (.var 0)) (.cons (.int .i64 (.var 1)) .nil)))) (.cons (.int .i64 (.var 2)) .nil)))) .nil))) .nil)))) (.cons (.int .u64 (.iapp 8 (.cons (.int .i64 (.iapp 15 (.cons (.int .i64 (.var 2)) .nil))) (.cons (.int .i64 (.iapp 5 (.cons (.int .i64 (.iapp 11 (.cons (.int .i64 (.iapp 3 (.cons (.int .i64 (.var 0)) (.cons (.int .i64 (.var 1)) .nil)))) (.cons (.int .i64 (.var 2)) .nil)))) .nil))) .nil)))) .nil))) (.cons (.int .i64 (.iapp 8 (.cons (.int .i64 (.iapp 15 (.cons (.int .i64 (.var 2)) .nil))) (.cons (.int .i64 (.iapp 12 (.cons (.int .i64 (.iapp 3 (.cons (.int .i64 (.var 0)) (.cons (.int .i64 (.var 1)) .nil)))) (.cons (.int .i64 (.var 2)) .nil)))) .nil)))) (.cons (.err (.iapp 15 (.cons (.int .i64 (.var 2)) .nil))) .nil)))), ⟨3, 0, 0, 0⟩, none⟩
theorem wag_wdiv : wac_wdiv.Good Tryd.prog syG (waE [] [] [] []) := good_flat rfl rfl rfl (by
  intro h l d hc β ok w hG
  have hc' := hc
  simp only [Tree.holds, Sy.holds, AllN, Env.more, waE, List.cons_append, List.nil_append, List.append_nil, denV, denI, denB, denL, I2.den, VOp.den, List.getD_cons_zero, List.getD_cons_succ, Cst.den, syso, syse, syio, sybo, wai_wv, wai_wh, wai_wl, wai_gd, wai_dv, wai_md, wai_dve, List.map_nil, List.map_cons, B2.ofInts, B2.denI, B2.denB, if_true, Bool.false_eq_true, if_false, Nat.div_one, Nat.mul_one, Nat.add_zero, holds] at hc
  exact div_all h l d w hc.1.1.1 hc.1.1.2 hc.1.2.1 hc.1.2.2 hc.2.2)
abbrev wac_num : Con := ⟨23, [(.err (.var 0))], (.tt true), (.int .i64 (.var 0)), ⟨1, 0, 0, 0⟩, none⟩
theorem wag_num : wac_num.Good Tryd.prog syG (waE [] [] [] []) := good_flat rfl rfl rfl (by
  intro n hc β ok w hG
  have hc' := hc
  simp only [Tree.holds, Sy.holds, AllN, Env.more, waE, List.cons_append, List.nil_append, List.append_nil, denV, denI, denB, denL, I2.den, VOp.den, List.getD_cons_zero, List.getD_cons_succ, Cst.den, syso, syse, syio, sybo, List.map_nil, List.map_cons, B2.ofInts, B2.denI, B2.denB, if_true, Bool.false_eq_true, if_false, Nat.div_one, Nat.mul_one, Nat.add_zero, holds] at hc
  exact num02_any2 n w (hG _ (List.mem_singleton.2 rfl)).2.2)
end Go.Proofs.YtjcgmdgkdkfdpaaDoor
