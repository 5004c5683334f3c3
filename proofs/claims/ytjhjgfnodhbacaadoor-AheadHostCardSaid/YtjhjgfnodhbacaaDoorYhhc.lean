/-
  Layer 18 by the second engine: clamps, factors adjusted, spans, the servo.
-/
import Derived.Test.YtjhjgfnodhbacaaDoorSychc
import Derived.Test.YtjhjgfnodhbacaaDoorYchc
import Derived.Test.YtjhjgfnodhbacaaDoorE00hc
import Derived.Test.YtjhjgfnodhbacaaDoorW02shc
import Derived.Test.YtjhjgfnodhbacaaDoorSrvhc
import Derived.Test.YtjhjgfnodhbacaaDoorFlohc
namespace Go.Proofs.YtjhjgfnodhbacaaDoor
open Go.RowKit Go.Extern.Stop Go.Stop Go.Extern Go.Proofs.YtjhjgfnodhbacaaDoor.Sy
set_option linter.unusedVariables false
set_option linter.unusedSimpArgs false
def adF (m p : Int) : Int := m * (1073741824 + clI p (-1073741824) 1073741824) / 1073741824
def adE (m s p : Int) : Int := if ¬ fmP m s then 1 else if 1 ≤ adF m p ∧ adF m p ≤ 4294967295 then 0 else 2
def adA (m s p : Int) : Int := if adE m s p = 0 then adF m p else 0
def adS (m s p : Int) : Int := if adE m s p = 0 then s else 0
theorem ad_spec (m s p : Int) : (¬ fmP m s ∧ feE m s = 1 ∧ adE m s p = 1 ∧ adA m s p = 0 ∧ adS m s p = 0) ∨ (fmP m s ∧ feE m s = 0 ∧ ((1 ≤ adF m p ∧ adF m p ≤ 4294967295 ∧ adE m s p = 0 ∧ adA m s p = adF m p ∧ adS m s p = s) ∨ ((adF m p < 1 ∨ 4294967295 < adF m p) ∧ adE m s p = 2 ∧ adA m s p = 0 ∧ adS m s p = 0))) := by
  have key : ∀ n, adE m s p = n → n ≠ 0 → adA m s p = 0 ∧ adS m s p = 0 := fun n h1 h2 => by
    unfold adA adS
    rw [if_neg (by omega), if_neg (by omega)]
    exact ⟨rfl, rfl⟩
  by_cases h : fmP m s
  · right
    refine ⟨h, feE_y h, ?_⟩
    by_cases h2 : 1 ≤ adF m p ∧ adF m p ≤ 4294967295
    · left
      have e : adE m s p = 0 := by unfold adE; rw [if_neg (not_not_intro h), if_pos h2]
      exact ⟨h2.1, h2.2, e, by unfold adA; rw [if_pos e], by unfold adS; rw [if_pos e]⟩
    · right
      have e : adE m s p = 2 := by unfold adE; rw [if_neg (not_not_intro h), if_neg h2]
      exact ⟨by omega, e, key _ e (by decide)⟩
  · left
    have e : adE m s p = 1 := by unfold adE; rw [if_pos h]
    exact ⟨h, feE_n h, e, key _ e (by decide)⟩
theorem ad_prod {m p : Int} (h0 : 0 ≤ m) (h1 : m ≤ 4294967295) : (0 ≤ 1073741824 + clI p (-1073741824) 1073741824 ∧ 1073741824 + clI p (-1073741824) 1073741824 ≤ 2147483648) ∧ 0 ≤ m * (1073741824 + clI p (-1073741824) 1073741824) ∧ m * (1073741824 + clI p (-1073741824) 1073741824) ≤ 9223372034707292160 := by
  have hc := cl_spec p (-1073741824) 1073741824
  have e : 0 ≤ 1073741824 + clI p (-1073741824) 1073741824 ∧ 1073741824 + clI p (-1073741824) 1073741824 ≤ 2147483648 := by omega
  generalize 1073741824 + clI p (-1073741824) 1073741824 = q at e ⊢
  refine ⟨e, Int.mul_nonneg h0 e.1, ?_⟩
  have := Int.mul_le_mul h1 e.2 e.1 (by decide)
  omega
theorem shr30 (x : Int) : x.fdiv (2 ^ (Min.min (Int.toNat 30) (IntKind.bits .i64))) = x / 1073741824 := Int.fdiv_eq_ediv_of_nonneg _ (by decide)
def spI (a b : Int) : Int := if b < a then 1 else 0
def miI (a b : Int) : Int := a + (b - a) / 2
def plI (a b : Int) : Int := a + (if b < 0 then -b else b)
theorem plI_spec (a b : Int) : (b < 0 ∧ plI a b = a - b) ∨ (0 ≤ b ∧ plI a b = a + b) := by unfold plI; split <;> omega
def plz (p q o s : Int) : Value := (cmulV (cpxV (.float .f64 (FloatKind.f64.nearest p)) (.float .f64 (FloatKind.f64.nearest q))) (cpxV (.float .f64 (FloatKind.f64.nearest o)) (.float .f64 (FloatKind.f64.nearest (-s))))).getD Go.undef
def plE (p q o s : Int) : Int := if svK p q 0 = 0 ∧ -1048576 ≤ o ∧ o ≤ 1048576 ∧ -1048576 ≤ s ∧ s ≤ 1048576 then 0 else 1
def plZ (p q o s : Int) : Value := if plE p q o s = 0 then plz p q o s else .complex .f64 0 0
def isNV : Value → Bool
  | .float .f64 b => (match FloatKind.f64.decode b with | .number .. => true | _ => false)
  | _ => false
def flrW : Value → Value
  | .float .f64 b => .float .f64 (flrV b)
  | _ => Go.undef
def slE (m : Int) : Int := if m < 0 then 1 else 0
def slA (o m : Int) : Int := if m < 0 then 0 else clI o (-m) m
def slR (o m : Int) : Int := if m < 0 then 0 else satE (o - clI o (-m) m)
noncomputable def yhI : Nat → List Value → Int
  | 26, [.int _ v, .int _ lo, .int _ hi] => clI v lo hi
  | 27, [.int _ m, .int _ s, .int _ p] => adA m s p
  | 28, [.int _ m, .int _ s, .int _ p] => adS m s p
  | 29, [.int _ m, .int _ s, .int _ p] => adE m s p
  | 30, [.int _ a, .int _ b] => spI a b
  | 31, [.int _ a, .int _ b] => miI a b
  | 32, [.int _ a, .int _ b] => a / b
  | 33, [.int _ a, .int _ b] => a % b
  | 34, [.int _ a, .int _ b] => plI a b
  | 35, [.int _ p, .int _ q, .int _ l] => svK p q l
  | 36, [.int _ s, .int _ o] => stS s o
  | 37, [.int _ p, .int _ q, .int _ o, .int _ s] => plE p q o s
  | 38, [.int _ o, .int _ m] => slA o m
  | 39, [.int _ m] => slE m
  | 40, [.int _ o, .int _ m] => slR o m
  | 41, [.int _ p, .int _ q, .int _ l, .int _ s, .int _ o] => stF p q l s o
  | i, l => ycI i l
noncomputable def yhB : Nat → List Value → Bool
  | 3, [v] => isNV v
  | i, l => ycB i l
noncomputable def yhV : Nat → List Value → Value
  | 0, [v] => flrW v
  | 1, [.int _ p, .int _ q, .int _ o, .int _ s] => plZ p q o s
  | i, l => ycV i l
noncomputable abbrev yhE (iv : List Int) (bv : List Bool) (vv : List Value) (sv : List ByteArray) : Env := { iv := iv, bv := bv, vv := vv, sv := sv, fi := yhI, fb := yhB, fv := yhV, et := 229 }
set_option maxHeartbeats 8000000 in
theorem yhup : Agree 26 3 0 (ycE [] [] [] []) (yhE [] [] [] []) := ⟨rfl, (by
    intro f hf
    funext l
    show yhI f l = ycI f l
    unfold yhI
    split <;> first | rfl | omega), (by
    intro f hf
    funext l
    show yhB f l = ycB f l
    unfold yhB
    split <;> first | rfl | omega), (by
    intro f hf
    funext l
    show yhV f l = ycV f l
    unfold yhV
    split <;> first | rfl | omega)⟩
theorem yhi_fe (k1 : IntKind) (a : Int) (k2 : IntKind) (s : Int) : yhI 13 [.int k1 a, .int k2 s] = feE a s := rfl
theorem yhi_cl (k1 : IntKind) (v : Int) (k2 : IntKind) (lo : Int) (k3 : IntKind) (hi : Int) : yhI 26 [.int k1 v, .int k2 lo, .int k3 hi] = clI v lo hi := rfl
theorem yhi_ada (k1 : IntKind) (m : Int) (k2 : IntKind) (s : Int) (k3 : IntKind) (p : Int) : yhI 27 [.int k1 m, .int k2 s, .int k3 p] = adA m s p := rfl
theorem yhi_ads (k1 : IntKind) (m : Int) (k2 : IntKind) (s : Int) (k3 : IntKind) (p : Int) : yhI 28 [.int k1 m, .int k2 s, .int k3 p] = adS m s p := rfl
theorem yhi_ade (k1 : IntKind) (m : Int) (k2 : IntKind) (s : Int) (k3 : IntKind) (p : Int) : yhI 29 [.int k1 m, .int k2 s, .int k3 p] = adE m s p := rfl
theorem yhi_sve (k1 : IntKind) (p : Int) (k2 : IntKind) (q : Int) (k3 : IntKind) (l : Int) : yhI 35 [.int k1 p, .int k2 q, .int k3 l] = svK p q l := rfl
def clamp_tree : Tree :=
 (.br (.b2 .lt (.var 0) (.var 1))
 (.ret (.int .i64 (.var 1)))
 (.br (.b2 .lt (.var 2) (.var 1))
 (.ret (.int .i64 (.var 1)))
 (.ret (.int .i64 (.i2 .min (.var 0) (.var 2))))))
abbrev yhc_clamp : Con := ⟨134, [(.int .i64 (.var 0)), (.int .i64 (.var 1)), (.int .i64 (.var 2))], (.b2 .le (.var 1) (.var 2)), (.int .i64 (.iapp 26 (.cons (.int .i64 (.var 0)) (.cons (.int .i64 (.var 1)) (.cons (.int .i64 (.var 2)) .nil))))), ⟨3, 0, 0, 0⟩, none⟩
theorem clamp_w : walk Tryd.prog 229 ⟨[], syG, [], [], []⟩ [] .v yhc_clamp yhc_clamp.n 3000 = some clamp_tree := by kernel_rfl
theorem clamp_h (v : Int) (lo : Int) (hi : Int) (hc : holds (yhE [v, lo, hi] [] [] []) (.b2 .le (.var 1) (.var 2))) (hty : patsTyp (yhE [v, lo, hi] [] [] []) [(.int .i64 (.var 0)), (.int .i64 (.var 1)), (.int .i64 (.var 2))]) : clamp_tree.holds (fun v_ => v_ = denV (yhE [v, lo, hi] [] [] []) b0 (.int .i64 (.iapp 26 (.cons (.int .i64 (.var 0)) (.cons (.int .i64 (.var 1)) (.cons (.int .i64 (.var 2)) .nil)))))) (yhE [v, lo, hi] [] [] []) := by
  simp only [Tree.holds, Sy.holds, AllN, Env.more, yhE, List.cons_append, List.nil_append, List.append_nil, denV, denI, denB, denL, I2.den, VOp.den, List.getD_cons_zero, List.getD_cons_succ, Cst.den, syso, syse, syio, sybo, List.map_nil, List.map_cons, B2.ofInts, B2.denI, B2.denB, if_true, Bool.false_eq_true, if_false, Nat.div_one, Nat.mul_one, Nat.add_zero, holds] at hc
  simp only [patsTyp, patTyp, patTypL, yhE, denV, denL, List.getD_cons_zero, List.getD_cons_succ, and_true, true_and] at hty
  unfold clamp_tree
  simp only [Tree.holds, Sy.holds, AllN, Env.more, yhE, List.cons_append, List.nil_append, List.append_nil, denV, denI, denB, denL, I2.den, VOp.den, List.getD_cons_zero, List.getD_cons_succ, Cst.den, syso, syse, syio, sybo, yhi_cl, List.map_nil, List.map_cons, B2.ofInts, B2.denI, B2.denB, if_true, Bool.false_eq_true, if_false, Nat.div_one, Nat.mul_one, Nat.add_zero]
  have hs := cl_spec v lo hi
  refine ⟨fun h0 => ?_, fun h0 => ?_⟩
  ·
   first
   | (exfalso; omega)
   | (rw [show clI v lo hi = lo by omega]; done)
   | (rw [show clI v lo hi = v by omega]; done)
   | (rw [show clI v lo hi = hi by omega]; done)
   | (refine congrArg (Value.int .i64) ?_; split <;> omega)
  ·
   refine ⟨fun h1 => ?_, fun h1 => ?_⟩
   ·
    first
    | (exfalso; omega)
    | (rw [show clI v lo hi = lo by omega]; done)
    | (rw [show clI v lo hi = v by omega]; done)
    | (rw [show clI v lo hi = hi by omega]; done)
    | (refine congrArg (Value.int .i64) ?_; split <;> omega)
   ·
    first
    | (exfalso; omega)
    | (rw [show clI v lo hi = lo by omega]; done)
    | (rw [show clI v lo hi = v by omega]; done)
    | (rw [show clI v lo hi = hi by omega]; done)
    | (refine congrArg (Value.int .i64) ?_; split <;> omega)
theorem yhg_clamp : yhc_clamp.Good Tryd.prog syG (yhE [] [] [] []) := good_of_walk (Γ := ⟨[], syG, [], [], []⟩) (ρ := yhE [] [] [] []) sym clamp_w rfl (fun _ _ _ _ => ok_nil) (fun v lo hi hc hty => clamp_h v lo hi hc hty)
def adjust_tree : Tree :=
 (.need (.b2 .and (.b2 .and (.b2 .le (.lit (0)) (.var 0)) (.b2 .le (.var 0) (.lit (4294967295)))) (.b2 .and (.b2 .le (.lit (-9223372036854775808)) (.var 1)) (.b2 .le (.var 1) (.lit (9223372036854775807)))))
 (.br (.not (.b2 .eq (.iapp 13 (.cons (.int .u32 (.var 0)) (.cons (.int .i64 (.var 1)) .nil))) (.lit (0))))
 (.ret (.tup (.cons (.agg (.cons (.int .u32 (.lit (0))) (.cons (.int .i64 (.lit (0))) .nil))) (.cons (.err (.iapp 13 (.cons (.int .u32 (.var 0)) (.cons (.int .i64 (.var 1)) .nil)))) .nil))))
 (.br (.b2 .lt (.i2 (.shr .i64) (.wrap .i64 (.i2 .mul (.wrap .i64 (.var 0)) (.wrap .i64 (.i2 .add (.lit (1073741824)) (.iapp 26 (.cons (.int .i64 (.var 2)) (.cons (.int .i64 (.lit (-1073741824))) (.cons (.int .i64 (.lit (1073741824))) .nil)))))))) (.lit (30))) (.lit (1)))
 (.ret (.tup (.cons (.agg (.cons (.int .u32 (.lit (0))) (.cons (.int .i64 (.lit (0))) .nil))) (.cons (.iface 229 (.int .i64 (.lit (2)))) .nil))))
 (.br (.b2 .lt (.lit (4294967295)) (.i2 (.shr .i64) (.wrap .i64 (.i2 .mul (.wrap .i64 (.var 0)) (.wrap .i64 (.i2 .add (.lit (1073741824)) (.iapp 26 (.cons (.int .i64 (.var 2)) (.cons (.int .i64 (.lit (-1073741824))) (.cons (.int .i64 (.lit (1073741824))) .nil)))))))) (.lit (30))))
 (.ret (.tup (.cons (.agg (.cons (.int .u32 (.lit (0))) (.cons (.int .i64 (.lit (0))) .nil))) (.cons (.iface 229 (.int .i64 (.lit (2)))) .nil))))
 (.ret (.tup (.cons (.agg (.cons (.int .u32 (.wrap .u32 (.i2 (.shr .i64) (.wrap .i64 (.i2 .mul (.wrap .i64 (.var 0)) (.wrap .i64 (.i2 .add (.lit (1073741824)) (.iapp 26 (.cons (.int .i64 (.var 2)) (.cons (.int .i64 (.lit (-1073741824))) (.cons (.int .i64 (.lit (1073741824))) .nil)))))))) (.lit (30))))) (.cons (.int .i64 (.var 1)) .nil))) (.cons (.cst .nilI) .nil))))))))
abbrev yhc_adjust : Con := ⟨221, [(.agg (.cons (.int .u32 (.var 0)) (.cons (.int .i64 (.var 1)) .nil))), (.int .i64 (.var 2))], (.b2 .and (.b2 .and (.b2 .and (.b2 .le (.lit (0)) (.var 0)) (.b2 .le (.var 0) (.lit (4294967295)))) (.b2 .and (.b2 .le (.lit (-9223372036854775808)) (.var 1)) (.b2 .le (.var 1) (.lit (9223372036854775807))))) (.b2 .and (.b2 .le (.lit (-9223372036854775808)) (.var 2)) (.b2 .le (.var 2) (.lit (9223372036854775807))))), (.tup (.cons (.agg (.cons (.int .u32 (.iapp 27 (.cons (.int .u32 (.var 0)) (.cons (.int .i64 (.var 1)) (.cons (.int .i64 (.var 2)) .nil))))) (.cons (.int .i64 (.iapp 28 (.cons (.int .u32 (.var 0)) (.cons (.int .i64 (.var 1)) (.cons (.int .i64 (.var 2)) .nil))))) .nil))) (.cons (.err (.iapp 29 (.cons (.int .u32 (.var 0)) (.cons (.int .i64 (.var 1)) (.cons (.int .i64 (.var 2)) .nil))))) .nil))), ⟨3, 0, 0, 0⟩, none⟩
theorem adjust_w : walk Tryd.prog 229 ⟨[yac_rcheck, yhc_clamp], syG, [], [], []⟩ [] .v yhc_adjust yhc_adjust.n 3000 = some adjust_tree := by kernel_rfl
theorem adjust_h (m : Int) (s : Int) (p : Int) (hc : holds (yhE [m, s, p] [] [] []) (.b2 .and (.b2 .and (.b2 .and (.b2 .le (.lit (0)) (.var 0)) (.b2 .le (.var 0) (.lit (4294967295)))) (.b2 .and (.b2 .le (.lit (-9223372036854775808)) (.var 1)) (.b2 .le (.var 1) (.lit (9223372036854775807))))) (.b2 .and (.b2 .le (.lit (-9223372036854775808)) (.var 2)) (.b2 .le (.var 2) (.lit (9223372036854775807)))))) (hty : patsTyp (yhE [m, s, p] [] [] []) [(.agg (.cons (.int .u32 (.var 0)) (.cons (.int .i64 (.var 1)) .nil))), (.int .i64 (.var 2))]) : adjust_tree.holds (fun v_ => v_ = denV (yhE [m, s, p] [] [] []) b0 (.tup (.cons (.agg (.cons (.int .u32 (.iapp 27 (.cons (.int .u32 (.var 0)) (.cons (.int .i64 (.var 1)) (.cons (.int .i64 (.var 2)) .nil))))) (.cons (.int .i64 (.iapp 28 (.cons (.int .u32 (.var 0)) (.cons (.int .i64 (.var 1)) (.cons (.int .i64 (.var 2)) .nil))))) .nil))) (.cons (.err (.iapp 29 (.cons (.int .u32 (.var 0)) (.cons (.int .i64 (.var 1)) (.cons (.int .i64 (.var 2)) .nil))))) .nil)))) (yhE [m, s, p] [] [] []) := by
  simp only [Tree.holds, Sy.holds, AllN, Env.more, yhE, List.cons_append, List.nil_append, List.append_nil, denV, denI, denB, denL, I2.den, VOp.den, List.getD_cons_zero, List.getD_cons_succ, Cst.den, syso, syse, syio, sybo, List.map_nil, List.map_cons, B2.ofInts, B2.denI, B2.denB, if_true, Bool.false_eq_true, if_false, Nat.div_one, Nat.mul_one, Nat.add_zero, holds] at hc
  simp only [patsTyp, patTyp, patTypL, yhE, denV, denL, List.getD_cons_zero, List.getD_cons_succ, and_true, true_and] at hty
  unfold adjust_tree
  simp only [Tree.holds, Sy.holds, AllN, Env.more, yhE, List.cons_append, List.nil_append, List.append_nil, denV, denI, denB, denL, I2.den, VOp.den, List.getD_cons_zero, List.getD_cons_succ, Cst.den, syso, syse, syio, sybo, yhi_fe, yhi_cl, yhi_ada, yhi_ads, yhi_ade, List.map_nil, List.map_cons, B2.ofInts, B2.denI, B2.denB, if_true, Bool.false_eq_true, if_false, Nat.div_one, Nat.mul_one, Nat.add_zero]
  obtain ⟨pr1, pr2, pr3⟩ := ad_prod (p := p) hc.1.1.1 hc.1.1.2
  have w1 : IntKind.wrap .i64 m = m := by have := wr_i64 m; omega
  have w2 : IntKind.wrap .i64 (1073741824 + clI p (-1073741824) 1073741824) = 1073741824 + clI p (-1073741824) 1073741824 := by have := wr_i64 (1073741824 + clI p (-1073741824) 1073741824); omega
  have w3 : IntKind.wrap .i64 (m * (1073741824 + clI p (-1073741824) 1073741824)) = m * (1073741824 + clI p (-1073741824) 1073741824) := by have := wr_i64 (m * (1073741824 + clI p (-1073741824) 1073741824)); omega
  have e4 : m * (1073741824 + clI p (-1073741824) 1073741824) / 1073741824 = adF m p := rfl
  simp only [w1, w2, w3, shr30, e4]
  have ha := ad_spec m s p
  refine ⟨?_, fun h0 => ?_⟩
  ·
   omega
  ·
   refine ⟨fun h1 => ?_, fun h1 => ?_⟩
   ·
    rcases ha with ⟨f, f1, a1, a2, a3⟩ | ⟨f, f1, ⟨b1, b2, a1, a2, a3⟩ | ⟨b1, a1, a2, a3⟩⟩
    all_goals first
    | (exfalso; omega)
    | (rw [a1, a2, a3, f1]; done)
    | (rw [a1, a2, a3, f1]; rfl)
    | (rw [a1, a2, a3]; rfl)
    | (rw [a1, a2, a3, show IntKind.wrap .u32 (adF m p) = adF m p by (have := wr_u32 (adF m p); omega)]; rfl)
   ·
    refine ⟨fun h2 => ?_, fun h2 => ?_⟩
    ·
     rcases ha with ⟨f, f1, a1, a2, a3⟩ | ⟨f, f1, ⟨b1, b2, a1, a2, a3⟩ | ⟨b1, a1, a2, a3⟩⟩
     all_goals first
     | (exfalso; omega)
     | (rw [a1, a2, a3, f1]; done)
     | (rw [a1, a2, a3, f1]; rfl)
     | (rw [a1, a2, a3]; rfl)
     | (rw [a1, a2, a3, show IntKind.wrap .u32 (adF m p) = adF m p by (have := wr_u32 (adF m p); omega)]; rfl)
    ·
     refine ⟨fun h3 => ?_, fun h3 => ?_⟩
     ·
      rcases ha with ⟨f, f1, a1, a2, a3⟩ | ⟨f, f1, ⟨b1, b2, a1, a2, a3⟩ | ⟨b1, a1, a2, a3⟩⟩
      all_goals first
      | (exfalso; omega)
      | (rw [a1, a2, a3, f1]; done)
      | (rw [a1, a2, a3, f1]; rfl)
      | (rw [a1, a2, a3]; rfl)
      | (rw [a1, a2, a3, show IntKind.wrap .u32 (adF m p) = adF m p by (have := wr_u32 (adF m p); omega)]; rfl)
     ·
      rcases ha with ⟨f, f1, a1, a2, a3⟩ | ⟨f, f1, ⟨b1, b2, a1, a2, a3⟩ | ⟨b1, a1, a2, a3⟩⟩
      all_goals first
      | (exfalso; omega)
      | (rw [a1, a2, a3, f1]; done)
      | (rw [a1, a2, a3, f1]; rfl)
      | (rw [a1, a2, a3]; rfl)
      | (rw [a1, a2, a3, show IntKind.wrap .u32 (adF m p) = adF m p by (have := wr_u32 (adF m p); omega)]; rfl)
theorem yhg_adjust : yhc_adjust.Good Tryd.prog syG (yhE [] [] [] []) := good_of_walk (Γ := ⟨[yac_rcheck, yhc_clamp], syG, [], [], []⟩) (ρ := yhE [] [] [] []) sym adjust_w rfl (fun _ _ _ _ => (ok_cons (Con.Good.env (Con.Good.up (Con.Good.up (Con.Good.up yag_rcheck ybup rfl) ycup rfl) yhup rfl) _ _ _ _) (ok_cons (Con.Good.env yhg_clamp _ _ _ _) ok_nil))) (fun m s p hc hty => adjust_h m s p hc hty)
def both_tree : Tree :=
 (.br (.b2 .lt (.var 0) (.lit (0)))
 (.ret (.tup (.cons (.int .i64 (.lit (0))) (.cons (.iface 229 (.int .i64 (.lit (1)))) .nil))))
 (.br (.b2 .lt (.lit (1048576)) (.var 0))
 (.ret (.tup (.cons (.int .i64 (.lit (0))) (.cons (.iface 229 (.int .i64 (.lit (1)))) .nil))))
 (.br (.b2 .lt (.var 1) (.lit (0)))
 (.ret (.tup (.cons (.int .i64 (.lit (0))) (.cons (.iface 229 (.int .i64 (.lit (1)))) .nil))))
 (.br (.b2 .lt (.lit (1048576)) (.var 1))
 (.ret (.tup (.cons (.int .i64 (.lit (0))) (.cons (.iface 229 (.int .i64 (.lit (1)))) .nil))))
 (.ret (.tup (.cons (.int .i64 (.wrap .i64 (.i2 .add (.var 0) (.var 1)))) (.cons (.cst .nilI) .nil))))))))
abbrev yhc_both : Con := ⟨248, [(.int .i64 (.var 0)), (.int .i64 (.var 1))], (.b2 .and (.b2 .le (.lit (0)) (.var 0)) (.b2 .and (.b2 .le (.var 0) (.lit (1048576))) (.b2 .and (.b2 .le (.lit (0)) (.var 1)) (.b2 .le (.var 1) (.lit (1048576)))))), (.tup (.cons (.int .i64 (.i2 .add (.var 0) (.var 1))) (.cons (.err (.lit (0))) .nil))), ⟨2, 0, 0, 0⟩, none⟩
theorem both_w : walk Tryd.prog 229 ⟨[], syG, [], [], []⟩ [] .v yhc_both yhc_both.n 3000 = some both_tree := by kernel_rfl
theorem both_h (a : Int) (b : Int) (hc : holds (yhE [a, b] [] [] []) (.b2 .and (.b2 .le (.lit (0)) (.var 0)) (.b2 .and (.b2 .le (.var 0) (.lit (1048576))) (.b2 .and (.b2 .le (.lit (0)) (.var 1)) (.b2 .le (.var 1) (.lit (1048576))))))) (hty : patsTyp (yhE [a, b] [] [] []) [(.int .i64 (.var 0)), (.int .i64 (.var 1))]) : both_tree.holds (fun v_ => v_ = denV (yhE [a, b] [] [] []) b0 (.tup (.cons (.int .i64 (.i2 .add (.var 0) (.var 1))) (.cons (.err (.lit (0))) .nil)))) (yhE [a, b] [] [] []) := by
  simp only [Tree.holds, Sy.holds, AllN, Env.more, yhE, List.cons_append, List.nil_append, List.append_nil, denV, denI, denB, denL, I2.den, VOp.den, List.getD_cons_zero, List.getD_cons_succ, Cst.den, syso, syse, syio, sybo, List.map_nil, List.map_cons, B2.ofInts, B2.denI, B2.denB, if_true, Bool.false_eq_true, if_false, Nat.div_one, Nat.mul_one, Nat.add_zero, holds] at hc
  simp only [patsTyp, patTyp, patTypL, yhE, denV, denL, List.getD_cons_zero, List.getD_cons_succ, and_true, true_and] at hty
  unfold both_tree
  simp only [Tree.holds, Sy.holds, AllN, Env.more, yhE, List.cons_append, List.nil_append, List.append_nil, denV, denI, denB, denL, I2.den, VOp.den, List.getD_cons_zero, List.getD_cons_succ, Cst.den, syso, syse, syio, sybo, List.map_nil, List.map_cons, B2.ofInts, B2.denI, B2.denB, if_true, Bool.false_eq_true, if_false, Nat.div_one, Nat.mul_one, Nat.add_zero]
  refine ⟨fun h0 => ?_, fun h0 => ?_⟩
  ·
   first
   | (exfalso; omega)
   | (rw [show IntKind.wrap .i64 (a + b) = a + b by omega]; done)
   | (rw [show IntKind.wrap .i64 (a + b) = a + b by omega]; rfl)
  ·
   refine ⟨fun h1 => ?_, fun h1 => ?_⟩
   ·
    first
    | (exfalso; omega)
    | (rw [show IntKind.wrap .i64 (a + b) = a + b by omega]; done)
    | (rw [show IntKind.wrap .i64 (a + b) = a + b by omega]; rfl)
   ·
    refine ⟨fun h2 => ?_, fun h2 => ?_⟩
    ·
     first
     | (exfalso; omega)
     | (rw [show IntKind.wrap .i64 (a + b) = a + b by omega]; done)
     | (rw [show IntKind.wrap .i64 (a + b) = a + b by omega]; rfl)
    ·
     refine ⟨fun h3 => ?_, fun h3 => ?_⟩
     ·
      first
      | (exfalso; omega)
      | (rw [show IntKind.wrap .i64 (a + b) = a + b by omega]; done)
      | (rw [show IntKind.wrap .i64 (a + b) = a + b by omega]; rfl)
     ·
      have wf0 := wr_i64 (a + b)
      first
      | (exfalso; omega)
      | (rw [show IntKind.wrap .i64 (a + b) = a + b by omega]; done)
      | (rw [show IntKind.wrap .i64 (a + b) = a + b by omega]; rfl)
theorem yhg_both : yhc_both.Good Tryd.prog syG (yhE [] [] [] []) := good_of_walk (Γ := ⟨[], syG, [], [], []⟩) (ρ := yhE [] [] [] []) sym both_w rfl (fun _ _ _ _ => ok_nil) (fun a b hc hty => both_h a b hc hty)
def parts_tree : Tree :=
 (.ret (.agg (.cons (.int .i64 (.var 0)) (.cons (.int .i64 (.var 1)) .nil))))
abbrev yhc_parts : Con := ⟨139, [(.agg (.cons (.int .i64 (.var 0)) (.cons (.int .i64 (.var 1)) .nil)))], (.tt true), (.agg (.cons (.int .i64 (.var 0)) (.cons (.int .i64 (.var 1)) .nil))), ⟨2, 0, 0, 0⟩, none⟩
theorem parts_w : walk Tryd.prog 229 ⟨[], syG, [], [], []⟩ [] .v yhc_parts yhc_parts.n 3000 = some parts_tree := by kernel_rfl
theorem parts_h (a : Int) (b : Int) (hc : holds (yhE [a, b] [] [] []) (.tt true)) (hty : patsTyp (yhE [a, b] [] [] []) [(.agg (.cons (.int .i64 (.var 0)) (.cons (.int .i64 (.var 1)) .nil)))]) : parts_tree.holds (fun v_ => v_ = denV (yhE [a, b] [] [] []) b0 (.agg (.cons (.int .i64 (.var 0)) (.cons (.int .i64 (.var 1)) .nil)))) (yhE [a, b] [] [] []) := by
  simp only [Tree.holds, Sy.holds, AllN, Env.more, yhE, List.cons_append, List.nil_append, List.append_nil, denV, denI, denB, denL, I2.den, VOp.den, List.getD_cons_zero, List.getD_cons_succ, Cst.den, syso, syse, syio, sybo, List.map_nil, List.map_cons, B2.ofInts, B2.denI, B2.denB, if_true, Bool.false_eq_true, if_false, Nat.div_one, Nat.mul_one, Nat.add_zero, holds] at hc
  simp only [patsTyp, patTyp, patTypL, yhE, denV, denL, List.getD_cons_zero, List.getD_cons_succ, and_true, true_and] at hty
  unfold parts_tree
  simp only [Tree.holds, Sy.holds, AllN, Env.more, yhE, List.cons_append, List.nil_append, List.append_nil, denV, denI, denB, denL, I2.den, VOp.den, List.getD_cons_zero, List.getD_cons_succ, Cst.den, syso, syse, syio, sybo, List.map_nil, List.map_cons, B2.ofInts, B2.denI, B2.denB, if_true, Bool.false_eq_true, if_false, Nat.div_one, Nat.mul_one, Nat.add_zero]
  all_goals first | omega | rfl | (simp only [Value.tuple.injEq, Value.agg.injEq, Value.int.injEq, Value.bool.injEq, Array.mk.injEq, List.cons.injEq, true_and, and_true]; omega) | (refine congrArg Value.bool (Bool.eq_iff_iff.2 ?_); simp only [beq_iff_eq, decide_eq_true_eq, true_iff, false_iff, Bool.false_eq_true, Bool.not_eq_true', Bool.and_eq_true, Bool.or_eq_true, decide_eq_false_iff_not]; omega)
theorem yhg_parts : yhc_parts.Good Tryd.prog syG (yhE [] [] [] []) := good_of_walk (Γ := ⟨[], syG, [], [], []⟩) (ρ := yhE [] [] [] []) sym parts_w rfl (fun _ _ _ _ => ok_nil) (fun a b hc hty => parts_h a b hc hty)
def sck_tree : Tree :=
 (.br (.b2 .lt (.var 0) (.lit (0)))
 (.ret (.iface 229 (.int .i64 (.lit (1)))))
 (.br (.b2 .lt (.lit (1024)) (.var 0))
 (.ret (.iface 229 (.int .i64 (.lit (1)))))
 (.br (.b2 .lt (.var 1) (.lit (0)))
 (.ret (.iface 229 (.int .i64 (.lit (1)))))
 (.br (.b2 .lt (.lit (1024)) (.var 1))
 (.ret (.iface 229 (.int .i64 (.lit (1)))))
 (.br (.b2 .lt (.var 2) (.lit (0)))
 (.ret (.iface 229 (.int .i64 (.lit (1)))))
 (.br (.b2 .lt (.lit (1048576)) (.var 2))
 (.ret (.iface 229 (.int .i64 (.lit (1)))))
 (.ret (.cst .nilI))))))))
abbrev yhc_sck : Con := ⟨51, [(.agg (.cons (.int .i64 (.var 0)) (.cons (.int .i64 (.var 1)) .nil))), (.int .i64 (.var 2))], (.tt true), (.err (.iapp 35 (.cons (.int .i64 (.var 0)) (.cons (.int .i64 (.var 1)) (.cons (.int .i64 (.var 2)) .nil))))), ⟨3, 0, 0, 0⟩, none⟩
theorem sck_w : walk Tryd.prog 229 ⟨[yhc_parts], syG, [], [], []⟩ [] .v yhc_sck yhc_sck.n 3000 = some sck_tree := by kernel_rfl
theorem sck_h (p : Int) (q : Int) (l : Int) (hc : holds (yhE [p, q, l] [] [] []) (.tt true)) (hty : patsTyp (yhE [p, q, l] [] [] []) [(.agg (.cons (.int .i64 (.var 0)) (.cons (.int .i64 (.var 1)) .nil))), (.int .i64 (.var 2))]) : sck_tree.holds (fun v_ => v_ = denV (yhE [p, q, l] [] [] []) b0 (.err (.iapp 35 (.cons (.int .i64 (.var 0)) (.cons (.int .i64 (.var 1)) (.cons (.int .i64 (.var 2)) .nil)))))) (yhE [p, q, l] [] [] []) := by
  simp only [Tree.holds, Sy.holds, AllN, Env.more, yhE, List.cons_append, List.nil_append, List.append_nil, denV, denI, denB, denL, I2.den, VOp.den, List.getD_cons_zero, List.getD_cons_succ, Cst.den, syso, syse, syio, sybo, List.map_nil, List.map_cons, B2.ofInts, B2.denI, B2.denB, if_true, Bool.false_eq_true, if_false, Nat.div_one, Nat.mul_one, Nat.add_zero, holds] at hc
  simp only [patsTyp, patTyp, patTypL, yhE, denV, denL, List.getD_cons_zero, List.getD_cons_succ, and_true, true_and] at hty
  unfold sck_tree
  simp only [Tree.holds, Sy.holds, AllN, Env.more, yhE, List.cons_append, List.nil_append, List.append_nil, denV, denI, denB, denL, I2.den, VOp.den, List.getD_cons_zero, List.getD_cons_succ, Cst.den, syso, syse, syio, sybo, yhi_sve, List.map_nil, List.map_cons, B2.ofInts, B2.denI, B2.denB, if_true, Bool.false_eq_true, if_false, Nat.div_one, Nat.mul_one, Nat.add_zero]
  have hs := sv_spec p q l
  refine ⟨fun h0 => ?_, fun h0 => ?_⟩
  ·
   first
   | (exfalso; omega)
   | (rw [show svK p q l = 0 by omega]; rfl)
   | (rw [show svK p q l = 1 by omega]; rfl)
  ·
   refine ⟨fun h1 => ?_, fun h1 => ?_⟩
   ·
    first
    | (exfalso; omega)
    | (rw [show svK p q l = 0 by omega]; rfl)
    | (rw [show svK p q l = 1 by omega]; rfl)
   ·
    refine ⟨fun h2 => ?_, fun h2 => ?_⟩
    ·
     first
     | (exfalso; omega)
     | (rw [show svK p q l = 0 by omega]; rfl)
     | (rw [show svK p q l = 1 by omega]; rfl)
    ·
     refine ⟨fun h3 => ?_, fun h3 => ?_⟩
     ·
      first
      | (exfalso; omega)
      | (rw [show svK p q l = 0 by omega]; rfl)
      | (rw [show svK p q l = 1 by omega]; rfl)
     ·
      refine ⟨fun h4 => ?_, fun h4 => ?_⟩
      ·
       first
       | (exfalso; omega)
       | (rw [show svK p q l = 0 by omega]; rfl)
       | (rw [show svK p q l = 1 by omega]; rfl)
      ·
       refine ⟨fun h5 => ?_, fun h5 => ?_⟩
       ·
        first
        | (exfalso; omega)
        | (rw [show svK p q l = 0 by omega]; rfl)
        | (rw [show svK p q l = 1 by omega]; rfl)
       ·
        first
        | (exfalso; omega)
        | (rw [show svK p q l = 0 by omega]; rfl)
        | (rw [show svK p q l = 1 by omega]; rfl)
theorem yhg_sck : yhc_sck.Good Tryd.prog syG (yhE [] [] [] []) := good_of_walk (Γ := ⟨[yhc_parts], syG, [], [], []⟩) (ρ := yhE [] [] [] []) sym sck_w rfl (fun _ _ _ _ => (ok_cons (Con.Good.env yhg_parts _ _ _ _) ok_nil)) (fun p q l hc hty => sck_h p q l hc hty)
end Go.Proofs.YtjhjgfnodhbacaaDoor
