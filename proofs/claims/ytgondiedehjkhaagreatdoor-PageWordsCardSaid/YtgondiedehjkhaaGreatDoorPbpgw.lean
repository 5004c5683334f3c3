/-
 Layer 19 by the second engine: hosts behind the pages.
-/
import Derived.Test.YtgondiedehjkhaaGreatDoorSycpgw
import Derived.Test.YtgondiedehjkhaaGreatDoorPapgw
import Derived.Test.YtgondiedehjkhaaGreatDoorE00pgw
import Derived.Test.YtgondiedehjkhaaGreatDoorNumpgw
import Derived.Test.YtgondiedehjkhaaGreatDoorW02vpgw
namespace Go.Proofs.YtgondiedehjkhaaGreatDoor
open Go.RowKit Go.Extern.Stop Go.Stop Go.Extern Go.Proofs.YtgondiedehjkhaaGreatDoor.Sy
set_option linter.unusedVariables false
set_option linter.unusedSimpArgs false
abbrev xrpbpgwk15_ : Tm := (.b2 .and (.b2 .le (.lit (-9223372036854775808)) (.var 2)) (.b2 .le (.var 2) (.lit (9223372036854775807))))
abbrev xrpbpgwk0_ : Tm := (.b2 .and (.b2 .and (.b2 .le (.lit (0)) (.var 0)) (.b2 .le (.var 0) (.lit (4294967295)))) (.b2 .and (.b2 .and (.b2 .le (.lit (-9223372036854775808)) (.var 1)) (.b2 .le (.var 1) (.lit (9223372036854775807)))) (.b2 .and xrpbpgwk15_ (.b2 .and (.b2 .and (.b2 .le (.lit (-9223372036854775808)) (.var 3)) (.b2 .le (.var 3) (.lit (9223372036854775807)))) (.b2 .and (.b2 .and (.b2 .le (.lit (-9223372036854775808)) (.var 4)) (.b2 .le (.var 4) (.lit (9223372036854775807)))) (.b2 .and (.b2 .and (.b2 .le (.lit (-9223372036854775808)) (.var 5)) (.b2 .le (.var 5) (.lit (9223372036854775807)))) (.b2 .and (.b2 .and (.b2 .le (.lit (-9223372036854775808)) (.var 6)) (.b2 .le (.var 6) (.lit (9223372036854775807)))) (.b2 .and (.b2 .and (.b2 .le (.lit (-9223372036854775808)) (.var 7)) (.b2 .le (.var 7) (.lit (9223372036854775807)))) (.b2 .and (.b2 .and (.b2 .le (.lit (-9223372036854775808)) (.var 8)) (.b2 .le (.var 8) (.lit (9223372036854775807)))) (.b2 .and (.b2 .and (.b2 .le (.lit (-9223372036854775808)) (.var 9)) (.b2 .le (.var 9) (.lit (9223372036854775807)))) (.b2 .and (.b2 .and (.b2 .le (.lit (-9223372036854775808)) (.var 10)) (.b2 .le (.var 10) (.lit (9223372036854775807)))) (.b2 .and (.b2 .le (.lit (-9223372036854775808)) (.var 11)) (.b2 .le (.var 11) (.lit (9223372036854775807)))))))))))))))
abbrev xrpbpgwk1_ : Tm := (.tup (.cons (.int .u32 (.var 0)) (.cons (.int .i64 (.var 1)) (.cons (.int .i64 (.var 2)) (.cons (.int .i64 (.var 3)) (.cons (.int .i64 (.var 4)) (.cons (.int .i64 (.var 5)) (.cons (.int .i64 (.var 6)) (.cons (.bool (.bvar 0)) (.cons (.int .i64 (.var 7)) (.cons (.int .i64 (.var 8)) (.cons (.int .i64 (.var 9)) (.cons (.int .i64 (.var 10)) (.cons (.int .i64 (.var 11)) .nil))))))))))))))
abbrev xrpbpgwk2_ : Tm := (.b2 .and (.b2 .and (.b2 .le (.lit (0)) (.var 0)) (.b2 .le (.var 0) (.lit (4294967295)))) (.b2 .and (.b2 .le (.lit (-9223372036854775808)) (.var 1)) (.b2 .le (.var 1) (.lit (9223372036854775807)))))
abbrev xrpbpgwk9_ : Tm := (.agg (.cons (.int .u32 (.lit (0))) (.cons (.int .i64 (.lit (0))) .nil)))
abbrev xrpbpgwk3_ : Tm := (.tup (.cons xrpbpgwk9_ (.cons (.int .i64 (.lit (2))) .nil)))
abbrev xrpbpgwk4_ : Tm := (.iapp 43 (.cons (.tup (.cons (.int .u32 (.var 0)) (.cons (.int .i64 (.var 1)) (.cons (.int .i64 (.var 2)) (.cons (.int .i64 (.var 3)) (.cons (.int .i64 (.var 4)) (.cons (.int .i64 (.var 5)) (.cons (.int .i64 (.var 6)) (.cons (.bool (.tt false)) (.cons (.int .i64 (.lit (0))) (.cons (.int .i64 (.lit (0))) (.cons (.int .i64 (.lit (0))) (.cons (.int .i64 (.lit (0))) (.cons (.int .i64 (.lit (0))) .nil)))))))))))))) .nil))
abbrev xrpbpgwk5_ : Tm := (.b2 .and (.b2 .and (.b2 .le (.lit (0)) (.var 0)) (.b2 .le (.var 0) (.lit (4294967295)))) (.b2 .and (.b2 .and (.b2 .le (.lit (-9223372036854775808)) (.var 1)) (.b2 .le (.var 1) (.lit (9223372036854775807)))) (.b2 .and xrpbpgwk15_ (.b2 .and (.b2 .and (.b2 .le (.lit (-9223372036854775808)) (.var 3)) (.b2 .le (.var 3) (.lit (9223372036854775807)))) (.b2 .and (.b2 .and (.b2 .le (.lit (-9223372036854775808)) (.var 4)) (.b2 .le (.var 4) (.lit (9223372036854775807)))) (.b2 .and (.b2 .and (.b2 .le (.lit (-9223372036854775808)) (.var 5)) (.b2 .le (.var 5) (.lit (9223372036854775807)))) (.b2 .and (.b2 .le (.lit (-9223372036854775808)) (.var 6)) (.b2 .le (.var 6) (.lit (9223372036854775807))))))))))
abbrev xrpbpgwk6_ : Tm := (.agg (.cons (.int .u32 (.var 0)) (.cons (.int .i64 (.var 1)) (.cons (.int .i64 (.var 2)) (.cons (.int .i64 (.var 3)) (.cons (.int .i64 (.var 4)) (.cons (.int .i64 (.var 5)) (.cons (.int .i64 (.var 6)) (.cons (.bool (.bvar 0)) (.cons (.int .i64 (.var 7)) (.cons (.int .i64 (.var 8)) (.cons (.int .i64 (.var 9)) (.cons (.int .i64 (.var 10)) (.cons (.int .i64 (.var 11)) .nil))))))))))))))
abbrev xrpbpgwk7_ : Tm := (.i2 (.shr .i64) (.wrap .i64 (.i2 .mul (.wrap .i64 (.var 0)) (.wrap .i64 (.i2 .add (.lit (1073741824)) (.iapp 36 (.cons (.int .i64 (.var 2)) (.cons (.int .i64 (.lit (-1073741824))) (.cons (.int .i64 (.lit (1073741824))) .nil)))))))) (.lit (30)))
abbrev xrpbpgwk8_ : Tm := (.iapp 41 (.cons (.int .i64 (.wrap .i64 (.var 0))) (.cons (.int .i64 (.wrap .i64 (.i2 .add (.lit (1073741824)) (.var 2)))) (.cons (.int .i64 (.lit (1073741824))) .nil))))
abbrev xrpbpgwk10_ : Tm := (.iapp 41 (.cons (.int .i64 (.wrap .i64 (.var 0))) (.cons (.int .i64 (.lit (2147483648))) (.cons (.int .i64 (.lit (1073741824))) .nil))))
abbrev xrpbpgwk11_ : Tm := (.b2 .and (.b2 .le (.lit (-9223372036854775808)) (.wrap .i64 (.var 0))) (.b2 .le (.wrap .i64 (.var 0)) (.lit (9223372036854775807))))
abbrev xrpbpgwk12_ : Tm := (.agg (.cons (.int .u32 (.iapp 37 (.cons (.int .u32 (.var 0)) (.cons (.int .i64 (.var 1)) (.cons (.int .i64 (.var 2)) .nil))))) (.cons (.int .i64 (.iapp 38 (.cons (.int .u32 (.var 0)) (.cons (.int .i64 (.var 1)) (.cons (.int .i64 (.var 2)) .nil))))) .nil)))
abbrev xrpbpgwk13_ : Tm := (.agg (.cons (.int .i64 (.var 0)) (.cons (.int .i64 (.var 1)) .nil)))
abbrev xrpbpgwk14_ : Tm := (.iapp 41 (.cons (.int .i64 (.wrap .i64 (.var 0))) (.cons (.int .i64 (.lit (0))) (.cons (.int .i64 (.lit (1073741824))) .nil))))
def clI (v lo hi : Int) : Int := if v < lo then lo else if hi < v then hi else v
theorem cl_spec (v lo hi : Int) : (v < lo ∧ clI v lo hi = lo) ∨ (lo ≤ v ∧ hi < v ∧ clI v lo hi = hi) ∨ (lo ≤ v ∧ v ≤ hi ∧ clI v lo hi = v) := by
 unfold clI
 split
 · exact .inl ⟨by assumption, rfl⟩
 · split <;> omega
def svK (p q l : Int) : Int := if 0 ≤ p ∧ p ≤ 1024 ∧ 0 ≤ q ∧ q ≤ 1024 ∧ 0 ≤ l ∧ l ≤ 1048576 then 0 else 1
theorem sv_spec (p q l : Int) : ((0 ≤ p ∧ p ≤ 1024 ∧ 0 ≤ q ∧ q ≤ 1024 ∧ 0 ≤ l ∧ l ≤ 1048576) ∧ svK p q l = 0) ∨ ((p < 0 ∨ 1024 < p ∨ q < 0 ∨ 1024 < q ∨ l < 0 ∨ 1048576 < l) ∧ svK p q l = 1) := by
 unfold svK
 split
 · left; exact ⟨by assumption, rfl⟩
 · right; exact ⟨by omega, rfl⟩
def adF (m p : Int) : Int := m * (1073741824 + clI p (-1073741824) 1073741824) / 1073741824
def adE (m s p : Int) : Int := if ¬ fmP m s then 1 else if 1 ≤ adF m p ∧ adF m p ≤ 4294967295 then 0 else 2
def adA (m s p : Int) : Int := if adE m s p = 0 then adF m p else 0
def adS (m s p : Int) : Int := if adE m s p = 0 then s else 0
theorem ad_spec (m s p : Int) : (¬ fmP m s ∧ feE m s = 1 ∧ adE m s p = 1 ∧ adA m s p = 0 ∧ adS m s p = 0) ∨ (fmP m s ∧ feE m s = 0 ∧ ((1 ≤ adF m p ∧ adF m p ≤ 4294967295 ∧ adE m s p = 0 ∧ adA m s p = adF m p ∧ adS m s p = s) ∨ ((adF m p < 1 ∨ 4294967295 < adF m p) ∧ adE m s p = 2 ∧ adA m s p = 0 ∧ adS m s p = 0))) := by
 have key : ∀ n, adE m s p = n → n ≠ 0 → adA m s p = 0 ∧ adS m s p = 0 := fun n h1 h2 => by
   unfold adA adS
   rw [if_neg (by omega), if_neg (by omega)]
   exact ⟨rfl, rfl⟩
 by_cases h : fmP m s
 · right
   refine ⟨h, feE_y h, ?_⟩
   by_cases h2 : 1 ≤ adF m p ∧ adF m p ≤ 4294967295
   · left
     have e : adE m s p = 0 := by unfold adE; rw [if_neg (not_not_intro h), if_pos h2]
     exact ⟨h2.1, h2.2, e, by unfold adA; rw [if_pos e], by unfold adS; rw [if_pos e]⟩
   · right
     have e : adE m s p = 2 := by unfold adE; rw [if_neg (not_not_intro h), if_neg h2]
     exact ⟨by omega, e, key _ e (by decide)⟩
 · left
   have e : adE m s p = 1 := by unfold adE; rw [if_pos h]
   exact ⟨h, feE_n h, e, key _ e (by decide)⟩
theorem ad_prod {m p : Int} (h0 : 0 ≤ m) (h1 : m ≤ 4294967295) : (0 ≤ 1073741824 + clI p (-1073741824) 1073741824 ∧ 1073741824 + clI p (-1073741824) 1073741824 ≤ 2147483648) ∧ 0 ≤ m * (1073741824 + clI p (-1073741824) 1073741824) ∧ m * (1073741824 + clI p (-1073741824) 1073741824) ≤ 9223372034707292160 := by
 have hc := cl_spec p (-1073741824) 1073741824
 have e : 0 ≤ 1073741824 + clI p (-1073741824) 1073741824 ∧ 1073741824 + clI p (-1073741824) 1073741824 ≤ 2147483648 := by omega
 generalize 1073741824 + clI p (-1073741824) 1073741824 = q at e ⊢
 refine ⟨e, Int.mul_nonneg h0 e.1, ?_⟩
 have := Int.mul_le_mul h1 e.2 e.1 (by decide)
 omega
theorem ad_md {m p : Int} (h0 : 0 ≤ m) (h1 : m ≤ 4294967295) : mdN m (1073741824 + clI p (-1073741824) 1073741824) 1073741824 = adF m p ∧ mdE m (1073741824 + clI p (-1073741824) 1073741824) 1073741824 = 0 := by
 obtain ⟨_, h2, h3⟩ := ad_prod (p := p) h0 h1
 have e : m * (1073741824 + clI p (-1073741824) 1073741824) / 1073741824 = adF m p := rfl
 have hin : InR (m * (1073741824 + clI p (-1073741824) 1073741824) / 1073741824) := by constructor <;> omega
 unfold mdN mdE
 rw [if_neg (by omega), if_pos hin, if_neg (by omega), if_pos hin]
 exact ⟨e, rfl⟩
theorem shr30 (x : Int) : x.fdiv (2 ^ (Min.min (Int.toNat 30) (IntKind.bits .i64))) = x / 1073741824 := Int.fdiv_eq_ediv_of_nonneg _ (by decide)
def gdF (e x : Int) : Int := if e = 0 then x else 0
theorem gdq_y {e : Int} (h : e = 0) (x : Int) : gdF e x = x := by unfold gdF; rw [if_pos h]
theorem gdq_n {e : Int} (h : e ≠ 0) (x : Int) : gdF e x = 0 := by unfold gdF; rw [if_neg h]
abbrev hoT (rm rs rr gp gi rl ro hb ht he sf ss : Int) (sy : Bool) : Value := .tuple #[.int .u32 rm, .int .i64 rs, .int .i64 rr, .int .i64 gp, .int .i64 gi, .int .i64 rl, .int .i64 ro, .bool sy, .int .i64 hb, .int .i64 ht, .int .i64 he, .int .i64 sf, .int .i64 ss]
def hoP (rm rs rr gp gi rl ro hb ht he sf ss : Int) : Prop := fmP rm rs ∧ 0 ≤ rr ∧ rr ≤ 1048576 ∧ 0 ≤ gp ∧ gp ≤ 1024 ∧ 0 ≤ gi ∧ gi ≤ 1024 ∧ 0 ≤ rl ∧ rl ≤ 1048576 ∧ 1 ≤ ro ∧ ro ≤ 1125899906842624 ∧ 0 ≤ hb ∧ hb ≤ 1152921504606846976 ∧ -4611686018427387904 < ht ∧ ht < 4611686018427387904 ∧ 0 ≤ he ∧ he ≤ 2305843009213693952 ∧ -rl ≤ sf ∧ sf ≤ rl ∧ -1048576 ≤ ss ∧ ss ≤ 1048576
instance (rm rs rr gp gi rl ro hb ht he sf ss : Int) : Decidable (hoP rm rs rr gp gi rl ro hb ht he sf ss) := by unfold hoP; infer_instance
def hoE (rm rs rr gp gi rl ro hb ht he sf ss : Int) : Int := if hoP rm rs rr gp gi rl ro hb ht he sf ss then 0 else 1
theorem hoE_y {rm rs rr gp gi rl ro hb ht he sf ss : Int} (h : hoP rm rs rr gp gi rl ro hb ht he sf ss) : hoE rm rs rr gp gi rl ro hb ht he sf ss = 0 := by unfold hoE; rw [if_pos h]
theorem hoE_n {rm rs rr gp gi rl ro hb ht he sf ss : Int} (h : ¬ hoP rm rs rr gp gi rl ro hb ht he sf ss) : hoE rm rs rr gp gi rl ro hb ht he sf ss = 1 := by unfold hoE; rw [if_neg h]
def hoB (l : List Value) : Bool := decide (hoP (ci l 0) (ci l 1) (ci l 2) (ci l 3) (ci l 4) (ci l 5) (ci l 6) (ci l 8) (ci l 9) (ci l 10) (ci l 11) (ci l 12))
def hoL (l : List Value) : Int := hoE (ci l 0) (ci l 1) (ci l 2) (ci l 3) (ci l 4) (ci l 5) (ci l 6) (ci l 8) (ci l 9) (ci l 10) (ci l 11) (ci l 12)
theorem hoB_eq (rm rs rr gp gi rl ro hb ht he sf ss : Int) (sy : Bool) : hoB (Sy.rows (hoT rm rs rr gp gi rl ro hb ht he sf ss sy)) = decide (hoP rm rs rr gp gi rl ro hb ht he sf ss) := Eq.trans rfl rfl
theorem hoL_eq (rm rs rr gp gi rl ro hb ht he sf ss : Int) (sy : Bool) : hoL (Sy.rows (hoT rm rs rr gp gi rl ro hb ht he sf ss sy)) = hoE rm rs rr gp gi rl ro hb ht he sf ss := Eq.trans rfl rfl
theorem hoE_or (rm rs rr gp gi rl ro hb ht he sf ss : Int) : (hoP rm rs rr gp gi rl ro hb ht he sf ss ∧ hoE rm rs rr gp gi rl ro hb ht he sf ss = 0) ∨ (¬ hoP rm rs rr gp gi rl ro hb ht he sf ss ∧ hoE rm rs rr gp gi rl ro hb ht he sf ss = 1) := by
 by_cases h : hoP rm rs rr gp gi rl ro hb ht he sf ss
 · exact .inl ⟨h, hoE_y h⟩
 · exact .inr ⟨h, hoE_n h⟩
def fcE (l : List Value) : Int := if hoB l = true then adE (ci l 0) (ci l 1) (ci l 11) else 1
theorem fc_y {rm rs rr gp gi rl ro hb ht he sf ss : Int} {sy : Bool} (h : hoP rm rs rr gp gi rl ro hb ht he sf ss) : fcE (Sy.rows (hoT rm rs rr gp gi rl ro hb ht he sf ss sy)) = adE rm rs sf := if_pos (decide_eq_true h)
theorem fc_n {rm rs rr gp gi rl ro hb ht he sf ss : Int} {sy : Bool} (h : ¬ hoP rm rs rr gp gi rl ro hb ht he sf ss) : fcE (Sy.rows (hoT rm rs rr gp gi rl ro hb ht he sf ss sy)) = 1 := if_neg (by
 intro hx
 exact h (of_decide_eq_true hx))
theorem gd_ad (m s p : Int) : gdF (adE m s p) (adA m s p) = adA m s p ∧ gdF (adE m s p) (adS m s p) = adS m s p := by
 by_cases h : adE m s p = 0
 · exact ⟨gdq_y h _, gdq_y h _⟩
 · have e1 : adA m s p = 0 := by unfold adA; rw [if_neg h]
   have e2 : adS m s p = 0 := by unfold adS; rw [if_neg h]
   rw [gdq_n h, gdq_n h, e1, e2]
   exact ⟨rfl, rfl⟩
noncomputable def pbI : Nat → List Value → Int
 | 36, [.int _ v, .int _ lo, .int _ hi] => clI v lo hi
 | 37, [.int _ m, .int _ s, .int _ p] => adA m s p
 | 38, [.int _ m, .int _ s, .int _ p] => adS m s p
 | 39, [.int _ m, .int _ s, .int _ p] => adE m s p
 | 40, [.int _ p, .int _ q, .int _ l] => svK p q l
 | 41, [.int _ a, .int _ b, .int _ c] => mdN a b c
 | 42, [.int _ a, .int _ b, .int _ c] => mdE a b c
 | 43, [l] => hoL (rows l)
 | 44, [.int _ e, .int _ x] => gdF e x
 | 45, [l] => fcE (rows l)
 | i, l => paI i l
noncomputable def pbB : Nat → List Value → Bool
 | 6, [l] => hoB (rows l)
 | i, l => paB i l
noncomputable def pbV : Nat → List Value → Value
 | i, l => paV i l
noncomputable abbrev pbE (iv : List Int) (bv : List Bool) (vv : List Value) (sv : List ByteArray) : Env := { iv := iv, bv := bv, vv := vv, sv := sv, fi := pbI, fb := pbB, fv := pbV, et := 111 }
set_option maxHeartbeats 8000000 in
theorem pbup : Agree 36 6 13 (paE [] [] [] []) (pbE [] [] [] []) := ⟨rfl, (by
   intro f hf
   funext l
   show pbI f l = paI f l
   unfold pbI
   split <;> first | rfl | omega), (by
   intro f hf
   funext l
   show pbB f l = paB f l
   unfold pbB
   split <;> first | rfl | omega), (by
   intro f hf
   funext l
   show pbV f l = paV f l
   unfold pbV
   split <;> first | rfl | omega)⟩
theorem pbi_sz (k1 : IntKind) (a : Int) : pbI 19 [.int k1 a] = szE a := rfl
theorem pbi_fe (k1 : IntKind) (a : Int) (k2 : IntKind) (s : Int) : pbI 23 [.int k1 a, .int k2 s] = feE a s := rfl
theorem pbi_cl (k1 : IntKind) (v : Int) (k2 : IntKind) (lo : Int) (k3 : IntKind) (hi : Int) : pbI 36 [.int k1 v, .int k2 lo, .int k3 hi] = clI v lo hi := rfl
theorem pbi_ada (k1 : IntKind) (m : Int) (k2 : IntKind) (s : Int) (k3 : IntKind) (p : Int) : pbI 37 [.int k1 m, .int k2 s, .int k3 p] = adA m s p := rfl
theorem pbi_ads (k1 : IntKind) (m : Int) (k2 : IntKind) (s : Int) (k3 : IntKind) (p : Int) : pbI 38 [.int k1 m, .int k2 s, .int k3 p] = adS m s p := rfl
theorem pbi_ade (k1 : IntKind) (m : Int) (k2 : IntKind) (s : Int) (k3 : IntKind) (p : Int) : pbI 39 [.int k1 m, .int k2 s, .int k3 p] = adE m s p := rfl
theorem pbi_sve (k1 : IntKind) (p : Int) (k2 : IntKind) (q : Int) (k3 : IntKind) (l : Int) : pbI 40 [.int k1 p, .int k2 q, .int k3 l] = svK p q l := rfl
theorem pbi_mdn (k1 : IntKind) (a : Int) (k2 : IntKind) (b : Int) (k3 : IntKind) (c : Int) : pbI 41 [.int k1 a, .int k2 b, .int k3 c] = mdN a b c := rfl
theorem pbi_mde (k1 : IntKind) (a : Int) (k2 : IntKind) (b : Int) (k3 : IntKind) (c : Int) : pbI 42 [.int k1 a, .int k2 b, .int k3 c] = mdE a b c := rfl
theorem pbi_hme (l : Value) : pbI 43 [l] = hoL (rows l) := rfl
theorem pbi_gd (k1 : IntKind) (e : Int) (k2 : IntKind) (x : Int) : pbI 44 [.int k1 e, .int k2 x] = gdF e x := rfl
theorem pbi_fce (l : Value) : pbI 45 [l] = fcE (rows l) := rfl
theorem pbb_fm (k1 : IntKind) (a : Int) (k2 : IntKind) (s : Int) : pbB 4 [.int k1 a, .int k2 s] = decide (fmP a s) := rfl
theorem pbb_hm (l : Value) : pbB 6 [l] = hoB (rows l) := rfl
def clampq_tree : Tree :=
 (.br (.b2 .lt (.var 0) (.var 1))
 (.ret (.int .i64 (.var 1)))
 (.br (.b2 .lt (.var 2) (.var 1))
 (.ret (.int .i64 (.var 1)))
 (.ret (.int .i64 (.i2 .min (.var 0) (.var 2))))))
abbrev pbc_clampq : Con := ⟨130, [(.int .i64 (.var 0)), (.int .i64 (.var 1)), (.int .i64 (.var 2))], (.b2 .le (.var 1) (.var 2)), (.int .i64 (.iapp 36 (.cons (.int .i64 (.var 0)) (.cons (.int .i64 (.var 1)) (.cons (.int .i64 (.var 2)) .nil))))), ⟨3, 0, 0, 0⟩, none⟩
theorem clampq_w : walk Tryz.prog 111 ⟨[], syG, [], [], []⟩ [] .v pbc_clampq pbc_clampq.n 3000 = some clampq_tree := by kernel_rfl
theorem clampq_h (v lo hi : Int) : Hyp_ pbc_clampq clampq_tree (pbE [v, lo, hi] [] [] []) := by
 intro hc hty
 simp only [pbc_clampq, Sy.holds, pbE, denV, denI, denB, denL, I2.den, VOp.den, List.getD_cons_zero, List.getD_cons_succ, Cst.den, syso, syse, syio, sybo, B2.ofInts, B2.denI, B2.denB, if_true, Bool.false_eq_true, if_false, Nat.div_one, Nat.mul_one, Nat.add_zero] at hc
 simp only [pbc_clampq, patsTyp, patTyp, patTypL, pbE, denV, denL, List.getD_cons_zero, List.getD_cons_succ, and_true, true_and] at hty
 unfold clampq_tree
 simp only [pbc_clampq, Tree.holds, Sy.holds, pbE, denV, denI, denB, denL, I2.den, VOp.den, List.getD_cons_zero, List.getD_cons_succ, Cst.den, syso, syse, syio, sybo, pbi_cl, B2.ofInts, B2.denI, B2.denB, if_true, Bool.false_eq_true, if_false, Nat.div_one, Nat.mul_one, Nat.add_zero]
 have hs := cl_spec v lo hi
 refine ⟨fun h0 => ?_, fun h0 => ?_⟩
 refine ?a0; rotate_left
 refine ⟨fun h1 => ?_, fun h1 => ?_⟩
 refine ?a1; rotate_left
 refine ?a2; rotate_left
 case a0 | a1 | a2 =>
  first
  | (exfalso; omega)
  | (rw [show clI v lo hi = lo by omega]; done)
  | (rw [show clI v lo hi = v by omega]; done)
  | (rw [show clI v lo hi = hi by omega]; done)
  | (refine congrArg (Value.int .i64) ?_; split <;> omega)
theorem pbg_clampq : pbc_clampq.Good Tryz.prog syG (pbE [] [] [] []) := good_of_walk (Γ := ⟨[], syG, [], [], []⟩) (ρ := pbE [] [] [] []) sym clampq_w rfl (fun _ _ _ _ => ok_nil) clampq_h
def adjustq_tree : Tree :=
 (.need xrpbpgwk2_
 (.br (.not (.b2 .eq (.iapp 23 (.cons (.int .u32 (.var 0)) (.cons (.int .i64 (.var 1)) .nil))) (.lit (0))))
 (.ret (.tup (.cons xrpbpgwk9_ (.cons (.err (.iapp 23 (.cons (.int .u32 (.var 0)) (.cons (.int .i64 (.var 1)) .nil)))) .nil))))
 (.br (.b2 .lt xrpbpgwk7_ (.lit (1)))
 (.ret (.tup (.cons xrpbpgwk9_ (.cons (.iface 111 (.int .i64 (.lit (2)))) .nil))))
 (.br (.b2 .lt (.lit (4294967295)) xrpbpgwk7_)
 (.ret (.tup (.cons xrpbpgwk9_ (.cons (.iface 111 (.int .i64 (.lit (2)))) .nil))))
 (.ret (.tup (.cons (.agg (.cons (.int .u32 (.wrap .u32 xrpbpgwk7_)) (.cons (.int .i64 (.var 1)) .nil))) (.cons (.cst .nilI) .nil))))))))
abbrev pbc_adjustq : Con := ⟨80, [(.agg (.cons (.int .u32 (.var 0)) (.cons (.int .i64 (.var 1)) .nil))), (.int .i64 (.var 2))], (.b2 .and xrpbpgwk2_ xrpbpgwk15_), (.tup (.cons xrpbpgwk12_ (.cons (.err (.iapp 39 (.cons (.int .u32 (.var 0)) (.cons (.int .i64 (.var 1)) (.cons (.int .i64 (.var 2)) .nil))))) .nil))), ⟨3, 0, 0, 0⟩, none⟩
theorem adjustq_w : walk Tryz.prog 111 ⟨[zuc_rcheck, pbc_clampq], syG, [], [], []⟩ [] .v pbc_adjustq pbc_adjustq.n 3000 = some adjustq_tree := by kernel_rfl
theorem adjustq_h (m s p : Int) : Hyp_ pbc_adjustq adjustq_tree (pbE [m, s, p] [] [] []) := by
 intro hc hty
 simp only [pbc_adjustq, Sy.holds, pbE, denV, denI, denB, denL, I2.den, VOp.den, List.getD_cons_zero, List.getD_cons_succ, Cst.den, syso, syse, syio, sybo, B2.ofInts, B2.denI, B2.denB, if_true, Bool.false_eq_true, if_false, Nat.div_one, Nat.mul_one, Nat.add_zero] at hc
 simp only [pbc_adjustq, patsTyp, patTyp, patTypL, pbE, denV, denL, List.getD_cons_zero, List.getD_cons_succ, and_true, true_and] at hty
 unfold adjustq_tree
 simp only [pbc_adjustq, Tree.holds, Sy.holds, pbE, denV, denI, denB, denL, I2.den, VOp.den, List.getD_cons_zero, List.getD_cons_succ, Cst.den, syso, syse, syio, sybo, pbi_fe, pbi_cl, pbi_ada, pbi_ads, pbi_ade, B2.ofInts, B2.denI, B2.denB, if_true, Bool.false_eq_true, if_false, Nat.div_one, Nat.mul_one, Nat.add_zero]
 obtain ⟨pr1, pr2, pr3⟩ := ad_prod (p := p) hc.1.1.1 hc.1.1.2
 have w1 : IntKind.wrap .i64 m = m := by have := wr_i64 m; omega
 have w2 : IntKind.wrap .i64 (1073741824 + clI p (-1073741824) 1073741824) = 1073741824 + clI p (-1073741824) 1073741824 := by have := wr_i64 (1073741824 + clI p (-1073741824) 1073741824); omega
 have w3 : IntKind.wrap .i64 (m * (1073741824 + clI p (-1073741824) 1073741824)) = m * (1073741824 + clI p (-1073741824) 1073741824) := by have := wr_i64 (m * (1073741824 + clI p (-1073741824) 1073741824)); omega
 have e4 : m * (1073741824 + clI p (-1073741824) 1073741824) / 1073741824 = adF m p := rfl
 simp only [w1, w2, w3, shr30, e4]
 have ha := ad_spec m s p
 refine ⟨?_, fun h0 => ?_⟩
 ·
  omega
 refine ⟨fun h1 => ?_, fun h1 => ?_⟩
 refine ?a0; rotate_left
 refine ⟨fun h2 => ?_, fun h2 => ?_⟩
 refine ?a1; rotate_left
 refine ⟨fun h3 => ?_, fun h3 => ?_⟩
 refine ?a2; rotate_left
 refine ?a3; rotate_left
 case a0 | a1 | a2 | a3 =>
  rcases ha with ⟨f, f1, a1, a2, a3⟩ | ⟨f, f1, ⟨b1, b2, a1, a2, a3⟩ | ⟨b1, a1, a2, a3⟩⟩
  all_goals first
  | (exfalso; omega)
  | (rw [a1, a2, a3, f1]; done)
  | (rw [a1, a2, a3, f1]; rfl)
  | (rw [a1, a2, a3]; rfl)
  | (rw [a1, a2, a3, show IntKind.wrap .u32 (adF m p) = adF m p by (have := wr_u32 (adF m p); omega)]; rfl)
theorem pbg_adjustq : pbc_adjustq.Good Tryz.prog syG (pbE [] [] [] []) := good_of_walk (Γ := ⟨[zuc_rcheck, pbc_clampq], syG, [], [], []⟩) (ρ := pbE [] [] [] []) sym adjustq_w rfl (fun _ _ _ _ => (ok_cons (Con.Good.env (Con.Good.up (Con.Good.up (Con.Good.up (Con.Good.up (Con.Good.up zug_rcheck zyup rfl) za9up rfl) yzup rfl) paup rfl) pbup rfl) _ _ _ _) (ok_cons (Con.Good.env pbg_clampq _ _ _ _) ok_nil))) adjustq_h
abbrev pbc_rmdiv : Con := ⟨84, [(.int .i64 (.var 0)), (.int .i64 (.var 1)), (.int .i64 (.var 2))], (.b2 .and (.b2 .and (.b2 .and (.b2 .and (.b2 .le (.lit (-9223372036854775808)) (.var 0)) (.b2 .le (.var 0) (.lit (9223372036854775807)))) (.b2 .and (.b2 .le (.lit (-9223372036854775808)) (.var 1)) (.b2 .le (.var 1) (.lit (9223372036854775807))))) xrpbpgwk15_) (.b2 .and (.b2 .le (.lit (0)) (.var 0)) (.b2 .le (.lit (0)) (.var 1)))), (.tup (.cons (.int .i64 (.iapp 41 (.cons (.int .i64 (.var 0)) (.cons (.int .i64 (.var 1)) (.cons (.int .i64 (.var 2)) .nil))))) (.cons (.int .i64 (.iapp 42 (.cons (.int .i64 (.var 0)) (.cons (.int .i64 (.var 1)) (.cons (.int .i64 (.var 2)) .nil))))) .nil))), ⟨3, 0, 0, 0⟩, none⟩
theorem pbg_rmdiv : pbc_rmdiv.Good Tryz.prog syG (pbE [] [] [] []) := good_flat rfl rfl rfl (by
 intro a b c hc β ok w hG
 have hc' := hc
 simp only [Tree.holds, Sy.holds, AllN, Env.more, pbE, List.cons_append, List.nil_append, List.append_nil, denV, denI, denB, denL, I2.den, VOp.den, List.getD_cons_zero, List.getD_cons_succ, Cst.den, syso, syse, syio, sybo, pbi_mdn, pbi_mde, List.map_nil, List.map_cons, B2.ofInts, B2.denI, B2.denB, if_true, Bool.false_eq_true, if_false, Nat.div_one, Nat.mul_one, Nat.add_zero, holds] at hc
 exact rmd_pos a b c w hc.1.1.1 hc.1.1.2 hc.1.2 hc.2.1 hc.2.2)
def radjust_tree : Tree :=
 (.need xrpbpgwk2_
 (.br (.not (.bapp 4 (.cons (.int .u32 (.var 0)) (.cons (.int .i64 (.var 1)) .nil))))
 (.ret (.tup (.cons xrpbpgwk9_ (.cons (.int .i64 (.lit (1))) .nil))))
 (.br (.b2 .lt (.lit (1073741824)) (.var 2))
 (.need (.b2 .and xrpbpgwk11_ (.b2 .le (.lit (0)) (.wrap .i64 (.var 0))))
 (.br (.not (.b2 .eq (.iapp 42 (.cons (.int .i64 (.wrap .i64 (.var 0))) (.cons (.int .i64 (.lit (2147483648))) (.cons (.int .i64 (.lit (1073741824))) .nil)))) (.lit (0))))
 (.ret xrpbpgwk3_)
 (.br (.b2 .lt xrpbpgwk10_ (.lit (1)))
 (.ret xrpbpgwk3_)
 (.br (.b2 .lt (.lit (4294967295)) xrpbpgwk10_)
 (.ret xrpbpgwk3_)
 (.ret (.tup (.cons (.agg (.cons (.int .u32 (.wrap .u32 xrpbpgwk10_)) (.cons (.int .i64 (.var 1)) .nil))) (.cons (.int .i64 (.lit (0))) .nil))))))))
 (.br (.b2 .lt (.var 2) (.lit (-1073741824)))
 (.need (.b2 .and xrpbpgwk11_ (.b2 .le (.lit (0)) (.wrap .i64 (.var 0))))
 (.br (.not (.b2 .eq (.iapp 42 (.cons (.int .i64 (.wrap .i64 (.var 0))) (.cons (.int .i64 (.lit (0))) (.cons (.int .i64 (.lit (1073741824))) .nil)))) (.lit (0))))
 (.ret xrpbpgwk3_)
 (.br (.b2 .lt xrpbpgwk14_ (.lit (1)))
 (.ret xrpbpgwk3_)
 (.br (.b2 .lt (.lit (4294967295)) xrpbpgwk14_)
 (.ret xrpbpgwk3_)
 (.ret (.tup (.cons (.agg (.cons (.int .u32 (.wrap .u32 xrpbpgwk14_)) (.cons (.int .i64 (.var 1)) .nil))) (.cons (.int .i64 (.lit (0))) .nil))))))))
 (.need (.b2 .and (.b2 .and xrpbpgwk11_ (.b2 .and (.b2 .le (.lit (-9223372036854775808)) (.wrap .i64 (.i2 .add (.lit (1073741824)) (.var 2)))) (.b2 .le (.wrap .i64 (.i2 .add (.lit (1073741824)) (.var 2))) (.lit (9223372036854775807))))) (.b2 .and (.b2 .le (.lit (0)) (.wrap .i64 (.var 0))) (.b2 .le (.lit (0)) (.wrap .i64 (.i2 .add (.lit (1073741824)) (.var 2))))))
 (.br (.not (.b2 .eq (.iapp 42 (.cons (.int .i64 (.wrap .i64 (.var 0))) (.cons (.int .i64 (.wrap .i64 (.i2 .add (.lit (1073741824)) (.var 2)))) (.cons (.int .i64 (.lit (1073741824))) .nil)))) (.lit (0))))
 (.ret xrpbpgwk3_)
 (.br (.b2 .lt xrpbpgwk8_ (.lit (1)))
 (.ret xrpbpgwk3_)
 (.br (.b2 .lt (.lit (4294967295)) xrpbpgwk8_)
 (.ret xrpbpgwk3_)
 (.ret (.tup (.cons (.agg (.cons (.int .u32 (.wrap .u32 xrpbpgwk8_)) (.cons (.int .i64 (.var 1)) .nil))) (.cons (.int .i64 (.lit (0))) .nil))))))))))))
abbrev pbc_radjust : Con := ⟨38, [(.agg (.cons (.int .u32 (.var 0)) (.cons (.int .i64 (.var 1)) .nil))), (.int .i64 (.var 2))], (.b2 .and xrpbpgwk2_ xrpbpgwk15_), (.tup (.cons xrpbpgwk12_ (.cons (.int .i64 (.iapp 39 (.cons (.int .u32 (.var 0)) (.cons (.int .i64 (.var 1)) (.cons (.int .i64 (.var 2)) .nil))))) .nil))), ⟨3, 0, 0, 0⟩, none⟩
theorem radjust_w : walk Tryz.prog 111 ⟨[zuc_rfmay, pbc_rmdiv], syG, [], [], []⟩ [] .v pbc_radjust pbc_radjust.n 3000 = some radjust_tree := by kernel_rfl
theorem radjust_h (m s p : Int) : Hyp_ pbc_radjust radjust_tree (pbE [m, s, p] [] [] []) := by
 intro hc hty
 simp only [pbc_radjust, Sy.holds, pbE, denV, denI, denB, denL, I2.den, VOp.den, List.getD_cons_zero, List.getD_cons_succ, Cst.den, syso, syse, syio, sybo, B2.ofInts, B2.denI, B2.denB, if_true, Bool.false_eq_true, if_false, Nat.div_one, Nat.mul_one, Nat.add_zero] at hc
 simp only [pbc_radjust, patsTyp, patTyp, patTypL, pbE, denV, denL, List.getD_cons_zero, List.getD_cons_succ, and_true, true_and] at hty
 unfold radjust_tree
 simp only [pbc_radjust, Tree.holds, Sy.holds, pbE, denV, denI, denB, denL, I2.den, VOp.den, List.getD_cons_zero, List.getD_cons_succ, Cst.den, syso, syse, syio, sybo, pbi_ada, pbi_ads, pbi_ade, pbi_mdn, pbi_mde, pbb_fm, B2.ofInts, B2.denI, B2.denB, if_true, Bool.false_eq_true, if_false, Nat.div_one, Nat.mul_one, Nat.add_zero]
 obtain ⟨pr1, pr2, pr3⟩ := ad_prod (p := p) hc.1.1.1 hc.1.1.2
 have w1 : IntKind.wrap .i64 m = m := by have := wr_i64 m; omega
 have hcl := cl_spec p (-1073741824) 1073741824
 obtain ⟨md1, md2⟩ := ad_md (p := p) hc.1.1.1 hc.1.1.2
 simp only [w1]
 have ha := ad_spec m s p
 have wq := wr_i64 (1073741824 + p)
 have key : ∀ x, x = 1073741824 + clI p (-1073741824) 1073741824 → mdN m x 1073741824 = adF m p ∧ mdE m x 1073741824 = 0 := fun x h => by rw [h]; exact ⟨md1, md2⟩
 refine ⟨?_, fun h0 => ?_⟩
 ·
  omega
 refine ⟨fun h1 => ?_, fun h1 => ?_⟩
 refine ?a0; rotate_left
 refine ⟨fun h2 => ?_, fun h2 => ?_⟩
 refine ⟨?_, fun h3 => ?_⟩
 ·
  omega
 refine ⟨fun h4 => ?_, fun h4 => ?_⟩
 refine ?a1; rotate_left
 refine ⟨fun h5 => ?_, fun h5 => ?_⟩
 refine ?a2; rotate_left
 refine ⟨fun h6 => ?_, fun h6 => ?_⟩
 refine ?a3; rotate_left
 refine ?a4; rotate_left
 refine ⟨fun h7 => ?_, fun h7 => ?_⟩
 refine ⟨?_, fun h8 => ?_⟩
 ·
  omega
 refine ⟨fun h9 => ?_, fun h9 => ?_⟩
 refine ?a5; rotate_left
 refine ⟨fun h10 => ?_, fun h10 => ?_⟩
 refine ?a6; rotate_left
 refine ⟨fun h11 => ?_, fun h11 => ?_⟩
 refine ?a7; rotate_left
 refine ?a8; rotate_left
 refine ⟨?_, fun h12 => ?_⟩
 ·
  omega
 refine ⟨fun h13 => ?_, fun h13 => ?_⟩
 refine ?a9; rotate_left
 refine ⟨fun h14 => ?_, fun h14 => ?_⟩
 refine ?a10; rotate_left
 refine ⟨fun h15 => ?_, fun h15 => ?_⟩
 refine ?a11; rotate_left
 refine ?a12; rotate_left
 case a0 | a1 | a2 | a3 | a4 | a5 | a6 | a7 | a8 | a9 | a10 | a11 | a12 =>
  first
  | (exfalso; omega)
  | (rcases ha with ⟨f, f1, a1, a2, a3⟩ | ⟨f, f1, ha⟩
     · first
       | exact absurd (decide_eq_true f) (by assumption)
       | exact absurd (of_decide_eq_true (by assumption)) f
       | exact absurd (of_decide_eq_true (Decidable.of_not_not (by assumption))) f
       | (rw [a1, a2, a3]; first | done | rfl)
     · first
       | exact absurd (decide_eq_true f) (by assumption)
       | (have hk := key 2147483648 (by omega)
          first
          | exact absurd hk.2 (by assumption)
          | (simp only [hk.1, hk.2] at *
             rcases ha with ⟨b1, b2, a1, a2, a3⟩ | ⟨b1, a1, a2, a3⟩
             all_goals first
             | (exfalso; omega)
             | (rw [a1, a2, a3]; first | done | rfl)
             | (rw [a1, a2, a3, show IntKind.wrap .u32 (adF m p) = adF m p by (have := wr_u32 (adF m p); omega)]; first | done | rfl)))
       | (have hk := key 0 (by omega)
          first
          | exact absurd hk.2 (by assumption)
          | (simp only [hk.1, hk.2] at *
             rcases ha with ⟨b1, b2, a1, a2, a3⟩ | ⟨b1, a1, a2, a3⟩
             all_goals first
             | (exfalso; omega)
             | (rw [a1, a2, a3]; first | done | rfl)
             | (rw [a1, a2, a3, show IntKind.wrap .u32 (adF m p) = adF m p by (have := wr_u32 (adF m p); omega)]; first | done | rfl)))
       | (have e0 : IntKind.wrap .i64 (1073741824 + p) = 1073741824 + p := by omega
          simp only [e0] at *
          have hk := key (1073741824 + p) (by omega)
          first
          | exact absurd hk.2 (by assumption)
          | (simp only [hk.1, hk.2] at *
             rcases ha with ⟨b1, b2, a1, a2, a3⟩ | ⟨b1, a1, a2, a3⟩
             all_goals first
             | (exfalso; omega)
             | (rw [a1, a2, a3]; first | done | rfl)
             | (rw [a1, a2, a3, show IntKind.wrap .u32 (adF m p) = adF m p by (have := wr_u32 (adF m p); omega)]; first | done | rfl)))
       | skip)
  | skip
theorem pbg_radjust : pbc_radjust.Good Tryz.prog syG (pbE [] [] [] []) := good_of_walk (Γ := ⟨[zuc_rfmay, pbc_rmdiv], syG, [], [], []⟩) (ρ := pbE [] [] [] []) sym radjust_w rfl (fun _ _ _ _ => (ok_cons (Con.Good.env (Con.Good.up (Con.Good.up (Con.Good.up (Con.Good.up (Con.Good.up zug_rfmay zyup rfl) za9up rfl) yzup rfl) paup rfl) pbup rfl) _ _ _ _) (ok_cons (Con.Good.env pbg_rmdiv _ _ _ _) ok_nil))) radjust_h
def partsq_tree : Tree :=
 (.ret xrpbpgwk13_)
abbrev pbc_partsq : Con := ⟨157, [xrpbpgwk13_], (.tt true), xrpbpgwk13_, ⟨2, 0, 0, 0⟩, none⟩
theorem partsq_w : walk Tryz.prog 111 ⟨[], syG, [], [], []⟩ [] .v pbc_partsq pbc_partsq.n 3000 = some partsq_tree := by kernel_rfl
theorem partsq_h (a b : Int) : Hyp_ pbc_partsq partsq_tree (pbE [a, b] [] [] []) := by
 intro hc hty
 simp only [pbc_partsq, Sy.holds, pbE, denV, denI, denB, denL, I2.den, VOp.den, List.getD_cons_zero, List.getD_cons_succ, Cst.den, syso, syse, syio, sybo, B2.ofInts, B2.denI, B2.denB, if_true, Bool.false_eq_true, if_false, Nat.div_one, Nat.mul_one, Nat.add_zero] at hc
 simp only [pbc_partsq, patsTyp, patTyp, patTypL, pbE, denV, denL, List.getD_cons_zero, List.getD_cons_succ, and_true, true_and] at hty
 unfold partsq_tree
 simp only [pbc_partsq, Tree.holds, Sy.holds, pbE, denV, denI, denB, denL, I2.den, VOp.den, List.getD_cons_zero, List.getD_cons_succ, Cst.den, syso, syse, syio, sybo, B2.ofInts, B2.denI, B2.denB, if_true, Bool.false_eq_true, if_false, Nat.div_one, Nat.mul_one, Nat.add_zero]
 all_goals first | omega | rfl | (simp only [Value.tuple.injEq, Value.agg.injEq, Value.int.injEq, Value.bool.injEq, Array.mk.injEq, List.cons.injEq, true_and, and_true]; omega) | (refine congrArg Value.bool (Bool.eq_iff_iff.2 ?_); simp only [beq_iff_eq, decide_eq_true_eq, true_iff, false_iff, Bool.false_eq_true, Bool.not_eq_true', Bool.and_eq_true, Bool.or_eq_true, decide_eq_false_iff_not]; omega)
theorem pbg_partsq : pbc_partsq.Good Tryz.prog syG (pbE [] [] [] []) := good_of_walk (Γ := ⟨[], syG, [], [], []⟩) (ρ := pbE [] [] [] []) sym partsq_w rfl (fun _ _ _ _ => ok_nil) partsq_h
def sckq_tree : Tree :=
 (.br (.b2 .lt (.var 0) (.lit (0)))
 (.ret (.iface 111 (.int .i64 (.lit (1)))))
 (.br (.b2 .lt (.lit (1024)) (.var 0))
 (.ret (.iface 111 (.int .i64 (.lit (1)))))
 (.br (.b2 .lt (.var 1) (.lit (0)))
 (.ret (.iface 111 (.int .i64 (.lit (1)))))
 (.br (.b2 .lt (.lit (1024)) (.var 1))
 (.ret (.iface 111 (.int .i64 (.lit (1)))))
 (.br (.b2 .lt (.var 2) (.lit (0)))
 (.ret (.iface 111 (.int .i64 (.lit (1)))))
 (.br (.b2 .lt (.lit (1048576)) (.var 2))
 (.ret (.iface 111 (.int .i64 (.lit (1)))))
 (.ret (.cst .nilI))))))))
abbrev pbc_sckq : Con := ⟨129, [xrpbpgwk13_, (.int .i64 (.var 2))], (.tt true), (.err (.iapp 40 (.cons (.int .i64 (.var 0)) (.cons (.int .i64 (.var 1)) (.cons (.int .i64 (.var 2)) .nil))))), ⟨3, 0, 0, 0⟩, none⟩
theorem sckq_w : walk Tryz.prog 111 ⟨[pbc_partsq], syG, [], [], []⟩ [] .v pbc_sckq pbc_sckq.n 3000 = some sckq_tree := by kernel_rfl
theorem sckq_h (p q l : Int) : Hyp_ pbc_sckq sckq_tree (pbE [p, q, l] [] [] []) := by
 intro hc hty
 simp only [pbc_sckq, Sy.holds, pbE, denV, denI, denB, denL, I2.den, VOp.den, List.getD_cons_zero, List.getD_cons_succ, Cst.den, syso, syse, syio, sybo, B2.ofInts, B2.denI, B2.denB, if_true, Bool.false_eq_true, if_false, Nat.div_one, Nat.mul_one, Nat.add_zero] at hc
 simp only [pbc_sckq, patsTyp, patTyp, patTypL, pbE, denV, denL, List.getD_cons_zero, List.getD_cons_succ, and_true, true_and] at hty
 unfold sckq_tree
 simp only [pbc_sckq, Tree.holds, Sy.holds, pbE, denV, denI, denB, denL, I2.den, VOp.den, List.getD_cons_zero, List.getD_cons_succ, Cst.den, syso, syse, syio, sybo, pbi_sve, B2.ofInts, B2.denI, B2.denB, if_true, Bool.false_eq_true, if_false, Nat.div_one, Nat.mul_one, Nat.add_zero]
 have hs := sv_spec p q l
 refine ⟨fun h0 => ?_, fun h0 => ?_⟩
 refine ?a0; rotate_left
 refine ⟨fun h1 => ?_, fun h1 => ?_⟩
 refine ?a1; rotate_left
 refine ⟨fun h2 => ?_, fun h2 => ?_⟩
 refine ?a2; rotate_left
 refine ⟨fun h3 => ?_, fun h3 => ?_⟩
 refine ?a3; rotate_left
 refine ⟨fun h4 => ?_, fun h4 => ?_⟩
 refine ?a4; rotate_left
 refine ⟨fun h5 => ?_, fun h5 => ?_⟩
 refine ?a5; rotate_left
 refine ?a6; rotate_left
 case a0 | a1 | a2 | a3 | a4 | a5 | a6 =>
  first
  | (exfalso; omega)
  | (rw [show svK p q l = 0 by omega]; rfl)
  | (rw [show svK p q l = 1 by omega]; rfl)
theorem pbg_sckq : pbc_sckq.Good Tryz.prog syG (pbE [] [] [] []) := good_of_walk (Γ := ⟨[pbc_partsq], syG, [], [], []⟩) (ρ := pbE [] [] [] []) sym sckq_w rfl (fun _ _ _ _ => (ok_cons (Con.Good.env pbg_partsq _ _ _ _) ok_nil)) sckq_h
def ckrq_tree : Tree :=
 (.need xrpbpgwk2_
 (.br (.not (.b2 .eq (.iapp 23 (.cons (.int .u32 (.var 0)) (.cons (.int .i64 (.var 1)) .nil))) (.lit (0))))
 (.ret (.iface 111 (.int .i64 (.lit (1)))))
 (.br (.b2 .lt (.var 2) (.lit (0)))
 (.ret (.iface 111 (.int .i64 (.lit (1)))))
 (.br (.b2 .lt (.lit (1048576)) (.var 2))
 (.ret (.iface 111 (.int .i64 (.lit (1)))))
 (.br (.not (.b2 .eq (.iapp 40 (.cons (.int .i64 (.var 3)) (.cons (.int .i64 (.var 4)) (.cons (.int .i64 (.var 5)) .nil)))) (.lit (0))))
 (.ret (.iface 111 (.int .i64 (.lit (1)))))
 (.br (.b2 .lt (.var 6) (.lit (1)))
 (.ret (.iface 111 (.int .i64 (.lit (1)))))
 (.br (.b2 .lt (.lit (1125899906842624)) (.var 6))
 (.ret (.iface 111 (.int .i64 (.lit (1)))))
 (.ret (.cst .nilI)))))))))
abbrev pbc_ckrq : Con := ⟨79, [(.agg (.cons (.int .u32 (.var 0)) (.cons (.int .i64 (.var 1)) (.cons (.int .i64 (.var 2)) (.cons (.int .i64 (.var 3)) (.cons (.int .i64 (.var 4)) (.cons (.int .i64 (.var 5)) (.cons (.int .i64 (.var 6)) .nil))))))))], xrpbpgwk5_, (.err xrpbpgwk4_), ⟨7, 0, 0, 0⟩, none⟩
theorem ckrq_w : walk Tryz.prog 111 ⟨[zuc_rcheck, pbc_sckq], syG, [], [], []⟩ [] .v pbc_ckrq pbc_ckrq.n 3000 = some ckrq_tree := by kernel_rfl
theorem ckrq_h (rm rs rr gp gi rl ro : Int) : Hyp_ pbc_ckrq ckrq_tree (pbE [rm, rs, rr, gp, gi, rl, ro] [] [] []) := by
 intro hc hty
 simp only [pbc_ckrq, Sy.holds, pbE, denV, denI, denB, denL, I2.den, VOp.den, List.getD_cons_zero, List.getD_cons_succ, Cst.den, syso, syse, syio, sybo, B2.ofInts, B2.denI, B2.denB, if_true, Bool.false_eq_true, if_false, Nat.div_one, Nat.mul_one, Nat.add_zero] at hc
 simp only [pbc_ckrq, patsTyp, patTyp, patTypL, pbE, denV, denL, List.getD_cons_zero, List.getD_cons_succ, and_true, true_and] at hty
 unfold ckrq_tree
 simp only [pbc_ckrq, Tree.holds, Sy.holds, pbE, denV, denI, denB, denL, I2.den, VOp.den, List.getD_cons_zero, List.getD_cons_succ, Cst.den, syso, syse, syio, sybo, pbi_fe, pbi_sve, pbi_hme, B2.ofInts, B2.denI, B2.denB, if_true, Bool.false_eq_true, if_false, Nat.div_one, Nat.mul_one, Nat.add_zero]
 refine ⟨?_, fun h0 => ?_⟩
 ·
  omega
 refine ⟨fun h1 => ?_, fun h1 => ?_⟩
 refine ?a0; rotate_left
 refine ⟨fun h2 => ?_, fun h2 => ?_⟩
 refine ?a1; rotate_left
 refine ⟨fun h3 => ?_, fun h3 => ?_⟩
 refine ?a2; rotate_left
 refine ⟨fun h4 => ?_, fun h4 => ?_⟩
 refine ?a3; rotate_left
 refine ⟨fun h5 => ?_, fun h5 => ?_⟩
 refine ?a4; rotate_left
 refine ⟨fun h6 => ?_, fun h6 => ?_⟩
 refine ?a5; rotate_left
 refine ?a6; rotate_left
 case a0 | a1 | a2 | a3 | a4 | a5 | a6 =>
  have hs := sv_spec gp gi rl
  have hf := fe_spec rm rs
  have hE : hoL (Sy.rows (hoT rm rs rr gp gi rl ro 0 0 0 0 0 false)) = hoE rm rs rr gp gi rl ro 0 0 0 0 0 := rfl
  by_cases hp : hoP rm rs rr gp gi rl ro 0 0 0 0 0
  · have e0 := hoE_y hp
    rw [e0] at hE
    obtain ⟨f, a1, a2, a3, a4, a5, a6, a7, a8, a9, a10, a11, a12, a13, a14, a15, a16, a17, a18, a19, a20⟩ := id hp
    have e1 := feE_y f
    first
    | (exfalso; omega)
    | (rw [hE]; rfl)
  · have e0 := hoE_n hp
    rw [e0] at hE
    rcases hf with ⟨f, e1⟩ | ⟨f, e1⟩
    all_goals first
    | (exfalso; omega)
    | (rw [hE]; rfl)
    | exact absurd ⟨f, by omega, by omega, by omega, by omega, by omega, by omega, by omega, by omega, by omega, by omega, by omega, by omega, by omega, by omega, by omega, by omega, by omega, by omega, by omega, by omega⟩ hp
theorem pbg_ckrq : pbc_ckrq.Good Tryz.prog syG (pbE [] [] [] []) := good_of_walk (Γ := ⟨[zuc_rcheck, pbc_sckq], syG, [], [], []⟩) (ρ := pbE [] [] [] []) sym ckrq_w rfl (fun _ _ _ _ => (ok_cons (Con.Good.env (Con.Good.up (Con.Good.up (Con.Good.up (Con.Good.up (Con.Good.up zug_rcheck zyup rfl) za9up rfl) yzup rfl) paup rfl) pbup rfl) _ _ _ _) (ok_cons (Con.Good.env pbg_sckq _ _ _ _) ok_nil))) ckrq_h
def hcheckq_tree : Tree :=
 (.need xrpbpgwk5_
 (.br (.not (.b2 .eq xrpbpgwk4_ (.lit (0))))
 (.ret (.err xrpbpgwk4_))
 (.br (.b2 .lt (.var 7) (.lit (0)))
 (.ret (.iface 111 (.int .i64 (.lit (1)))))
 (.br (.b2 .lt (.lit (1152921504606846976)) (.var 7))
 (.ret (.iface 111 (.int .i64 (.lit (1)))))
 (.need (.b2 .and (.b2 .le (.lit (-9223372036854775808)) (.var 8)) (.b2 .le (.var 8) (.lit (9223372036854775807))))
 (.br (.b2 .le (.lit (4611686018427387904)) (.iapp 19 (.cons (.int .i64 (.var 8)) .nil)))
 (.ret (.iface 111 (.int .i64 (.lit (1)))))
 (.br (.b2 .lt (.var 9) (.lit (0)))
 (.ret (.iface 111 (.int .i64 (.lit (1)))))
 (.br (.b2 .lt (.lit (2305843009213693952)) (.var 9))
 (.ret (.iface 111 (.int .i64 (.lit (1)))))
 (.need (.b2 .and (.b2 .le (.lit (-9223372036854775808)) (.var 10)) (.b2 .le (.var 10) (.lit (9223372036854775807))))
 (.br (.b2 .lt (.var 5) (.iapp 19 (.cons (.int .i64 (.var 10)) .nil)))
 (.ret (.iface 111 (.int .i64 (.lit (1)))))
 (.need (.b2 .and (.b2 .le (.lit (-9223372036854775808)) (.var 11)) (.b2 .le (.var 11) (.lit (9223372036854775807))))
 (.br (.b2 .lt (.lit (1048576)) (.iapp 19 (.cons (.int .i64 (.var 11)) .nil)))
 (.ret (.iface 111 (.int .i64 (.lit (1)))))
 (.ret (.cst .nilI))))))))))))))
abbrev pbc_hcheckq : Con := ⟨34, [xrpbpgwk6_], xrpbpgwk0_, (.err (.iapp 43 (.cons xrpbpgwk1_ .nil))), ⟨12, 1, 0, 0⟩, none⟩
theorem hcheckq_w : walk Tryz.prog 111 ⟨[pbc_ckrq, zuc_size], syG, [], [], []⟩ [] .v pbc_hcheckq pbc_hcheckq.n 3000 = some hcheckq_tree := by kernel_rfl
theorem hcheckq_h (rm rs rr gp gi rl ro hb ht he sf ss : Int) (sy : Bool) : Hyp_ pbc_hcheckq hcheckq_tree (pbE [rm, rs, rr, gp, gi, rl, ro, hb, ht, he, sf, ss] [sy] [] []) := by
 intro hc hty
 simp only [pbc_hcheckq, Sy.holds, pbE, denV, denI, denB, denL, I2.den, VOp.den, List.getD_cons_zero, List.getD_cons_succ, Cst.den, syso, syse, syio, sybo, B2.ofInts, B2.denI, B2.denB, if_true, Bool.false_eq_true, if_false, Nat.div_one, Nat.mul_one, Nat.add_zero] at hc
 simp only [pbc_hcheckq, patsTyp, patTyp, patTypL, pbE, denV, denL, List.getD_cons_zero, List.getD_cons_succ, and_true, true_and] at hty
 unfold hcheckq_tree
 simp only [pbc_hcheckq, Tree.holds, Sy.holds, pbE, denV, denI, denB, denL, I2.den, VOp.den, List.getD_cons_zero, List.getD_cons_succ, Cst.den, syso, syse, syio, sybo, pbi_sz, pbi_hme, B2.ofInts, B2.denI, B2.denB, if_true, Bool.false_eq_true, if_false, Nat.div_one, Nat.mul_one, Nat.add_zero]
 refine ⟨?_, fun h0 => ?_⟩
 ·
  omega
 refine ⟨fun h1 => ?_, fun h1 => ?_⟩
 refine ?a0; rotate_left
 refine ⟨fun h2 => ?_, fun h2 => ?_⟩
 refine ?a1; rotate_left
 refine ⟨fun h3 => ?_, fun h3 => ?_⟩
 refine ?a2; rotate_left
 refine ⟨?_, fun h4 => ?_⟩
 ·
  omega
 refine ⟨fun h5 => ?_, fun h5 => ?_⟩
 refine ?a3; rotate_left
 refine ⟨fun h6 => ?_, fun h6 => ?_⟩
 refine ?a4; rotate_left
 refine ⟨fun h7 => ?_, fun h7 => ?_⟩
 refine ?a5; rotate_left
 refine ⟨?_, fun h8 => ?_⟩
 ·
  omega
 refine ⟨fun h9 => ?_, fun h9 => ?_⟩
 refine ?a6; rotate_left
 refine ⟨?_, fun h10 => ?_⟩
 ·
  omega
 refine ⟨fun h11 => ?_, fun h11 => ?_⟩
 refine ?a7; rotate_left
 refine ?a8; rotate_left
 case a0 | a1 | a2 | a3 | a4 | a5 | a6 | a7 | a8 =>
  have hz1 := szE_spec ht ⟨by omega, by omega⟩
  have hz2 := szE_spec sf ⟨by omega, by omega⟩
  have hz3 := szE_spec ss ⟨by omega, by omega⟩
  simp only [hoL_eq] at *
  by_cases hp : hoP rm rs rr gp gi rl ro hb ht he sf ss
  · have e0 := hoE_y hp
    obtain ⟨f, a1, a2, a3, a4, a5, a6, a7, a8, a9, a10, a11, a12, a13, a14, a15, a16, a17, a18, a19, a20⟩ := id hp
    have e1 : hoE rm rs rr gp gi rl ro 0 0 0 0 0 = 0 := hoE_y ⟨f, a1, a2, a3, a4, a5, a6, a7, a8, a9, a10, by omega, by omega, by omega, by omega, by omega, by omega, by omega, by omega, by omega, by omega⟩
    first
    | (exfalso; omega)
    | (rw [e0]; rfl)
    | (rw [e0, e1]; done)
    | (rw [e0, e1]; rfl)
  · have e0 := hoE_n hp
    by_cases hq : hoP rm rs rr gp gi rl ro 0 0 0 0 0
    · have e1 := hoE_y hq
      obtain ⟨f, a1, a2, a3, a4, a5, a6, a7, a8, a9, a10, a11, a12, a13, a14, a15, a16, a17, a18, a19, a20⟩ := hq
      first
      | (exfalso; omega)
      | (rw [e0]; rfl)
      | exact absurd ⟨f, by omega, by omega, by omega, by omega, by omega, by omega, by omega, by omega, by omega, by omega, by omega, by omega, by omega, by omega, by omega, by omega, by omega, by omega, by omega, by omega⟩ hp
    · have e1 := hoE_n hq
      first
      | (exfalso; omega)
      | (rw [e0, e1]; done)
      | (rw [e0, e1]; rfl)
      | (rw [e0]; rfl)
theorem pbg_hcheckq : pbc_hcheckq.Good Tryz.prog syG (pbE [] [] [] []) := good_of_walk (Γ := ⟨[pbc_ckrq, zuc_size], syG, [], [], []⟩) (ρ := pbE [] [] [] []) sym hcheckq_w rfl (fun _ _ _ _ => (ok_cons (Con.Good.env pbg_ckrq _ _ _ _) (ok_cons (Con.Good.env (Con.Good.up (Con.Good.up (Con.Good.up (Con.Good.up (Con.Good.up zug_size zyup rfl) za9up rfl) yzup rfl) paup rfl) pbup rfl) _ _ _ _) ok_nil))) hcheckq_h
def rmay16_tree : Tree :=
 (.br (.b2 .le (.lit (0)) (.var 0))
 (.br (.b2 .le (.var 0) (.lit (1024)))
 (.br (.b2 .le (.lit (0)) (.var 1))
 (.br (.b2 .le (.var 1) (.lit (1024)))
 (.br (.b2 .le (.lit (0)) (.var 2))
 (.ret (.bool (.b2 .le (.var 2) (.lit (1048576)))))
 (.ret (.bool (.tt false))))
 (.ret (.bool (.tt false))))
 (.ret (.bool (.tt false))))
 (.ret (.bool (.tt false))))
 (.ret (.bool (.tt false))))
abbrev pbc_rmay16 : Con := ⟨82, [xrpbpgwk13_, (.int .i64 (.var 2))], (.tt true), (.bool (.b2 .eq (.iapp 40 (.cons (.int .i64 (.var 0)) (.cons (.int .i64 (.var 1)) (.cons (.int .i64 (.var 2)) .nil)))) (.lit (0)))), ⟨3, 0, 0, 0⟩, none⟩
theorem rmay16_w : walk Tryz.prog 111 ⟨[], syG, [], [], []⟩ [] .v pbc_rmay16 pbc_rmay16.n 3000 = some rmay16_tree := by kernel_rfl
theorem rmay16_h (p q l : Int) : Hyp_ pbc_rmay16 rmay16_tree (pbE [p, q, l] [] [] []) := by
 intro hc hty
 simp only [pbc_rmay16, Sy.holds, pbE, denV, denI, denB, denL, I2.den, VOp.den, List.getD_cons_zero, List.getD_cons_succ, Cst.den, syso, syse, syio, sybo, B2.ofInts, B2.denI, B2.denB, if_true, Bool.false_eq_true, if_false, Nat.div_one, Nat.mul_one, Nat.add_zero] at hc
 simp only [pbc_rmay16, patsTyp, patTyp, patTypL, pbE, denV, denL, List.getD_cons_zero, List.getD_cons_succ, and_true, true_and] at hty
 unfold rmay16_tree
 simp only [pbc_rmay16, Tree.holds, Sy.holds, pbE, denV, denI, denB, denL, I2.den, VOp.den, List.getD_cons_zero, List.getD_cons_succ, Cst.den, syso, syse, syio, sybo, pbi_sve, B2.ofInts, B2.denI, B2.denB, if_true, Bool.false_eq_true, if_false, Nat.div_one, Nat.mul_one, Nat.add_zero]
 have hs := sv_spec p q l
 refine ⟨fun h0 => ?_, fun h0 => ?_⟩
 refine ⟨fun h1 => ?_, fun h1 => ?_⟩
 refine ⟨fun h2 => ?_, fun h2 => ?_⟩
 refine ⟨fun h3 => ?_, fun h3 => ?_⟩
 refine ⟨fun h4 => ?_, fun h4 => ?_⟩
 refine ?a0; rotate_left
 refine ?a1; rotate_left
 refine ?a2; rotate_left
 refine ?a3; rotate_left
 refine ?a4; rotate_left
 refine ?a5; rotate_left
 case a0 | a1 | a2 | a3 | a4 | a5 =>
  refine congrArg Value.bool ?_
  first
  | (rw [show svK p q l = 0 by omega]; rfl)
  | (rw [show svK p q l = 1 by omega]; rfl)
  | (by_cases hl : l ≤ 1048576
     · rw [show svK p q l = 0 by omega]; simp only [hl, decide_true]; rfl
     · rw [show svK p q l = 1 by omega]; simp only [hl, decide_false]; rfl)
  | skip
theorem pbg_rmay16 : pbc_rmay16.Good Tryz.prog syG (pbE [] [] [] []) := good_of_walk (Γ := ⟨[], syG, [], [], []⟩) (ρ := pbE [] [] [] []) sym rmay16_w rfl (fun _ _ _ _ => ok_nil) rmay16_h
def rtime18_tree : Tree :=
 (.br (.b2 .lt (.lit (-4611686018427387904)) (.var 0))
 (.ret (.bool (.b2 .lt (.var 0) (.lit (4611686018427387904)))))
 (.ret (.bool (.tt false))))
abbrev pbc_rtime18 : Con := ⟨83, [(.int .i64 (.var 0))], (.tt true), (.bool (.b2 .and (.b2 .lt (.lit (-4611686018427387904)) (.var 0)) (.b2 .lt (.var 0) (.lit (4611686018427387904))))), ⟨1, 0, 0, 0⟩, none⟩
theorem rtime18_w : walk Tryz.prog 111 ⟨[], syG, [], [], []⟩ [] .v pbc_rtime18 pbc_rtime18.n 3000 = some rtime18_tree := by kernel_rfl
theorem rtime18_h (t : Int) : Hyp_ pbc_rtime18 rtime18_tree (pbE [t] [] [] []) := by
 intro hc hty
 simp only [pbc_rtime18, Sy.holds, pbE, denV, denI, denB, denL, I2.den, VOp.den, List.getD_cons_zero, List.getD_cons_succ, Cst.den, syso, syse, syio, sybo, B2.ofInts, B2.denI, B2.denB, if_true, Bool.false_eq_true, if_false, Nat.div_one, Nat.mul_one, Nat.add_zero] at hc
 simp only [pbc_rtime18, patsTyp, patTyp, patTypL, pbE, denV, denL, List.getD_cons_zero, List.getD_cons_succ, and_true, true_and] at hty
 unfold rtime18_tree
 simp only [pbc_rtime18, Tree.holds, Sy.holds, pbE, denV, denI, denB, denL, I2.den, VOp.den, List.getD_cons_zero, List.getD_cons_succ, Cst.den, syso, syse, syio, sybo, B2.ofInts, B2.denI, B2.denB, if_true, Bool.false_eq_true, if_false, Nat.div_one, Nat.mul_one, Nat.add_zero]
 refine ⟨fun h0 => ?_, fun h0 => ?_⟩
 refine ?a0; rotate_left
 refine ?a1; rotate_left
 case a0 | a1 =>
  refine congrArg Value.bool ?_
  first
  | (simp only [Bool.and_eq_true, decide_eq_true_eq]; omega)
  | (refine Bool.eq_iff_iff.2 ?_; simp only [decide_eq_true_eq, Bool.and_eq_true, Bool.false_eq_true, false_iff, true_iff]; omega)
  | skip
theorem pbg_rtime18 : pbc_rtime18.Good Tryz.prog syG (pbE [] [] [] []) := good_of_walk (Γ := ⟨[], syG, [], [], []⟩) (ρ := pbE [] [] [] []) sym rtime18_w rfl (fun _ _ _ _ => ok_nil) rtime18_h
def rmay18_tree : Tree :=
 (.need xrpbpgwk2_
 (.br (.not (.bapp 4 (.cons (.int .u32 (.var 0)) (.cons (.int .i64 (.var 1)) .nil))))
 (.ret (.bool (.tt false)))
 (.br (.b2 .lt (.var 2) (.lit (0)))
 (.ret (.bool (.tt false)))
 (.br (.b2 .lt (.lit (1048576)) (.var 2))
 (.ret (.bool (.tt false)))
 (.br (.not (.b2 .eq (.iapp 40 (.cons (.int .i64 (.var 3)) (.cons (.int .i64 (.var 4)) (.cons (.int .i64 (.var 5)) .nil)))) (.lit (0))))
 (.ret (.bool (.tt false)))
 (.br (.b2 .lt (.var 6) (.lit (1)))
 (.ret (.bool (.tt false)))
 (.br (.b2 .lt (.lit (1125899906842624)) (.var 6))
 (.ret (.bool (.tt false)))
 (.br (.b2 .lt (.var 10) (.wrap .i64 (.i2 .sub (.lit (0)) (.var 5))))
 (.ret (.bool (.tt false)))
 (.br (.b2 .lt (.var 5) (.var 10))
 (.ret (.bool (.tt false)))
 (.br (.b2 .lt (.var 11) (.lit (-1048576)))
 (.ret (.bool (.tt false)))
 (.br (.b2 .lt (.lit (1048576)) (.var 11))
 (.ret (.bool (.tt false)))
 (.br (.b2 .le (.lit (0)) (.var 7))
 (.br (.b2 .le (.var 7) (.lit (1152921504606846976)))
 (.br (.b2 .and (.b2 .lt (.lit (-4611686018427387904)) (.var 8)) (.b2 .lt (.var 8) (.lit (4611686018427387904))))
 (.br (.b2 .le (.lit (0)) (.var 9))
 (.ret (.bool (.b2 .le (.var 9) (.lit (2305843009213693952)))))
 (.ret (.bool (.tt false))))
 (.ret (.bool (.tt false))))
 (.ret (.bool (.tt false))))
 (.ret (.bool (.tt false)))))))))))))))
abbrev pbc_rmay18 : Con := ⟨37, [xrpbpgwk6_], xrpbpgwk0_, (.bool (.bapp 6 (.cons xrpbpgwk1_ .nil))), ⟨12, 1, 0, 0⟩, none⟩
theorem rmay18_w : walk Tryz.prog 111 ⟨[zuc_rfmay, pbc_rmay16, pbc_rtime18], syG, [], [], []⟩ [] .v pbc_rmay18 pbc_rmay18.n 3000 = some rmay18_tree := by kernel_rfl
theorem rmay18_h (rm rs rr gp gi rl ro hb ht he sf ss : Int) (sy : Bool) : Hyp_ pbc_rmay18 rmay18_tree (pbE [rm, rs, rr, gp, gi, rl, ro, hb, ht, he, sf, ss] [sy] [] []) := by
 intro hc hty
 simp only [pbc_rmay18, Sy.holds, pbE, denV, denI, denB, denL, I2.den, VOp.den, List.getD_cons_zero, List.getD_cons_succ, Cst.den, syso, syse, syio, sybo, B2.ofInts, B2.denI, B2.denB, if_true, Bool.false_eq_true, if_false, Nat.div_one, Nat.mul_one, Nat.add_zero] at hc
 simp only [pbc_rmay18, patsTyp, patTyp, patTypL, pbE, denV, denL, List.getD_cons_zero, List.getD_cons_succ, and_true, true_and] at hty
 unfold rmay18_tree
 simp only [pbc_rmay18, Tree.holds, Sy.holds, pbE, denV, denI, denB, denL, I2.den, VOp.den, List.getD_cons_zero, List.getD_cons_succ, Cst.den, syso, syse, syio, sybo, pbi_sve, pbb_fm, pbb_hm, B2.ofInts, B2.denI, B2.denB, if_true, Bool.false_eq_true, if_false, Nat.div_one, Nat.mul_one, Nat.add_zero]
 have hsv := sv_spec gp gi rl
 have wl : IntKind.wrap .i64 (0 - rl) = -rl ∨ rl < -9223372036854775807 := by have := wr_i64 (0 - rl); omega
 refine ⟨?_, fun h0 => ?_⟩
 ·
  first
  | omega
  | exact True.intro
 refine ⟨fun h1 => ?_, fun h1 => ?_⟩
 refine ?a0; rotate_left
 refine ⟨fun h2 => ?_, fun h2 => ?_⟩
 refine ?a1; rotate_left
 refine ⟨fun h3 => ?_, fun h3 => ?_⟩
 refine ?a2; rotate_left
 refine ⟨fun h4 => ?_, fun h4 => ?_⟩
 refine ?a3; rotate_left
 refine ⟨fun h5 => ?_, fun h5 => ?_⟩
 refine ?a4; rotate_left
 refine ⟨fun h6 => ?_, fun h6 => ?_⟩
 refine ?a5; rotate_left
 have wf0 := wr_i64 (0 - rl)
 refine ⟨fun h7 => ?_, fun h7 => ?_⟩
 refine ?a6; rotate_left
 refine ⟨fun h8 => ?_, fun h8 => ?_⟩
 refine ?a7; rotate_left
 refine ⟨fun h9 => ?_, fun h9 => ?_⟩
 refine ?a8; rotate_left
 refine ⟨fun h10 => ?_, fun h10 => ?_⟩
 refine ?a9; rotate_left
 refine ⟨fun h11 => ?_, fun h11 => ?_⟩
 refine ⟨fun h12 => ?_, fun h12 => ?_⟩
 refine ⟨fun h13 => ?_, fun h13 => ?_⟩
 refine ⟨fun h14 => ?_, fun h14 => ?_⟩
 refine ?a10; rotate_left
 refine ?a11; rotate_left
 refine ?a12; rotate_left
 refine ?a13; rotate_left
 refine ?a14; rotate_left
 case a0 | a1 | a2 | a3 | a4 | a5 | a6 | a7 | a8 | a9 | a10 | a11 | a12 | a13 | a14 =>
  by_cases hp : hoP rm rs rr gp gi rl ro hb ht he sf ss
  · have hT : hoB (Sy.rows (hoT rm rs rr gp gi rl ro hb ht he sf ss sy)) = true := decide_eq_true hp
    rw [hT]
    obtain ⟨f, a1, a2, a3, a4, a5, a6, a7, a8, a9, a10, a11, a12, a13, a14, a15, a16, a17, a18, a19, a20⟩ := id hp
    first
    | (exfalso; omega)
    | rfl
    | exact absurd (decide_eq_true f) (by assumption)
    | (refine congrArg Value.bool ?_
       simp only [decide_eq_true_eq, Bool.and_eq_true]
       omega)
    | skip
  · have hT : hoB (Sy.rows (hoT rm rs rr gp gi rl ro hb ht he sf ss sy)) = false := decide_eq_false hp
    rw [hT]
    first
    | rfl
    | (exfalso
       have f : fmP rm rs := of_decide_eq_true (by first | assumption | exact Decidable.of_not_not (by assumption))
       exact hp ⟨f, by omega, by omega, by omega, by omega, by omega, by omega, by omega, by omega, by omega, by omega, by omega, by omega, by omega, by omega, by omega, by omega, by omega, by omega, by omega, by omega⟩)
    | (refine congrArg Value.bool ?_
       have f : fmP rm rs := of_decide_eq_true (by first | assumption | exact Decidable.of_not_not (by assumption))
       simp only [decide_eq_false_iff_not, Bool.and_eq_false_iff]
       apply Decidable.byContradiction
       intro hn
       exact hp ⟨f, by omega, by omega, by omega, by omega, by omega, by omega, by omega, by omega, by omega, by omega, by omega, by omega, by omega, by omega, by omega, by omega, by omega, by omega, by omega, by omega⟩)
    | skip
theorem pbg_rmay18 : pbc_rmay18.Good Tryz.prog syG (pbE [] [] [] []) := good_of_walk (Γ := ⟨[zuc_rfmay, pbc_rmay16, pbc_rtime18], syG, [], [], []⟩) (ρ := pbE [] [] [] []) sym rmay18_w rfl (fun _ _ _ _ => (ok_cons (Con.Good.env (Con.Good.up (Con.Good.up (Con.Good.up (Con.Good.up (Con.Good.up zug_rfmay zyup rfl) za9up rfl) yzup rfl) paup rfl) pbup rfl) _ _ _ _) (ok_cons (Con.Good.env pbg_rmay16 _ _ _ _) (ok_cons (Con.Good.env pbg_rtime18 _ _ _ _) ok_nil)))) rmay18_h
def hfacg_tree : Tree :=
 (.need xrpbpgwk0_
 (.br (.not (.b2 .eq (.iapp 43 (.cons xrpbpgwk1_ .nil)) (.lit (0))))
 (.ret (.tup (.cons xrpbpgwk9_ (.cons (.err (.iapp 43 (.cons xrpbpgwk1_ .nil))) .nil))))
 (.need (.b2 .and xrpbpgwk2_ (.b2 .and (.b2 .le (.lit (-9223372036854775808)) (.var 10)) (.b2 .le (.var 10) (.lit (9223372036854775807)))))
 (.ret (.tup (.cons (.agg (.cons (.int .u32 (.iapp 37 (.cons (.int .u32 (.var 0)) (.cons (.int .i64 (.var 1)) (.cons (.int .i64 (.var 10)) .nil))))) (.cons (.int .i64 (.iapp 38 (.cons (.int .u32 (.var 0)) (.cons (.int .i64 (.var 1)) (.cons (.int .i64 (.var 10)) .nil))))) .nil))) (.cons (.err (.iapp 39 (.cons (.int .u32 (.var 0)) (.cons (.int .i64 (.var 1)) (.cons (.int .i64 (.var 10)) .nil))))) .nil)))))))
abbrev pbc_hfacg : Con := ⟨35, [xrpbpgwk6_], xrpbpgwk0_, (.tup (.cons (.agg (.cons (.int .u32 (.iapp 44 (.cons (.int .i64 (.iapp 45 (.cons xrpbpgwk1_ .nil))) (.cons (.int .i64 (.iapp 37 (.cons (.int .u32 (.var 0)) (.cons (.int .i64 (.var 1)) (.cons (.int .i64 (.var 10)) .nil))))) .nil)))) (.cons (.int .i64 (.iapp 44 (.cons (.int .i64 (.iapp 45 (.cons xrpbpgwk1_ .nil))) (.cons (.int .i64 (.iapp 38 (.cons (.int .u32 (.var 0)) (.cons (.int .i64 (.var 1)) (.cons (.int .i64 (.var 10)) .nil))))) .nil)))) .nil))) (.cons (.err (.iapp 45 (.cons xrpbpgwk1_ .nil))) .nil))), ⟨12, 1, 0, 0⟩, none⟩
theorem hfacg_w : walk Tryz.prog 111 ⟨[pbc_hcheckq, pbc_adjustq], syG, [], [], []⟩ [] .v pbc_hfacg pbc_hfacg.n 3000 = some hfacg_tree := by kernel_rfl
theorem hfacg_h (rm rs rr gp gi rl ro hb ht he sf ss : Int) (sy : Bool) : Hyp_ pbc_hfacg hfacg_tree (pbE [rm, rs, rr, gp, gi, rl, ro, hb, ht, he, sf, ss] [sy] [] []) := by
 intro hc hty
 simp only [pbc_hfacg, Sy.holds, pbE, denV, denI, denB, denL, I2.den, VOp.den, List.getD_cons_zero, List.getD_cons_succ, Cst.den, syso, syse, syio, sybo, B2.ofInts, B2.denI, B2.denB, if_true, Bool.false_eq_true, if_false, Nat.div_one, Nat.mul_one, Nat.add_zero] at hc
 simp only [pbc_hfacg, patsTyp, patTyp, patTypL, pbE, denV, denL, List.getD_cons_zero, List.getD_cons_succ, and_true, true_and] at hty
 unfold hfacg_tree
 simp only [pbc_hfacg, Tree.holds, Sy.holds, pbE, denV, denI, denB, denL, I2.den, VOp.den, List.getD_cons_zero, List.getD_cons_succ, Cst.den, syso, syse, syio, sybo, pbi_ada, pbi_ads, pbi_ade, pbi_hme, pbi_gd, pbi_fce, B2.ofInts, B2.denI, B2.denB, if_true, Bool.false_eq_true, if_false, Nat.div_one, Nat.mul_one, Nat.add_zero]
 rcases hoE_or rm rs rr gp gi rl ro hb ht he sf ss with ⟨hp, ho⟩ | ⟨hp, ho⟩
 all_goals
  simp only [hoL_eq]
  try have e := fc_y (sy := sy) hp
  try have e := fc_n (sy := sy) hp
  simp only [hoT] at e
  simp only [e, ho]
  refine ⟨?_, fun h0 => ?_⟩
  rotate_left
  refine ⟨fun h1 => ?_, fun h1 => ?_⟩
  rotate_left
  refine ⟨?_, fun h2 => ?_⟩
  rotate_left
  rotate_left
 all_goals first
 | exact True.intro
 | (show @Eq Value _ _
    first
    | exact True.intro
    | (exfalso; omega)
    | exact absurd True.intro (by assumption)
    | (simp only [gdq_n (show (1 : Int) ≠ 0 by decide)]; first | done | rfl)
    | (rw [(gd_ad rm rs sf).1, (gd_ad rm rs sf).2]; first | done | rfl)
    | skip
    done)
 | (skip
    first
    | exact hc
    | omega
    done)
theorem pbg_hfacg : pbc_hfacg.Good Tryz.prog syG (pbE [] [] [] []) := good_of_walk (Γ := ⟨[pbc_hcheckq, pbc_adjustq], syG, [], [], []⟩) (ρ := pbE [] [] [] []) sym hfacg_w rfl (fun _ _ _ _ => (ok_cons (Con.Good.env pbg_hcheckq _ _ _ _) (ok_cons (Con.Good.env pbg_adjustq _ _ _ _) ok_nil))) hfacg_h
end Go.Proofs.YtgondiedehjkhaaGreatDoor
