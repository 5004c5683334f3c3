/-
 Layer 22 by the second engine: numbers, factors, drift.
-/
import Derived.Test.YtgondiedehjkhaaGreatDoorSycbnd
import Derived.Test.YtgondiedehjkhaaGreatDoorE00bnd
import Derived.Test.YtgondiedehjkhaaGreatDoorNumbnd
import Derived.Test.YtgondiedehjkhaaGreatDoorSyobnd
import Derived.Test.YtgondiedehjkhaaGreatDoorW02sbnd
import Derived.Test.YtgondiedehjkhaaGreatDoorV02bnd
import Derived.Test.YtgondiedehjkhaaGreatDoorW02ubnd
import Derived.Test.YtgondiedehjkhaaGreatDoorW02vbnd
namespace Go.Proofs.YtgondiedehjkhaaGreatDoor
open Go.RowKit Go.Extern.Stop Go.Stop Go.Extern Go.Proofs.YtgondiedehjkhaaGreatDoor.Sy
set_option linter.unusedVariables false
set_option linter.unusedSimpArgs false
abbrev xryabndk0_ : Tm := (an_ (an_ (le_ (.lit 0) v0_) (le_ v0_ (.lit 4294967295))) (an_ (le_ lm_ v1_) (le_ v1_ lM_)))
abbrev xryabndk1_ : Tm := (an_ (an_ (le_ lm_ v0_) (le_ v0_ lM_)) (an_ (le_ lm_ v1_) (le_ v1_ lM_)))
abbrev xryabndk2_ : Tm := (.tup (.cons (.int .i64 (.lit 0)) (.cons (.int .i64 (.lit 1)) .nil)))
abbrev xryabndk3_ : Tm := (.tup (.cons (.int .i64 (.lit 0)) (.cons (.iface 111 (.int .i64 (.lit 1))) .nil)))
abbrev xryabndk4_ : Tm := (.tup (.cons (.int .i64 (.lit 0)) (.cons (.iface 111 (.int .i64 (.lit 2))) .nil)))
abbrev xryabndk5_ : Tm := (.bapp 0 (.cons (.int .u32 v0_) (.cons z1_ .nil)))
abbrev xryabndk6_ : Tm := (.tup (.cons (.int .i64 (wr_ (ad_ v0_ v1_))) (.cons (.int .i64 (.lit 0)) .nil)))
abbrev xryabndk7_ : Tm := (.iapp 6 (.cons (.int .i64 (wr_ (sb_ (.lit 0) v2_))) (.cons z1_ (.cons (.int .i64 (.lit 1073741824)) .nil))))
abbrev xryabndk8_ : Tm := (.agg (.cons (.int .u32 v0_) (.cons z1_ .nil)))
abbrev xryabndk9_ : Tm := (.tup (.cons (.int .i64 (wr_ (sb_ v0_ v1_))) (.cons (.cst .nilI) .nil)))
def fmP (a s : Int) : Prop := 0 < a ∧ 0 ≤ s ∧ s ≤ 31
instance (a s : Int) : Decidable (fmP a s) := by unfold fmP; infer_instance
def pgP (e b t r gm gs pm ps p c : Int) : Prop := 0 ≤ e ∧ e ≤ 1099511627776 ∧ 0 ≤ b ∧ b ≤ 1152921504606846976 ∧ -4611686018427387904 < t ∧ t < 4611686018427387904 ∧ 0 ≤ r ∧ r ≤ 2305843009213693952 ∧ fmP gm gs ∧ fmP pm ps ∧ 0 ≤ p ∧ p ≤ 2097152 ∧ 1 ≤ c ∧ c ≤ 1125899906842624
instance (e b t r gm gs pm ps p c : Int) : Decidable (pgP e b t r gm gs pm ps p c) := by unfold pgP; infer_instance
def feE (a s : Int) : Int := if fmP a s then 0 else 1
theorem feE_y {a s : Int} (h : fmP a s) : feE a s = 0 := by unfold feE; rw [if_pos h]
theorem feE_n {a s : Int} (h : ¬ fmP a s) : feE a s = 1 := by unfold feE; rw [if_neg h]
def pgE (e b t r gm gs pm ps p c : Int) : Int := if pgP e b t r gm gs pm ps p c then 0 else 1
theorem pgE_y {e b t r gm gs pm ps p c : Int} (h : pgP e b t r gm gs pm ps p c) : pgE e b t r gm gs pm ps p c = 0 := by unfold pgE; rw [if_pos h]
theorem pgE_n {e b t r gm gs pm ps p c : Int} (h : ¬ pgP e b t r gm gs pm ps p c) : pgE e b t r gm gs pm ps p c = 1 := by unfold pgE; rw [if_neg h]
def qE (a s g : Int) : Int := g * a / 2 ^ s.toNat
theorem ms_spec {a s g : Int} (h : fmP a s) (g0 : 0 ≤ g) : 0 ≤ qE a s g ∧ ((msE g a s = 0 ∧ msN g a s = qE a s g ∧ qE a s g ≤ 9223372036854775807) ∨ (msE g a s = 2 ∧ msN g a s = 0 ∧ 9223372036854775807 < qE a s g)) := by
 obtain ⟨h0, h1, h2⟩ := h
 have hp := pow_rng h1 h2
 have hq : 0 ≤ qE a s g := by
   unfold qE
   exact Int.ediv_nonneg (Int.mul_nonneg g0 (by omega)) (by omega)
 refine ⟨hq, ?_⟩
 have e1 : msE g a s = if InR (qE a s g) then 0 else 2 := by
   unfold msE mdE qE
   rw [if_neg (by omega), if_neg (by omega)]
 have e2 : msN g a s = if InR (qE a s g) then qE a s g else 0 := by
   unfold msN mdN qE
   rw [if_neg (by omega), if_neg (by omega)]
 by_cases hin : InR (qE a s g)
 · rw [if_pos hin] at e1 e2
   have h3 := hin.2
   exact .inl ⟨e1, e2, by first | exact h3 | omega⟩
 · rw [if_neg hin] at e1 e2
   refine .inr ⟨e1, e2, ?_⟩
   apply Decidable.byContradiction
   intro hx
   exact hin ⟨by omega, by omega⟩
theorem qE_mono {a s g h : Int} (hf : fmP a s) (hgh : g ≤ h) : qE a s g ≤ qE a s h := by
 obtain ⟨h0, h1, h2⟩ := hf
 have hp := pow_rng h1 h2
 unfold qE
 exact Int.ediv_le_ediv (by omega) (Int.mul_le_mul_of_nonneg_right hgh (by omega))
theorem errOf_val (n : Int) : errOf n = errVal 111 n := by unfold errOf errVal; rfl
theorem mdiv_any (a b c : Int) (w : World) (ha : InR a) (hb : InR b) (hc : InR c) : Calls Tryz.prog 111 #[.int .i64 a, .int .i64 b, .int .i64 c] w fun e w' => e = .returned (.tuple #[.int .i64 (mdN a b c), errVal 111 (mdE a b c)]) ∧ Below w.heap.size w w' := by
 have h := wmuldiv_any a b c w ha hb hc
 rw [errOf_val] at h
 exact h
theorem msh_any (a m n : Int) (w : World) (ha : InR a) (hm0 : 0 ≤ m) (hm1 : m < 4294967296) (hn : InR n) : Calls Tryz.prog 147 #[.int .i64 a, .int .u32 m, .int .i64 n] w fun e w' => e = .returned (.tuple #[.int .i64 (msN a m n), errVal 111 (msE a m n)]) ∧ Below w.heap.size w w' := by
 have h := wmulshift_any a m n w ha hm0 hm1 hn
 rw [errOf_val] at h
 exact h
theorem up_bd {g r : Int} (g0 : 0 ≤ g) (g1 : g ≤ 9223372036854775807) (r0 : 0 ≤ r) (r1 : r ≤ 2097152) : 0 ≤ upK (g * r) ∧ upK (g * r) ≤ 18014398509481984 ∧ mdN (-g) r 1073741824 = -(upK (g * r)) ∧ mdE (-g) r 1073741824 = 0 := by
 obtain ⟨h1, h2⟩ := mul_rho g0 g1 r0 r1
 have e : (-g) * r = -(g * r) := Int.neg_mul g r
 have h3 : 0 ≤ upK (g * r) ∧ upK (g * r) ≤ 18014398509481984 := by unfold upK; omega
 have hd : (-g) * r / 1073741824 = -(upK (g * r)) := by rw [e]; unfold upK; omega
 have hin : InR ((-g) * r / 1073741824) := by rw [hd]; constructor <;> omega
 refine ⟨h3.1, h3.2, ?_, ?_⟩
 · unfold mdN; rw [if_neg (by omega), if_pos hin, hd]
 · unfold mdE; rw [if_neg (by omega), if_pos hin]
theorem bd_sat (x : Int) : bdE (svE x) (soE x) = satE x := by
 have h1 := svE_spec x
 have h2 := bdE_spec (svE x) (soE x)
 have h3 := satE_spec x
 omega
theorem hv_succ (n : Int) {j : Int} (h0 : 0 ≤ j) : n / 2 ^ (j + 1).toNat = n / 2 ^ j.toNat / 2 := by
 rw [show (j + 1).toNat = j.toNat + 1 by omega, Int.pow_succ, ← Int.ediv_ediv_of_nonneg (Int.le_of_lt (Int.pow_pos (by decide)))]
theorem hv_bd {n s : Int} (h0 : 0 ≤ n) : 0 ≤ n / 2 ^ s.toNat ∧ n / 2 ^ s.toNat ≤ n := by
 have hp : (0 : Int) < 2 ^ s.toNat := Int.pow_pos (by decide)
 exact ⟨Int.ediv_nonneg h0 (by omega), Int.ediv_le_self _ h0⟩
theorem shr_hv {n s : Int} (h0 : 0 ≤ s) (h1 : s ≤ 31) : n.fdiv (2 ^ (Min.min s.toNat (IntKind.bits .i64))) = n / 2 ^ s.toNat := by
 have e : Min.min s.toNat (IntKind.bits .i64) = s.toNat := by
   have : IntKind.bits .i64 = 64 := rfl
   rw [this]
   omega
 rw [e]
 exact Int.fdiv_eq_ediv_of_nonneg _ (Int.le_of_lt (Int.pow_pos (by decide)))
def atV (t a s g : Int) : Int := if t + qE a s g < 4611686018427387904 then t + qE a s g else 0
def atE (t a s g : Int) : Int := if t + qE a s g < 4611686018427387904 then 0 else 2
theorem at_spec (t a s g : Int) : (t + qE a s g < 4611686018427387904 ∧ atE t a s g = 0 ∧ atV t a s g = t + qE a s g) ∨ (4611686018427387904 ≤ t + qE a s g ∧ atE t a s g = 2 ∧ atV t a s g = 0) := by
 unfold atE atV
 by_cases h : t + qE a s g < 4611686018427387904
 · left; rw [if_pos h, if_pos h]; exact ⟨h, rfl, rfl⟩
 · right; rw [if_neg h, if_neg h]; exact ⟨by omega, rfl, rfl⟩
def gdV (e b t r gm gs pm ps p c : Int) : Int := if pgP e b t r gm gs pm ps p c then b + c else 0
def bnO (r a s p g : Int) : Int := satE (satE (satE (r + upK (satE (qE a s g + 1) * p)) + (g / 2 ^ s.toNat + 2)) + 2)
def bnV (r a s p g : Int) : Int := if 9223372036854775807 < qE a s g then 0 else bnO r a s p g
def bnE (a s g : Int) : Int := if 9223372036854775807 < qE a s g then 2 else 0
theorem bn_spec (r a s p g : Int) : (9223372036854775807 < qE a s g ∧ bnE a s g = 2 ∧ bnV r a s p g = 0) ∨ (qE a s g ≤ 9223372036854775807 ∧ bnE a s g = 0 ∧ bnV r a s p g = bnO r a s p g) := by
 unfold bnE bnV
 by_cases h : 9223372036854775807 < qE a s g
 · left; rw [if_pos h, if_pos h]; exact ⟨h, rfl, rfl⟩
 · right; rw [if_neg h, if_neg h]; exact ⟨by omega, rfl, rfl⟩
def tmE (e b t r gm gs pm ps p c k : Int) : Int := if ¬ pgP e b t r gm gs pm ps p c then 1 else if k < b then 10 else if c < k - b then 14 else if 4611686018427387904 ≤ t + qE gm gs (k - b) then 2 else if 9223372036854775807 < qE pm ps (k - b) then 2 else 0
def tmT (e b t r gm gs pm ps p c k : Int) : Int := if tmE e b t r gm gs pm ps p c k = 0 then t + qE gm gs (k - b) else 0
def tmO (e b t r gm gs pm ps p c k : Int) : Int := if tmE e b t r gm gs pm ps p c k = 0 then bnO r pm ps p (k - b) else 0
theorem tm_spec (e b t r gm gs pm ps p c k : Int) : ((¬ pgP e b t r gm gs pm ps p c ∧ pgE e b t r gm gs pm ps p c = 1) ∧ tmE e b t r gm gs pm ps p c k = 1 ∧ tmT e b t r gm gs pm ps p c k = 0 ∧ tmO e b t r gm gs pm ps p c k = 0) ∨ ((pgP e b t r gm gs pm ps p c ∧ pgE e b t r gm gs pm ps p c = 0) ∧
   ((k < b ∧ tmE e b t r gm gs pm ps p c k = 10 ∧ tmT e b t r gm gs pm ps p c k = 0 ∧ tmO e b t r gm gs pm ps p c k = 0) ∨
   ((b ≤ k ∧ c < k - b) ∧ tmE e b t r gm gs pm ps p c k = 14 ∧ tmT e b t r gm gs pm ps p c k = 0 ∧ tmO e b t r gm gs pm ps p c k = 0) ∨
   ((b ≤ k ∧ k - b ≤ c ∧ (4611686018427387904 ≤ t + qE gm gs (k - b) ∨ 9223372036854775807 < qE pm ps (k - b))) ∧ tmE e b t r gm gs pm ps p c k = 2 ∧ tmT e b t r gm gs pm ps p c k = 0 ∧ tmO e b t r gm gs pm ps p c k = 0) ∨
   ((b ≤ k ∧ k - b ≤ c ∧ t + qE gm gs (k - b) < 4611686018427387904 ∧ qE pm ps (k - b) ≤ 9223372036854775807) ∧ tmE e b t r gm gs pm ps p c k = 0 ∧ tmT e b t r gm gs pm ps p c k = t + qE gm gs (k - b) ∧ tmO e b t r gm gs pm ps p c k = bnO r pm ps p (k - b)))) := by
 have key : ∀ n, tmE e b t r gm gs pm ps p c k = n → n ≠ 0 → tmT e b t r gm gs pm ps p c k = 0 ∧ tmO e b t r gm gs pm ps p c k = 0 := fun n h1 h2 => by
   unfold tmT tmO
   rw [if_neg (by omega), if_neg (by omega)]
   exact ⟨rfl, rfl⟩
 by_cases hp : pgP e b t r gm gs pm ps p c
 · right
   refine ⟨⟨hp, pgE_y hp⟩, ?_⟩
   by_cases h1 : k < b
   · left
     have h : tmE e b t r gm gs pm ps p c k = 10 := by unfold tmE; rw [if_neg (not_not_intro hp), if_pos h1]
     exact ⟨h1, h, key _ h (by decide)⟩
   · right
     by_cases h2 : c < k - b
     · left
       have h : tmE e b t r gm gs pm ps p c k = 14 := by unfold tmE; rw [if_neg (not_not_intro hp), if_neg h1, if_pos h2]
       exact ⟨⟨by omega, h2⟩, h, key _ h (by decide)⟩
     · right
       by_cases h3 : 4611686018427387904 ≤ t + qE gm gs (k - b)
       · left
         have h : tmE e b t r gm gs pm ps p c k = 2 := by unfold tmE; rw [if_neg (not_not_intro hp), if_neg h1, if_neg h2, if_pos h3]
         exact ⟨⟨by omega, by omega, .inl h3⟩, h, key _ h (by decide)⟩
       · by_cases h4 : 9223372036854775807 < qE pm ps (k - b)
         · left
           have h : tmE e b t r gm gs pm ps p c k = 2 := by unfold tmE; rw [if_neg (not_not_intro hp), if_neg h1, if_neg h2, if_neg h3, if_pos h4]
           exact ⟨⟨by omega, by omega, .inr h4⟩, h, key _ h (by decide)⟩
         · right
           have h : tmE e b t r gm gs pm ps p c k = 0 := by unfold tmE; rw [if_neg (not_not_intro hp), if_neg h1, if_neg h2, if_neg h3, if_neg h4]
           exact ⟨⟨by omega, by omega, by omega, by omega⟩, h, by unfold tmT; rw [if_pos h], by unfold tmO; rw [if_pos h]⟩
 · left
   have h : tmE e b t r gm gs pm ps p c k = 1 := by unfold tmE; rw [if_pos hp]
   exact ⟨⟨hp, pgE_n hp⟩, h, key _ h (by decide)⟩
theorem pg_bd (e b t r gm gs pm ps p c : Int) : pgE e b t r gm gs pm ps p c = 1 ∨ (0 ≤ b ∧ b ≤ 1152921504606846976 ∧ -4611686018427387904 < t ∧ t < 4611686018427387904 ∧ 0 ≤ r ∧ r ≤ 2305843009213693952 ∧ 0 ≤ p ∧ p ≤ 2097152 ∧ 1 ≤ c ∧ c ≤ 1125899906842624) := by
 by_cases h : pgP e b t r gm gs pm ps p c
 · obtain ⟨a1, a2, a3, a4, a5, a6, a7, a8, f1, f2, a11, a12, a13, a14⟩ := h
   exact .inr ⟨a3, a4, a5, a6, a7, a8, a11, a12, a13, a14⟩
 · exact .inl (pgE_n h)
theorem fe_spec (a s : Int) : (fmP a s ∧ feE a s = 0) ∨ (¬ fmP a s ∧ feE a s = 1) := by
 by_cases h : fmP a s
 · exact .inl ⟨h, feE_y h⟩
 · exact .inr ⟨h, feE_n h⟩
theorem sat_two {o h : Int} (h0 : 0 ≤ o) (h1 : 0 ≤ h) : satE (satE (o + (h + 2)) + 2) = satE (o + (h + 2 + 2)) := by
 have s1 := satE_spec (o + (h + 2))
 have s2 := satE_spec (satE (o + (h + 2)) + 2)
 have s3 := satE_spec (o + (h + 2 + 2))
 omega
def whP (t a s T c i : Int) : Prop := 0 ≤ i ∧ i ≤ c + 1 ∧ (i = 0 ∨ (t + qE a s (i - 1) < 4611686018427387904 ∧ t + qE a s (i - 1) < T)) ∧ (i = c + 1 ∨ 4611686018427387904 ≤ t + qE a s i ∨ T ≤ t + qE a s i)
noncomputable def whI (t a s T c : Int) : Int := @dite Int (∃ i, whP t a s T c i) (Classical.propDecidable _) (fun h => Classical.choose h) (fun _ => 0)
noncomputable def whE (e b t r gm gs pm ps p c T : Int) : Int := if ¬ pgP e b t r gm gs pm ps p c then 1 else if T < t then 10 else if c < whI t gm gs T c then 14 else 0
noncomputable def whV (e b t r gm gs pm ps p c T : Int) : Int := if whE e b t r gm gs pm ps p c T = 0 then b + whI t gm gs T c else 0
def p2B (b : Int) : Bool := decide (b = 0) || (List.range 51).any fun k => decide (b = 2 ^ k)
theorem p2_top : p2B 1125899906842624 = true := by
 unfold p2B
 rw [Bool.or_eq_true]
 right
 rw [List.any_eq_true]
 exact ⟨50, List.mem_range.2 (by decide), decide_eq_true (by decide)⟩
theorem p2_half {b : Int} (h : p2B b = true) (h0 : 0 < b) : p2B (b / 2) = true ∧ (b = 1 ∨ b = 2 * (b / 2)) := by
 unfold p2B at h
 rw [Bool.or_eq_true, List.any_eq_true] at h
 rcases h with h | ⟨k, hk, h⟩
 · have := of_decide_eq_true h; omega
 · have hb := of_decide_eq_true h
   have hk := List.mem_range.1 hk
   cases k with
   | zero =>
     have : b = 1 := hb
     subst this
     exact ⟨by decide, .inl rfl⟩
   | succ k =>
     rw [Int.pow_succ] at hb
     have e : b / 2 = 2 ^ k := by omega
     refine ⟨?_, .inr (by omega)⟩
     unfold p2B
     rw [Bool.or_eq_true]
     right
     rw [List.any_eq_true]
     exact ⟨k, List.mem_range.2 (by omega), decide_eq_true e⟩
noncomputable def yaI : Nat → List Value → Int
 | 0, [.int _ a] => szE a
 | 1, [.int _ a] => satE a
 | 2, [.int _ a] => svE a
 | 3, [.int _ a] => erE a
 | 4, [.int _ a] => soE a
 | 5, [.int _ a, .int _ o] => bdE a o
 | 6, [.int _ a, .int _ b, .int _ c] => mdN a b c
 | 7, [.int _ a, .int _ b, .int _ c] => mdE a b c
 | 8, [.int _ a, .int _ b, .int _ c] => msN a b c
 | 9, [.int _ a, .int _ b, .int _ c] => msE a b c
 | 10, [.int _ g, .int _ r] => upK (g * r)
 | 11, [.int _ n, .int _ s] => n / 2 ^ s.toNat
 | 12, [.int _ a, .int _ s, .int _ g] => qE a s g
 | 13, [.int _ a, .int _ s] => feE a s
 | 14, [.int _ e, .int _ b, .int _ t, .int _ r, .int _ gm, .int _ gs, .int _ pm, .int _ ps, .int _ p, .int _ c] => pgE e b t r gm gs pm ps p c
 | 15, [.int _ e, .int _ b, .int _ t, .int _ r, .int _ gm, .int _ gs, .int _ pm, .int _ ps, .int _ p, .int _ c] => gdV e b t r gm gs pm ps p c
 | 16, [.int _ t, .int _ a, .int _ s, .int _ g] => atV t a s g
 | 17, [.int _ t, .int _ a, .int _ s, .int _ g] => atE t a s g
 | 18, [.int _ r, .int _ a, .int _ s, .int _ p, .int _ g] => bnV r a s p g
 | 19, [.int _ a, .int _ s, .int _ g] => bnE a s g
 | 20, [.int _ e, .int _ b, .int _ t, .int _ r, .int _ gm, .int _ gs, .int _ pm, .int _ ps, .int _ p, .int _ c, .int _ k] => tmE e b t r gm gs pm ps p c k
 | 21, [.int _ e, .int _ b, .int _ t, .int _ r, .int _ gm, .int _ gs, .int _ pm, .int _ ps, .int _ p, .int _ c, .int _ k] => tmT e b t r gm gs pm ps p c k
 | 22, [.int _ e, .int _ b, .int _ t, .int _ r, .int _ gm, .int _ gs, .int _ pm, .int _ ps, .int _ p, .int _ c, .int _ k] => tmO e b t r gm gs pm ps p c k
 | 23, [.int _ t, .int _ a, .int _ s, .int _ T, .int _ c] => whI t a s T c
 | 24, [.int _ e, .int _ b, .int _ t, .int _ r, .int _ gm, .int _ gs, .int _ pm, .int _ ps, .int _ p, .int _ c, .int _ T] => whE e b t r gm gs pm ps p c T
 | 25, [.int _ e, .int _ b, .int _ t, .int _ r, .int _ gm, .int _ gs, .int _ pm, .int _ ps, .int _ p, .int _ c, .int _ T] => whV e b t r gm gs pm ps p c T
 | _, _ => 0
noncomputable def yaB : Nat → List Value → Bool
 | 0, [.int _ a, .int _ s] => decide (fmP a s)
 | 1, [.int _ e, .int _ b, .int _ t, .int _ r, .int _ gm, .int _ gs, .int _ pm, .int _ ps, .int _ p, .int _ c] => decide (pgP e b t r gm gs pm ps p c)
 | 2, [.int _ b] => p2B b
 | _, _ => false
noncomputable def yaV : Nat → List Value → Value
 | _, _ => Go.undef
noncomputable abbrev yaE (iv : List Int) (bv : List Bool) (vv : List Value) (sv : List ByteArray) : Env := { iv := iv, bv := bv, vv := vv, sv := sv, fi := yaI, fb := yaB, fv := yaV, et := 111 }
theorem yai_sz (k1 : IntKind) (a : Int) : yaI 0 [.int k1 a] = szE a := rfl
theorem yai_sa (k1 : IntKind) (a : Int) : yaI 1 [.int k1 a] = satE a := rfl
theorem yai_nv (k1 : IntKind) (a : Int) : yaI 2 [.int k1 a] = svE a := rfl
theorem yai_ne (k1 : IntKind) (a : Int) : yaI 3 [.int k1 a] = erE a := rfl
theorem yai_so (k1 : IntKind) (a : Int) : yaI 4 [.int k1 a] = soE a := rfl
theorem yai_bd (k1 : IntKind) (a : Int) (k2 : IntKind) (o : Int) : yaI 5 [.int k1 a, .int k2 o] = bdE a o := rfl
theorem yai_mdn (k1 : IntKind) (a : Int) (k2 : IntKind) (b : Int) (k3 : IntKind) (c : Int) : yaI 6 [.int k1 a, .int k2 b, .int k3 c] = mdN a b c := rfl
theorem yai_mde (k1 : IntKind) (a : Int) (k2 : IntKind) (b : Int) (k3 : IntKind) (c : Int) : yaI 7 [.int k1 a, .int k2 b, .int k3 c] = mdE a b c := rfl
theorem yai_msn (k1 : IntKind) (a : Int) (k2 : IntKind) (b : Int) (k3 : IntKind) (c : Int) : yaI 8 [.int k1 a, .int k2 b, .int k3 c] = msN a b c := rfl
theorem yai_mse (k1 : IntKind) (a : Int) (k2 : IntKind) (b : Int) (k3 : IntKind) (c : Int) : yaI 9 [.int k1 a, .int k2 b, .int k3 c] = msE a b c := rfl
theorem yai_up (k1 : IntKind) (g : Int) (k2 : IntKind) (r : Int) : yaI 10 [.int k1 g, .int k2 r] = upK (g * r) := rfl
theorem yai_hv (k1 : IntKind) (n : Int) (k2 : IntKind) (s : Int) : yaI 11 [.int k1 n, .int k2 s] = n / 2 ^ s.toNat := rfl
theorem yai_fe (k1 : IntKind) (a : Int) (k2 : IntKind) (s : Int) : yaI 13 [.int k1 a, .int k2 s] = feE a s := rfl
theorem yab_fm (k1 : IntKind) (a : Int) (k2 : IntKind) (s : Int) : yaB 0 [.int k1 a, .int k2 s] = decide (fmP a s) := rfl
theorem syso (s : ByteArray) : strOf (.string s) = s := rfl
theorem syse (a b : ByteArray) : strEq (.string a) (.string b) = (a == b) := rfl
theorem syio (k : IntKind) (n : Int) : intOf (.int k n) = n := rfl
theorem sybo (b : Bool) : boolOf (.bool b) = b := rfl
theorem typ_len {r : SK} {v : Value} {n : Nat} (h : typ (.sl r) v) (e : r.wd = n) (e0 : 0 < n) : ((rows v).length / n : Nat) ≤ 140737488355328 ∧ (rows v).length = (rows v).length / n * n := by
 obtain ⟨_, m, h1, h2, _⟩ := h
 rw [e] at h2
 rw [h2, Nat.mul_div_cancel _ e0]
 exact ⟨h1, rfl⟩
theorem sym : Tryz.prog.follows .mixedOrders = true := by kernel_rfl
abbrev syG : Glob := [(0, 0, asHandle)]
def toohigh_tree : Tree :=
 (.br (lt_ (.lit 0) v1_)
 (.ret (.bool (lt_ (wr_ (sb_ lM_ v1_)) v0_)))
 (.ret (.bool (.tt false))))
abbrev yac_toohigh : Con := ⟨151, [z0_, z1_], xryabndk1_, (.bool (lt_ lM_ (ad_ v0_ v1_))), ⟨2, 0, 0, 0⟩, none⟩
theorem toohigh_w : walk Tryz.prog 111 ⟨[], syG, [], [], []⟩ [] .v yac_toohigh yac_toohigh.n 3000 = some toohigh_tree := by kernel_rfl
theorem toohigh_h (a b : Int) : Hyp_ yac_toohigh toohigh_tree (yaE [a, b] [] [] []) := by
 intro hc hty
 simp only [yac_toohigh, Sy.holds, yaE, denV, denI, denB, denL, I2.den, VOp.den, List.getD_cons_zero, List.getD_cons_succ, Cst.den, syso, syse, syio, sybo, B2.ofInts, B2.denI, B2.denB, if_true, Bool.false_eq_true, if_false, Nat.div_one, Nat.mul_one, Nat.add_zero] at hc
 simp only [yac_toohigh, patsTyp, patTyp, patTypL, yaE, denV, denL, List.getD_cons_zero, List.getD_cons_succ, and_true, true_and] at hty
 unfold toohigh_tree
 simp only [yac_toohigh, Tree.holds, Sy.holds, yaE, denV, denI, denB, denL, I2.den, VOp.den, List.getD_cons_zero, List.getD_cons_succ, Cst.den, syso, syse, syio, sybo, B2.ofInts, B2.denI, B2.denB, if_true, Bool.false_eq_true, if_false, Nat.div_one, Nat.mul_one, Nat.add_zero]
 refine ⟨fun h0 => ?_, fun h0 => ?_⟩
 have wf0 := wr_i64 (9223372036854775807 - b)
 refine ?a0; rotate_left
 refine ?a1; rotate_left
 case a0 | a1 =>
  all_goals first | omega | rfl | (simp only [Value.tuple.injEq, Value.agg.injEq, Value.int.injEq, Value.bool.injEq, Array.mk.injEq, List.cons.injEq, true_and, and_true]; omega) | (refine congrArg Value.bool (Bool.eq_iff_iff.2 ?_); simp only [beq_iff_eq, decide_eq_true_eq, true_iff, false_iff, Bool.false_eq_true, Bool.not_eq_true', Bool.and_eq_true, Bool.or_eq_true, decide_eq_false_iff_not]; omega)
theorem yag_toohigh : yac_toohigh.Good Tryz.prog syG (yaE [] [] [] []) := good_of_walk (Γ := ⟨[], syG, [], [], []⟩) (ρ := yaE [] [] [] []) sym toohigh_w rfl (fun _ _ _ _ => ok_nil) toohigh_h
def toolow_tree : Tree :=
 (.br (lt_ v1_ (.lit 0))
 (.ret (.bool (lt_ v0_ (wr_ (sb_ lm_ v1_)))))
 (.ret (.bool (.tt false))))
abbrev yac_toolow : Con := ⟨152, [z0_, z1_], xryabndk1_, (.bool (lt_ (ad_ v0_ v1_) lm_)), ⟨2, 0, 0, 0⟩, none⟩
theorem toolow_w : walk Tryz.prog 111 ⟨[], syG, [], [], []⟩ [] .v yac_toolow yac_toolow.n 3000 = some toolow_tree := by kernel_rfl
theorem toolow_h (a b : Int) : Hyp_ yac_toolow toolow_tree (yaE [a, b] [] [] []) := by
 intro hc hty
 simp only [yac_toolow, Sy.holds, yaE, denV, denI, denB, denL, I2.den, VOp.den, List.getD_cons_zero, List.getD_cons_succ, Cst.den, syso, syse, syio, sybo, B2.ofInts, B2.denI, B2.denB, if_true, Bool.false_eq_true, if_false, Nat.div_one, Nat.mul_one, Nat.add_zero] at hc
 simp only [yac_toolow, patsTyp, patTyp, patTypL, yaE, denV, denL, List.getD_cons_zero, List.getD_cons_succ, and_true, true_and] at hty
 unfold toolow_tree
 simp only [yac_toolow, Tree.holds, Sy.holds, yaE, denV, denI, denB, denL, I2.den, VOp.den, List.getD_cons_zero, List.getD_cons_succ, Cst.den, syso, syse, syio, sybo, B2.ofInts, B2.denI, B2.denB, if_true, Bool.false_eq_true, if_false, Nat.div_one, Nat.mul_one, Nat.add_zero]
 refine ⟨fun h0 => ?_, fun h0 => ?_⟩
 have wf0 := wr_i64 ((-9223372036854775808) - b)
 refine ?a0; rotate_left
 refine ?a1; rotate_left
 case a0 | a1 =>
  all_goals first | omega | rfl | (simp only [Value.tuple.injEq, Value.agg.injEq, Value.int.injEq, Value.bool.injEq, Array.mk.injEq, List.cons.injEq, true_and, and_true]; omega) | (refine congrArg Value.bool (Bool.eq_iff_iff.2 ?_); simp only [beq_iff_eq, decide_eq_true_eq, true_iff, false_iff, Bool.false_eq_true, Bool.not_eq_true', Bool.and_eq_true, Bool.or_eq_true, decide_eq_false_iff_not]; omega)
theorem yag_toolow : yac_toolow.Good Tryz.prog syG (yaE [] [] [] []) := good_of_walk (Γ := ⟨[], syG, [], [], []⟩) (ρ := yaE [] [] [] []) sym toolow_w rfl (fun _ _ _ _ => ok_nil) toolow_h
def nadd_tree : Tree :=
 (.need xryabndk1_
 (.br (lt_ lM_ (ad_ v0_ v1_))
 (.ret xryabndk4_)
 (.need xryabndk1_
 (.br (lt_ (ad_ v0_ v1_) lm_)
 (.ret xryabndk4_)
 (.ret (.tup (.cons (.int .i64 (wr_ (ad_ v0_ v1_))) (.cons (.cst .nilI) .nil))))))))
abbrev yac_nadd : Con := ⟨113, [z0_, z1_], xryabndk1_, (.tup (.cons (.int .i64 (.iapp 2 (.cons (.int .i64 (ad_ v0_ v1_)) .nil))) (.cons (.err (.iapp 3 (.cons (.int .i64 (ad_ v0_ v1_)) .nil))) .nil))), ⟨2, 0, 0, 0⟩, none⟩
theorem nadd_w : walk Tryz.prog 111 ⟨[yac_toohigh, yac_toolow], syG, [], [], []⟩ [] .v yac_nadd yac_nadd.n 3000 = some nadd_tree := by kernel_rfl
theorem nadd_h (a b : Int) : Hyp_ yac_nadd nadd_tree (yaE [a, b] [] [] []) := by
 intro hc hty
 simp only [yac_nadd, Sy.holds, yaE, denV, denI, denB, denL, I2.den, VOp.den, List.getD_cons_zero, List.getD_cons_succ, Cst.den, syso, syse, syio, sybo, B2.ofInts, B2.denI, B2.denB, if_true, Bool.false_eq_true, if_false, Nat.div_one, Nat.mul_one, Nat.add_zero] at hc
 simp only [yac_nadd, patsTyp, patTyp, patTypL, yaE, denV, denL, List.getD_cons_zero, List.getD_cons_succ, and_true, true_and] at hty
 unfold nadd_tree
 simp only [yac_nadd, Tree.holds, Sy.holds, yaE, denV, denI, denB, denL, I2.den, VOp.den, List.getD_cons_zero, List.getD_cons_succ, Cst.den, syso, syse, syio, sybo, yai_nv, yai_ne, B2.ofInts, B2.denI, B2.denB, if_true, Bool.false_eq_true, if_false, Nat.div_one, Nat.mul_one, Nat.add_zero]
 refine ⟨?_, fun h0 => ?_⟩
 ·
  omega
 refine ⟨fun h1 => ?_, fun h1 => ?_⟩
 refine ?a0; rotate_left
 refine ⟨?_, fun h2 => ?_⟩
 ·
  omega
 refine ⟨fun h3 => ?_, fun h3 => ?_⟩
 refine ?a1; rotate_left
 have wf0 := wr_i64 (a + b)
 refine ?a2; rotate_left
 case a0 | a1 | a2 =>
  have hs := svE_spec (a + b)
  by_cases hr : -9223372036854775808 ≤ a + b ∧ a + b ≤ 9223372036854775807
  · have e1 : svE (a + b) = a + b := by omega
    have e2 : erE (a + b) = 0 := by omega
    rw [e1, e2]
    first
    | (exfalso; omega)
    | (rw [show IntKind.wrap .i64 (a + b) = a + b by omega]; rfl)
  · have e1 : svE (a + b) = 0 := by omega
    have e2 : erE (a + b) = 2 := by omega
    rw [e1, e2]
    first
    | (exfalso; omega)
    | rfl
theorem yag_nadd : yac_nadd.Good Tryz.prog syG (yaE [] [] [] []) := good_of_walk (Γ := ⟨[yac_toohigh, yac_toolow], syG, [], [], []⟩) (ρ := yaE [] [] [] []) sym nadd_w rfl (fun _ _ _ _ => (ok_cons (Con.Good.env yag_toohigh _ _ _ _) (ok_cons (Con.Good.env yag_toolow _ _ _ _) ok_nil))) nadd_h
def nsub_tree : Tree :=
 (.br (lt_ v1_ (.lit 0))
 (.br (lt_ (wr_ (ad_ lM_ v1_)) v0_)
 (.ret xryabndk4_)
 (.br (lt_ (.lit 0) v1_)
 (.br (lt_ v0_ (wr_ (ad_ lm_ v1_)))
 (.ret xryabndk4_)
 (.ret xryabndk9_))
 (.ret xryabndk9_)))
 (.br (lt_ (.lit 0) v1_)
 (.br (lt_ v0_ (wr_ (ad_ lm_ v1_)))
 (.ret xryabndk4_)
 (.ret xryabndk9_))
 (.ret xryabndk9_)))
abbrev yac_nsub : Con := ⟨131, [z0_, z1_], xryabndk1_, (.tup (.cons (.int .i64 (.iapp 2 (.cons (.int .i64 (sb_ v0_ v1_)) .nil))) (.cons (.err (.iapp 3 (.cons (.int .i64 (sb_ v0_ v1_)) .nil))) .nil))), ⟨2, 0, 0, 0⟩, none⟩
theorem nsub_w : walk Tryz.prog 111 ⟨[], syG, [], [], []⟩ [] .v yac_nsub yac_nsub.n 3000 = some nsub_tree := by kernel_rfl
theorem nsub_h (a b : Int) : Hyp_ yac_nsub nsub_tree (yaE [a, b] [] [] []) := by
 intro hc hty
 simp only [yac_nsub, Sy.holds, yaE, denV, denI, denB, denL, I2.den, VOp.den, List.getD_cons_zero, List.getD_cons_succ, Cst.den, syso, syse, syio, sybo, B2.ofInts, B2.denI, B2.denB, if_true, Bool.false_eq_true, if_false, Nat.div_one, Nat.mul_one, Nat.add_zero] at hc
 simp only [yac_nsub, patsTyp, patTyp, patTypL, yaE, denV, denL, List.getD_cons_zero, List.getD_cons_succ, and_true, true_and] at hty
 unfold nsub_tree
 simp only [yac_nsub, Tree.holds, Sy.holds, yaE, denV, denI, denB, denL, I2.den, VOp.den, List.getD_cons_zero, List.getD_cons_succ, Cst.den, syso, syse, syio, sybo, yai_nv, yai_ne, B2.ofInts, B2.denI, B2.denB, if_true, Bool.false_eq_true, if_false, Nat.div_one, Nat.mul_one, Nat.add_zero]
 refine ⟨fun h0 => ?_, fun h0 => ?_⟩
 have wf0 := wr_i64 (9223372036854775807 + b)
 refine ⟨fun h1 => ?_, fun h1 => ?_⟩
 refine ?a0; rotate_left
 refine ⟨fun h2 => ?_, fun h2 => ?_⟩
 have wf1 := wr_i64 ((-9223372036854775808) + b)
 refine ⟨fun h3 => ?_, fun h3 => ?_⟩
 refine ?a1; rotate_left
 have wf2 := wr_i64 (a - b)
 refine ?a2; rotate_left
 have wf3 := wr_i64 (a - b)
 refine ?a3; rotate_left
 refine ⟨fun h4 => ?_, fun h4 => ?_⟩
 have wf4 := wr_i64 ((-9223372036854775808) + b)
 refine ⟨fun h5 => ?_, fun h5 => ?_⟩
 refine ?a4; rotate_left
 have wf5 := wr_i64 (a - b)
 refine ?a5; rotate_left
 have wf6 := wr_i64 (a - b)
 refine ?a6; rotate_left
 case a0 | a1 | a2 | a3 | a4 | a5 | a6 =>
  have hs := svE_spec (a - b)
  by_cases hr : -9223372036854775808 ≤ a - b ∧ a - b ≤ 9223372036854775807
  · have e1 : svE (a - b) = a - b := by omega
    have e2 : erE (a - b) = 0 := by omega
    rw [e1, e2]
    first
    | (exfalso; omega)
    | (rw [show IntKind.wrap .i64 (a - b) = a - b by omega]; rfl)
  · have e1 : svE (a - b) = 0 := by omega
    have e2 : erE (a - b) = 2 := by omega
    rw [e1, e2]
    first
    | (exfalso; omega)
    | rfl
theorem yag_nsub : yac_nsub.Good Tryz.prog syG (yaE [] [] [] []) := good_of_walk (Γ := ⟨[], syG, [], [], []⟩) (ρ := yaE [] [] [] []) sym nsub_w rfl (fun _ _ _ _ => ok_nil) nsub_h
def subsat_tree : Tree :=
 (.need xryabndk1_
 (.br (eq_ (.iapp 3 (.cons (.int .i64 (sb_ v0_ v1_)) .nil)) (.lit 0))
 (.ret (.int .i64 (.iapp 2 (.cons (.int .i64 (sb_ v0_ v1_)) .nil))))
 (.br (lt_ v1_ (.lit 0))
 (.ret (.int .i64 lM_))
 (.ret (.int .i64 lm_)))))
abbrev yac_subsat : Con := ⟨81, [z0_, z1_], xryabndk1_, (.int .i64 (.iapp 1 (.cons (.int .i64 (sb_ v0_ v1_)) .nil))), ⟨2, 0, 0, 0⟩, none⟩
theorem subsat_w : walk Tryz.prog 111 ⟨[yac_nsub], syG, [], [], []⟩ [] .v yac_subsat yac_subsat.n 3000 = some subsat_tree := by kernel_rfl
theorem subsat_h (a b : Int) : Hyp_ yac_subsat subsat_tree (yaE [a, b] [] [] []) := by
 intro hc hty
 simp only [yac_subsat, Sy.holds, yaE, denV, denI, denB, denL, I2.den, VOp.den, List.getD_cons_zero, List.getD_cons_succ, Cst.den, syso, syse, syio, sybo, B2.ofInts, B2.denI, B2.denB, if_true, Bool.false_eq_true, if_false, Nat.div_one, Nat.mul_one, Nat.add_zero] at hc
 simp only [yac_subsat, patsTyp, patTyp, patTypL, yaE, denV, denL, List.getD_cons_zero, List.getD_cons_succ, and_true, true_and] at hty
 unfold subsat_tree
 simp only [yac_subsat, Tree.holds, Sy.holds, yaE, denV, denI, denB, denL, I2.den, VOp.den, List.getD_cons_zero, List.getD_cons_succ, Cst.den, syso, syse, syio, sybo, yai_sa, yai_nv, yai_ne, B2.ofInts, B2.denI, B2.denB, if_true, Bool.false_eq_true, if_false, Nat.div_one, Nat.mul_one, Nat.add_zero]
 refine ⟨?_, fun h0 => ?_⟩
 ·
  omega
 refine ⟨fun h1 => ?_, fun h1 => ?_⟩
 refine ?a0; rotate_left
 refine ⟨fun h2 => ?_, fun h2 => ?_⟩
 refine ?a1; rotate_left
 refine ?a2; rotate_left
 case a0 | a1 | a2 =>
  have hs := svE_spec (a - b)
  have ht := satE_spec (a - b)
  first
  | (exfalso; omega)
  | (rw [show satE (a - b) = svE (a - b) by omega]; done)
  | (rw [show satE (a - b) = 9223372036854775807 by omega]; done)
  | (rw [show satE (a - b) = -9223372036854775808 by omega]; done)
theorem yag_subsat : yac_subsat.Good Tryz.prog syG (yaE [] [] [] []) := good_of_walk (Γ := ⟨[yac_nsub], syG, [], [], []⟩) (ρ := yaE [] [] [] []) sym subsat_w rfl (fun _ _ _ _ => (ok_cons (Con.Good.env yag_nsub _ _ _ _) ok_nil)) subsat_h
def size_tree : Tree :=
 (.br (lt_ v0_ (.lit 0))
 (.need (an_ (le_ lm_ v0_) (le_ v0_ lM_))
 (.ret (.int .i64 (.iapp 1 (.cons (.int .i64 (sb_ (.lit 0) v0_)) .nil)))))
 (.ret z0_))
abbrev yac_size : Con := ⟨36, [z0_], (an_ (le_ lm_ v0_) (le_ v0_ lM_)), (.int .i64 (.iapp 0 (.cons z0_ .nil))), ⟨1, 0, 0, 0⟩, none⟩
theorem size_w : walk Tryz.prog 111 ⟨[yac_subsat], syG, [], [], []⟩ [] .v yac_size yac_size.n 3000 = some size_tree := by kernel_rfl
theorem size_h (a : Int) : Hyp_ yac_size size_tree (yaE [a] [] [] []) := by
 intro hc hty
 simp only [yac_size, Sy.holds, yaE, denV, denI, denB, denL, I2.den, VOp.den, List.getD_cons_zero, List.getD_cons_succ, Cst.den, syso, syse, syio, sybo, B2.ofInts, B2.denI, B2.denB, if_true, Bool.false_eq_true, if_false, Nat.div_one, Nat.mul_one, Nat.add_zero] at hc
 simp only [yac_size, patsTyp, patTyp, patTypL, yaE, denV, denL, List.getD_cons_zero, List.getD_cons_succ, and_true, true_and] at hty
 unfold size_tree
 simp only [yac_size, Tree.holds, Sy.holds, yaE, denV, denI, denB, denL, I2.den, VOp.den, List.getD_cons_zero, List.getD_cons_succ, Cst.den, syso, syse, syio, sybo, yai_sz, yai_sa, B2.ofInts, B2.denI, B2.denB, if_true, Bool.false_eq_true, if_false, Nat.div_one, Nat.mul_one, Nat.add_zero]
 refine ⟨fun h0 => ?_, fun h0 => ?_⟩
 refine ⟨?_, fun h1 => ?_⟩
 ·
  omega
 refine ?a0; rotate_left
 refine ?a1; rotate_left
 case a0 | a1 =>
  have hs := szE_spec a ⟨by omega, by omega⟩
  have ht := satE_spec (0 - a)
  first
  | (exfalso; omega)
  | (rw [show szE a = a by omega]; done)
  | (rw [show szE a = satE (0 - a) by omega]; done)
theorem yag_size : yac_size.Good Tryz.prog syG (yaE [] [] [] []) := good_of_walk (Γ := ⟨[yac_subsat], syG, [], [], []⟩) (ρ := yaE [] [] [] []) sym size_w rfl (fun _ _ _ _ => (ok_cons (Con.Good.env yag_subsat _ _ _ _) ok_nil)) size_h
def addsat_tree : Tree :=
 (.need xryabndk1_
 (.br (lt_ lM_ (ad_ v0_ v1_))
 (.ret (.int .i64 lM_))
 (.need xryabndk1_
 (.br (lt_ (ad_ v0_ v1_) lm_)
 (.ret (.int .i64 lm_))
 (.ret (.int .i64 (wr_ (ad_ v0_ v1_))))))))
abbrev yac_addsat : Con := ⟨112, [z0_, z1_], xryabndk1_, (.int .i64 (.iapp 1 (.cons (.int .i64 (ad_ v0_ v1_)) .nil))), ⟨2, 0, 0, 0⟩, none⟩
theorem addsat_w : walk Tryz.prog 111 ⟨[yac_toohigh, yac_toolow], syG, [], [], []⟩ [] .v yac_addsat yac_addsat.n 3000 = some addsat_tree := by kernel_rfl
theorem addsat_h (a b : Int) : Hyp_ yac_addsat addsat_tree (yaE [a, b] [] [] []) := by
 intro hc hty
 simp only [yac_addsat, Sy.holds, yaE, denV, denI, denB, denL, I2.den, VOp.den, List.getD_cons_zero, List.getD_cons_succ, Cst.den, syso, syse, syio, sybo, B2.ofInts, B2.denI, B2.denB, if_true, Bool.false_eq_true, if_false, Nat.div_one, Nat.mul_one, Nat.add_zero] at hc
 simp only [yac_addsat, patsTyp, patTyp, patTypL, yaE, denV, denL, List.getD_cons_zero, List.getD_cons_succ, and_true, true_and] at hty
 unfold addsat_tree
 simp only [yac_addsat, Tree.holds, Sy.holds, yaE, denV, denI, denB, denL, I2.den, VOp.den, List.getD_cons_zero, List.getD_cons_succ, Cst.den, syso, syse, syio, sybo, yai_sa, B2.ofInts, B2.denI, B2.denB, if_true, Bool.false_eq_true, if_false, Nat.div_one, Nat.mul_one, Nat.add_zero]
 refine ⟨?_, fun h0 => ?_⟩
 ·
  omega
 refine ⟨fun h1 => ?_, fun h1 => ?_⟩
 refine ?a0; rotate_left
 refine ⟨?_, fun h2 => ?_⟩
 ·
  omega
 refine ⟨fun h3 => ?_, fun h3 => ?_⟩
 refine ?a1; rotate_left
 have wf0 := wr_i64 (a + b)
 refine ?a2; rotate_left
 case a0 | a1 | a2 =>
  have ht := satE_spec (a + b)
  first
  | (exfalso; omega)
  | (rw [show satE (a + b) = IntKind.wrap .i64 (a + b) by omega]; done)
  | (rw [show satE (a + b) = 9223372036854775807 by omega]; done)
  | (rw [show satE (a + b) = -9223372036854775808 by omega]; done)
theorem yag_addsat : yac_addsat.Good Tryz.prog syG (yaE [] [] [] []) := good_of_walk (Γ := ⟨[yac_toohigh, yac_toolow], syG, [], [], []⟩) (ρ := yaE [] [] [] []) sym addsat_w rfl (fun _ _ _ _ => (ok_cons (Con.Good.env yag_toohigh _ _ _ _) (ok_cons (Con.Good.env yag_toolow _ _ _ _) ok_nil))) addsat_h
def rsum_tree : Tree :=
 (.br (lt_ (.lit 0) v1_)
 (.br (lt_ (wr_ (sb_ lM_ v1_)) v0_)
 (.ret xryabndk2_)
 (.br (lt_ v1_ (.lit 0))
 (.br (lt_ v0_ (wr_ (sb_ lm_ v1_)))
 (.ret (.tup (.cons (.int .i64 (.lit 0)) (.cons (.int .i64 (.lit (-1))) .nil))))
 (.ret xryabndk6_))
 (.ret xryabndk6_)))
 (.br (lt_ v1_ (.lit 0))
 (.br (lt_ v0_ (wr_ (sb_ lm_ v1_)))
 (.ret (.tup (.cons (.int .i64 (.lit 0)) (.cons (.int .i64 (.lit (-1))) .nil))))
 (.ret xryabndk6_))
 (.ret xryabndk6_)))
abbrev yac_rsum : Con := ⟨67, [z0_, z1_], xryabndk1_, (.tup (.cons (.int .i64 (.iapp 2 (.cons (.int .i64 (ad_ v0_ v1_)) .nil))) (.cons (.int .i64 (.iapp 4 (.cons (.int .i64 (ad_ v0_ v1_)) .nil))) .nil))), ⟨2, 0, 0, 0⟩, none⟩
theorem rsum_w : walk Tryz.prog 111 ⟨[], syG, [], [], []⟩ [] .v yac_rsum yac_rsum.n 3000 = some rsum_tree := by kernel_rfl
theorem rsum_h (a b : Int) : Hyp_ yac_rsum rsum_tree (yaE [a, b] [] [] []) := by
 intro hc hty
 simp only [yac_rsum, Sy.holds, yaE, denV, denI, denB, denL, I2.den, VOp.den, List.getD_cons_zero, List.getD_cons_succ, Cst.den, syso, syse, syio, sybo, B2.ofInts, B2.denI, B2.denB, if_true, Bool.false_eq_true, if_false, Nat.div_one, Nat.mul_one, Nat.add_zero] at hc
 simp only [yac_rsum, patsTyp, patTyp, patTypL, yaE, denV, denL, List.getD_cons_zero, List.getD_cons_succ, and_true, true_and] at hty
 unfold rsum_tree
 simp only [yac_rsum, Tree.holds, Sy.holds, yaE, denV, denI, denB, denL, I2.den, VOp.den, List.getD_cons_zero, List.getD_cons_succ, Cst.den, syso, syse, syio, sybo, yai_nv, yai_so, B2.ofInts, B2.denI, B2.denB, if_true, Bool.false_eq_true, if_false, Nat.div_one, Nat.mul_one, Nat.add_zero]
 refine ⟨fun h0 => ?_, fun h0 => ?_⟩
 have wf0 := wr_i64 (9223372036854775807 - b)
 refine ⟨fun h1 => ?_, fun h1 => ?_⟩
 refine ?a0; rotate_left
 refine ⟨fun h2 => ?_, fun h2 => ?_⟩
 have wf1 := wr_i64 ((-9223372036854775808) - b)
 refine ⟨fun h3 => ?_, fun h3 => ?_⟩
 refine ?a1; rotate_left
 have wf2 := wr_i64 (a + b)
 refine ?a2; rotate_left
 have wf3 := wr_i64 (a + b)
 refine ?a3; rotate_left
 refine ⟨fun h4 => ?_, fun h4 => ?_⟩
 have wf4 := wr_i64 ((-9223372036854775808) - b)
 refine ⟨fun h5 => ?_, fun h5 => ?_⟩
 refine ?a4; rotate_left
 have wf5 := wr_i64 (a + b)
 refine ?a5; rotate_left
 have wf6 := wr_i64 (a + b)
 refine ?a6; rotate_left
 case a0 | a1 | a2 | a3 | a4 | a5 | a6 =>
  have hs := svE_spec (a + b)
  first
  | (exfalso; omega)
  | (rw [show svE (a + b) = IntKind.wrap .i64 (a + b) by omega, show soE (a + b) = 0 by omega]; done)
  | (rw [show svE (a + b) = 0 by omega, show soE (a + b) = 1 by omega]; done)
  | (rw [show svE (a + b) = 0 by omega, show soE (a + b) = -1 by omega]; done)
theorem yag_rsum : yac_rsum.Good Tryz.prog syG (yaE [] [] [] []) := good_of_walk (Γ := ⟨[], syG, [], [], []⟩) (ρ := yaE [] [] [] []) sym rsum_w rfl (fun _ _ _ _ => ok_nil) rsum_h
def rbound_tree : Tree :=
 (.br (lt_ (.lit 0) v1_)
 (.ret (.int .i64 lM_))
 (.br (lt_ v1_ (.lit 0))
 (.ret (.int .i64 lm_))
 (.ret z0_)))
abbrev yac_rbound : Con := ⟨71, [z0_, z1_], (.tt true), (.int .i64 (.iapp 5 (.cons z0_ (.cons z1_ .nil)))), ⟨2, 0, 0, 0⟩, none⟩
theorem rbound_w : walk Tryz.prog 111 ⟨[], syG, [], [], []⟩ [] .v yac_rbound yac_rbound.n 3000 = some rbound_tree := by kernel_rfl
theorem rbound_h (n o : Int) : Hyp_ yac_rbound rbound_tree (yaE [n, o] [] [] []) := by
 intro hc hty
 simp only [yac_rbound, Sy.holds, yaE, denV, denI, denB, denL, I2.den, VOp.den, List.getD_cons_zero, List.getD_cons_succ, Cst.den, syso, syse, syio, sybo, B2.ofInts, B2.denI, B2.denB, if_true, Bool.false_eq_true, if_false, Nat.div_one, Nat.mul_one, Nat.add_zero] at hc
 simp only [yac_rbound, patsTyp, patTyp, patTypL, yaE, denV, denL, List.getD_cons_zero, List.getD_cons_succ, and_true, true_and] at hty
 unfold rbound_tree
 simp only [yac_rbound, Tree.holds, Sy.holds, yaE, denV, denI, denB, denL, I2.den, VOp.den, List.getD_cons_zero, List.getD_cons_succ, Cst.den, syso, syse, syio, sybo, yai_bd, B2.ofInts, B2.denI, B2.denB, if_true, Bool.false_eq_true, if_false, Nat.div_one, Nat.mul_one, Nat.add_zero]
 refine ⟨fun h0 => ?_, fun h0 => ?_⟩
 refine ?a0; rotate_left
 refine ⟨fun h1 => ?_, fun h1 => ?_⟩
 refine ?a1; rotate_left
 refine ?a2; rotate_left
 case a0 | a1 | a2 =>
  have hs := bdE_spec n o
  first
  | (exfalso; omega)
  | (rw [show bdE n o = n by omega]; done)
  | (rw [show bdE n o = 9223372036854775807 by omega]; done)
  | (rw [show bdE n o = -9223372036854775808 by omega]; done)
theorem yag_rbound : yac_rbound.Good Tryz.prog syG (yaE [] [] [] []) := good_of_walk (Γ := ⟨[], syG, [], [], []⟩) (ρ := yaE [] [] [] []) sym rbound_w rfl (fun _ _ _ _ => ok_nil) rbound_h
abbrev yac_msh : Con := ⟨147, [z0_, (.int .u32 v1_), z2_], (an_ (an_ (le_ lm_ v0_) (le_ v0_ lM_)) (an_ (an_ (le_ (.lit 0) v1_) (le_ v1_ (.lit 4294967295))) (an_ (le_ lm_ v2_) (le_ v2_ lM_)))), (.tup (.cons (.int .i64 (.iapp 8 (.cons z0_ (.cons (.int .u32 v1_) (.cons z2_ .nil))))) (.cons (.err (.iapp 9 (.cons z0_ (.cons (.int .u32 v1_) (.cons z2_ .nil))))) .nil))), ⟨3, 0, 0, 0⟩, none⟩
theorem yag_msh : yac_msh.Good Tryz.prog syG (yaE [] [] [] []) := good_flat rfl rfl rfl (by
 intro a b c hc β ok w hG
 have hc' := hc
 simp only [Tree.holds, Sy.holds, AllN, Env.more, yaE, List.cons_append, List.nil_append, List.append_nil, denV, denI, denB, denL, I2.den, VOp.den, List.getD_cons_zero, List.getD_cons_succ, Cst.den, syso, syse, syio, sybo, yai_msn, yai_mse, List.map_nil, List.map_cons, B2.ofInts, B2.denI, B2.denB, if_true, Bool.false_eq_true, if_false, Nat.div_one, Nat.mul_one, Nat.add_zero, holds] at hc
 exact msh_any a b c w hc.1 hc.2.1.1 (by have := hc.2.1.2; omega) hc.2.2)
abbrev yac_rmsh : Con := ⟨121, [z0_, (.int .u32 v1_), z2_], (an_ (an_ (an_ (le_ lm_ v0_) (le_ v0_ lM_)) (an_ (an_ (le_ (.lit 0) v1_) (le_ v1_ (.lit 4294967295))) (an_ (le_ lm_ v2_) (le_ v2_ lM_)))) (le_ (.lit 0) v0_)), (.tup (.cons (.int .i64 (.iapp 8 (.cons z0_ (.cons (.int .u32 v1_) (.cons z2_ .nil))))) (.cons (.int .i64 (.iapp 9 (.cons z0_ (.cons (.int .u32 v1_) (.cons z2_ .nil))))) .nil))), ⟨3, 0, 0, 0⟩, none⟩
theorem yag_rmsh : yac_rmsh.Good Tryz.prog syG (yaE [] [] [] []) := good_flat rfl rfl rfl (by
 intro a b c hc β ok w hG
 have hc' := hc
 simp only [Tree.holds, Sy.holds, AllN, Env.more, yaE, List.cons_append, List.nil_append, List.append_nil, denV, denI, denB, denL, I2.den, VOp.den, List.getD_cons_zero, List.getD_cons_succ, Cst.den, syso, syse, syio, sybo, yai_msn, yai_mse, List.map_nil, List.map_cons, B2.ofInts, B2.denI, B2.denB, if_true, Bool.false_eq_true, if_false, Nat.div_one, Nat.mul_one, Nat.add_zero, holds] at hc
 exact rms_pos a b c w hc.1.1 hc.2 hc.1.2.1.1 (by have := hc.1.2.1.2; omega) hc.1.2.2)
abbrev yac_mdiv : Con := ⟨111, [z0_, z1_, z2_], (an_ (an_ (le_ lm_ v0_) (le_ v0_ lM_)) (an_ (an_ (le_ lm_ v1_) (le_ v1_ lM_)) (an_ (le_ lm_ v2_) (le_ v2_ lM_)))), (.tup (.cons (.int .i64 (.iapp 6 (.cons z0_ (.cons z1_ (.cons z2_ .nil))))) (.cons (.err (.iapp 7 (.cons z0_ (.cons z1_ (.cons z2_ .nil))))) .nil))), ⟨3, 0, 0, 0⟩, none⟩
theorem yag_mdiv : yac_mdiv.Good Tryz.prog syG (yaE [] [] [] []) := good_flat rfl rfl rfl (by
 intro a b c hc β ok w hG
 have hc' := hc
 simp only [Tree.holds, Sy.holds, AllN, Env.more, yaE, List.cons_append, List.nil_append, List.append_nil, denV, denI, denB, denL, I2.den, VOp.den, List.getD_cons_zero, List.getD_cons_succ, Cst.den, syso, syse, syio, sybo, yai_mdn, yai_mde, List.map_nil, List.map_cons, B2.ofInts, B2.denI, B2.denB, if_true, Bool.false_eq_true, if_false, Nat.div_one, Nat.mul_one, Nat.add_zero, holds] at hc
 exact mdiv_any a b c w hc.1 hc.2.1 hc.2.2)
abbrev yac_rmore : Con := ⟨155, [z0_, z1_], (an_ (le_ (.lit 0) v0_) (an_ (le_ v0_ (.lit 2097152)) (an_ (le_ (.lit 0) v1_) (le_ v1_ lM_)))), (.int .i64 (.iapp 10 (.cons z1_ (.cons z0_ .nil)))), ⟨2, 0, 0, 0⟩, none⟩
theorem yag_rmore : yac_rmore.Good Tryz.prog syG (yaE [] [] [] []) := good_flat rfl rfl rfl (by
 intro r g hc β ok w hG
 have hc' := hc
 simp only [Tree.holds, Sy.holds, AllN, Env.more, yaE, List.cons_append, List.nil_append, List.append_nil, denV, denI, denB, denL, I2.den, VOp.den, List.getD_cons_zero, List.getD_cons_succ, Cst.den, syso, syse, syio, sybo, yai_up, List.map_nil, List.map_cons, B2.ofInts, B2.denI, B2.denB, if_true, Bool.false_eq_true, if_false, Nat.div_one, Nat.mul_one, Nat.add_zero, holds] at hc
 exact rmore17 r g w hc.1 hc.2.1 hc.2.2.1 hc.2.2.2)
def rcheck_tree : Tree :=
 (.br (eq_ v0_ (.lit 0))
 (.ret (.iface 111 (.int .i64 (.lit 1))))
 (.br (lt_ v1_ (.lit 0))
 (.ret (.iface 111 (.int .i64 (.lit 1))))
 (.br (lt_ (.lit 31) v1_)
 (.ret (.iface 111 (.int .i64 (.lit 1))))
 (.ret (.cst .nilI)))))
abbrev yac_rcheck : Con := ⟨48, [xryabndk8_], xryabndk0_, (.err (.iapp 13 (.cons (.int .u32 v0_) (.cons z1_ .nil)))), ⟨2, 0, 0, 0⟩, none⟩
theorem rcheck_w : walk Tryz.prog 111 ⟨[], syG, [], [], []⟩ [] .v yac_rcheck yac_rcheck.n 3000 = some rcheck_tree := by kernel_rfl
theorem rcheck_h (a s : Int) : Hyp_ yac_rcheck rcheck_tree (yaE [a, s] [] [] []) := by
 intro hc hty
 simp only [yac_rcheck, Sy.holds, yaE, denV, denI, denB, denL, I2.den, VOp.den, List.getD_cons_zero, List.getD_cons_succ, Cst.den, syso, syse, syio, sybo, B2.ofInts, B2.denI, B2.denB, if_true, Bool.false_eq_true, if_false, Nat.div_one, Nat.mul_one, Nat.add_zero] at hc
 simp only [yac_rcheck, patsTyp, patTyp, patTypL, yaE, denV, denL, List.getD_cons_zero, List.getD_cons_succ, and_true, true_and] at hty
 unfold rcheck_tree
 simp only [yac_rcheck, Tree.holds, Sy.holds, yaE, denV, denI, denB, denL, I2.den, VOp.den, List.getD_cons_zero, List.getD_cons_succ, Cst.den, syso, syse, syio, sybo, yai_fe, B2.ofInts, B2.denI, B2.denB, if_true, Bool.false_eq_true, if_false, Nat.div_one, Nat.mul_one, Nat.add_zero]
 refine ⟨fun h0 => ?_, fun h0 => ?_⟩
 refine ?a0; rotate_left
 refine ⟨fun h1 => ?_, fun h1 => ?_⟩
 refine ?a1; rotate_left
 refine ⟨fun h2 => ?_, fun h2 => ?_⟩
 refine ?a2; rotate_left
 refine ?a3; rotate_left
 case a0 | a1 | a2 | a3 =>
  first
  | (rw [feE_y (show fmP a s from ⟨by omega, by omega, by omega⟩)]; rfl)
  | (rw [feE_n (show ¬ fmP a s from fun hx => by unfold fmP at hx; omega)]; rfl)
theorem yag_rcheck : yac_rcheck.Good Tryz.prog syG (yaE [] [] [] []) := good_of_walk (Γ := ⟨[], syG, [], [], []⟩) (ρ := yaE [] [] [] []) sym rcheck_w rfl (fun _ _ _ _ => ok_nil) rcheck_h
def rfmay_tree : Tree :=
 (.br (lt_ (.lit 0) v0_)
 (.br (le_ (.lit 0) v1_)
 (.ret (.bool (le_ v1_ (.lit 31))))
 (.ret (.bool (.tt false))))
 (.ret (.bool (.tt false))))
abbrev yac_rfmay : Con := ⟨49, [xryabndk8_], xryabndk0_, (.bool xryabndk5_), ⟨2, 0, 0, 0⟩, none⟩
theorem rfmay_w : walk Tryz.prog 111 ⟨[], syG, [], [], []⟩ [] .v yac_rfmay yac_rfmay.n 3000 = some rfmay_tree := by kernel_rfl
theorem rfmay_h (a s : Int) : Hyp_ yac_rfmay rfmay_tree (yaE [a, s] [] [] []) := by
 intro hc hty
 simp only [yac_rfmay, Sy.holds, yaE, denV, denI, denB, denL, I2.den, VOp.den, List.getD_cons_zero, List.getD_cons_succ, Cst.den, syso, syse, syio, sybo, B2.ofInts, B2.denI, B2.denB, if_true, Bool.false_eq_true, if_false, Nat.div_one, Nat.mul_one, Nat.add_zero] at hc
 simp only [yac_rfmay, patsTyp, patTyp, patTypL, yaE, denV, denL, List.getD_cons_zero, List.getD_cons_succ, and_true, true_and] at hty
 unfold rfmay_tree
 simp only [yac_rfmay, Tree.holds, Sy.holds, yaE, denV, denI, denB, denL, I2.den, VOp.den, List.getD_cons_zero, List.getD_cons_succ, Cst.den, syso, syse, syio, sybo, yab_fm, B2.ofInts, B2.denI, B2.denB, if_true, Bool.false_eq_true, if_false, Nat.div_one, Nat.mul_one, Nat.add_zero]
 refine ⟨fun h0 => ?_, fun h0 => ?_⟩
 refine ⟨fun h1 => ?_, fun h1 => ?_⟩
 refine ?a0; rotate_left
 refine ?a1; rotate_left
 refine ?a2; rotate_left
 case a0 | a1 | a2 =>
  refine congrArg Value.bool ?_
  first
  | exact (decide_eq_true (show fmP a s from ⟨by omega, by omega, by omega⟩)).symm
  | exact (decide_eq_false (show ¬ fmP a s from fun hx => by unfold fmP at hx; omega)).symm
  | exact decide_eq_decide.2 ⟨fun h => ⟨by omega, by omega, h⟩, fun h => h.2.2⟩
theorem yag_rfmay : yac_rfmay.Good Tryz.prog syG (yaE [] [] [] []) := good_of_walk (Γ := ⟨[], syG, [], [], []⟩) (ρ := yaE [] [] [] []) sym rfmay_w rfl (fun _ _ _ _ => ok_nil) rfmay_h
def scale_tree : Tree :=
 (.need xryabndk0_
 (.br (.not (eq_ (.iapp 13 (.cons (.int .u32 v0_) (.cons z1_ .nil))) (.lit 0)))
 (.ret (.tup (.cons (.int .i64 (.lit 0)) (.cons (.err (.iapp 13 (.cons (.int .u32 v0_) (.cons z1_ .nil)))) .nil))))
 (.need (an_ (an_ (le_ lm_ v2_) (le_ v2_ lM_)) xryabndk0_)
 (.ret (.tup (.cons (.int .i64 (.iapp 8 (.cons z2_ (.cons (.int .u32 v0_) (.cons z1_ .nil))))) (.cons (.err (.iapp 9 (.cons z2_ (.cons (.int .u32 v0_) (.cons z1_ .nil))))) .nil)))))))
abbrev yac_scale : Con := ⟨110, [xryabndk8_, z2_], (an_ xryabndk0_ (an_ xryabndk5_ (an_ (le_ lm_ v2_) (le_ v2_ lM_)))), (.tup (.cons (.int .i64 (.iapp 8 (.cons z2_ (.cons (.int .u32 v0_) (.cons z1_ .nil))))) (.cons (.err (.iapp 9 (.cons z2_ (.cons (.int .u32 v0_) (.cons z1_ .nil))))) .nil))), ⟨3, 0, 0, 0⟩, none⟩
theorem scale_w : walk Tryz.prog 111 ⟨[yac_rcheck, yac_msh], syG, [], [], []⟩ [] .v yac_scale yac_scale.n 3000 = some scale_tree := by kernel_rfl
theorem scale_h (a s n : Int) : Hyp_ yac_scale scale_tree (yaE [a, s, n] [] [] []) := by
 intro hc hty
 simp only [yac_scale, Sy.holds, yaE, denV, denI, denB, denL, I2.den, VOp.den, List.getD_cons_zero, List.getD_cons_succ, Cst.den, syso, syse, syio, sybo, yab_fm, B2.ofInts, B2.denI, B2.denB, if_true, Bool.false_eq_true, if_false, Nat.div_one, Nat.mul_one, Nat.add_zero] at hc
 simp only [yac_scale, patsTyp, patTyp, patTypL, yaE, denV, denL, List.getD_cons_zero, List.getD_cons_succ, and_true, true_and] at hty
 unfold scale_tree
 simp only [yac_scale, Tree.holds, Sy.holds, yaE, denV, denI, denB, denL, I2.den, VOp.den, List.getD_cons_zero, List.getD_cons_succ, Cst.den, syso, syse, syio, sybo, yai_msn, yai_mse, yai_fe, B2.ofInts, B2.denI, B2.denB, if_true, Bool.false_eq_true, if_false, Nat.div_one, Nat.mul_one, Nat.add_zero]
 have hf : fmP a s := of_decide_eq_true hc.2.1
 have hf0 := hf
 unfold fmP at hf0
 refine ⟨?_, fun h0 => ?_⟩
 refine ?a0; rotate_left
 refine ⟨fun h1 => ?_, fun h1 => ?_⟩
 refine ?a1; rotate_left
 refine ⟨?_, fun h2 => ?_⟩
 refine ?a2; rotate_left
 refine ?a3; rotate_left
 case a0 | a1 | a2 | a3 =>
  first
  | omega
  | exact hc.1.1
  | exact hc.1.2
  | exact hc.2.1
  | exact hc.2.2
  | exact hc
  | (rw [feE_y hf]; done)
  | (rw [feE_y hf] at *; simp at *; done)
  | rfl
  | (simp only [feE_y hf] at *; omega)
  | (simp_all; done)
theorem yag_scale : yac_scale.Good Tryz.prog syG (yaE [] [] [] []) := good_of_walk (Γ := ⟨[yac_rcheck, yac_msh], syG, [], [], []⟩) (ρ := yaE [] [] [] []) sym scale_w rfl (fun _ _ _ _ => (ok_cons (Con.Good.env yag_rcheck _ _ _ _) (ok_cons (Con.Good.env yag_msh _ _ _ _) ok_nil))) scale_h
def rscale_tree : Tree :=
 (.need xryabndk0_
 (.br (.not xryabndk5_)
 (.ret xryabndk2_)
 (.need (an_ (an_ (an_ (le_ lm_ v2_) (le_ v2_ lM_)) xryabndk0_) (le_ (.lit 0) v2_))
 (.ret (.tup (.cons (.int .i64 (.iapp 8 (.cons z2_ (.cons (.int .u32 v0_) (.cons z1_ .nil))))) (.cons (.int .i64 (.iapp 9 (.cons z2_ (.cons (.int .u32 v0_) (.cons z1_ .nil))))) .nil)))))))
abbrev yac_rscale : Con := ⟨66, [xryabndk8_, z2_], (an_ xryabndk0_ (an_ xryabndk5_ (an_ (an_ (le_ lm_ v2_) (le_ v2_ lM_)) (le_ (.lit 0) v2_)))), (.tup (.cons (.int .i64 (.iapp 8 (.cons z2_ (.cons (.int .u32 v0_) (.cons z1_ .nil))))) (.cons (.int .i64 (.iapp 9 (.cons z2_ (.cons (.int .u32 v0_) (.cons z1_ .nil))))) .nil))), ⟨3, 0, 0, 0⟩, none⟩
theorem rscale_w : walk Tryz.prog 111 ⟨[yac_rfmay, yac_rmsh], syG, [], [], []⟩ [] .v yac_rscale yac_rscale.n 3000 = some rscale_tree := by kernel_rfl
theorem rscale_h (a s n : Int) : Hyp_ yac_rscale rscale_tree (yaE [a, s, n] [] [] []) := by
 intro hc hty
 simp only [yac_rscale, Sy.holds, yaE, denV, denI, denB, denL, I2.den, VOp.den, List.getD_cons_zero, List.getD_cons_succ, Cst.den, syso, syse, syio, sybo, yab_fm, B2.ofInts, B2.denI, B2.denB, if_true, Bool.false_eq_true, if_false, Nat.div_one, Nat.mul_one, Nat.add_zero] at hc
 simp only [yac_rscale, patsTyp, patTyp, patTypL, yaE, denV, denL, List.getD_cons_zero, List.getD_cons_succ, and_true, true_and] at hty
 unfold rscale_tree
 simp only [yac_rscale, Tree.holds, Sy.holds, yaE, denV, denI, denB, denL, I2.den, VOp.den, List.getD_cons_zero, List.getD_cons_succ, Cst.den, syso, syse, syio, sybo, yai_msn, yai_mse, yab_fm, B2.ofInts, B2.denI, B2.denB, if_true, Bool.false_eq_true, if_false, Nat.div_one, Nat.mul_one, Nat.add_zero]
 have hf : fmP a s := of_decide_eq_true hc.2.1
 have hf0 := hf
 unfold fmP at hf0
 refine ⟨?_, fun h0 => ?_⟩
 refine ?a0; rotate_left
 refine ⟨fun h1 => ?_, fun h1 => ?_⟩
 refine ?a1; rotate_left
 refine ⟨?_, fun h2 => ?_⟩
 refine ?a2; rotate_left
 refine ?a3; rotate_left
 case a0 | a1 | a2 | a3 =>
  first
  | omega
  | exact hc.1.1
  | exact hc.1.2
  | exact hc.2.1
  | exact hc.2.2
  | exact hc
  | (rw [feE_y hf]; done)
  | (rw [feE_y hf] at *; simp at *; done)
  | rfl
  | (simp only [feE_y hf] at *; omega)
  | (simp_all; done)
theorem yag_rscale : yac_rscale.Good Tryz.prog syG (yaE [] [] [] []) := good_of_walk (Γ := ⟨[yac_rfmay, yac_rmsh], syG, [], [], []⟩) (ρ := yaE [] [] [] []) sym rscale_w rfl (fun _ _ _ _ => (ok_cons (Con.Good.env yag_rfmay _ _ _ _) (ok_cons (Con.Good.env yag_rmsh _ _ _ _) ok_nil))) rscale_h
def off_tree : Tree :=
 (.need xryabndk0_
 (.br (.not (eq_ (.iapp 13 (.cons (.int .u32 v0_) (.cons z1_ .nil))) (.lit 0)))
 (.ret xryabndk3_)
 (.br (lt_ v2_ (.lit 0))
 (.ret xryabndk3_)
 (.need (le_ (.lit 0) v1_)
 (.need (an_ (le_ lm_ (.i2 (.shr .i64) v2_ v1_)) (le_ (.i2 (.shr .i64) v2_ v1_) lM_))
 (.ret (.tup (.cons (.int .i64 (.iapp 2 (.cons (.int .i64 (ad_ (.i2 (.shr .i64) v2_ v1_) (.lit 2))) .nil))) (.cons (.err (.iapp 3 (.cons (.int .i64 (ad_ (.i2 (.shr .i64) v2_ v1_) (.lit 2))) .nil))) .nil)))))))))
abbrev yac_off : Con := ⟨63, [xryabndk8_, z2_], (an_ xryabndk0_ (an_ xryabndk5_ (an_ (le_ (.lit 0) v2_) (le_ v2_ (.lit 1125899906842624))))), (.tup (.cons (.int .i64 (ad_ (.iapp 11 (.cons z2_ (.cons z1_ .nil))) (.lit 2))) (.cons (.err (.lit 0)) .nil))), ⟨3, 0, 0, 0⟩, none⟩
theorem off_w : walk Tryz.prog 111 ⟨[yac_rcheck, yac_nadd], syG, [], [], []⟩ [] .v yac_off yac_off.n 3000 = some off_tree := by kernel_rfl
theorem off_h (a s n : Int) : Hyp_ yac_off off_tree (yaE [a, s, n] [] [] []) := by
 intro hc hty
 simp only [yac_off, Sy.holds, yaE, denV, denI, denB, denL, I2.den, VOp.den, List.getD_cons_zero, List.getD_cons_succ, Cst.den, syso, syse, syio, sybo, yab_fm, B2.ofInts, B2.denI, B2.denB, if_true, Bool.false_eq_true, if_false, Nat.div_one, Nat.mul_one, Nat.add_zero] at hc
 simp only [yac_off, patsTyp, patTyp, patTypL, yaE, denV, denL, List.getD_cons_zero, List.getD_cons_succ, and_true, true_and] at hty
 unfold off_tree
 simp only [yac_off, Tree.holds, Sy.holds, yaE, denV, denI, denB, denL, I2.den, VOp.den, List.getD_cons_zero, List.getD_cons_succ, Cst.den, syso, syse, syio, sybo, yai_nv, yai_ne, yai_hv, yai_fe, B2.ofInts, B2.denI, B2.denB, if_true, Bool.false_eq_true, if_false, Nat.div_one, Nat.mul_one, Nat.add_zero]
 have hf : fmP a s := of_decide_eq_true hc.2.1
 have hf0 := hf
 unfold fmP at hf0
 have hb := hv_bd (n := n) (s := s) hc.2.2.1
 have he := shr_hv (n := n) hf0.2.1 hf0.2.2
 have hs := svE_spec (n / 2 ^ s.toNat + 2)
 refine ⟨?_, fun h0 => ?_⟩
 refine ?a0; rotate_left
 refine ⟨fun h1 => ?_, fun h1 => ?_⟩
 refine ?a1; rotate_left
 refine ⟨fun h2 => ?_, fun h2 => ?_⟩
 refine ?a2; rotate_left
 refine ⟨?_, fun h3 => ?_⟩
 refine ?a3; rotate_left
 refine ⟨?_, fun h4 => ?_⟩
 refine ?a4; rotate_left
 refine ?a5; rotate_left
 case a0 | a3 | a4 =>
  first
  | omega
  | exact hc.1
  | exact hc.1.1
  | exact hc.1.2
  | (rw [he]; omega)
 case a1 | a2 | a5 =>
  first
  | (exfalso; rw [feE_y hf] at *; omega)
  | (exfalso; omega)
  | (simp only [he]
     rw [show svE (n / 2 ^ s.toNat + 2) = n / 2 ^ s.toNat + 2 by omega, show erE (n / 2 ^ s.toNat + 2) = 0 by omega]
     done)
theorem yag_off : yac_off.Good Tryz.prog syG (yaE [] [] [] []) := good_of_walk (Γ := ⟨[yac_rcheck, yac_nadd], syG, [], [], []⟩) (ρ := yaE [] [] [] []) sym off_w rfl (fun _ _ _ _ => (ok_cons (Con.Good.env yag_rcheck _ _ _ _) (ok_cons (Con.Good.env yag_nadd _ _ _ _) ok_nil))) off_h
def roff_tree : Tree :=
 (.need xryabndk0_
 (.br (.not xryabndk5_)
 (.ret xryabndk2_)
 (.br (lt_ v2_ (.lit 0))
 (.ret xryabndk2_)
 (.loop ⟨2, 0, 0, 0⟩ (an_ (le_ (.lit 0) (.lit 0)) (an_ (le_ (.lit 0) v1_) (eq_ v2_ (.iapp 11 (.cons z2_ (.cons (.int .i64 (.lit 0)) .nil)))))) (an_ (le_ (.lit 0) v4_) (an_ (le_ v4_ v1_) (eq_ v3_ (.iapp 11 (.cons z2_ (.cons z4_ .nil))))))
 (.br (lt_ v4_ v1_)
 (.back (an_ (le_ (.lit 0) (wr_ (ad_ v4_ (.lit 1)))) (an_ (le_ (wr_ (ad_ v4_ (.lit 1))) v1_) (eq_ (wr_ (.i2 .quo v3_ (.lit 2))) (.iapp 11 (.cons z2_ (.cons (.int .i64 (wr_ (ad_ v4_ (.lit 1)))) .nil)))))) (sb_ v1_ (wr_ (ad_ v4_ (.lit 1)))) (sb_ v1_ v4_))
 (.br (lt_ (.lit 9223372036854775805) v3_)
 (.ret (.tup (.cons (.int .i64 (.lit 0)) (.cons (.int .i64 (.lit 2)) .nil))))
 (.ret (.tup (.cons (.int .i64 (wr_ (ad_ v3_ (.lit 2)))) (.cons (.int .i64 (.lit 0)) .nil))))))))))
abbrev yac_roff : Con := ⟨120, [xryabndk8_, z2_], (an_ xryabndk0_ (an_ xryabndk5_ (an_ (le_ (.lit 0) v2_) (le_ v2_ (.lit 1125899906842624))))), (.tup (.cons (.int .i64 (ad_ (.iapp 11 (.cons z2_ (.cons z1_ .nil))) (.lit 2))) (.cons (.int .i64 (.lit 0)) .nil))), ⟨3, 0, 0, 0⟩, none⟩
theorem roff_w : walk Tryz.prog 111 ⟨[yac_rfmay], syG, [], [], []⟩ [⟨0, ⟨2, 0, 0, 0⟩, [(1, z3_), (6, z4_)], none, (an_ (le_ (.lit 0) v4_) (an_ (le_ v4_ v1_) (eq_ v3_ (.iapp 11 (.cons z2_ (.cons z4_ .nil)))))), (sb_ v1_ v4_), 0, []⟩] .v yac_roff yac_roff.n 3000 = some roff_tree := by kernel_rfl
theorem roff_h (a s n : Int) : Hyp_ yac_roff roff_tree (yaE [a, s, n] [] [] []) := by
 intro hc hty
 simp only [yac_roff, Sy.holds, yaE, denV, denI, denB, denL, I2.den, VOp.den, List.getD_cons_zero, List.getD_cons_succ, Cst.den, syso, syse, syio, sybo, yab_fm, B2.ofInts, B2.denI, B2.denB, if_true, Bool.false_eq_true, if_false, Nat.div_one, Nat.mul_one, Nat.add_zero] at hc
 simp only [yac_roff, patsTyp, patTyp, patTypL, yaE, denV, denL, List.getD_cons_zero, List.getD_cons_succ, and_true, true_and] at hty
 unfold roff_tree
 simp only [yac_roff, Tree.holds, Sy.holds, AllN, Env.more, yaE, List.cons_append, List.nil_append, List.append_nil, denV, denI, denB, denL, I2.den, VOp.den, List.getD_cons_zero, List.getD_cons_succ, Cst.den, syso, syse, syio, sybo, yai_hv, yab_fm, List.map_nil, List.map_cons, B2.ofInts, B2.denI, B2.denB, if_true, Bool.false_eq_true, if_false, Nat.div_one, Nat.mul_one, Nat.add_zero]
 have hf : fmP a s := of_decide_eq_true hc.2.1
 have hf0 := hf
 unfold fmP at hf0
 have hb := hv_bd (n := n) (s := s) hc.2.2.1
 refine ⟨?_, fun h0 => ?_⟩
 ·
  first
  | omega
  | exact hc.1
  | (rw [feE_y hf] at *; omega)
 refine ⟨fun h1 => ?_, fun h1 => ?_⟩
 refine ?a0; rotate_left
 refine ⟨fun h2 => ?_, fun h2 => ?_⟩
 refine ?a1; rotate_left
 refine ⟨?_, ?_⟩
 ·
  refine ⟨by omega, by omega, ?_⟩
  show n = n / 2 ^ 0
  omega
 intro i0a i0b hi0
 refine ⟨fun h3 => ?_, fun h3 => ?_⟩
 have wf0 := wr_i64 (i0b + 1)
 have wf1 := wr_i64 (Int.tdiv i0a 2)
 refine ⟨?_, ?_⟩
 ·
  obtain ⟨g1, g2, g3⟩ := hi0
  have hb2 := hv_bd (n := n) (s := i0b) hc.2.2.1
  have ht : i0a.tdiv 2 = i0a / 2 := Int.tdiv_eq_ediv_of_nonneg (by omega)
  rw [show IntKind.wrap .i64 (i0b + 1) = i0b + 1 by have := wr_i64 (i0b + 1); omega, hv_succ n g1, ← g3]
  exact ⟨by omega, by omega, by omega⟩
 ·
  first
  | omega
  | (have := wr_i64 (i0b + 1); omega)
 refine ⟨fun h4 => ?_, fun h4 => ?_⟩
 refine ?a2; rotate_left
 have wf2 := wr_i64 (i0a + 2)
 refine ?a3; rotate_left
 case a0 | a1 | a2 | a3 =>
  first
  | exact absurd hc.2.1 h1
  | (exfalso; omega)
  | (obtain ⟨g1, g2, g3⟩ := hi0
     rw [show i0b = s by omega] at g3
     exfalso; omega)
  | (obtain ⟨g1, g2, g3⟩ := hi0
     rw [show i0b = s by omega] at g3
     rw [g3, show IntKind.wrap .i64 (n / 2 ^ s.toNat + 2) = n / 2 ^ s.toNat + 2 by have := wr_i64 (n / 2 ^ s.toNat + 2); omega]
     done)
  | skip
theorem yag_roff : yac_roff.Good Tryz.prog syG (yaE [] [] [] []) := good_of_walk (Γ := ⟨[yac_rfmay], syG, [], [], []⟩) (ρ := yaE [] [] [] []) sym roff_w rfl (fun _ _ _ _ => (ok_cons (Con.Good.env yag_rfmay _ _ _ _) ok_nil)) roff_h
def grow_tree : Tree :=
 (.br (lt_ v0_ (.lit 0))
 (.ret xryabndk3_)
 (.br (lt_ v1_ (.lit 0))
 (.ret xryabndk3_)
 (.br (lt_ (.lit 2097152) v1_)
 (.ret xryabndk3_)
 (.br (lt_ v2_ (.lit 0))
 (.ret xryabndk3_)
 (.need (an_ (an_ (le_ lm_ (wr_ (sb_ (.lit 0) v2_))) (le_ (wr_ (sb_ (.lit 0) v2_)) lM_)) (an_ (le_ lm_ v1_) (le_ v1_ lM_)))
 (.br (.not (eq_ (.iapp 7 (.cons (.int .i64 (wr_ (sb_ (.lit 0) v2_))) (.cons z1_ (.cons (.int .i64 (.lit 1073741824)) .nil)))) (.lit 0)))
 (.ret (.tup (.cons (.int .i64 (.lit 0)) (.cons (.err (.iapp 7 (.cons (.int .i64 (wr_ (sb_ (.lit 0) v2_))) (.cons z1_ (.cons (.int .i64 (.lit 1073741824)) .nil))))) .nil))))
 (.need (an_ (an_ (le_ lm_ v0_) (le_ v0_ lM_)) (an_ (le_ lm_ xryabndk7_) (le_ xryabndk7_ lM_)))
 (.ret (.tup (.cons (.int .i64 (.iapp 1 (.cons (.int .i64 (sb_ v0_ xryabndk7_)) .nil))) (.cons (.cst .nilI) .nil)))))))))))
abbrev yac_grow : Con := ⟨146, [z0_, z1_, z2_], (an_ (le_ (.lit 0) v0_) (an_ (le_ v0_ (.lit 2305843009213693952)) (an_ (le_ (.lit 0) v1_) (an_ (le_ v1_ (.lit 2097152)) (an_ (le_ (.lit 0) v2_) (le_ v2_ lM_)))))), (.tup (.cons (.int .i64 (.iapp 1 (.cons (.int .i64 (ad_ v0_ (.iapp 10 (.cons z2_ (.cons z1_ .nil))))) .nil))) (.cons (.err (.lit 0)) .nil))), ⟨3, 0, 0, 0⟩, none⟩
theorem grow_w : walk Tryz.prog 111 ⟨[yac_mdiv, yac_subsat], syG, [], [], []⟩ [] .v yac_grow yac_grow.n 3000 = some grow_tree := by kernel_rfl
theorem grow_h (e r g : Int) : Hyp_ yac_grow grow_tree (yaE [e, r, g] [] [] []) := by
 intro hc hty
 simp only [yac_grow, Sy.holds, yaE, denV, denI, denB, denL, I2.den, VOp.den, List.getD_cons_zero, List.getD_cons_succ, Cst.den, syso, syse, syio, sybo, B2.ofInts, B2.denI, B2.denB, if_true, Bool.false_eq_true, if_false, Nat.div_one, Nat.mul_one, Nat.add_zero] at hc
 simp only [yac_grow, patsTyp, patTyp, patTypL, yaE, denV, denL, List.getD_cons_zero, List.getD_cons_succ, and_true, true_and] at hty
 unfold grow_tree
 simp only [yac_grow, Tree.holds, Sy.holds, yaE, denV, denI, denB, denL, I2.den, VOp.den, List.getD_cons_zero, List.getD_cons_succ, Cst.den, syso, syse, syio, sybo, yai_sa, yai_mdn, yai_mde, yai_up, B2.ofInts, B2.denI, B2.denB, if_true, Bool.false_eq_true, if_false, Nat.div_one, Nat.mul_one, Nat.add_zero]
 obtain ⟨u1, u2, u3, u4⟩ := up_bd (g := g) (r := r) hc.2.2.2.2.1 hc.2.2.2.2.2 hc.2.2.1 hc.2.2.2.1
 have hw : IntKind.wrap .i64 (0 - g) = -g := by have := wr_i64 (0 - g); omega
 refine ⟨fun h0 => ?_, fun h0 => ?_⟩
 refine ?a0; rotate_left
 refine ⟨fun h1 => ?_, fun h1 => ?_⟩
 refine ?a1; rotate_left
 refine ⟨fun h2 => ?_, fun h2 => ?_⟩
 refine ?a2; rotate_left
 refine ⟨fun h3 => ?_, fun h3 => ?_⟩
 refine ?a3; rotate_left
 have wf0 := wr_i64 (0 - g)
 refine ⟨?_, fun h4 => ?_⟩
 ·
  first
  | omega
  | (simp only [hw, u3, u4]; omega)
 refine ⟨fun h5 => ?_, fun h5 => ?_⟩
 refine ?a4; rotate_left
 refine ⟨?_, fun h6 => ?_⟩
 ·
  first
  | omega
  | (simp only [hw, u3, u4]; omega)
 refine ?a5; rotate_left
 case a0 | a1 | a2 | a3 | a4 | a5 =>
  first
  | (exfalso; omega)
  | exact absurd (by rw [hw]; exact u4) h5
  | (rw [hw, u3, show e - -(upK (g * r)) = e + upK (g * r) by omega]
     done)
  | (rw [hw, u3, show e - -(upK (g * r)) = e + upK (g * r) by omega]
     rfl)
  | skip
theorem yag_grow : yac_grow.Good Tryz.prog syG (yaE [] [] [] []) := good_of_walk (Γ := ⟨[yac_mdiv, yac_subsat], syG, [], [], []⟩) (ρ := yaE [] [] [] []) sym grow_w rfl (fun _ _ _ _ => (ok_cons (Con.Good.env yag_mdiv _ _ _ _) (ok_cons (Con.Good.env yag_subsat _ _ _ _) ok_nil))) grow_h
def rgrow_tree : Tree :=
 (.br (lt_ v0_ (.lit 0))
 (.ret xryabndk2_)
 (.br (lt_ v1_ (.lit 0))
 (.ret xryabndk2_)
 (.br (lt_ (.lit 2097152) v1_)
 (.ret xryabndk2_)
 (.br (lt_ v2_ (.lit 0))
 (.ret xryabndk2_)
 (.need (an_ (le_ (.lit 0) v1_) (an_ (le_ v1_ (.lit 2097152)) (an_ (le_ (.lit 0) v2_) (le_ v2_ lM_))))
 (.need (an_ (an_ (le_ lm_ v0_) (le_ v0_ lM_)) (an_ (le_ lm_ (.iapp 10 (.cons z2_ (.cons z1_ .nil)))) (le_ (.iapp 10 (.cons z2_ (.cons z1_ .nil))) lM_)))
 (.ret (.tup (.cons (.int .i64 (.iapp 5 (.cons (.int .i64 (.iapp 2 (.cons (.int .i64 (ad_ v0_ (.iapp 10 (.cons z2_ (.cons z1_ .nil))))) .nil))) (.cons (.int .i64 (.iapp 4 (.cons (.int .i64 (ad_ v0_ (.iapp 10 (.cons z2_ (.cons z1_ .nil))))) .nil))) .nil)))) (.cons (.int .i64 (.lit 0)) .nil))))))))))
abbrev yac_rgrow : Con := ⟨119, [z0_, z1_, z2_], (an_ (le_ (.lit 0) v0_) (an_ (le_ v0_ (.lit 2305843009213693952)) (an_ (le_ (.lit 0) v1_) (an_ (le_ v1_ (.lit 2097152)) (an_ (le_ (.lit 0) v2_) (le_ v2_ lM_)))))), (.tup (.cons (.int .i64 (.iapp 1 (.cons (.int .i64 (ad_ v0_ (.iapp 10 (.cons z2_ (.cons z1_ .nil))))) .nil))) (.cons (.int .i64 (.lit 0)) .nil))), ⟨3, 0, 0, 0⟩, none⟩
theorem rgrow_w : walk Tryz.prog 111 ⟨[yac_rmore, yac_rsum, yac_rbound], syG, [], [], []⟩ [] .v yac_rgrow yac_rgrow.n 3000 = some rgrow_tree := by kernel_rfl
theorem rgrow_h (e r g : Int) : Hyp_ yac_rgrow rgrow_tree (yaE [e, r, g] [] [] []) := by
 intro hc hty
 simp only [yac_rgrow, Sy.holds, yaE, denV, denI, denB, denL, I2.den, VOp.den, List.getD_cons_zero, List.getD_cons_succ, Cst.den, syso, syse, syio, sybo, B2.ofInts, B2.denI, B2.denB, if_true, Bool.false_eq_true, if_false, Nat.div_one, Nat.mul_one, Nat.add_zero] at hc
 simp only [yac_rgrow, patsTyp, patTyp, patTypL, yaE, denV, denL, List.getD_cons_zero, List.getD_cons_succ, and_true, true_and] at hty
 unfold rgrow_tree
 simp only [yac_rgrow, Tree.holds, Sy.holds, yaE, denV, denI, denB, denL, I2.den, VOp.den, List.getD_cons_zero, List.getD_cons_succ, Cst.den, syso, syse, syio, sybo, yai_sa, yai_nv, yai_so, yai_bd, yai_up, B2.ofInts, B2.denI, B2.denB, if_true, Bool.false_eq_true, if_false, Nat.div_one, Nat.mul_one, Nat.add_zero]
 obtain ⟨u1, u2, u3, u4⟩ := up_bd (g := g) (r := r) hc.2.2.2.2.1 hc.2.2.2.2.2 hc.2.2.1 hc.2.2.2.1
 have hw : IntKind.wrap .i64 (0 - g) = -g := by have := wr_i64 (0 - g); omega
 refine ⟨fun h0 => ?_, fun h0 => ?_⟩
 refine ?a0; rotate_left
 refine ⟨fun h1 => ?_, fun h1 => ?_⟩
 refine ?a1; rotate_left
 refine ⟨fun h2 => ?_, fun h2 => ?_⟩
 refine ?a2; rotate_left
 refine ⟨fun h3 => ?_, fun h3 => ?_⟩
 refine ?a3; rotate_left
 refine ⟨?_, fun h4 => ?_⟩
 ·
  omega
 refine ⟨?_, fun h5 => ?_⟩
 ·
  omega
 refine ?a4; rotate_left
 case a0 | a1 | a2 | a3 | a4 =>
  first
  | (exfalso; omega)
  | (simp only [bd_sat]; done)
  | (simp only [bd_sat]; rfl)
theorem yag_rgrow : yac_rgrow.Good Tryz.prog syG (yaE [] [] [] []) := good_of_walk (Γ := ⟨[yac_rmore, yac_rsum, yac_rbound], syG, [], [], []⟩) (ρ := yaE [] [] [] []) sym rgrow_w rfl (fun _ _ _ _ => (ok_cons (Con.Good.env yag_rmore _ _ _ _) (ok_cons (Con.Good.env yag_rsum _ _ _ _) (ok_cons (Con.Good.env yag_rbound _ _ _ _) ok_nil)))) rgrow_h
end Go.Proofs.YtgondiedehjkhaaGreatDoor
