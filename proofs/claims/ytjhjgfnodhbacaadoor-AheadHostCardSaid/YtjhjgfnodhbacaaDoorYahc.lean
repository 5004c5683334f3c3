/-
  Layer 22 by the second engine: numbers, factors, drift.
-/
import Derived.Test.YtjhjgfnodhbacaaDoorSychc
import Derived.Test.YtjhjgfnodhbacaaDoorE00hc
import Derived.Test.YtjhjgfnodhbacaaDoorNumhc
import Derived.Test.YtjhjgfnodhbacaaDoorSyohc
import Derived.Test.YtjhjgfnodhbacaaDoorW02shc
import Derived.Test.YtjhjgfnodhbacaaDoorV02hc
import Derived.Test.YtjhjgfnodhbacaaDoorW02jhc
import Derived.Test.YtjhjgfnodhbacaaDoorBigmhc
import Derived.Test.YtjhjgfnodhbacaaDoorW17hc
namespace Go.Proofs.YtjhjgfnodhbacaaDoor
open Go.RowKit Go.Extern.Stop Go.Stop Go.Extern Go.Proofs.YtjhjgfnodhbacaaDoor.Sy
set_option linter.unusedVariables false
set_option linter.unusedSimpArgs false
def fmP (a s : Int) : Prop := 0 < a ∧ 0 ≤ s ∧ s ≤ 31
instance (a s : Int) : Decidable (fmP a s) := by unfold fmP; infer_instance
def pgP (e b t r gm gs pm ps p c : Int) : Prop := 0 ≤ e ∧ e ≤ 1099511627776 ∧ 0 ≤ b ∧ b ≤ 1152921504606846976 ∧ -4611686018427387904 < t ∧ t < 4611686018427387904 ∧ 0 ≤ r ∧ r ≤ 2305843009213693952 ∧ fmP gm gs ∧ fmP pm ps ∧ 0 ≤ p ∧ p ≤ 2097152 ∧ 1 ≤ c ∧ c ≤ 1125899906842624
instance (e b t r gm gs pm ps p c : Int) : Decidable (pgP e b t r gm gs pm ps p c) := by unfold pgP; infer_instance
def feE (a s : Int) : Int := if fmP a s then 0 else 1
theorem feE_y {a s : Int} (h : fmP a s) : feE a s = 0 := by unfold feE; rw [if_pos h]
theorem feE_n {a s : Int} (h : ¬ fmP a s) : feE a s = 1 := by unfold feE; rw [if_neg h]
def pgE (e b t r gm gs pm ps p c : Int) : Int := if pgP e b t r gm gs pm ps p c then 0 else 1
theorem pgE_y {e b t r gm gs pm ps p c : Int} (h : pgP e b t r gm gs pm ps p c) : pgE e b t r gm gs pm ps p c = 0 := by unfold pgE; rw [if_pos h]
theorem pgE_n {e b t r gm gs pm ps p c : Int} (h : ¬ pgP e b t r gm gs pm ps p c) : pgE e b t r gm gs pm ps p c = 1 := by unfold pgE; rw [if_neg h]
def qE (a s g : Int) : Int := g * a / 2 ^ s.toNat
theorem ms_spec {a s g : Int} (h : fmP a s) (g0 : 0 ≤ g) : 0 ≤ qE a s g ∧ ((msE g a s = 0 ∧ msN g a s = qE a s g ∧ qE a s g ≤ 9223372036854775807) ∨ (msE g a s = 2 ∧ msN g a s = 0 ∧ 9223372036854775807 < qE a s g)) := by
  obtain ⟨h0, h1, h2⟩ := h
  have hp := pow_rng h1 h2
  have hq : 0 ≤ qE a s g := by
    unfold qE
    exact Int.ediv_nonneg (Int.mul_nonneg g0 (by omega)) (by omega)
  refine ⟨hq, ?_⟩
  have e1 : msE g a s = if InR (qE a s g) then 0 else 2 := by
    unfold msE mdE qE
    rw [if_neg (by omega), if_neg (by omega)]
  have e2 : msN g a s = if InR (qE a s g) then qE a s g else 0 := by
    unfold msN mdN qE
    rw [if_neg (by omega), if_neg (by omega)]
  by_cases hin : InR (qE a s g)
  · rw [if_pos hin] at e1 e2
    have h3 := hin.2
    exact .inl ⟨e1, e2, by first | exact h3 | omega⟩
  · rw [if_neg hin] at e1 e2
    refine .inr ⟨e1, e2, ?_⟩
    apply Decidable.byContradiction
    intro hx
    exact hin ⟨by omega, by omega⟩
theorem qE_mono {a s g h : Int} (hf : fmP a s) (hgh : g ≤ h) : qE a s g ≤ qE a s h := by
  obtain ⟨h0, h1, h2⟩ := hf
  have hp := pow_rng h1 h2
  unfold qE
  exact Int.ediv_le_ediv (by omega) (Int.mul_le_mul_of_nonneg_right hgh (by omega))
theorem errOf_val (n : Int) : errOf n = errVal 229 n := by unfold errOf errVal; rfl
theorem mdiv_any (a b c : Int) (w : World) (ha : InR a) (hb : InR b) (hc : InR c) : Calls Tryd.prog 125 #[.int .i64 a, .int .i64 b, .int .i64 c] w fun e w' => e = .returned (.tuple #[.int .i64 (mdN a b c), errVal 229 (mdE a b c)]) ∧ Below w.heap.size w w' := by
  have h := wmuldiv_any a b c w ha hb hc
  rw [errOf_val] at h
  exact h
theorem msh_any (a m n : Int) (w : World) (ha : InR a) (hm0 : 0 ≤ m) (hm1 : m < 4294967296) (hn : InR n) : Calls Tryd.prog 126 #[.int .i64 a, .int .u32 m, .int .i64 n] w fun e w' => e = .returned (.tuple #[.int .i64 (msN a m n), errVal 229 (msE a m n)]) ∧ Below w.heap.size w w' := by
  have h := wmulshift_any a m n w ha hm0 hm1 hn
  rw [errOf_val] at h
  exact h
theorem up_bd {g r : Int} (g0 : 0 ≤ g) (g1 : g ≤ 9223372036854775807) (r0 : 0 ≤ r) (r1 : r ≤ 2097152) : 0 ≤ upK (g * r) ∧ upK (g * r) ≤ 18014398509481984 ∧ mdN (-g) r 1073741824 = -(upK (g * r)) ∧ mdE (-g) r 1073741824 = 0 := by
  obtain ⟨h1, h2⟩ := mul_rho g0 g1 r0 r1
  have e : (-g) * r = -(g * r) := Int.neg_mul g r
  have h3 : 0 ≤ upK (g * r) ∧ upK (g * r) ≤ 18014398509481984 := by unfold upK; omega
  have hd : (-g) * r / 1073741824 = -(upK (g * r)) := by rw [e]; unfold upK; omega
  have hin : InR ((-g) * r / 1073741824) := by rw [hd]; constructor <;> omega
  refine ⟨h3.1, h3.2, ?_, ?_⟩
  · unfold mdN; rw [if_neg (by omega), if_pos hin, hd]
  · unfold mdE; rw [if_neg (by omega), if_pos hin]
theorem hv_bd {n s : Int} (h0 : 0 ≤ n) : 0 ≤ n / 2 ^ s.toNat ∧ n / 2 ^ s.toNat ≤ n := by
  have hp : (0 : Int) < 2 ^ s.toNat := Int.pow_pos (by decide)
  exact ⟨Int.ediv_nonneg h0 (by omega), Int.ediv_le_self _ h0⟩
theorem shr_hv {n s : Int} (h0 : 0 ≤ s) (h1 : s ≤ 31) : n.fdiv (2 ^ (Min.min s.toNat (IntKind.bits .i64))) = n / 2 ^ s.toNat := by
  have e : Min.min s.toNat (IntKind.bits .i64) = s.toNat := by
    have : IntKind.bits .i64 = 64 := rfl
    rw [this]
    omega
  rw [e]
  exact Int.fdiv_eq_ediv_of_nonneg _ (Int.le_of_lt (Int.pow_pos (by decide)))
def atV (t a s g : Int) : Int := if t + qE a s g < 4611686018427387904 then t + qE a s g else 0
def atE (t a s g : Int) : Int := if t + qE a s g < 4611686018427387904 then 0 else 2
theorem at_spec (t a s g : Int) : (t + qE a s g < 4611686018427387904 ∧ atE t a s g = 0 ∧ atV t a s g = t + qE a s g) ∨ (4611686018427387904 ≤ t + qE a s g ∧ atE t a s g = 2 ∧ atV t a s g = 0) := by
  unfold atE atV
  by_cases h : t + qE a s g < 4611686018427387904
  · left; rw [if_pos h, if_pos h]; exact ⟨h, rfl, rfl⟩
  · right; rw [if_neg h, if_neg h]; exact ⟨by omega, rfl, rfl⟩
def gdV (e b t r gm gs pm ps p c : Int) : Int := if pgP e b t r gm gs pm ps p c then b + c else 0
def bnO (r a s p g : Int) : Int := satE (satE (satE (r + upK (satE (qE a s g + 1) * p)) + (g / 2 ^ s.toNat + 2)) + 2)
def bnV (r a s p g : Int) : Int := if 9223372036854775807 < qE a s g then 0 else bnO r a s p g
def bnE (a s g : Int) : Int := if 9223372036854775807 < qE a s g then 2 else 0
theorem bn_spec (r a s p g : Int) : (9223372036854775807 < qE a s g ∧ bnE a s g = 2 ∧ bnV r a s p g = 0) ∨ (qE a s g ≤ 9223372036854775807 ∧ bnE a s g = 0 ∧ bnV r a s p g = bnO r a s p g) := by
  unfold bnE bnV
  by_cases h : 9223372036854775807 < qE a s g
  · left; rw [if_pos h, if_pos h]; exact ⟨h, rfl, rfl⟩
  · right; rw [if_neg h, if_neg h]; exact ⟨by omega, rfl, rfl⟩
def tmE (e b t r gm gs pm ps p c k : Int) : Int := if ¬ pgP e b t r gm gs pm ps p c then 1 else if k < b then 10 else if c < k - b then 14 else if 4611686018427387904 ≤ t + qE gm gs (k - b) then 2 else if 9223372036854775807 < qE pm ps (k - b) then 2 else 0
def tmT (e b t r gm gs pm ps p c k : Int) : Int := if tmE e b t r gm gs pm ps p c k = 0 then t + qE gm gs (k - b) else 0
def tmO (e b t r gm gs pm ps p c k : Int) : Int := if tmE e b t r gm gs pm ps p c k = 0 then bnO r pm ps p (k - b) else 0
theorem tm_spec (e b t r gm gs pm ps p c k : Int) : ((¬ pgP e b t r gm gs pm ps p c ∧ pgE e b t r gm gs pm ps p c = 1) ∧ tmE e b t r gm gs pm ps p c k = 1 ∧ tmT e b t r gm gs pm ps p c k = 0 ∧ tmO e b t r gm gs pm ps p c k = 0) ∨ ((pgP e b t r gm gs pm ps p c ∧ pgE e b t r gm gs pm ps p c = 0) ∧
    ((k < b ∧ tmE e b t r gm gs pm ps p c k = 10 ∧ tmT e b t r gm gs pm ps p c k = 0 ∧ tmO e b t r gm gs pm ps p c k = 0) ∨
    ((b ≤ k ∧ c < k - b) ∧ tmE e b t r gm gs pm ps p c k = 14 ∧ tmT e b t r gm gs pm ps p c k = 0 ∧ tmO e b t r gm gs pm ps p c k = 0) ∨
    ((b ≤ k ∧ k - b ≤ c ∧ (4611686018427387904 ≤ t + qE gm gs (k - b) ∨ 9223372036854775807 < qE pm ps (k - b))) ∧ tmE e b t r gm gs pm ps p c k = 2 ∧ tmT e b t r gm gs pm ps p c k = 0 ∧ tmO e b t r gm gs pm ps p c k = 0) ∨
    ((b ≤ k ∧ k - b ≤ c ∧ t + qE gm gs (k - b) < 4611686018427387904 ∧ qE pm ps (k - b) ≤ 9223372036854775807) ∧ tmE e b t r gm gs pm ps p c k = 0 ∧ tmT e b t r gm gs pm ps p c k = t + qE gm gs (k - b) ∧ tmO e b t r gm gs pm ps p c k = bnO r pm ps p (k - b)))) := by
  have key : ∀ n, tmE e b t r gm gs pm ps p c k = n → n ≠ 0 → tmT e b t r gm gs pm ps p c k = 0 ∧ tmO e b t r gm gs pm ps p c k = 0 := fun n h1 h2 => by
    unfold tmT tmO
    rw [if_neg (by omega), if_neg (by omega)]
    exact ⟨rfl, rfl⟩
  by_cases hp : pgP e b t r gm gs pm ps p c
  · right
    refine ⟨⟨hp, pgE_y hp⟩, ?_⟩
    by_cases h1 : k < b
    · left
      have h : tmE e b t r gm gs pm ps p c k = 10 := by unfold tmE; rw [if_neg (not_not_intro hp), if_pos h1]
      exact ⟨h1, h, key _ h (by decide)⟩
    · right
      by_cases h2 : c < k - b
      · left
        have h : tmE e b t r gm gs pm ps p c k = 14 := by unfold tmE; rw [if_neg (not_not_intro hp), if_neg h1, if_pos h2]
        exact ⟨⟨by omega, h2⟩, h, key _ h (by decide)⟩
      · right
        by_cases h3 : 4611686018427387904 ≤ t + qE gm gs (k - b)
        · left
          have h : tmE e b t r gm gs pm ps p c k = 2 := by unfold tmE; rw [if_neg (not_not_intro hp), if_neg h1, if_neg h2, if_pos h3]
          exact ⟨⟨by omega, by omega, .inl h3⟩, h, key _ h (by decide)⟩
        · by_cases h4 : 9223372036854775807 < qE pm ps (k - b)
          · left
            have h : tmE e b t r gm gs pm ps p c k = 2 := by unfold tmE; rw [if_neg (not_not_intro hp), if_neg h1, if_neg h2, if_neg h3, if_pos h4]
            exact ⟨⟨by omega, by omega, .inr h4⟩, h, key _ h (by decide)⟩
          · right
            have h : tmE e b t r gm gs pm ps p c k = 0 := by unfold tmE; rw [if_neg (not_not_intro hp), if_neg h1, if_neg h2, if_neg h3, if_neg h4]
            exact ⟨⟨by omega, by omega, by omega, by omega⟩, h, by unfold tmT; rw [if_pos h], by unfold tmO; rw [if_pos h]⟩
  · left
    have h : tmE e b t r gm gs pm ps p c k = 1 := by unfold tmE; rw [if_pos hp]
    exact ⟨⟨hp, pgE_n hp⟩, h, key _ h (by decide)⟩
theorem pg_bd (e b t r gm gs pm ps p c : Int) : pgE e b t r gm gs pm ps p c = 1 ∨ (0 ≤ b ∧ b ≤ 1152921504606846976 ∧ -4611686018427387904 < t ∧ t < 4611686018427387904 ∧ 0 ≤ r ∧ r ≤ 2305843009213693952 ∧ 0 ≤ p ∧ p ≤ 2097152 ∧ 1 ≤ c ∧ c ≤ 1125899906842624) := by
  by_cases h : pgP e b t r gm gs pm ps p c
  · obtain ⟨a1, a2, a3, a4, a5, a6, a7, a8, f1, f2, a11, a12, a13, a14⟩ := h
    exact .inr ⟨a3, a4, a5, a6, a7, a8, a11, a12, a13, a14⟩
  · exact .inl (pgE_n h)
theorem fe_spec (a s : Int) : (fmP a s ∧ feE a s = 0) ∨ (¬ fmP a s ∧ feE a s = 1) := by
  by_cases h : fmP a s
  · exact .inl ⟨h, feE_y h⟩
  · exact .inr ⟨h, feE_n h⟩
theorem gd_y {e b t r gm gs pm ps p c : Int} (h : pgP e b t r gm gs pm ps p c) : gdV e b t r gm gs pm ps p c = b + c := by unfold gdV; rw [if_pos h]
theorem gd_n {e b t r gm gs pm ps p c : Int} (h : ¬ pgP e b t r gm gs pm ps p c) : gdV e b t r gm gs pm ps p c = 0 := by unfold gdV; rw [if_neg h]
def whP (t a s T c i : Int) : Prop := 0 ≤ i ∧ i ≤ c + 1 ∧ (i = 0 ∨ (t + qE a s (i - 1) < 4611686018427387904 ∧ t + qE a s (i - 1) < T)) ∧ (i = c + 1 ∨ 4611686018427387904 ≤ t + qE a s i ∨ T ≤ t + qE a s i)
noncomputable def whI (t a s T c : Int) : Int := @dite Int (∃ i, whP t a s T c i) (Classical.propDecidable _) (fun h => Classical.choose h) (fun _ => 0)
theorem wh_lt {t a s T c i j : Int} (hf : fmP a s) (h1 : whP t a s T c i) (h2 : whP t a s T c j) : ¬ i < j := fun h => by
  obtain ⟨i0, i1, i2, i3⟩ := h1
  obtain ⟨j0, j1, j2, j3⟩ := h2
  have hm := qE_mono (g := i) (h := j - 1) hf (by omega)
  omega
theorem wh_eq {t a s T c i : Int} (hf : fmP a s) (h : whP t a s T c i) : whI t a s T c = i := by
  have hx : ∃ i, whP t a s T c i := ⟨i, h⟩
  have e : whI t a s T c = Classical.choose hx := by unfold whI; exact dif_pos hx
  have hc := Classical.choose_spec hx
  have h1 := wh_lt hf h hc
  have h2 := wh_lt hf hc h
  omega
noncomputable def whE (e b t r gm gs pm ps p c T : Int) : Int := if ¬ pgP e b t r gm gs pm ps p c then 1 else if T < t then 10 else if c < whI t gm gs T c then 14 else 0
noncomputable def whV (e b t r gm gs pm ps p c T : Int) : Int := if whE e b t r gm gs pm ps p c T = 0 then b + whI t gm gs T c else 0
theorem wh_spec (e b t r gm gs pm ps p c T : Int) : ((¬ pgP e b t r gm gs pm ps p c ∧ pgE e b t r gm gs pm ps p c = 1) ∧ whE e b t r gm gs pm ps p c T = 1 ∧ whV e b t r gm gs pm ps p c T = 0) ∨ ((pgP e b t r gm gs pm ps p c ∧ pgE e b t r gm gs pm ps p c = 0) ∧
    ((T < t ∧ whE e b t r gm gs pm ps p c T = 10 ∧ whV e b t r gm gs pm ps p c T = 0) ∨
    ((t ≤ T ∧ c < whI t gm gs T c) ∧ whE e b t r gm gs pm ps p c T = 14 ∧ whV e b t r gm gs pm ps p c T = 0) ∨
    ((t ≤ T ∧ whI t gm gs T c ≤ c) ∧ whE e b t r gm gs pm ps p c T = 0 ∧ whV e b t r gm gs pm ps p c T = b + whI t gm gs T c))) := by
  have key : ∀ n, whE e b t r gm gs pm ps p c T = n → n ≠ 0 → whV e b t r gm gs pm ps p c T = 0 := fun n h1 h2 => by
    unfold whV
    rw [if_neg (by omega)]
  by_cases hp : pgP e b t r gm gs pm ps p c
  · right
    refine ⟨⟨hp, pgE_y hp⟩, ?_⟩
    by_cases h1 : T < t
    · left
      have h : whE e b t r gm gs pm ps p c T = 10 := by unfold whE; rw [if_neg (not_not_intro hp), if_pos h1]
      exact ⟨h1, h, key _ h (by decide)⟩
    · right
      by_cases h2 : c < whI t gm gs T c
      · left
        have h : whE e b t r gm gs pm ps p c T = 14 := by unfold whE; rw [if_neg (not_not_intro hp), if_neg h1, if_pos h2]
        exact ⟨⟨by omega, h2⟩, h, key _ h (by decide)⟩
      · right
        have h : whE e b t r gm gs pm ps p c T = 0 := by unfold whE; rw [if_neg (not_not_intro hp), if_neg h1, if_neg h2]
        exact ⟨⟨by omega, by omega⟩, h, by unfold whV; rw [if_pos h]⟩
  · left
    have h : whE e b t r gm gs pm ps p c T = 1 := by unfold whE; rw [if_pos hp]
    exact ⟨⟨hp, pgE_n hp⟩, h, key _ h (by decide)⟩
def p2B (b : Int) : Bool := decide (b = 0) || (List.range 51).any fun k => decide (b = 2 ^ k)
noncomputable def yaI : Nat → List Value → Int
  | 0, [.int _ a] => szE a
  | 1, [.int _ a] => satE a
  | 2, [.int _ a] => svE a
  | 3, [.int _ a] => erE a
  | 4, [.int _ a] => soE a
  | 5, [.int _ a, .int _ o] => bdE a o
  | 6, [.int _ a, .int _ b, .int _ c] => mdN a b c
  | 7, [.int _ a, .int _ b, .int _ c] => mdE a b c
  | 8, [.int _ a, .int _ b, .int _ c] => msN a b c
  | 9, [.int _ a, .int _ b, .int _ c] => msE a b c
  | 10, [.int _ g, .int _ r] => upK (g * r)
  | 11, [.int _ n, .int _ s] => n / 2 ^ s.toNat
  | 12, [.int _ a, .int _ s, .int _ g] => qE a s g
  | 13, [.int _ a, .int _ s] => feE a s
  | 14, [.int _ e, .int _ b, .int _ t, .int _ r, .int _ gm, .int _ gs, .int _ pm, .int _ ps, .int _ p, .int _ c] => pgE e b t r gm gs pm ps p c
  | 15, [.int _ e, .int _ b, .int _ t, .int _ r, .int _ gm, .int _ gs, .int _ pm, .int _ ps, .int _ p, .int _ c] => gdV e b t r gm gs pm ps p c
  | 16, [.int _ t, .int _ a, .int _ s, .int _ g] => atV t a s g
  | 17, [.int _ t, .int _ a, .int _ s, .int _ g] => atE t a s g
  | 18, [.int _ r, .int _ a, .int _ s, .int _ p, .int _ g] => bnV r a s p g
  | 19, [.int _ a, .int _ s, .int _ g] => bnE a s g
  | 20, [.int _ e, .int _ b, .int _ t, .int _ r, .int _ gm, .int _ gs, .int _ pm, .int _ ps, .int _ p, .int _ c, .int _ k] => tmE e b t r gm gs pm ps p c k
  | 21, [.int _ e, .int _ b, .int _ t, .int _ r, .int _ gm, .int _ gs, .int _ pm, .int _ ps, .int _ p, .int _ c, .int _ k] => tmT e b t r gm gs pm ps p c k
  | 22, [.int _ e, .int _ b, .int _ t, .int _ r, .int _ gm, .int _ gs, .int _ pm, .int _ ps, .int _ p, .int _ c, .int _ k] => tmO e b t r gm gs pm ps p c k
  | 23, [.int _ t, .int _ a, .int _ s, .int _ T, .int _ c] => whI t a s T c
  | 24, [.int _ e, .int _ b, .int _ t, .int _ r, .int _ gm, .int _ gs, .int _ pm, .int _ ps, .int _ p, .int _ c, .int _ T] => whE e b t r gm gs pm ps p c T
  | 25, [.int _ e, .int _ b, .int _ t, .int _ r, .int _ gm, .int _ gs, .int _ pm, .int _ ps, .int _ p, .int _ c, .int _ T] => whV e b t r gm gs pm ps p c T
  | _, _ => 0
noncomputable def yaB : Nat → List Value → Bool
  | 0, [.int _ a, .int _ s] => decide (fmP a s)
  | 1, [.int _ e, .int _ b, .int _ t, .int _ r, .int _ gm, .int _ gs, .int _ pm, .int _ ps, .int _ p, .int _ c] => decide (pgP e b t r gm gs pm ps p c)
  | 2, [.int _ b] => p2B b
  | _, _ => false
noncomputable def yaV : Nat → List Value → Value
  | _, _ => Go.undef
noncomputable abbrev yaE (iv : List Int) (bv : List Bool) (vv : List Value) (sv : List ByteArray) : Env := { iv := iv, bv := bv, vv := vv, sv := sv, fi := yaI, fb := yaB, fv := yaV, et := 229 }
theorem yai_sz (k1 : IntKind) (a : Int) : yaI 0 [.int k1 a] = szE a := rfl
theorem yai_sa (k1 : IntKind) (a : Int) : yaI 1 [.int k1 a] = satE a := rfl
theorem yai_nv (k1 : IntKind) (a : Int) : yaI 2 [.int k1 a] = svE a := rfl
theorem yai_ne (k1 : IntKind) (a : Int) : yaI 3 [.int k1 a] = erE a := rfl
theorem yai_mdn (k1 : IntKind) (a : Int) (k2 : IntKind) (b : Int) (k3 : IntKind) (c : Int) : yaI 6 [.int k1 a, .int k2 b, .int k3 c] = mdN a b c := rfl
theorem yai_mde (k1 : IntKind) (a : Int) (k2 : IntKind) (b : Int) (k3 : IntKind) (c : Int) : yaI 7 [.int k1 a, .int k2 b, .int k3 c] = mdE a b c := rfl
theorem yai_msn (k1 : IntKind) (a : Int) (k2 : IntKind) (b : Int) (k3 : IntKind) (c : Int) : yaI 8 [.int k1 a, .int k2 b, .int k3 c] = msN a b c := rfl
theorem yai_mse (k1 : IntKind) (a : Int) (k2 : IntKind) (b : Int) (k3 : IntKind) (c : Int) : yaI 9 [.int k1 a, .int k2 b, .int k3 c] = msE a b c := rfl
theorem yai_up (k1 : IntKind) (g : Int) (k2 : IntKind) (r : Int) : yaI 10 [.int k1 g, .int k2 r] = upK (g * r) := rfl
theorem yai_hv (k1 : IntKind) (n : Int) (k2 : IntKind) (s : Int) : yaI 11 [.int k1 n, .int k2 s] = n / 2 ^ s.toNat := rfl
theorem yai_fe (k1 : IntKind) (a : Int) (k2 : IntKind) (s : Int) : yaI 13 [.int k1 a, .int k2 s] = feE a s := rfl
theorem yab_fm (k1 : IntKind) (a : Int) (k2 : IntKind) (s : Int) : yaB 0 [.int k1 a, .int k2 s] = decide (fmP a s) := rfl
theorem syso (s : ByteArray) : strOf (.string s) = s := rfl
theorem syse (a b : ByteArray) : strEq (.string a) (.string b) = (a == b) := rfl
theorem syio (k : IntKind) (n : Int) : intOf (.int k n) = n := rfl
theorem sybo (b : Bool) : boolOf (.bool b) = b := rfl
theorem sym : Tryd.prog.follows .mixedOrders = true := by kernel_rfl
abbrev syG : Glob := [(0, 0, asHandle)]
def toohigh_tree : Tree :=
 (.br (.b2 .lt (.lit (0)) (.var 1))
 (.ret (.bool (.b2 .lt (.wrap .i64 (.i2 .sub (.lit (9223372036854775807)) (.var 1))) (.var 0))))
 (.ret (.bool (.tt false))))
abbrev yac_toohigh : Con := ⟨246, [(.int .i64 (.var 0)), (.int .i64 (.var 1))], (.b2 .and (.b2 .and (.b2 .le (.lit (-9223372036854775808)) (.var 0)) (.b2 .le (.var 0) (.lit (9223372036854775807)))) (.b2 .and (.b2 .le (.lit (-9223372036854775808)) (.var 1)) (.b2 .le (.var 1) (.lit (9223372036854775807))))), (.bool (.b2 .lt (.lit (9223372036854775807)) (.i2 .add (.var 0) (.var 1)))), ⟨2, 0, 0, 0⟩, none⟩
theorem toohigh_w : walk Tryd.prog 229 ⟨[], syG, [], [], []⟩ [] .v yac_toohigh yac_toohigh.n 3000 = some toohigh_tree := by kernel_rfl
theorem toohigh_h (a : Int) (b : Int) (hc : holds (yaE [a, b] [] [] []) (.b2 .and (.b2 .and (.b2 .le (.lit (-9223372036854775808)) (.var 0)) (.b2 .le (.var 0) (.lit (9223372036854775807)))) (.b2 .and (.b2 .le (.lit (-9223372036854775808)) (.var 1)) (.b2 .le (.var 1) (.lit (9223372036854775807)))))) (hty : patsTyp (yaE [a, b] [] [] []) [(.int .i64 (.var 0)), (.int .i64 (.var 1))]) : toohigh_tree.holds (fun v_ => v_ = denV (yaE [a, b] [] [] []) b0 (.bool (.b2 .lt (.lit (9223372036854775807)) (.i2 .add (.var 0) (.var 1))))) (yaE [a, b] [] [] []) := by
  simp only [Tree.holds, Sy.holds, AllN, Env.more, yaE, List.cons_append, List.nil_append, List.append_nil, denV, denI, denB, denL, I2.den, VOp.den, List.getD_cons_zero, List.getD_cons_succ, Cst.den, syso, syse, syio, sybo, List.map_nil, List.map_cons, B2.ofInts, B2.denI, B2.denB, if_true, Bool.false_eq_true, if_false, Nat.div_one, Nat.mul_one, Nat.add_zero, holds] at hc
  simp only [patsTyp, patTyp, patTypL, yaE, denV, denL, List.getD_cons_zero, List.getD_cons_succ, and_true, true_and] at hty
  unfold toohigh_tree
  simp only [Tree.holds, Sy.holds, AllN, Env.more, yaE, List.cons_append, List.nil_append, List.append_nil, denV, denI, denB, denL, I2.den, VOp.den, List.getD_cons_zero, List.getD_cons_succ, Cst.den, syso, syse, syio, sybo, List.map_nil, List.map_cons, B2.ofInts, B2.denI, B2.denB, if_true, Bool.false_eq_true, if_false, Nat.div_one, Nat.mul_one, Nat.add_zero]
  refine ⟨fun h0 => ?_, fun h0 => ?_⟩
  ·
   have wf0 := wr_i64 (9223372036854775807 - b)
   all_goals first | omega | rfl | (simp only [Value.tuple.injEq, Value.agg.injEq, Value.int.injEq, Value.bool.injEq, Array.mk.injEq, List.cons.injEq, true_and, and_true]; omega) | (refine congrArg Value.bool (Bool.eq_iff_iff.2 ?_); simp only [beq_iff_eq, decide_eq_true_eq, true_iff, false_iff, Bool.false_eq_true, Bool.not_eq_true', Bool.and_eq_true, Bool.or_eq_true, decide_eq_false_iff_not]; omega)
  ·
   all_goals first | omega | rfl | (simp only [Value.tuple.injEq, Value.agg.injEq, Value.int.injEq, Value.bool.injEq, Array.mk.injEq, List.cons.injEq, true_and, and_true]; omega) | (refine congrArg Value.bool (Bool.eq_iff_iff.2 ?_); simp only [beq_iff_eq, decide_eq_true_eq, true_iff, false_iff, Bool.false_eq_true, Bool.not_eq_true', Bool.and_eq_true, Bool.or_eq_true, decide_eq_false_iff_not]; omega)
theorem yag_toohigh : yac_toohigh.Good Tryd.prog syG (yaE [] [] [] []) := good_of_walk (Γ := ⟨[], syG, [], [], []⟩) (ρ := yaE [] [] [] []) sym toohigh_w rfl (fun _ _ _ _ => ok_nil) (fun a b hc hty => toohigh_h a b hc hty)
def toolow_tree : Tree :=
 (.br (.b2 .lt (.var 1) (.lit (0)))
 (.ret (.bool (.b2 .lt (.var 0) (.wrap .i64 (.i2 .sub (.lit (-9223372036854775808)) (.var 1))))))
 (.ret (.bool (.tt false))))
abbrev yac_toolow : Con := ⟨247, [(.int .i64 (.var 0)), (.int .i64 (.var 1))], (.b2 .and (.b2 .and (.b2 .le (.lit (-9223372036854775808)) (.var 0)) (.b2 .le (.var 0) (.lit (9223372036854775807)))) (.b2 .and (.b2 .le (.lit (-9223372036854775808)) (.var 1)) (.b2 .le (.var 1) (.lit (9223372036854775807))))), (.bool (.b2 .lt (.i2 .add (.var 0) (.var 1)) (.lit (-9223372036854775808)))), ⟨2, 0, 0, 0⟩, none⟩
theorem toolow_w : walk Tryd.prog 229 ⟨[], syG, [], [], []⟩ [] .v yac_toolow yac_toolow.n 3000 = some toolow_tree := by kernel_rfl
theorem toolow_h (a : Int) (b : Int) (hc : holds (yaE [a, b] [] [] []) (.b2 .and (.b2 .and (.b2 .le (.lit (-9223372036854775808)) (.var 0)) (.b2 .le (.var 0) (.lit (9223372036854775807)))) (.b2 .and (.b2 .le (.lit (-9223372036854775808)) (.var 1)) (.b2 .le (.var 1) (.lit (9223372036854775807)))))) (hty : patsTyp (yaE [a, b] [] [] []) [(.int .i64 (.var 0)), (.int .i64 (.var 1))]) : toolow_tree.holds (fun v_ => v_ = denV (yaE [a, b] [] [] []) b0 (.bool (.b2 .lt (.i2 .add (.var 0) (.var 1)) (.lit (-9223372036854775808))))) (yaE [a, b] [] [] []) := by
  simp only [Tree.holds, Sy.holds, AllN, Env.more, yaE, List.cons_append, List.nil_append, List.append_nil, denV, denI, denB, denL, I2.den, VOp.den, List.getD_cons_zero, List.getD_cons_succ, Cst.den, syso, syse, syio, sybo, List.map_nil, List.map_cons, B2.ofInts, B2.denI, B2.denB, if_true, Bool.false_eq_true, if_false, Nat.div_one, Nat.mul_one, Nat.add_zero, holds] at hc
  simp only [patsTyp, patTyp, patTypL, yaE, denV, denL, List.getD_cons_zero, List.getD_cons_succ, and_true, true_and] at hty
  unfold toolow_tree
  simp only [Tree.holds, Sy.holds, AllN, Env.more, yaE, List.cons_append, List.nil_append, List.append_nil, denV, denI, denB, denL, I2.den, VOp.den, List.getD_cons_zero, List.getD_cons_succ, Cst.den, syso, syse, syio, sybo, List.map_nil, List.map_cons, B2.ofInts, B2.denI, B2.denB, if_true, Bool.false_eq_true, if_false, Nat.div_one, Nat.mul_one, Nat.add_zero]
  refine ⟨fun h0 => ?_, fun h0 => ?_⟩
  ·
   have wf0 := wr_i64 ((-9223372036854775808) - b)
   all_goals first | omega | rfl | (simp only [Value.tuple.injEq, Value.agg.injEq, Value.int.injEq, Value.bool.injEq, Array.mk.injEq, List.cons.injEq, true_and, and_true]; omega) | (refine congrArg Value.bool (Bool.eq_iff_iff.2 ?_); simp only [beq_iff_eq, decide_eq_true_eq, true_iff, false_iff, Bool.false_eq_true, Bool.not_eq_true', Bool.and_eq_true, Bool.or_eq_true, decide_eq_false_iff_not]; omega)
  ·
   all_goals first | omega | rfl | (simp only [Value.tuple.injEq, Value.agg.injEq, Value.int.injEq, Value.bool.injEq, Array.mk.injEq, List.cons.injEq, true_and, and_true]; omega) | (refine congrArg Value.bool (Bool.eq_iff_iff.2 ?_); simp only [beq_iff_eq, decide_eq_true_eq, true_iff, false_iff, Bool.false_eq_true, Bool.not_eq_true', Bool.and_eq_true, Bool.or_eq_true, decide_eq_false_iff_not]; omega)
theorem yag_toolow : yac_toolow.Good Tryd.prog syG (yaE [] [] [] []) := good_of_walk (Γ := ⟨[], syG, [], [], []⟩) (ρ := yaE [] [] [] []) sym toolow_w rfl (fun _ _ _ _ => ok_nil) (fun a b hc hty => toolow_h a b hc hty)
def nadd_tree : Tree :=
 (.need (.b2 .and (.b2 .and (.b2 .le (.lit (-9223372036854775808)) (.var 0)) (.b2 .le (.var 0) (.lit (9223372036854775807)))) (.b2 .and (.b2 .le (.lit (-9223372036854775808)) (.var 1)) (.b2 .le (.var 1) (.lit (9223372036854775807)))))
 (.br (.b2 .lt (.lit (9223372036854775807)) (.i2 .add (.var 0) (.var 1)))
 (.ret (.tup (.cons (.int .i64 (.lit (0))) (.cons (.iface 229 (.int .i64 (.lit (2)))) .nil))))
 (.need (.b2 .and (.b2 .and (.b2 .le (.lit (-9223372036854775808)) (.var 0)) (.b2 .le (.var 0) (.lit (9223372036854775807)))) (.b2 .and (.b2 .le (.lit (-9223372036854775808)) (.var 1)) (.b2 .le (.var 1) (.lit (9223372036854775807)))))
 (.br (.b2 .lt (.i2 .add (.var 0) (.var 1)) (.lit (-9223372036854775808)))
 (.ret (.tup (.cons (.int .i64 (.lit (0))) (.cons (.iface 229 (.int .i64 (.lit (2)))) .nil))))
 (.ret (.tup (.cons (.int .i64 (.wrap .i64 (.i2 .add (.var 0) (.var 1)))) (.cons (.cst .nilI) .nil))))))))
abbrev yac_nadd : Con := ⟨215, [(.int .i64 (.var 0)), (.int .i64 (.var 1))], (.b2 .and (.b2 .and (.b2 .le (.lit (-9223372036854775808)) (.var 0)) (.b2 .le (.var 0) (.lit (9223372036854775807)))) (.b2 .and (.b2 .le (.lit (-9223372036854775808)) (.var 1)) (.b2 .le (.var 1) (.lit (9223372036854775807))))), (.tup (.cons (.int .i64 (.iapp 2 (.cons (.int .i64 (.i2 .add (.var 0) (.var 1))) .nil))) (.cons (.err (.iapp 3 (.cons (.int .i64 (.i2 .add (.var 0) (.var 1))) .nil))) .nil))), ⟨2, 0, 0, 0⟩, none⟩
theorem nadd_w : walk Tryd.prog 229 ⟨[yac_toohigh, yac_toolow], syG, [], [], []⟩ [] .v yac_nadd yac_nadd.n 3000 = some nadd_tree := by kernel_rfl
theorem nadd_h (a : Int) (b : Int) (hc : holds (yaE [a, b] [] [] []) (.b2 .and (.b2 .and (.b2 .le (.lit (-9223372036854775808)) (.var 0)) (.b2 .le (.var 0) (.lit (9223372036854775807)))) (.b2 .and (.b2 .le (.lit (-9223372036854775808)) (.var 1)) (.b2 .le (.var 1) (.lit (9223372036854775807)))))) (hty : patsTyp (yaE [a, b] [] [] []) [(.int .i64 (.var 0)), (.int .i64 (.var 1))]) : nadd_tree.holds (fun v_ => v_ = denV (yaE [a, b] [] [] []) b0 (.tup (.cons (.int .i64 (.iapp 2 (.cons (.int .i64 (.i2 .add (.var 0) (.var 1))) .nil))) (.cons (.err (.iapp 3 (.cons (.int .i64 (.i2 .add (.var 0) (.var 1))) .nil))) .nil)))) (yaE [a, b] [] [] []) := by
  simp only [Tree.holds, Sy.holds, AllN, Env.more, yaE, List.cons_append, List.nil_append, List.append_nil, denV, denI, denB, denL, I2.den, VOp.den, List.getD_cons_zero, List.getD_cons_succ, Cst.den, syso, syse, syio, sybo, List.map_nil, List.map_cons, B2.ofInts, B2.denI, B2.denB, if_true, Bool.false_eq_true, if_false, Nat.div_one, Nat.mul_one, Nat.add_zero, holds] at hc
  simp only [patsTyp, patTyp, patTypL, yaE, denV, denL, List.getD_cons_zero, List.getD_cons_succ, and_true, true_and] at hty
  unfold nadd_tree
  simp only [Tree.holds, Sy.holds, AllN, Env.more, yaE, List.cons_append, List.nil_append, List.append_nil, denV, denI, denB, denL, I2.den, VOp.den, List.getD_cons_zero, List.getD_cons_succ, Cst.den, syso, syse, syio, sybo, yai_nv, yai_ne, List.map_nil, List.map_cons, B2.ofInts, B2.denI, B2.denB, if_true, Bool.false_eq_true, if_false, Nat.div_one, Nat.mul_one, Nat.add_zero]
  refine ⟨?_, fun h0 => ?_⟩
  ·
   omega
  ·
   refine ⟨fun h1 => ?_, fun h1 => ?_⟩
   ·
    have hs := svE_spec (a + b)
    by_cases hr : -9223372036854775808 ≤ a + b ∧ a + b ≤ 9223372036854775807
    · have e1 : svE (a + b) = a + b := by omega
      have e2 : erE (a + b) = 0 := by omega
      rw [e1, e2]
      first
      | (exfalso; omega)
      | (rw [show IntKind.wrap .i64 (a + b) = a + b by omega]; rfl)
    · have e1 : svE (a + b) = 0 := by omega
      have e2 : erE (a + b) = 2 := by omega
      rw [e1, e2]
      first
      | (exfalso; omega)
      | rfl
   ·
    refine ⟨?_, fun h2 => ?_⟩
    ·
     omega
    ·
     refine ⟨fun h3 => ?_, fun h3 => ?_⟩
     ·
      have hs := svE_spec (a + b)
      by_cases hr : -9223372036854775808 ≤ a + b ∧ a + b ≤ 9223372036854775807
      · have e1 : svE (a + b) = a + b := by omega
        have e2 : erE (a + b) = 0 := by omega
        rw [e1, e2]
        first
        | (exfalso; omega)
        | (rw [show IntKind.wrap .i64 (a + b) = a + b by omega]; rfl)
      · have e1 : svE (a + b) = 0 := by omega
        have e2 : erE (a + b) = 2 := by omega
        rw [e1, e2]
        first
        | (exfalso; omega)
        | rfl
     ·
      have wf0 := wr_i64 (a + b)
      have hs := svE_spec (a + b)
      by_cases hr : -9223372036854775808 ≤ a + b ∧ a + b ≤ 9223372036854775807
      · have e1 : svE (a + b) = a + b := by omega
        have e2 : erE (a + b) = 0 := by omega
        rw [e1, e2]
        first
        | (exfalso; omega)
        | (rw [show IntKind.wrap .i64 (a + b) = a + b by omega]; rfl)
      · have e1 : svE (a + b) = 0 := by omega
        have e2 : erE (a + b) = 2 := by omega
        rw [e1, e2]
        first
        | (exfalso; omega)
        | rfl
theorem yag_nadd : yac_nadd.Good Tryd.prog syG (yaE [] [] [] []) := good_of_walk (Γ := ⟨[yac_toohigh, yac_toolow], syG, [], [], []⟩) (ρ := yaE [] [] [] []) sym nadd_w rfl (fun _ _ _ _ => (ok_cons (Con.Good.env yag_toohigh _ _ _ _) (ok_cons (Con.Good.env yag_toolow _ _ _ _) ok_nil))) (fun a b hc hty => nadd_h a b hc hty)
def nsub_tree : Tree :=
 (.br (.b2 .lt (.var 1) (.lit (0)))
 (.br (.b2 .lt (.wrap .i64 (.i2 .add (.lit (9223372036854775807)) (.var 1))) (.var 0))
 (.ret (.tup (.cons (.int .i64 (.lit (0))) (.cons (.iface 229 (.int .i64 (.lit (2)))) .nil))))
 (.br (.b2 .lt (.lit (0)) (.var 1))
 (.br (.b2 .lt (.var 0) (.wrap .i64 (.i2 .add (.lit (-9223372036854775808)) (.var 1))))
 (.ret (.tup (.cons (.int .i64 (.lit (0))) (.cons (.iface 229 (.int .i64 (.lit (2)))) .nil))))
 (.ret (.tup (.cons (.int .i64 (.wrap .i64 (.i2 .sub (.var 0) (.var 1)))) (.cons (.cst .nilI) .nil)))))
 (.ret (.tup (.cons (.int .i64 (.wrap .i64 (.i2 .sub (.var 0) (.var 1)))) (.cons (.cst .nilI) .nil))))))
 (.br (.b2 .lt (.lit (0)) (.var 1))
 (.br (.b2 .lt (.var 0) (.wrap .i64 (.i2 .add (.lit (-9223372036854775808)) (.var 1))))
 (.ret (.tup (.cons (.int .i64 (.lit (0))) (.cons (.iface 229 (.int .i64 (.lit (2)))) .nil))))
 (.ret (.tup (.cons (.int .i64 (.wrap .i64 (.i2 .sub (.var 0) (.var 1)))) (.cons (.cst .nilI) .nil)))))
 (.ret (.tup (.cons (.int .i64 (.wrap .i64 (.i2 .sub (.var 0) (.var 1)))) (.cons (.cst .nilI) .nil))))))
abbrev yac_nsub : Con := ⟨213, [(.int .i64 (.var 0)), (.int .i64 (.var 1))], (.b2 .and (.b2 .and (.b2 .le (.lit (-9223372036854775808)) (.var 0)) (.b2 .le (.var 0) (.lit (9223372036854775807)))) (.b2 .and (.b2 .le (.lit (-9223372036854775808)) (.var 1)) (.b2 .le (.var 1) (.lit (9223372036854775807))))), (.tup (.cons (.int .i64 (.iapp 2 (.cons (.int .i64 (.i2 .sub (.var 0) (.var 1))) .nil))) (.cons (.err (.iapp 3 (.cons (.int .i64 (.i2 .sub (.var 0) (.var 1))) .nil))) .nil))), ⟨2, 0, 0, 0⟩, none⟩
theorem nsub_w : walk Tryd.prog 229 ⟨[], syG, [], [], []⟩ [] .v yac_nsub yac_nsub.n 3000 = some nsub_tree := by kernel_rfl
theorem nsub_h (a : Int) (b : Int) (hc : holds (yaE [a, b] [] [] []) (.b2 .and (.b2 .and (.b2 .le (.lit (-9223372036854775808)) (.var 0)) (.b2 .le (.var 0) (.lit (9223372036854775807)))) (.b2 .and (.b2 .le (.lit (-9223372036854775808)) (.var 1)) (.b2 .le (.var 1) (.lit (9223372036854775807)))))) (hty : patsTyp (yaE [a, b] [] [] []) [(.int .i64 (.var 0)), (.int .i64 (.var 1))]) : nsub_tree.holds (fun v_ => v_ = denV (yaE [a, b] [] [] []) b0 (.tup (.cons (.int .i64 (.iapp 2 (.cons (.int .i64 (.i2 .sub (.var 0) (.var 1))) .nil))) (.cons (.err (.iapp 3 (.cons (.int .i64 (.i2 .sub (.var 0) (.var 1))) .nil))) .nil)))) (yaE [a, b] [] [] []) := by
  simp only [Tree.holds, Sy.holds, AllN, Env.more, yaE, List.cons_append, List.nil_append, List.append_nil, denV, denI, denB, denL, I2.den, VOp.den, List.getD_cons_zero, List.getD_cons_succ, Cst.den, syso, syse, syio, sybo, List.map_nil, List.map_cons, B2.ofInts, B2.denI, B2.denB, if_true, Bool.false_eq_true, if_false, Nat.div_one, Nat.mul_one, Nat.add_zero, holds] at hc
  simp only [patsTyp, patTyp, patTypL, yaE, denV, denL, List.getD_cons_zero, List.getD_cons_succ, and_true, true_and] at hty
  unfold nsub_tree
  simp only [Tree.holds, Sy.holds, AllN, Env.more, yaE, List.cons_append, List.nil_append, List.append_nil, denV, denI, denB, denL, I2.den, VOp.den, List.getD_cons_zero, List.getD_cons_succ, Cst.den, syso, syse, syio, sybo, yai_nv, yai_ne, List.map_nil, List.map_cons, B2.ofInts, B2.denI, B2.denB, if_true, Bool.false_eq_true, if_false, Nat.div_one, Nat.mul_one, Nat.add_zero]
  refine ⟨fun h0 => ?_, fun h0 => ?_⟩
  ·
   have wf0 := wr_i64 (9223372036854775807 + b)
   refine ⟨fun h1 => ?_, fun h1 => ?_⟩
   ·
    have hs := svE_spec (a - b)
    by_cases hr : -9223372036854775808 ≤ a - b ∧ a - b ≤ 9223372036854775807
    · have e1 : svE (a - b) = a - b := by omega
      have e2 : erE (a - b) = 0 := by omega
      rw [e1, e2]
      first
      | (exfalso; omega)
      | (rw [show IntKind.wrap .i64 (a - b) = a - b by omega]; rfl)
    · have e1 : svE (a - b) = 0 := by omega
      have e2 : erE (a - b) = 2 := by omega
      rw [e1, e2]
      first
      | (exfalso; omega)
      | rfl
   ·
    refine ⟨fun h2 => ?_, fun h2 => ?_⟩
    ·
     have wf1 := wr_i64 ((-9223372036854775808) + b)
     refine ⟨fun h3 => ?_, fun h3 => ?_⟩
     ·
      have hs := svE_spec (a - b)
      by_cases hr : -9223372036854775808 ≤ a - b ∧ a - b ≤ 9223372036854775807
      · have e1 : svE (a - b) = a - b := by omega
        have e2 : erE (a - b) = 0 := by omega
        rw [e1, e2]
        first
        | (exfalso; omega)
        | (rw [show IntKind.wrap .i64 (a - b) = a - b by omega]; rfl)
      · have e1 : svE (a - b) = 0 := by omega
        have e2 : erE (a - b) = 2 := by omega
        rw [e1, e2]
        first
        | (exfalso; omega)
        | rfl
     ·
      have wf2 := wr_i64 (a - b)
      have hs := svE_spec (a - b)
      by_cases hr : -9223372036854775808 ≤ a - b ∧ a - b ≤ 9223372036854775807
      · have e1 : svE (a - b) = a - b := by omega
        have e2 : erE (a - b) = 0 := by omega
        rw [e1, e2]
        first
        | (exfalso; omega)
        | (rw [show IntKind.wrap .i64 (a - b) = a - b by omega]; rfl)
      · have e1 : svE (a - b) = 0 := by omega
        have e2 : erE (a - b) = 2 := by omega
        rw [e1, e2]
        first
        | (exfalso; omega)
        | rfl
    ·
     have wf3 := wr_i64 (a - b)
     have hs := svE_spec (a - b)
     by_cases hr : -9223372036854775808 ≤ a - b ∧ a - b ≤ 9223372036854775807
     · have e1 : svE (a - b) = a - b := by omega
       have e2 : erE (a - b) = 0 := by omega
       rw [e1, e2]
       first
       | (exfalso; omega)
       | (rw [show IntKind.wrap .i64 (a - b) = a - b by omega]; rfl)
     · have e1 : svE (a - b) = 0 := by omega
       have e2 : erE (a - b) = 2 := by omega
       rw [e1, e2]
       first
       | (exfalso; omega)
       | rfl
  ·
   refine ⟨fun h4 => ?_, fun h4 => ?_⟩
   ·
    have wf4 := wr_i64 ((-9223372036854775808) + b)
    refine ⟨fun h5 => ?_, fun h5 => ?_⟩
    ·
     have hs := svE_spec (a - b)
     by_cases hr : -9223372036854775808 ≤ a - b ∧ a - b ≤ 9223372036854775807
     · have e1 : svE (a - b) = a - b := by omega
       have e2 : erE (a - b) = 0 := by omega
       rw [e1, e2]
       first
       | (exfalso; omega)
       | (rw [show IntKind.wrap .i64 (a - b) = a - b by omega]; rfl)
     · have e1 : svE (a - b) = 0 := by omega
       have e2 : erE (a - b) = 2 := by omega
       rw [e1, e2]
       first
       | (exfalso; omega)
       | rfl
    ·
     have wf5 := wr_i64 (a - b)
     have hs := svE_spec (a - b)
     by_cases hr : -9223372036854775808 ≤ a - b ∧ a - b ≤ 9223372036854775807
     · have e1 : svE (a - b) = a - b := by omega
       have e2 : erE (a - b) = 0 := by omega
       rw [e1, e2]
       first
       | (exfalso; omega)
       | (rw [show IntKind.wrap .i64 (a - b) = a - b by omega]; rfl)
     · have e1 : svE (a - b) = 0 := by omega
       have e2 : erE (a - b) = 2 := by omega
       rw [e1, e2]
       first
       | (exfalso; omega)
       | rfl
   ·
    have wf6 := wr_i64 (a - b)
    have hs := svE_spec (a - b)
    by_cases hr : -9223372036854775808 ≤ a - b ∧ a - b ≤ 9223372036854775807
    · have e1 : svE (a - b) = a - b := by omega
      have e2 : erE (a - b) = 0 := by omega
      rw [e1, e2]
      first
      | (exfalso; omega)
      | (rw [show IntKind.wrap .i64 (a - b) = a - b by omega]; rfl)
    · have e1 : svE (a - b) = 0 := by omega
      have e2 : erE (a - b) = 2 := by omega
      rw [e1, e2]
      first
      | (exfalso; omega)
      | rfl
theorem yag_nsub : yac_nsub.Good Tryd.prog syG (yaE [] [] [] []) := good_of_walk (Γ := ⟨[], syG, [], [], []⟩) (ρ := yaE [] [] [] []) sym nsub_w rfl (fun _ _ _ _ => ok_nil) (fun a b hc hty => nsub_h a b hc hty)
def subsat_tree : Tree :=
 (.need (.b2 .and (.b2 .and (.b2 .le (.lit (-9223372036854775808)) (.var 0)) (.b2 .le (.var 0) (.lit (9223372036854775807)))) (.b2 .and (.b2 .le (.lit (-9223372036854775808)) (.var 1)) (.b2 .le (.var 1) (.lit (9223372036854775807)))))
 (.br (.b2 .eq (.iapp 3 (.cons (.int .i64 (.i2 .sub (.var 0) (.var 1))) .nil)) (.lit (0)))
 (.ret (.int .i64 (.iapp 2 (.cons (.int .i64 (.i2 .sub (.var 0) (.var 1))) .nil))))
 (.br (.b2 .lt (.var 1) (.lit (0)))
 (.ret (.int .i64 (.lit (9223372036854775807))))
 (.ret (.int .i64 (.lit (-9223372036854775808)))))))
abbrev yac_subsat : Con := ⟨140, [(.int .i64 (.var 0)), (.int .i64 (.var 1))], (.b2 .and (.b2 .and (.b2 .le (.lit (-9223372036854775808)) (.var 0)) (.b2 .le (.var 0) (.lit (9223372036854775807)))) (.b2 .and (.b2 .le (.lit (-9223372036854775808)) (.var 1)) (.b2 .le (.var 1) (.lit (9223372036854775807))))), (.int .i64 (.iapp 1 (.cons (.int .i64 (.i2 .sub (.var 0) (.var 1))) .nil))), ⟨2, 0, 0, 0⟩, none⟩
theorem subsat_w : walk Tryd.prog 229 ⟨[yac_nsub], syG, [], [], []⟩ [] .v yac_subsat yac_subsat.n 3000 = some subsat_tree := by kernel_rfl
theorem subsat_h (a : Int) (b : Int) (hc : holds (yaE [a, b] [] [] []) (.b2 .and (.b2 .and (.b2 .le (.lit (-9223372036854775808)) (.var 0)) (.b2 .le (.var 0) (.lit (9223372036854775807)))) (.b2 .and (.b2 .le (.lit (-9223372036854775808)) (.var 1)) (.b2 .le (.var 1) (.lit (9223372036854775807)))))) (hty : patsTyp (yaE [a, b] [] [] []) [(.int .i64 (.var 0)), (.int .i64 (.var 1))]) : subsat_tree.holds (fun v_ => v_ = denV (yaE [a, b] [] [] []) b0 (.int .i64 (.iapp 1 (.cons (.int .i64 (.i2 .sub (.var 0) (.var 1))) .nil)))) (yaE [a, b] [] [] []) := by
  simp only [Tree.holds, Sy.holds, AllN, Env.more, yaE, List.cons_append, List.nil_append, List.append_nil, denV, denI, denB, denL, I2.den, VOp.den, List.getD_cons_zero, List.getD_cons_succ, Cst.den, syso, syse, syio, sybo, List.map_nil, List.map_cons, B2.ofInts, B2.denI, B2.denB, if_true, Bool.false_eq_true, if_false, Nat.div_one, Nat.mul_one, Nat.add_zero, holds] at hc
  simp only [patsTyp, patTyp, patTypL, yaE, denV, denL, List.getD_cons_zero, List.getD_cons_succ, and_true, true_and] at hty
  unfold subsat_tree
  simp only [Tree.holds, Sy.holds, AllN, Env.more, yaE, List.cons_append, List.nil_append, List.append_nil, denV, denI, denB, denL, I2.den, VOp.den, List.getD_cons_zero, List.getD_cons_succ, Cst.den, syso, syse, syio, sybo, yai_sa, yai_nv, yai_ne, List.map_nil, List.map_cons, B2.ofInts, B2.denI, B2.denB, if_true, Bool.false_eq_true, if_false, Nat.div_one, Nat.mul_one, Nat.add_zero]
  refine ⟨?_, fun h0 => ?_⟩
  ·
   omega
  ·
   refine ⟨fun h1 => ?_, fun h1 => ?_⟩
   ·
    have hs := svE_spec (a - b)
    have ht := satE_spec (a - b)
    first
    | (exfalso; omega)
    | (rw [show satE (a - b) = svE (a - b) by omega]; done)
    | (rw [show satE (a - b) = 9223372036854775807 by omega]; done)
    | (rw [show satE (a - b) = -9223372036854775808 by omega]; done)
   ·
    refine ⟨fun h2 => ?_, fun h2 => ?_⟩
    ·
     have hs := svE_spec (a - b)
     have ht := satE_spec (a - b)
     first
     | (exfalso; omega)
     | (rw [show satE (a - b) = svE (a - b) by omega]; done)
     | (rw [show satE (a - b) = 9223372036854775807 by omega]; done)
     | (rw [show satE (a - b) = -9223372036854775808 by omega]; done)
    ·
     have hs := svE_spec (a - b)
     have ht := satE_spec (a - b)
     first
     | (exfalso; omega)
     | (rw [show satE (a - b) = svE (a - b) by omega]; done)
     | (rw [show satE (a - b) = 9223372036854775807 by omega]; done)
     | (rw [show satE (a - b) = -9223372036854775808 by omega]; done)
theorem yag_subsat : yac_subsat.Good Tryd.prog syG (yaE [] [] [] []) := good_of_walk (Γ := ⟨[yac_nsub], syG, [], [], []⟩) (ρ := yaE [] [] [] []) sym subsat_w rfl (fun _ _ _ _ => (ok_cons (Con.Good.env yag_nsub _ _ _ _) ok_nil)) (fun a b hc hty => subsat_h a b hc hty)
def size_tree : Tree :=
 (.br (.b2 .lt (.var 0) (.lit (0)))
 (.need (.b2 .and (.b2 .le (.lit (-9223372036854775808)) (.var 0)) (.b2 .le (.var 0) (.lit (9223372036854775807))))
 (.ret (.int .i64 (.iapp 1 (.cons (.int .i64 (.i2 .sub (.lit (0)) (.var 0))) .nil)))))
 (.ret (.int .i64 (.var 0))))
abbrev yac_size : Con := ⟨138, [(.int .i64 (.var 0))], (.b2 .and (.b2 .le (.lit (-9223372036854775808)) (.var 0)) (.b2 .le (.var 0) (.lit (9223372036854775807)))), (.int .i64 (.iapp 0 (.cons (.int .i64 (.var 0)) .nil))), ⟨1, 0, 0, 0⟩, none⟩
theorem size_w : walk Tryd.prog 229 ⟨[yac_subsat], syG, [], [], []⟩ [] .v yac_size yac_size.n 3000 = some size_tree := by kernel_rfl
theorem size_h (a : Int) (hc : holds (yaE [a] [] [] []) (.b2 .and (.b2 .le (.lit (-9223372036854775808)) (.var 0)) (.b2 .le (.var 0) (.lit (9223372036854775807))))) (hty : patsTyp (yaE [a] [] [] []) [(.int .i64 (.var 0))]) : size_tree.holds (fun v_ => v_ = denV (yaE [a] [] [] []) b0 (.int .i64 (.iapp 0 (.cons (.int .i64 (.var 0)) .nil)))) (yaE [a] [] [] []) := by
  simp only [Tree.holds, Sy.holds, AllN, Env.more, yaE, List.cons_append, List.nil_append, List.append_nil, denV, denI, denB, denL, I2.den, VOp.den, List.getD_cons_zero, List.getD_cons_succ, Cst.den, syso, syse, syio, sybo, List.map_nil, List.map_cons, B2.ofInts, B2.denI, B2.denB, if_true, Bool.false_eq_true, if_false, Nat.div_one, Nat.mul_one, Nat.add_zero, holds] at hc
  simp only [patsTyp, patTyp, patTypL, yaE, denV, denL, List.getD_cons_zero, List.getD_cons_succ, and_true, true_and] at hty
  unfold size_tree
  simp only [Tree.holds, Sy.holds, AllN, Env.more, yaE, List.cons_append, List.nil_append, List.append_nil, denV, denI, denB, denL, I2.den, VOp.den, List.getD_cons_zero, List.getD_cons_succ, Cst.den, syso, syse, syio, sybo, yai_sz, yai_sa, List.map_nil, List.map_cons, B2.ofInts, B2.denI, B2.denB, if_true, Bool.false_eq_true, if_false, Nat.div_one, Nat.mul_one, Nat.add_zero]
  refine ⟨fun h0 => ?_, fun h0 => ?_⟩
  ·
   refine ⟨?_, fun h1 => ?_⟩
   ·
    omega
   ·
    have hs := szE_spec a ⟨by omega, by omega⟩
    have ht := satE_spec (0 - a)
    first
    | (exfalso; omega)
    | (rw [show szE a = a by omega]; done)
    | (rw [show szE a = satE (0 - a) by omega]; done)
  ·
   have hs := szE_spec a ⟨by omega, by omega⟩
   have ht := satE_spec (0 - a)
   first
   | (exfalso; omega)
   | (rw [show szE a = a by omega]; done)
   | (rw [show szE a = satE (0 - a) by omega]; done)
theorem yag_size : yac_size.Good Tryd.prog syG (yaE [] [] [] []) := good_of_walk (Γ := ⟨[yac_subsat], syG, [], [], []⟩) (ρ := yaE [] [] [] []) sym size_w rfl (fun _ _ _ _ => (ok_cons (Con.Good.env yag_subsat _ _ _ _) ok_nil)) (fun a hc hty => size_h a hc hty)
def addsat_tree : Tree :=
 (.need (.b2 .and (.b2 .and (.b2 .le (.lit (-9223372036854775808)) (.var 0)) (.b2 .le (.var 0) (.lit (9223372036854775807)))) (.b2 .and (.b2 .le (.lit (-9223372036854775808)) (.var 1)) (.b2 .le (.var 1) (.lit (9223372036854775807)))))
 (.br (.b2 .lt (.lit (9223372036854775807)) (.i2 .add (.var 0) (.var 1)))
 (.ret (.int .i64 (.lit (9223372036854775807))))
 (.need (.b2 .and (.b2 .and (.b2 .le (.lit (-9223372036854775808)) (.var 0)) (.b2 .le (.var 0) (.lit (9223372036854775807)))) (.b2 .and (.b2 .le (.lit (-9223372036854775808)) (.var 1)) (.b2 .le (.var 1) (.lit (9223372036854775807)))))
 (.br (.b2 .lt (.i2 .add (.var 0) (.var 1)) (.lit (-9223372036854775808)))
 (.ret (.int .i64 (.lit (-9223372036854775808))))
 (.ret (.int .i64 (.wrap .i64 (.i2 .add (.var 0) (.var 1)))))))))
abbrev yac_addsat : Con := ⟨219, [(.int .i64 (.var 0)), (.int .i64 (.var 1))], (.b2 .and (.b2 .and (.b2 .le (.lit (-9223372036854775808)) (.var 0)) (.b2 .le (.var 0) (.lit (9223372036854775807)))) (.b2 .and (.b2 .le (.lit (-9223372036854775808)) (.var 1)) (.b2 .le (.var 1) (.lit (9223372036854775807))))), (.int .i64 (.iapp 1 (.cons (.int .i64 (.i2 .add (.var 0) (.var 1))) .nil))), ⟨2, 0, 0, 0⟩, none⟩
theorem addsat_w : walk Tryd.prog 229 ⟨[yac_toohigh, yac_toolow], syG, [], [], []⟩ [] .v yac_addsat yac_addsat.n 3000 = some addsat_tree := by kernel_rfl
theorem addsat_h (a : Int) (b : Int) (hc : holds (yaE [a, b] [] [] []) (.b2 .and (.b2 .and (.b2 .le (.lit (-9223372036854775808)) (.var 0)) (.b2 .le (.var 0) (.lit (9223372036854775807)))) (.b2 .and (.b2 .le (.lit (-9223372036854775808)) (.var 1)) (.b2 .le (.var 1) (.lit (9223372036854775807)))))) (hty : patsTyp (yaE [a, b] [] [] []) [(.int .i64 (.var 0)), (.int .i64 (.var 1))]) : addsat_tree.holds (fun v_ => v_ = denV (yaE [a, b] [] [] []) b0 (.int .i64 (.iapp 1 (.cons (.int .i64 (.i2 .add (.var 0) (.var 1))) .nil)))) (yaE [a, b] [] [] []) := by
  simp only [Tree.holds, Sy.holds, AllN, Env.more, yaE, List.cons_append, List.nil_append, List.append_nil, denV, denI, denB, denL, I2.den, VOp.den, List.getD_cons_zero, List.getD_cons_succ, Cst.den, syso, syse, syio, sybo, List.map_nil, List.map_cons, B2.ofInts, B2.denI, B2.denB, if_true, Bool.false_eq_true, if_false, Nat.div_one, Nat.mul_one, Nat.add_zero, holds] at hc
  simp only [patsTyp, patTyp, patTypL, yaE, denV, denL, List.getD_cons_zero, List.getD_cons_succ, and_true, true_and] at hty
  unfold addsat_tree
  simp only [Tree.holds, Sy.holds, AllN, Env.more, yaE, List.cons_append, List.nil_append, List.append_nil, denV, denI, denB, denL, I2.den, VOp.den, List.getD_cons_zero, List.getD_cons_succ, Cst.den, syso, syse, syio, sybo, yai_sa, List.map_nil, List.map_cons, B2.ofInts, B2.denI, B2.denB, if_true, Bool.false_eq_true, if_false, Nat.div_one, Nat.mul_one, Nat.add_zero]
  refine ⟨?_, fun h0 => ?_⟩
  ·
   omega
  ·
   refine ⟨fun h1 => ?_, fun h1 => ?_⟩
   ·
    have ht := satE_spec (a + b)
    first
    | (exfalso; omega)
    | (rw [show satE (a + b) = IntKind.wrap .i64 (a + b) by omega]; done)
    | (rw [show satE (a + b) = 9223372036854775807 by omega]; done)
    | (rw [show satE (a + b) = -9223372036854775808 by omega]; done)
   ·
    refine ⟨?_, fun h2 => ?_⟩
    ·
     omega
    ·
     refine ⟨fun h3 => ?_, fun h3 => ?_⟩
     ·
      have ht := satE_spec (a + b)
      first
      | (exfalso; omega)
      | (rw [show satE (a + b) = IntKind.wrap .i64 (a + b) by omega]; done)
      | (rw [show satE (a + b) = 9223372036854775807 by omega]; done)
      | (rw [show satE (a + b) = -9223372036854775808 by omega]; done)
     ·
      have wf0 := wr_i64 (a + b)
      have ht := satE_spec (a + b)
      first
      | (exfalso; omega)
      | (rw [show satE (a + b) = IntKind.wrap .i64 (a + b) by omega]; done)
      | (rw [show satE (a + b) = 9223372036854775807 by omega]; done)
      | (rw [show satE (a + b) = -9223372036854775808 by omega]; done)
theorem yag_addsat : yac_addsat.Good Tryd.prog syG (yaE [] [] [] []) := good_of_walk (Γ := ⟨[yac_toohigh, yac_toolow], syG, [], [], []⟩) (ρ := yaE [] [] [] []) sym addsat_w rfl (fun _ _ _ _ => (ok_cons (Con.Good.env yag_toohigh _ _ _ _) (ok_cons (Con.Good.env yag_toolow _ _ _ _) ok_nil))) (fun a b hc hty => addsat_h a b hc hty)
abbrev yac_msh : Con := ⟨126, [(.int .i64 (.var 0)), (.int .u32 (.var 1)), (.int .i64 (.var 2))], (.b2 .and (.b2 .and (.b2 .le (.lit (-9223372036854775808)) (.var 0)) (.b2 .le (.var 0) (.lit (9223372036854775807)))) (.b2 .and (.b2 .and (.b2 .le (.lit (0)) (.var 1)) (.b2 .le (.var 1) (.lit (4294967295)))) (.b2 .and (.b2 .le (.lit (-9223372036854775808)) (.var 2)) (.b2 .le (.var 2) (.lit (9223372036854775807)))))), (.tup (.cons (.int .i64 (.iapp 8 (.cons (.int .i64 (.var 0)) (.cons (.int .u32 (.var 1)) (.cons (.int .i64 (.var 2)) .nil))))) (.cons (.err (.iapp 9 (.cons (.int .i64 (.var 0)) (.cons (.int .u32 (.var 1)) (.cons (.int .i64 (.var 2)) .nil))))) .nil))), ⟨3, 0, 0, 0⟩, none⟩
theorem yag_msh : yac_msh.Good Tryd.prog syG (yaE [] [] [] []) := good_flat rfl rfl rfl (by
  intro a b c hc β ok w hG
  have hc' := hc
  simp only [Tree.holds, Sy.holds, AllN, Env.more, yaE, List.cons_append, List.nil_append, List.append_nil, denV, denI, denB, denL, I2.den, VOp.den, List.getD_cons_zero, List.getD_cons_succ, Cst.den, syso, syse, syio, sybo, yai_msn, yai_mse, List.map_nil, List.map_cons, B2.ofInts, B2.denI, B2.denB, if_true, Bool.false_eq_true, if_false, Nat.div_one, Nat.mul_one, Nat.add_zero, holds] at hc
  exact msh_any a b c w hc.1 hc.2.1.1 (by have := hc.2.1.2; omega) hc.2.2)
abbrev yac_mdiv : Con := ⟨125, [(.int .i64 (.var 0)), (.int .i64 (.var 1)), (.int .i64 (.var 2))], (.b2 .and (.b2 .and (.b2 .le (.lit (-9223372036854775808)) (.var 0)) (.b2 .le (.var 0) (.lit (9223372036854775807)))) (.b2 .and (.b2 .and (.b2 .le (.lit (-9223372036854775808)) (.var 1)) (.b2 .le (.var 1) (.lit (9223372036854775807)))) (.b2 .and (.b2 .le (.lit (-9223372036854775808)) (.var 2)) (.b2 .le (.var 2) (.lit (9223372036854775807)))))), (.tup (.cons (.int .i64 (.iapp 6 (.cons (.int .i64 (.var 0)) (.cons (.int .i64 (.var 1)) (.cons (.int .i64 (.var 2)) .nil))))) (.cons (.err (.iapp 7 (.cons (.int .i64 (.var 0)) (.cons (.int .i64 (.var 1)) (.cons (.int .i64 (.var 2)) .nil))))) .nil))), ⟨3, 0, 0, 0⟩, none⟩
theorem yag_mdiv : yac_mdiv.Good Tryd.prog syG (yaE [] [] [] []) := good_flat rfl rfl rfl (by
  intro a b c hc β ok w hG
  have hc' := hc
  simp only [Tree.holds, Sy.holds, AllN, Env.more, yaE, List.cons_append, List.nil_append, List.append_nil, denV, denI, denB, denL, I2.den, VOp.den, List.getD_cons_zero, List.getD_cons_succ, Cst.den, syso, syse, syio, sybo, yai_mdn, yai_mde, List.map_nil, List.map_cons, B2.ofInts, B2.denI, B2.denB, if_true, Bool.false_eq_true, if_false, Nat.div_one, Nat.mul_one, Nat.add_zero, holds] at hc
  exact mdiv_any a b c w hc.1 hc.2.1 hc.2.2)
def rcheck_tree : Tree :=
 (.br (.b2 .eq (.var 0) (.lit (0)))
 (.ret (.iface 229 (.int .i64 (.lit (1)))))
 (.br (.b2 .lt (.var 1) (.lit (0)))
 (.ret (.iface 229 (.int .i64 (.lit (1)))))
 (.br (.b2 .lt (.lit (31)) (.var 1))
 (.ret (.iface 229 (.int .i64 (.lit (1)))))
 (.ret (.cst .nilI)))))
abbrev yac_rcheck : Con := ⟨155, [(.agg (.cons (.int .u32 (.var 0)) (.cons (.int .i64 (.var 1)) .nil)))], (.b2 .and (.b2 .and (.b2 .le (.lit (0)) (.var 0)) (.b2 .le (.var 0) (.lit (4294967295)))) (.b2 .and (.b2 .le (.lit (-9223372036854775808)) (.var 1)) (.b2 .le (.var 1) (.lit (9223372036854775807))))), (.err (.iapp 13 (.cons (.int .u32 (.var 0)) (.cons (.int .i64 (.var 1)) .nil)))), ⟨2, 0, 0, 0⟩, none⟩
theorem rcheck_w : walk Tryd.prog 229 ⟨[], syG, [], [], []⟩ [] .v yac_rcheck yac_rcheck.n 3000 = some rcheck_tree := by kernel_rfl
theorem rcheck_h (a : Int) (s : Int) (hc : holds (yaE [a, s] [] [] []) (.b2 .and (.b2 .and (.b2 .le (.lit (0)) (.var 0)) (.b2 .le (.var 0) (.lit (4294967295)))) (.b2 .and (.b2 .le (.lit (-9223372036854775808)) (.var 1)) (.b2 .le (.var 1) (.lit (9223372036854775807)))))) (hty : patsTyp (yaE [a, s] [] [] []) [(.agg (.cons (.int .u32 (.var 0)) (.cons (.int .i64 (.var 1)) .nil)))]) : rcheck_tree.holds (fun v_ => v_ = denV (yaE [a, s] [] [] []) b0 (.err (.iapp 13 (.cons (.int .u32 (.var 0)) (.cons (.int .i64 (.var 1)) .nil))))) (yaE [a, s] [] [] []) := by
  simp only [Tree.holds, Sy.holds, AllN, Env.more, yaE, List.cons_append, List.nil_append, List.append_nil, denV, denI, denB, denL, I2.den, VOp.den, List.getD_cons_zero, List.getD_cons_succ, Cst.den, syso, syse, syio, sybo, List.map_nil, List.map_cons, B2.ofInts, B2.denI, B2.denB, if_true, Bool.false_eq_true, if_false, Nat.div_one, Nat.mul_one, Nat.add_zero, holds] at hc
  simp only [patsTyp, patTyp, patTypL, yaE, denV, denL, List.getD_cons_zero, List.getD_cons_succ, and_true, true_and] at hty
  unfold rcheck_tree
  simp only [Tree.holds, Sy.holds, AllN, Env.more, yaE, List.cons_append, List.nil_append, List.append_nil, denV, denI, denB, denL, I2.den, VOp.den, List.getD_cons_zero, List.getD_cons_succ, Cst.den, syso, syse, syio, sybo, yai_fe, List.map_nil, List.map_cons, B2.ofInts, B2.denI, B2.denB, if_true, Bool.false_eq_true, if_false, Nat.div_one, Nat.mul_one, Nat.add_zero]
  refine ⟨fun h0 => ?_, fun h0 => ?_⟩
  ·
   first
   | (rw [feE_y (show fmP a s from ⟨by omega, by omega, by omega⟩)]; rfl)
   | (rw [feE_n (show ¬ fmP a s from fun hx => by unfold fmP at hx; omega)]; rfl)
  ·
   refine ⟨fun h1 => ?_, fun h1 => ?_⟩
   ·
    first
    | (rw [feE_y (show fmP a s from ⟨by omega, by omega, by omega⟩)]; rfl)
    | (rw [feE_n (show ¬ fmP a s from fun hx => by unfold fmP at hx; omega)]; rfl)
   ·
    refine ⟨fun h2 => ?_, fun h2 => ?_⟩
    ·
     first
     | (rw [feE_y (show fmP a s from ⟨by omega, by omega, by omega⟩)]; rfl)
     | (rw [feE_n (show ¬ fmP a s from fun hx => by unfold fmP at hx; omega)]; rfl)
    ·
     first
     | (rw [feE_y (show fmP a s from ⟨by omega, by omega, by omega⟩)]; rfl)
     | (rw [feE_n (show ¬ fmP a s from fun hx => by unfold fmP at hx; omega)]; rfl)
theorem yag_rcheck : yac_rcheck.Good Tryd.prog syG (yaE [] [] [] []) := good_of_walk (Γ := ⟨[], syG, [], [], []⟩) (ρ := yaE [] [] [] []) sym rcheck_w rfl (fun _ _ _ _ => ok_nil) (fun a s hc hty => rcheck_h a s hc hty)
def scale_tree : Tree :=
 (.need (.b2 .and (.b2 .and (.b2 .le (.lit (0)) (.var 0)) (.b2 .le (.var 0) (.lit (4294967295)))) (.b2 .and (.b2 .le (.lit (-9223372036854775808)) (.var 1)) (.b2 .le (.var 1) (.lit (9223372036854775807)))))
 (.br (.not (.b2 .eq (.iapp 13 (.cons (.int .u32 (.var 0)) (.cons (.int .i64 (.var 1)) .nil))) (.lit (0))))
 (.ret (.tup (.cons (.int .i64 (.lit (0))) (.cons (.err (.iapp 13 (.cons (.int .u32 (.var 0)) (.cons (.int .i64 (.var 1)) .nil)))) .nil))))
 (.need (.b2 .and (.b2 .and (.b2 .le (.lit (-9223372036854775808)) (.var 2)) (.b2 .le (.var 2) (.lit (9223372036854775807)))) (.b2 .and (.b2 .and (.b2 .le (.lit (0)) (.var 0)) (.b2 .le (.var 0) (.lit (4294967295)))) (.b2 .and (.b2 .le (.lit (-9223372036854775808)) (.var 1)) (.b2 .le (.var 1) (.lit (9223372036854775807))))))
 (.ret (.tup (.cons (.int .i64 (.iapp 8 (.cons (.int .i64 (.var 2)) (.cons (.int .u32 (.var 0)) (.cons (.int .i64 (.var 1)) .nil))))) (.cons (.err (.iapp 9 (.cons (.int .i64 (.var 2)) (.cons (.int .u32 (.var 0)) (.cons (.int .i64 (.var 1)) .nil))))) .nil)))))))
abbrev yac_scale : Con := ⟨214, [(.agg (.cons (.int .u32 (.var 0)) (.cons (.int .i64 (.var 1)) .nil))), (.int .i64 (.var 2))], (.b2 .and (.b2 .and (.b2 .and (.b2 .le (.lit (0)) (.var 0)) (.b2 .le (.var 0) (.lit (4294967295)))) (.b2 .and (.b2 .le (.lit (-9223372036854775808)) (.var 1)) (.b2 .le (.var 1) (.lit (9223372036854775807))))) (.b2 .and (.bapp 0 (.cons (.int .u32 (.var 0)) (.cons (.int .i64 (.var 1)) .nil))) (.b2 .and (.b2 .le (.lit (-9223372036854775808)) (.var 2)) (.b2 .le (.var 2) (.lit (9223372036854775807)))))), (.tup (.cons (.int .i64 (.iapp 8 (.cons (.int .i64 (.var 2)) (.cons (.int .u32 (.var 0)) (.cons (.int .i64 (.var 1)) .nil))))) (.cons (.err (.iapp 9 (.cons (.int .i64 (.var 2)) (.cons (.int .u32 (.var 0)) (.cons (.int .i64 (.var 1)) .nil))))) .nil))), ⟨3, 0, 0, 0⟩, none⟩
theorem scale_w : walk Tryd.prog 229 ⟨[yac_rcheck, yac_msh], syG, [], [], []⟩ [] .v yac_scale yac_scale.n 3000 = some scale_tree := by kernel_rfl
theorem scale_h (a : Int) (s : Int) (n : Int) (hc : holds (yaE [a, s, n] [] [] []) (.b2 .and (.b2 .and (.b2 .and (.b2 .le (.lit (0)) (.var 0)) (.b2 .le (.var 0) (.lit (4294967295)))) (.b2 .and (.b2 .le (.lit (-9223372036854775808)) (.var 1)) (.b2 .le (.var 1) (.lit (9223372036854775807))))) (.b2 .and (.bapp 0 (.cons (.int .u32 (.var 0)) (.cons (.int .i64 (.var 1)) .nil))) (.b2 .and (.b2 .le (.lit (-9223372036854775808)) (.var 2)) (.b2 .le (.var 2) (.lit (9223372036854775807))))))) (hty : patsTyp (yaE [a, s, n] [] [] []) [(.agg (.cons (.int .u32 (.var 0)) (.cons (.int .i64 (.var 1)) .nil))), (.int .i64 (.var 2))]) : scale_tree.holds (fun v_ => v_ = denV (yaE [a, s, n] [] [] []) b0 (.tup (.cons (.int .i64 (.iapp 8 (.cons (.int .i64 (.var 2)) (.cons (.int .u32 (.var 0)) (.cons (.int .i64 (.var 1)) .nil))))) (.cons (.err (.iapp 9 (.cons (.int .i64 (.var 2)) (.cons (.int .u32 (.var 0)) (.cons (.int .i64 (.var 1)) .nil))))) .nil)))) (yaE [a, s, n] [] [] []) := by
  simp only [Tree.holds, Sy.holds, AllN, Env.more, yaE, List.cons_append, List.nil_append, List.append_nil, denV, denI, denB, denL, I2.den, VOp.den, List.getD_cons_zero, List.getD_cons_succ, Cst.den, syso, syse, syio, sybo, yab_fm, List.map_nil, List.map_cons, B2.ofInts, B2.denI, B2.denB, if_true, Bool.false_eq_true, if_false, Nat.div_one, Nat.mul_one, Nat.add_zero, holds] at hc
  simp only [patsTyp, patTyp, patTypL, yaE, denV, denL, List.getD_cons_zero, List.getD_cons_succ, and_true, true_and] at hty
  unfold scale_tree
  simp only [Tree.holds, Sy.holds, AllN, Env.more, yaE, List.cons_append, List.nil_append, List.append_nil, denV, denI, denB, denL, I2.den, VOp.den, List.getD_cons_zero, List.getD_cons_succ, Cst.den, syso, syse, syio, sybo, yai_msn, yai_mse, yai_fe, List.map_nil, List.map_cons, B2.ofInts, B2.denI, B2.denB, if_true, Bool.false_eq_true, if_false, Nat.div_one, Nat.mul_one, Nat.add_zero]
  have hf : fmP a s := of_decide_eq_true hc.2.1
  have hf0 := hf
  unfold fmP at hf0
  refine ⟨?_, fun h0 => ?_⟩
  ·
   first
   | omega
   | exact hc.1.1
   | exact hc.1.2
   | exact hc.2.1
   | exact hc.2.2
   | exact hc
   | (rw [feE_y hf]; done)
   | (rw [feE_y hf] at *; simp at *; done)
   | rfl
   | (simp only [feE_y hf] at *; omega)
   | (simp_all; done)
  ·
   refine ⟨fun h1 => ?_, fun h1 => ?_⟩
   ·
    first
    | omega
    | exact hc.1.1
    | exact hc.1.2
    | exact hc.2.1
    | exact hc.2.2
    | exact hc
    | (rw [feE_y hf]; done)
    | (rw [feE_y hf] at *; simp at *; done)
    | rfl
    | (simp only [feE_y hf] at *; omega)
    | (simp_all; done)
   ·
    refine ⟨?_, fun h2 => ?_⟩
    ·
     first
     | omega
     | exact hc.1.1
     | exact hc.1.2
     | exact hc.2.1
     | exact hc.2.2
     | exact hc
     | (rw [feE_y hf]; done)
     | (rw [feE_y hf] at *; simp at *; done)
     | rfl
     | (simp only [feE_y hf] at *; omega)
     | (simp_all; done)
    ·
     first
     | omega
     | exact hc.1.1
     | exact hc.1.2
     | exact hc.2.1
     | exact hc.2.2
     | exact hc
     | (rw [feE_y hf]; done)
     | (rw [feE_y hf] at *; simp at *; done)
     | rfl
     | (simp only [feE_y hf] at *; omega)
     | (simp_all; done)
theorem yag_scale : yac_scale.Good Tryd.prog syG (yaE [] [] [] []) := good_of_walk (Γ := ⟨[yac_rcheck, yac_msh], syG, [], [], []⟩) (ρ := yaE [] [] [] []) sym scale_w rfl (fun _ _ _ _ => (ok_cons (Con.Good.env yag_rcheck _ _ _ _) (ok_cons (Con.Good.env yag_msh _ _ _ _) ok_nil))) (fun a s n hc hty => scale_h a s n hc hty)
def off_tree : Tree :=
 (.need (.b2 .and (.b2 .and (.b2 .le (.lit (0)) (.var 0)) (.b2 .le (.var 0) (.lit (4294967295)))) (.b2 .and (.b2 .le (.lit (-9223372036854775808)) (.var 1)) (.b2 .le (.var 1) (.lit (9223372036854775807)))))
 (.br (.not (.b2 .eq (.iapp 13 (.cons (.int .u32 (.var 0)) (.cons (.int .i64 (.var 1)) .nil))) (.lit (0))))
 (.ret (.tup (.cons (.int .i64 (.lit (0))) (.cons (.iface 229 (.int .i64 (.lit (1)))) .nil))))
 (.br (.b2 .lt (.var 2) (.lit (0)))
 (.ret (.tup (.cons (.int .i64 (.lit (0))) (.cons (.iface 229 (.int .i64 (.lit (1)))) .nil))))
 (.need (.b2 .le (.lit (0)) (.var 1))
 (.need (.b2 .and (.b2 .le (.lit (-9223372036854775808)) (.i2 (.shr .i64) (.var 2) (.var 1))) (.b2 .le (.i2 (.shr .i64) (.var 2) (.var 1)) (.lit (9223372036854775807))))
 (.ret (.tup (.cons (.int .i64 (.iapp 2 (.cons (.int .i64 (.i2 .add (.i2 (.shr .i64) (.var 2) (.var 1)) (.lit (2)))) .nil))) (.cons (.err (.iapp 3 (.cons (.int .i64 (.i2 .add (.i2 (.shr .i64) (.var 2) (.var 1)) (.lit (2)))) .nil))) .nil)))))))))
abbrev yac_off : Con := ⟨223, [(.agg (.cons (.int .u32 (.var 0)) (.cons (.int .i64 (.var 1)) .nil))), (.int .i64 (.var 2))], (.b2 .and (.b2 .and (.b2 .and (.b2 .le (.lit (0)) (.var 0)) (.b2 .le (.var 0) (.lit (4294967295)))) (.b2 .and (.b2 .le (.lit (-9223372036854775808)) (.var 1)) (.b2 .le (.var 1) (.lit (9223372036854775807))))) (.b2 .and (.bapp 0 (.cons (.int .u32 (.var 0)) (.cons (.int .i64 (.var 1)) .nil))) (.b2 .and (.b2 .le (.lit (0)) (.var 2)) (.b2 .le (.var 2) (.lit (1125899906842624)))))), (.tup (.cons (.int .i64 (.i2 .add (.iapp 11 (.cons (.int .i64 (.var 2)) (.cons (.int .i64 (.var 1)) .nil))) (.lit (2)))) (.cons (.err (.lit (0))) .nil))), ⟨3, 0, 0, 0⟩, none⟩
theorem off_w : walk Tryd.prog 229 ⟨[yac_rcheck, yac_nadd], syG, [], [], []⟩ [] .v yac_off yac_off.n 3000 = some off_tree := by kernel_rfl
theorem off_h (a : Int) (s : Int) (n : Int) (hc : holds (yaE [a, s, n] [] [] []) (.b2 .and (.b2 .and (.b2 .and (.b2 .le (.lit (0)) (.var 0)) (.b2 .le (.var 0) (.lit (4294967295)))) (.b2 .and (.b2 .le (.lit (-9223372036854775808)) (.var 1)) (.b2 .le (.var 1) (.lit (9223372036854775807))))) (.b2 .and (.bapp 0 (.cons (.int .u32 (.var 0)) (.cons (.int .i64 (.var 1)) .nil))) (.b2 .and (.b2 .le (.lit (0)) (.var 2)) (.b2 .le (.var 2) (.lit (1125899906842624))))))) (hty : patsTyp (yaE [a, s, n] [] [] []) [(.agg (.cons (.int .u32 (.var 0)) (.cons (.int .i64 (.var 1)) .nil))), (.int .i64 (.var 2))]) : off_tree.holds (fun v_ => v_ = denV (yaE [a, s, n] [] [] []) b0 (.tup (.cons (.int .i64 (.i2 .add (.iapp 11 (.cons (.int .i64 (.var 2)) (.cons (.int .i64 (.var 1)) .nil))) (.lit (2)))) (.cons (.err (.lit (0))) .nil)))) (yaE [a, s, n] [] [] []) := by
  simp only [Tree.holds, Sy.holds, AllN, Env.more, yaE, List.cons_append, List.nil_append, List.append_nil, denV, denI, denB, denL, I2.den, VOp.den, List.getD_cons_zero, List.getD_cons_succ, Cst.den, syso, syse, syio, sybo, yab_fm, List.map_nil, List.map_cons, B2.ofInts, B2.denI, B2.denB, if_true, Bool.false_eq_true, if_false, Nat.div_one, Nat.mul_one, Nat.add_zero, holds] at hc
  simp only [patsTyp, patTyp, patTypL, yaE, denV, denL, List.getD_cons_zero, List.getD_cons_succ, and_true, true_and] at hty
  unfold off_tree
  simp only [Tree.holds, Sy.holds, AllN, Env.more, yaE, List.cons_append, List.nil_append, List.append_nil, denV, denI, denB, denL, I2.den, VOp.den, List.getD_cons_zero, List.getD_cons_succ, Cst.den, syso, syse, syio, sybo, yai_nv, yai_ne, yai_hv, yai_fe, List.map_nil, List.map_cons, B2.ofInts, B2.denI, B2.denB, if_true, Bool.false_eq_true, if_false, Nat.div_one, Nat.mul_one, Nat.add_zero]
  have hf : fmP a s := of_decide_eq_true hc.2.1
  have hf0 := hf
  unfold fmP at hf0
  have hb := hv_bd (n := n) (s := s) hc.2.2.1
  have he := shr_hv (n := n) hf0.2.1 hf0.2.2
  have hs := svE_spec (n / 2 ^ s.toNat + 2)
  refine ⟨?_, fun h0 => ?_⟩
  ·
   first
   | omega
   | exact hc.1
   | exact hc.1.1
   | exact hc.1.2
   | (rw [he]; omega)
  ·
   refine ⟨fun h1 => ?_, fun h1 => ?_⟩
   ·
    first
    | (exfalso; rw [feE_y hf] at *; omega)
    | (exfalso; omega)
    | (simp only [he]
       rw [show svE (n / 2 ^ s.toNat + 2) = n / 2 ^ s.toNat + 2 by omega, show erE (n / 2 ^ s.toNat + 2) = 0 by omega]
       done)
   ·
    refine ⟨fun h2 => ?_, fun h2 => ?_⟩
    ·
     first
     | (exfalso; rw [feE_y hf] at *; omega)
     | (exfalso; omega)
     | (simp only [he]
        rw [show svE (n / 2 ^ s.toNat + 2) = n / 2 ^ s.toNat + 2 by omega, show erE (n / 2 ^ s.toNat + 2) = 0 by omega]
        done)
    ·
     refine ⟨?_, fun h3 => ?_⟩
     ·
      first
      | omega
      | exact hc.1
      | exact hc.1.1
      | exact hc.1.2
      | (rw [he]; omega)
     ·
      refine ⟨?_, fun h4 => ?_⟩
      ·
       first
       | omega
       | exact hc.1
       | exact hc.1.1
       | exact hc.1.2
       | (rw [he]; omega)
      ·
       first
       | (exfalso; rw [feE_y hf] at *; omega)
       | (exfalso; omega)
       | (simp only [he]
          rw [show svE (n / 2 ^ s.toNat + 2) = n / 2 ^ s.toNat + 2 by omega, show erE (n / 2 ^ s.toNat + 2) = 0 by omega]
          done)
theorem yag_off : yac_off.Good Tryd.prog syG (yaE [] [] [] []) := good_of_walk (Γ := ⟨[yac_rcheck, yac_nadd], syG, [], [], []⟩) (ρ := yaE [] [] [] []) sym off_w rfl (fun _ _ _ _ => (ok_cons (Con.Good.env yag_rcheck _ _ _ _) (ok_cons (Con.Good.env yag_nadd _ _ _ _) ok_nil))) (fun a s n hc hty => off_h a s n hc hty)
def grow_tree : Tree :=
 (.br (.b2 .lt (.var 0) (.lit (0)))
 (.ret (.tup (.cons (.int .i64 (.lit (0))) (.cons (.iface 229 (.int .i64 (.lit (1)))) .nil))))
 (.br (.b2 .lt (.var 1) (.lit (0)))
 (.ret (.tup (.cons (.int .i64 (.lit (0))) (.cons (.iface 229 (.int .i64 (.lit (1)))) .nil))))
 (.br (.b2 .lt (.lit (2097152)) (.var 1))
 (.ret (.tup (.cons (.int .i64 (.lit (0))) (.cons (.iface 229 (.int .i64 (.lit (1)))) .nil))))
 (.br (.b2 .lt (.var 2) (.lit (0)))
 (.ret (.tup (.cons (.int .i64 (.lit (0))) (.cons (.iface 229 (.int .i64 (.lit (1)))) .nil))))
 (.need (.b2 .and (.b2 .and (.b2 .le (.lit (-9223372036854775808)) (.wrap .i64 (.i2 .sub (.lit (0)) (.var 2)))) (.b2 .le (.wrap .i64 (.i2 .sub (.lit (0)) (.var 2))) (.lit (9223372036854775807)))) (.b2 .and (.b2 .le (.lit (-9223372036854775808)) (.var 1)) (.b2 .le (.var 1) (.lit (9223372036854775807)))))
 (.br (.not (.b2 .eq (.iapp 7 (.cons (.int .i64 (.wrap .i64 (.i2 .sub (.lit (0)) (.var 2)))) (.cons (.int .i64 (.var 1)) (.cons (.int .i64 (.lit (1073741824))) .nil)))) (.lit (0))))
 (.ret (.tup (.cons (.int .i64 (.lit (0))) (.cons (.err (.iapp 7 (.cons (.int .i64 (.wrap .i64 (.i2 .sub (.lit (0)) (.var 2)))) (.cons (.int .i64 (.var 1)) (.cons (.int .i64 (.lit (1073741824))) .nil))))) .nil))))
 (.need (.b2 .and (.b2 .and (.b2 .le (.lit (-9223372036854775808)) (.var 0)) (.b2 .le (.var 0) (.lit (9223372036854775807)))) (.b2 .and (.b2 .le (.lit (-9223372036854775808)) (.iapp 6 (.cons (.int .i64 (.wrap .i64 (.i2 .sub (.lit (0)) (.var 2)))) (.cons (.int .i64 (.var 1)) (.cons (.int .i64 (.lit (1073741824))) .nil))))) (.b2 .le (.iapp 6 (.cons (.int .i64 (.wrap .i64 (.i2 .sub (.lit (0)) (.var 2)))) (.cons (.int .i64 (.var 1)) (.cons (.int .i64 (.lit (1073741824))) .nil)))) (.lit (9223372036854775807)))))
 (.ret (.tup (.cons (.int .i64 (.iapp 1 (.cons (.int .i64 (.i2 .sub (.var 0) (.iapp 6 (.cons (.int .i64 (.wrap .i64 (.i2 .sub (.lit (0)) (.var 2)))) (.cons (.int .i64 (.var 1)) (.cons (.int .i64 (.lit (1073741824))) .nil)))))) .nil))) (.cons (.cst .nilI) .nil)))))))))))
abbrev yac_grow : Con := ⟨222, [(.int .i64 (.var 0)), (.int .i64 (.var 1)), (.int .i64 (.var 2))], (.b2 .and (.b2 .le (.lit (0)) (.var 0)) (.b2 .and (.b2 .le (.var 0) (.lit (2305843009213693952))) (.b2 .and (.b2 .le (.lit (0)) (.var 1)) (.b2 .and (.b2 .le (.var 1) (.lit (2097152))) (.b2 .and (.b2 .le (.lit (0)) (.var 2)) (.b2 .le (.var 2) (.lit (9223372036854775807)))))))), (.tup (.cons (.int .i64 (.iapp 1 (.cons (.int .i64 (.i2 .add (.var 0) (.iapp 10 (.cons (.int .i64 (.var 2)) (.cons (.int .i64 (.var 1)) .nil))))) .nil))) (.cons (.err (.lit (0))) .nil))), ⟨3, 0, 0, 0⟩, none⟩
theorem grow_w : walk Tryd.prog 229 ⟨[yac_mdiv, yac_subsat], syG, [], [], []⟩ [] .v yac_grow yac_grow.n 3000 = some grow_tree := by kernel_rfl
theorem grow_h (e : Int) (r : Int) (g : Int) (hc : holds (yaE [e, r, g] [] [] []) (.b2 .and (.b2 .le (.lit (0)) (.var 0)) (.b2 .and (.b2 .le (.var 0) (.lit (2305843009213693952))) (.b2 .and (.b2 .le (.lit (0)) (.var 1)) (.b2 .and (.b2 .le (.var 1) (.lit (2097152))) (.b2 .and (.b2 .le (.lit (0)) (.var 2)) (.b2 .le (.var 2) (.lit (9223372036854775807))))))))) (hty : patsTyp (yaE [e, r, g] [] [] []) [(.int .i64 (.var 0)), (.int .i64 (.var 1)), (.int .i64 (.var 2))]) : grow_tree.holds (fun v_ => v_ = denV (yaE [e, r, g] [] [] []) b0 (.tup (.cons (.int .i64 (.iapp 1 (.cons (.int .i64 (.i2 .add (.var 0) (.iapp 10 (.cons (.int .i64 (.var 2)) (.cons (.int .i64 (.var 1)) .nil))))) .nil))) (.cons (.err (.lit (0))) .nil)))) (yaE [e, r, g] [] [] []) := by
  simp only [Tree.holds, Sy.holds, AllN, Env.more, yaE, List.cons_append, List.nil_append, List.append_nil, denV, denI, denB, denL, I2.den, VOp.den, List.getD_cons_zero, List.getD_cons_succ, Cst.den, syso, syse, syio, sybo, List.map_nil, List.map_cons, B2.ofInts, B2.denI, B2.denB, if_true, Bool.false_eq_true, if_false, Nat.div_one, Nat.mul_one, Nat.add_zero, holds] at hc
  simp only [patsTyp, patTyp, patTypL, yaE, denV, denL, List.getD_cons_zero, List.getD_cons_succ, and_true, true_and] at hty
  unfold grow_tree
  simp only [Tree.holds, Sy.holds, AllN, Env.more, yaE, List.cons_append, List.nil_append, List.append_nil, denV, denI, denB, denL, I2.den, VOp.den, List.getD_cons_zero, List.getD_cons_succ, Cst.den, syso, syse, syio, sybo, yai_sa, yai_mdn, yai_mde, yai_up, List.map_nil, List.map_cons, B2.ofInts, B2.denI, B2.denB, if_true, Bool.false_eq_true, if_false, Nat.div_one, Nat.mul_one, Nat.add_zero]
  obtain ⟨u1, u2, u3, u4⟩ := up_bd (g := g) (r := r) hc.2.2.2.2.1 hc.2.2.2.2.2 hc.2.2.1 hc.2.2.2.1
  have hw : IntKind.wrap .i64 (0 - g) = -g := by have := wr_i64 (0 - g); omega
  refine ⟨fun h0 => ?_, fun h0 => ?_⟩
  ·
   first
   | (exfalso; omega)
   | exact absurd (by rw [hw]; exact u4) h5
   | (rw [hw, u3, show e - -(upK (g * r)) = e + upK (g * r) by omega]
      done)
   | (rw [hw, u3, show e - -(upK (g * r)) = e + upK (g * r) by omega]
      rfl)
   | skip
  ·
   refine ⟨fun h1 => ?_, fun h1 => ?_⟩
   ·
    first
    | (exfalso; omega)
    | exact absurd (by rw [hw]; exact u4) h5
    | (rw [hw, u3, show e - -(upK (g * r)) = e + upK (g * r) by omega]
       done)
    | (rw [hw, u3, show e - -(upK (g * r)) = e + upK (g * r) by omega]
       rfl)
    | skip
   ·
    refine ⟨fun h2 => ?_, fun h2 => ?_⟩
    ·
     first
     | (exfalso; omega)
     | exact absurd (by rw [hw]; exact u4) h5
     | (rw [hw, u3, show e - -(upK (g * r)) = e + upK (g * r) by omega]
        done)
     | (rw [hw, u3, show e - -(upK (g * r)) = e + upK (g * r) by omega]
        rfl)
     | skip
    ·
     refine ⟨fun h3 => ?_, fun h3 => ?_⟩
     ·
      first
      | (exfalso; omega)
      | exact absurd (by rw [hw]; exact u4) h5
      | (rw [hw, u3, show e - -(upK (g * r)) = e + upK (g * r) by omega]
         done)
      | (rw [hw, u3, show e - -(upK (g * r)) = e + upK (g * r) by omega]
         rfl)
      | skip
     ·
      have wf0 := wr_i64 (0 - g)
      refine ⟨?_, fun h4 => ?_⟩
      ·
       first
       | omega
       | (simp only [hw, u3, u4]; omega)
      ·
       try simp only [hw0]
       refine ⟨fun h5 => ?_, fun h5 => ?_⟩
       ·
        try simp only [hw0]
        first
        | (exfalso; omega)
        | exact absurd (by rw [hw]; exact u4) h5
        | (rw [hw, u3, show e - -(upK (g * r)) = e + upK (g * r) by omega]
           done)
        | (rw [hw, u3, show e - -(upK (g * r)) = e + upK (g * r) by omega]
           rfl)
        | skip
       ·
        try simp only [hw0]
        refine ⟨?_, fun h6 => ?_⟩
        ·
         first
         | omega
         | (simp only [hw, u3, u4]; omega)
        ·
         try simp only [hw0]
         first
         | (exfalso; omega)
         | exact absurd (by rw [hw]; exact u4) h5
         | (rw [hw, u3, show e - -(upK (g * r)) = e + upK (g * r) by omega]
            done)
         | (rw [hw, u3, show e - -(upK (g * r)) = e + upK (g * r) by omega]
            rfl)
         | skip
theorem yag_grow : yac_grow.Good Tryd.prog syG (yaE [] [] [] []) := good_of_walk (Γ := ⟨[yac_mdiv, yac_subsat], syG, [], [], []⟩) (ρ := yaE [] [] [] []) sym grow_w rfl (fun _ _ _ _ => (ok_cons (Con.Good.env yag_mdiv _ _ _ _) (ok_cons (Con.Good.env yag_subsat _ _ _ _) ok_nil))) (fun e r g hc hty => grow_h e r g hc hty)
end Go.Proofs.YtjhjgfnodhbacaaDoor
