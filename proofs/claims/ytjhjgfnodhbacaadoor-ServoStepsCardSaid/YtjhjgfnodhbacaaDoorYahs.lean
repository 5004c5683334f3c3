/-
  Layer 22 by the second engine: numbers, factors, drift.
-/
import Derived.Test.YtjhjgfnodhbacaaDoorSychs
import Derived.Test.YtjhjgfnodhbacaaDoorE00hs
import Derived.Test.YtjhjgfnodhbacaaDoorNumhs
import Derived.Test.YtjhjgfnodhbacaaDoorSyohs
import Derived.Test.YtjhjgfnodhbacaaDoorW02shs
import Derived.Test.YtjhjgfnodhbacaaDoorV02hs
import Derived.Test.YtjhjgfnodhbacaaDoorW02jhs
import Derived.Test.YtjhjgfnodhbacaaDoorBigmhs
import Derived.Test.YtjhjgfnodhbacaaDoorW17hs
namespace Go.Proofs.YtjhjgfnodhbacaaDoor
open Go.RowKit Go.Extern.Stop Go.Stop Go.Extern Go.Proofs.YtjhjgfnodhbacaaDoor.Sy
set_option linter.unusedVariables false
set_option linter.unusedSimpArgs false
def fmP (a s : Int) : Prop := 0 < a ∧ 0 ≤ s ∧ s ≤ 31
instance (a s : Int) : Decidable (fmP a s) := by unfold fmP; infer_instance
def pgP (e b t r gm gs pm ps p c : Int) : Prop := 0 ≤ e ∧ e ≤ 1099511627776 ∧ 0 ≤ b ∧ b ≤ 1152921504606846976 ∧ -4611686018427387904 < t ∧ t < 4611686018427387904 ∧ 0 ≤ r ∧ r ≤ 2305843009213693952 ∧ fmP gm gs ∧ fmP pm ps ∧ 0 ≤ p ∧ p ≤ 2097152 ∧ 1 ≤ c ∧ c ≤ 1125899906842624
instance (e b t r gm gs pm ps p c : Int) : Decidable (pgP e b t r gm gs pm ps p c) := by unfold pgP; infer_instance
def feE (a s : Int) : Int := if fmP a s then 0 else 1
def pgE (e b t r gm gs pm ps p c : Int) : Int := if pgP e b t r gm gs pm ps p c then 0 else 1
def qE (a s g : Int) : Int := g * a / 2 ^ s.toNat
theorem bd_sat (x : Int) : bdE (svE x) (soE x) = satE x := by
  have h1 := svE_spec x
  have h2 := bdE_spec (svE x) (soE x)
  have h3 := satE_spec x
  omega
def atV (t a s g : Int) : Int := if t + qE a s g < 4611686018427387904 then t + qE a s g else 0
def atE (t a s g : Int) : Int := if t + qE a s g < 4611686018427387904 then 0 else 2
def gdV (e b t r gm gs pm ps p c : Int) : Int := if pgP e b t r gm gs pm ps p c then b + c else 0
def bnO (r a s p g : Int) : Int := satE (satE (satE (r + upK (satE (qE a s g + 1) * p)) + (g / 2 ^ s.toNat + 2)) + 2)
def bnV (r a s p g : Int) : Int := if 9223372036854775807 < qE a s g then 0 else bnO r a s p g
def bnE (a s g : Int) : Int := if 9223372036854775807 < qE a s g then 2 else 0
def tmE (e b t r gm gs pm ps p c k : Int) : Int := if ¬ pgP e b t r gm gs pm ps p c then 1 else if k < b then 10 else if c < k - b then 14 else if 4611686018427387904 ≤ t + qE gm gs (k - b) then 2 else if 9223372036854775807 < qE pm ps (k - b) then 2 else 0
def tmT (e b t r gm gs pm ps p c k : Int) : Int := if tmE e b t r gm gs pm ps p c k = 0 then t + qE gm gs (k - b) else 0
def tmO (e b t r gm gs pm ps p c k : Int) : Int := if tmE e b t r gm gs pm ps p c k = 0 then bnO r pm ps p (k - b) else 0
def whP (t a s T c i : Int) : Prop := 0 ≤ i ∧ i ≤ c + 1 ∧ (i = 0 ∨ (t + qE a s (i - 1) < 4611686018427387904 ∧ t + qE a s (i - 1) < T)) ∧ (i = c + 1 ∨ 4611686018427387904 ≤ t + qE a s i ∨ T ≤ t + qE a s i)
noncomputable def whI (t a s T c : Int) : Int := @dite Int (∃ i, whP t a s T c i) (Classical.propDecidable _) (fun h => Classical.choose h) (fun _ => 0)
noncomputable def whE (e b t r gm gs pm ps p c T : Int) : Int := if ¬ pgP e b t r gm gs pm ps p c then 1 else if T < t then 10 else if c < whI t gm gs T c then 14 else 0
noncomputable def whV (e b t r gm gs pm ps p c T : Int) : Int := if whE e b t r gm gs pm ps p c T = 0 then b + whI t gm gs T c else 0
def p2B (b : Int) : Bool := decide (b = 0) || (List.range 51).any fun k => decide (b = 2 ^ k)
noncomputable def yaI : Nat → List Value → Int
  | 0, [.int _ a] => szE a
  | 1, [.int _ a] => satE a
  | 2, [.int _ a] => svE a
  | 3, [.int _ a] => erE a
  | 4, [.int _ a] => soE a
  | 5, [.int _ a, .int _ o] => bdE a o
  | 6, [.int _ a, .int _ b, .int _ c] => mdN a b c
  | 7, [.int _ a, .int _ b, .int _ c] => mdE a b c
  | 8, [.int _ a, .int _ b, .int _ c] => msN a b c
  | 9, [.int _ a, .int _ b, .int _ c] => msE a b c
  | 10, [.int _ g, .int _ r] => upK (g * r)
  | 11, [.int _ n, .int _ s] => n / 2 ^ s.toNat
  | 12, [.int _ a, .int _ s, .int _ g] => qE a s g
  | 13, [.int _ a, .int _ s] => feE a s
  | 14, [.int _ e, .int _ b, .int _ t, .int _ r, .int _ gm, .int _ gs, .int _ pm, .int _ ps, .int _ p, .int _ c] => pgE e b t r gm gs pm ps p c
  | 15, [.int _ e, .int _ b, .int _ t, .int _ r, .int _ gm, .int _ gs, .int _ pm, .int _ ps, .int _ p, .int _ c] => gdV e b t r gm gs pm ps p c
  | 16, [.int _ t, .int _ a, .int _ s, .int _ g] => atV t a s g
  | 17, [.int _ t, .int _ a, .int _ s, .int _ g] => atE t a s g
  | 18, [.int _ r, .int _ a, .int _ s, .int _ p, .int _ g] => bnV r a s p g
  | 19, [.int _ a, .int _ s, .int _ g] => bnE a s g
  | 20, [.int _ e, .int _ b, .int _ t, .int _ r, .int _ gm, .int _ gs, .int _ pm, .int _ ps, .int _ p, .int _ c, .int _ k] => tmE e b t r gm gs pm ps p c k
  | 21, [.int _ e, .int _ b, .int _ t, .int _ r, .int _ gm, .int _ gs, .int _ pm, .int _ ps, .int _ p, .int _ c, .int _ k] => tmT e b t r gm gs pm ps p c k
  | 22, [.int _ e, .int _ b, .int _ t, .int _ r, .int _ gm, .int _ gs, .int _ pm, .int _ ps, .int _ p, .int _ c, .int _ k] => tmO e b t r gm gs pm ps p c k
  | 23, [.int _ t, .int _ a, .int _ s, .int _ T, .int _ c] => whI t a s T c
  | 24, [.int _ e, .int _ b, .int _ t, .int _ r, .int _ gm, .int _ gs, .int _ pm, .int _ ps, .int _ p, .int _ c, .int _ T] => whE e b t r gm gs pm ps p c T
  | 25, [.int _ e, .int _ b, .int _ t, .int _ r, .int _ gm, .int _ gs, .int _ pm, .int _ ps, .int _ p, .int _ c, .int _ T] => whV e b t r gm gs pm ps p c T
  | _, _ => 0
noncomputable def yaB : Nat → List Value → Bool
  | 0, [.int _ a, .int _ s] => decide (fmP a s)
  | 1, [.int _ e, .int _ b, .int _ t, .int _ r, .int _ gm, .int _ gs, .int _ pm, .int _ ps, .int _ p, .int _ c] => decide (pgP e b t r gm gs pm ps p c)
  | 2, [.int _ b] => p2B b
  | _, _ => false
noncomputable def yaV : Nat → List Value → Value
  | _, _ => Go.undef
noncomputable abbrev yaE (iv : List Int) (bv : List Bool) (vv : List Value) (sv : List ByteArray) : Env := { iv := iv, bv := bv, vv := vv, sv := sv, fi := yaI, fb := yaB, fv := yaV, et := 229 }
theorem yai_sz (k1 : IntKind) (a : Int) : yaI 0 [.int k1 a] = szE a := rfl
theorem yai_sa (k1 : IntKind) (a : Int) : yaI 1 [.int k1 a] = satE a := rfl
theorem yai_nv (k1 : IntKind) (a : Int) : yaI 2 [.int k1 a] = svE a := rfl
theorem yai_ne (k1 : IntKind) (a : Int) : yaI 3 [.int k1 a] = erE a := rfl
theorem yai_bd (k1 : IntKind) (a : Int) (k2 : IntKind) (o : Int) : yaI 5 [.int k1 a, .int k2 o] = bdE a o := rfl
theorem syso (s : ByteArray) : strOf (.string s) = s := rfl
theorem syse (a b : ByteArray) : strEq (.string a) (.string b) = (a == b) := rfl
theorem syio (k : IntKind) (n : Int) : intOf (.int k n) = n := rfl
theorem sybo (b : Bool) : boolOf (.bool b) = b := rfl
theorem typ_len {r : SK} {v : Value} {n : Nat} (h : typ (.sl r) v) (e : r.wd = n) (e0 : 0 < n) : ((rows v).length / n : Nat) ≤ 140737488355328 ∧ (rows v).length = (rows v).length / n * n := by
  obtain ⟨_, m, h1, h2, _⟩ := h
  rw [e] at h2
  rw [h2, Nat.mul_div_cancel _ e0]
  exact ⟨h1, rfl⟩
theorem sym : Tryd.prog.follows .mixedOrders = true := by kernel_rfl
abbrev syG : Glob := [(0, 0, asHandle)]
def nsub_tree : Tree :=
 (.br (.b2 .lt (.var 1) (.lit (0)))
 (.br (.b2 .lt (.wrap .i64 (.i2 .add (.lit (9223372036854775807)) (.var 1))) (.var 0))
 (.ret (.tup (.cons (.int .i64 (.lit (0))) (.cons (.iface 229 (.int .i64 (.lit (2)))) .nil))))
 (.br (.b2 .lt (.lit (0)) (.var 1))
 (.br (.b2 .lt (.var 0) (.wrap .i64 (.i2 .add (.lit (-9223372036854775808)) (.var 1))))
 (.ret (.tup (.cons (.int .i64 (.lit (0))) (.cons (.iface 229 (.int .i64 (.lit (2)))) .nil))))
 (.ret (.tup (.cons (.int .i64 (.wrap .i64 (.i2 .sub (.var 0) (.var 1)))) (.cons (.cst .nilI) .nil)))))
 (.ret (.tup (.cons (.int .i64 (.wrap .i64 (.i2 .sub (.var 0) (.var 1)))) (.cons (.cst .nilI) .nil))))))
 (.br (.b2 .lt (.lit (0)) (.var 1))
 (.br (.b2 .lt (.var 0) (.wrap .i64 (.i2 .add (.lit (-9223372036854775808)) (.var 1))))
 (.ret (.tup (.cons (.int .i64 (.lit (0))) (.cons (.iface 229 (.int .i64 (.lit (2)))) .nil))))
 (.ret (.tup (.cons (.int .i64 (.wrap .i64 (.i2 .sub (.var 0) (.var 1)))) (.cons (.cst .nilI) .nil)))))
 (.ret (.tup (.cons (.int .i64 (.wrap .i64 (.i2 .sub (.var 0) (.var 1)))) (.cons (.cst .nilI) .nil))))))
abbrev yac_nsub : Con := ⟨213, [(.int .i64 (.var 0)), (.int .i64 (.var 1))], (.b2 .and (.b2 .and (.b2 .le (.lit (-9223372036854775808)) (.var 0)) (.b2 .le (.var 0) (.lit (9223372036854775807)))) (.b2 .and (.b2 .le (.lit (-9223372036854775808)) (.var 1)) (.b2 .le (.var 1) (.lit (9223372036854775807))))), (.tup (.cons (.int .i64 (.iapp 2 (.cons (.int .i64 (.i2 .sub (.var 0) (.var 1))) .nil))) (.cons (.err (.iapp 3 (.cons (.int .i64 (.i2 .sub (.var 0) (.var 1))) .nil))) .nil))), ⟨2, 0, 0, 0⟩, none⟩
theorem nsub_w : walk Tryd.prog 229 ⟨[], syG, [], [], []⟩ [] .v yac_nsub yac_nsub.n 3000 = some nsub_tree := by kernel_rfl
theorem nsub_h (a : Int) (b : Int) (hc : holds (yaE [a, b] [] [] []) (.b2 .and (.b2 .and (.b2 .le (.lit (-9223372036854775808)) (.var 0)) (.b2 .le (.var 0) (.lit (9223372036854775807)))) (.b2 .and (.b2 .le (.lit (-9223372036854775808)) (.var 1)) (.b2 .le (.var 1) (.lit (9223372036854775807)))))) (hty : patsTyp (yaE [a, b] [] [] []) [(.int .i64 (.var 0)), (.int .i64 (.var 1))]) : nsub_tree.holds (fun v_ => v_ = denV (yaE [a, b] [] [] []) b0 (.tup (.cons (.int .i64 (.iapp 2 (.cons (.int .i64 (.i2 .sub (.var 0) (.var 1))) .nil))) (.cons (.err (.iapp 3 (.cons (.int .i64 (.i2 .sub (.var 0) (.var 1))) .nil))) .nil)))) (yaE [a, b] [] [] []) := by
  simp only [Tree.holds, Sy.holds, AllN, Env.more, yaE, List.cons_append, List.nil_append, List.append_nil, denV, denI, denB, denL, I2.den, VOp.den, List.getD_cons_zero, List.getD_cons_succ, Cst.den, syso, syse, syio, sybo, List.map_nil, List.map_cons, B2.ofInts, B2.denI, B2.denB, if_true, Bool.false_eq_true, if_false, Nat.div_one, Nat.mul_one, Nat.add_zero, holds] at hc
  simp only [patsTyp, patTyp, patTypL, yaE, denV, denL, List.getD_cons_zero, List.getD_cons_succ, and_true, true_and] at hty
  unfold nsub_tree
  simp only [Tree.holds, Sy.holds, AllN, Env.more, yaE, List.cons_append, List.nil_append, List.append_nil, denV, denI, denB, denL, I2.den, VOp.den, List.getD_cons_zero, List.getD_cons_succ, Cst.den, syso, syse, syio, sybo, yai_nv, yai_ne, List.map_nil, List.map_cons, B2.ofInts, B2.denI, B2.denB, if_true, Bool.false_eq_true, if_false, Nat.div_one, Nat.mul_one, Nat.add_zero]
  refine ⟨fun h0 => ?_, fun h0 => ?_⟩
  ·
   have wf0 := wr_i64 (9223372036854775807 + b)
   refine ⟨fun h1 => ?_, fun h1 => ?_⟩
   ·
    have hs := svE_spec (a - b)
    by_cases hr : -9223372036854775808 ≤ a - b ∧ a - b ≤ 9223372036854775807
    · have e1 : svE (a - b) = a - b := by omega
      have e2 : erE (a - b) = 0 := by omega
      rw [e1, e2]
      first
      | (exfalso; omega)
      | (rw [show IntKind.wrap .i64 (a - b) = a - b by omega]; rfl)
    · have e1 : svE (a - b) = 0 := by omega
      have e2 : erE (a - b) = 2 := by omega
      rw [e1, e2]
      first
      | (exfalso; omega)
      | rfl
   ·
    refine ⟨fun h2 => ?_, fun h2 => ?_⟩
    ·
     have wf1 := wr_i64 ((-9223372036854775808) + b)
     refine ⟨fun h3 => ?_, fun h3 => ?_⟩
     ·
      have hs := svE_spec (a - b)
      by_cases hr : -9223372036854775808 ≤ a - b ∧ a - b ≤ 9223372036854775807
      · have e1 : svE (a - b) = a - b := by omega
        have e2 : erE (a - b) = 0 := by omega
        rw [e1, e2]
        first
        | (exfalso; omega)
        | (rw [show IntKind.wrap .i64 (a - b) = a - b by omega]; rfl)
      · have e1 : svE (a - b) = 0 := by omega
        have e2 : erE (a - b) = 2 := by omega
        rw [e1, e2]
        first
        | (exfalso; omega)
        | rfl
     ·
      have wf2 := wr_i64 (a - b)
      have hs := svE_spec (a - b)
      by_cases hr : -9223372036854775808 ≤ a - b ∧ a - b ≤ 9223372036854775807
      · have e1 : svE (a - b) = a - b := by omega
        have e2 : erE (a - b) = 0 := by omega
        rw [e1, e2]
        first
        | (exfalso; omega)
        | (rw [show IntKind.wrap .i64 (a - b) = a - b by omega]; rfl)
      · have e1 : svE (a - b) = 0 := by omega
        have e2 : erE (a - b) = 2 := by omega
        rw [e1, e2]
        first
        | (exfalso; omega)
        | rfl
    ·
     have wf3 := wr_i64 (a - b)
     have hs := svE_spec (a - b)
     by_cases hr : -9223372036854775808 ≤ a - b ∧ a - b ≤ 9223372036854775807
     · have e1 : svE (a - b) = a - b := by omega
       have e2 : erE (a - b) = 0 := by omega
       rw [e1, e2]
       first
       | (exfalso; omega)
       | (rw [show IntKind.wrap .i64 (a - b) = a - b by omega]; rfl)
     · have e1 : svE (a - b) = 0 := by omega
       have e2 : erE (a - b) = 2 := by omega
       rw [e1, e2]
       first
       | (exfalso; omega)
       | rfl
  ·
   refine ⟨fun h4 => ?_, fun h4 => ?_⟩
   ·
    have wf4 := wr_i64 ((-9223372036854775808) + b)
    refine ⟨fun h5 => ?_, fun h5 => ?_⟩
    ·
     have hs := svE_spec (a - b)
     by_cases hr : -9223372036854775808 ≤ a - b ∧ a - b ≤ 9223372036854775807
     · have e1 : svE (a - b) = a - b := by omega
       have e2 : erE (a - b) = 0 := by omega
       rw [e1, e2]
       first
       | (exfalso; omega)
       | (rw [show IntKind.wrap .i64 (a - b) = a - b by omega]; rfl)
     · have e1 : svE (a - b) = 0 := by omega
       have e2 : erE (a - b) = 2 := by omega
       rw [e1, e2]
       first
       | (exfalso; omega)
       | rfl
    ·
     have wf5 := wr_i64 (a - b)
     have hs := svE_spec (a - b)
     by_cases hr : -9223372036854775808 ≤ a - b ∧ a - b ≤ 9223372036854775807
     · have e1 : svE (a - b) = a - b := by omega
       have e2 : erE (a - b) = 0 := by omega
       rw [e1, e2]
       first
       | (exfalso; omega)
       | (rw [show IntKind.wrap .i64 (a - b) = a - b by omega]; rfl)
     · have e1 : svE (a - b) = 0 := by omega
       have e2 : erE (a - b) = 2 := by omega
       rw [e1, e2]
       first
       | (exfalso; omega)
       | rfl
   ·
    have wf6 := wr_i64 (a - b)
    have hs := svE_spec (a - b)
    by_cases hr : -9223372036854775808 ≤ a - b ∧ a - b ≤ 9223372036854775807
    · have e1 : svE (a - b) = a - b := by omega
      have e2 : erE (a - b) = 0 := by omega
      rw [e1, e2]
      first
      | (exfalso; omega)
      | (rw [show IntKind.wrap .i64 (a - b) = a - b by omega]; rfl)
    · have e1 : svE (a - b) = 0 := by omega
      have e2 : erE (a - b) = 2 := by omega
      rw [e1, e2]
      first
      | (exfalso; omega)
      | rfl
theorem yag_nsub : yac_nsub.Good Tryd.prog syG (yaE [] [] [] []) := good_of_walk (Γ := ⟨[], syG, [], [], []⟩) (ρ := yaE [] [] [] []) sym nsub_w rfl (fun _ _ _ _ => ok_nil) (fun a b hc hty => nsub_h a b hc hty)
def subsat_tree : Tree :=
 (.need (.b2 .and (.b2 .and (.b2 .le (.lit (-9223372036854775808)) (.var 0)) (.b2 .le (.var 0) (.lit (9223372036854775807)))) (.b2 .and (.b2 .le (.lit (-9223372036854775808)) (.var 1)) (.b2 .le (.var 1) (.lit (9223372036854775807)))))
 (.br (.b2 .eq (.iapp 3 (.cons (.int .i64 (.i2 .sub (.var 0) (.var 1))) .nil)) (.lit (0)))
 (.ret (.int .i64 (.iapp 2 (.cons (.int .i64 (.i2 .sub (.var 0) (.var 1))) .nil))))
 (.br (.b2 .lt (.var 1) (.lit (0)))
 (.ret (.int .i64 (.lit (9223372036854775807))))
 (.ret (.int .i64 (.lit (-9223372036854775808)))))))
abbrev yac_subsat : Con := ⟨140, [(.int .i64 (.var 0)), (.int .i64 (.var 1))], (.b2 .and (.b2 .and (.b2 .le (.lit (-9223372036854775808)) (.var 0)) (.b2 .le (.var 0) (.lit (9223372036854775807)))) (.b2 .and (.b2 .le (.lit (-9223372036854775808)) (.var 1)) (.b2 .le (.var 1) (.lit (9223372036854775807))))), (.int .i64 (.iapp 1 (.cons (.int .i64 (.i2 .sub (.var 0) (.var 1))) .nil))), ⟨2, 0, 0, 0⟩, none⟩
theorem subsat_w : walk Tryd.prog 229 ⟨[yac_nsub], syG, [], [], []⟩ [] .v yac_subsat yac_subsat.n 3000 = some subsat_tree := by kernel_rfl
theorem subsat_h (a : Int) (b : Int) (hc : holds (yaE [a, b] [] [] []) (.b2 .and (.b2 .and (.b2 .le (.lit (-9223372036854775808)) (.var 0)) (.b2 .le (.var 0) (.lit (9223372036854775807)))) (.b2 .and (.b2 .le (.lit (-9223372036854775808)) (.var 1)) (.b2 .le (.var 1) (.lit (9223372036854775807)))))) (hty : patsTyp (yaE [a, b] [] [] []) [(.int .i64 (.var 0)), (.int .i64 (.var 1))]) : subsat_tree.holds (fun v_ => v_ = denV (yaE [a, b] [] [] []) b0 (.int .i64 (.iapp 1 (.cons (.int .i64 (.i2 .sub (.var 0) (.var 1))) .nil)))) (yaE [a, b] [] [] []) := by
  simp only [Tree.holds, Sy.holds, AllN, Env.more, yaE, List.cons_append, List.nil_append, List.append_nil, denV, denI, denB, denL, I2.den, VOp.den, List.getD_cons_zero, List.getD_cons_succ, Cst.den, syso, syse, syio, sybo, List.map_nil, List.map_cons, B2.ofInts, B2.denI, B2.denB, if_true, Bool.false_eq_true, if_false, Nat.div_one, Nat.mul_one, Nat.add_zero, holds] at hc
  simp only [patsTyp, patTyp, patTypL, yaE, denV, denL, List.getD_cons_zero, List.getD_cons_succ, and_true, true_and] at hty
  unfold subsat_tree
  simp only [Tree.holds, Sy.holds, AllN, Env.more, yaE, List.cons_append, List.nil_append, List.append_nil, denV, denI, denB, denL, I2.den, VOp.den, List.getD_cons_zero, List.getD_cons_succ, Cst.den, syso, syse, syio, sybo, yai_sa, yai_nv, yai_ne, List.map_nil, List.map_cons, B2.ofInts, B2.denI, B2.denB, if_true, Bool.false_eq_true, if_false, Nat.div_one, Nat.mul_one, Nat.add_zero]
  refine ⟨?_, fun h0 => ?_⟩
  ·
   omega
  ·
   refine ⟨fun h1 => ?_, fun h1 => ?_⟩
   ·
    have hs := svE_spec (a - b)
    have ht := satE_spec (a - b)
    first
    | (exfalso; omega)
    | (rw [show satE (a - b) = svE (a - b) by omega]; done)
    | (rw [show satE (a - b) = 9223372036854775807 by omega]; done)
    | (rw [show satE (a - b) = -9223372036854775808 by omega]; done)
   ·
    refine ⟨fun h2 => ?_, fun h2 => ?_⟩
    ·
     have hs := svE_spec (a - b)
     have ht := satE_spec (a - b)
     first
     | (exfalso; omega)
     | (rw [show satE (a - b) = svE (a - b) by omega]; done)
     | (rw [show satE (a - b) = 9223372036854775807 by omega]; done)
     | (rw [show satE (a - b) = -9223372036854775808 by omega]; done)
    ·
     have hs := svE_spec (a - b)
     have ht := satE_spec (a - b)
     first
     | (exfalso; omega)
     | (rw [show satE (a - b) = svE (a - b) by omega]; done)
     | (rw [show satE (a - b) = 9223372036854775807 by omega]; done)
     | (rw [show satE (a - b) = -9223372036854775808 by omega]; done)
theorem yag_subsat : yac_subsat.Good Tryd.prog syG (yaE [] [] [] []) := good_of_walk (Γ := ⟨[yac_nsub], syG, [], [], []⟩) (ρ := yaE [] [] [] []) sym subsat_w rfl (fun _ _ _ _ => (ok_cons (Con.Good.env yag_nsub _ _ _ _) ok_nil)) (fun a b hc hty => subsat_h a b hc hty)
def size_tree : Tree :=
 (.br (.b2 .lt (.var 0) (.lit (0)))
 (.need (.b2 .and (.b2 .le (.lit (-9223372036854775808)) (.var 0)) (.b2 .le (.var 0) (.lit (9223372036854775807))))
 (.ret (.int .i64 (.iapp 1 (.cons (.int .i64 (.i2 .sub (.lit (0)) (.var 0))) .nil)))))
 (.ret (.int .i64 (.var 0))))
abbrev yac_size : Con := ⟨138, [(.int .i64 (.var 0))], (.b2 .and (.b2 .le (.lit (-9223372036854775808)) (.var 0)) (.b2 .le (.var 0) (.lit (9223372036854775807)))), (.int .i64 (.iapp 0 (.cons (.int .i64 (.var 0)) .nil))), ⟨1, 0, 0, 0⟩, none⟩
theorem size_w : walk Tryd.prog 229 ⟨[yac_subsat], syG, [], [], []⟩ [] .v yac_size yac_size.n 3000 = some size_tree := by kernel_rfl
theorem size_h (a : Int) (hc : holds (yaE [a] [] [] []) (.b2 .and (.b2 .le (.lit (-9223372036854775808)) (.var 0)) (.b2 .le (.var 0) (.lit (9223372036854775807))))) (hty : patsTyp (yaE [a] [] [] []) [(.int .i64 (.var 0))]) : size_tree.holds (fun v_ => v_ = denV (yaE [a] [] [] []) b0 (.int .i64 (.iapp 0 (.cons (.int .i64 (.var 0)) .nil)))) (yaE [a] [] [] []) := by
  simp only [Tree.holds, Sy.holds, AllN, Env.more, yaE, List.cons_append, List.nil_append, List.append_nil, denV, denI, denB, denL, I2.den, VOp.den, List.getD_cons_zero, List.getD_cons_succ, Cst.den, syso, syse, syio, sybo, List.map_nil, List.map_cons, B2.ofInts, B2.denI, B2.denB, if_true, Bool.false_eq_true, if_false, Nat.div_one, Nat.mul_one, Nat.add_zero, holds] at hc
  simp only [patsTyp, patTyp, patTypL, yaE, denV, denL, List.getD_cons_zero, List.getD_cons_succ, and_true, true_and] at hty
  unfold size_tree
  simp only [Tree.holds, Sy.holds, AllN, Env.more, yaE, List.cons_append, List.nil_append, List.append_nil, denV, denI, denB, denL, I2.den, VOp.den, List.getD_cons_zero, List.getD_cons_succ, Cst.den, syso, syse, syio, sybo, yai_sz, yai_sa, List.map_nil, List.map_cons, B2.ofInts, B2.denI, B2.denB, if_true, Bool.false_eq_true, if_false, Nat.div_one, Nat.mul_one, Nat.add_zero]
  refine ⟨fun h0 => ?_, fun h0 => ?_⟩
  ·
   refine ⟨?_, fun h1 => ?_⟩
   ·
    omega
   ·
    have hs := szE_spec a ⟨by omega, by omega⟩
    have ht := satE_spec (0 - a)
    first
    | (exfalso; omega)
    | (rw [show szE a = a by omega]; done)
    | (rw [show szE a = satE (0 - a) by omega]; done)
  ·
   have hs := szE_spec a ⟨by omega, by omega⟩
   have ht := satE_spec (0 - a)
   first
   | (exfalso; omega)
   | (rw [show szE a = a by omega]; done)
   | (rw [show szE a = satE (0 - a) by omega]; done)
theorem yag_size : yac_size.Good Tryd.prog syG (yaE [] [] [] []) := good_of_walk (Γ := ⟨[yac_subsat], syG, [], [], []⟩) (ρ := yaE [] [] [] []) sym size_w rfl (fun _ _ _ _ => (ok_cons (Con.Good.env yag_subsat _ _ _ _) ok_nil)) (fun a hc hty => size_h a hc hty)
def rbound_tree : Tree :=
 (.br (.b2 .lt (.lit (0)) (.var 1))
 (.ret (.int .i64 (.lit (9223372036854775807))))
 (.br (.b2 .lt (.var 1) (.lit (0)))
 (.ret (.int .i64 (.lit (-9223372036854775808))))
 (.ret (.int .i64 (.var 0)))))
abbrev yac_rbound : Con := ⟨142, [(.int .i64 (.var 0)), (.int .i64 (.var 1))], (.tt true), (.int .i64 (.iapp 5 (.cons (.int .i64 (.var 0)) (.cons (.int .i64 (.var 1)) .nil)))), ⟨2, 0, 0, 0⟩, none⟩
theorem rbound_w : walk Tryd.prog 229 ⟨[], syG, [], [], []⟩ [] .v yac_rbound yac_rbound.n 3000 = some rbound_tree := by kernel_rfl
theorem rbound_h (n : Int) (o : Int) (hc : holds (yaE [n, o] [] [] []) (.tt true)) (hty : patsTyp (yaE [n, o] [] [] []) [(.int .i64 (.var 0)), (.int .i64 (.var 1))]) : rbound_tree.holds (fun v_ => v_ = denV (yaE [n, o] [] [] []) b0 (.int .i64 (.iapp 5 (.cons (.int .i64 (.var 0)) (.cons (.int .i64 (.var 1)) .nil))))) (yaE [n, o] [] [] []) := by
  simp only [Tree.holds, Sy.holds, AllN, Env.more, yaE, List.cons_append, List.nil_append, List.append_nil, denV, denI, denB, denL, I2.den, VOp.den, List.getD_cons_zero, List.getD_cons_succ, Cst.den, syso, syse, syio, sybo, List.map_nil, List.map_cons, B2.ofInts, B2.denI, B2.denB, if_true, Bool.false_eq_true, if_false, Nat.div_one, Nat.mul_one, Nat.add_zero, holds] at hc
  simp only [patsTyp, patTyp, patTypL, yaE, denV, denL, List.getD_cons_zero, List.getD_cons_succ, and_true, true_and] at hty
  unfold rbound_tree
  simp only [Tree.holds, Sy.holds, AllN, Env.more, yaE, List.cons_append, List.nil_append, List.append_nil, denV, denI, denB, denL, I2.den, VOp.den, List.getD_cons_zero, List.getD_cons_succ, Cst.den, syso, syse, syio, sybo, yai_bd, List.map_nil, List.map_cons, B2.ofInts, B2.denI, B2.denB, if_true, Bool.false_eq_true, if_false, Nat.div_one, Nat.mul_one, Nat.add_zero]
  refine ⟨fun h0 => ?_, fun h0 => ?_⟩
  ·
   have hs := bdE_spec n o
   first
   | (exfalso; omega)
   | (rw [show bdE n o = n by omega]; done)
   | (rw [show bdE n o = 9223372036854775807 by omega]; done)
   | (rw [show bdE n o = -9223372036854775808 by omega]; done)
  ·
   refine ⟨fun h1 => ?_, fun h1 => ?_⟩
   ·
    have hs := bdE_spec n o
    first
    | (exfalso; omega)
    | (rw [show bdE n o = n by omega]; done)
    | (rw [show bdE n o = 9223372036854775807 by omega]; done)
    | (rw [show bdE n o = -9223372036854775808 by omega]; done)
   ·
    have hs := bdE_spec n o
    first
    | (exfalso; omega)
    | (rw [show bdE n o = n by omega]; done)
    | (rw [show bdE n o = 9223372036854775807 by omega]; done)
    | (rw [show bdE n o = -9223372036854775808 by omega]; done)
theorem yag_rbound : yac_rbound.Good Tryd.prog syG (yaE [] [] [] []) := good_of_walk (Γ := ⟨[], syG, [], [], []⟩) (ρ := yaE [] [] [] []) sym rbound_w rfl (fun _ _ _ _ => ok_nil) (fun n o hc hty => rbound_h n o hc hty)
end Go.Proofs.YtjhjgfnodhbacaaDoor
