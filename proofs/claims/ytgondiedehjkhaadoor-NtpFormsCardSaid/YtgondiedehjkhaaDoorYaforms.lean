/-
 Layer 22 by the second engine: numbers, factors, drift.
-/
import Derived.Test.YtgondiedehjkhaaDoorSycforms
import Derived.Test.YtgondiedehjkhaaDoorE00forms
import Derived.Test.YtgondiedehjkhaaDoorNumforms
import Derived.Test.YtgondiedehjkhaaDoorSyoforms
import Derived.Test.YtgondiedehjkhaaDoorW02sforms
import Derived.Test.YtgondiedehjkhaaDoorV02forms
import Derived.Test.YtgondiedehjkhaaDoorBig2forms
import Derived.Test.YtgondiedehjkhaaDoorW17forms
namespace Go.Proofs.YtgondiedehjkhaaDoor
open Go.RowKit Go.Extern.Stop Go.Stop Go.Extern Go.Proofs.YtgondiedehjkhaaDoor.Sy
set_option linter.unusedVariables false
set_option linter.unusedSimpArgs false
abbrev xaformsk0_ : Tm := (.tup (.cons (.int .i64 (wr_ (sb_ v0_ v1_))) (.cons (.cst .nilI) .nil)))
def fmP (a s : Int) : Prop := 0 < a ∧ 0 ≤ s ∧ s ≤ 31
instance (a s : Int) : Decidable (fmP a s) := by unfold fmP; infer_instance
def pgP (e b t r gm gs pm ps p c : Int) : Prop := 0 ≤ e ∧ e ≤ 1099511627776 ∧ 0 ≤ b ∧ b ≤ 1152921504606846976 ∧ -4611686018427387904 < t ∧ t < 4611686018427387904 ∧ 0 ≤ r ∧ r ≤ 2305843009213693952 ∧ fmP gm gs ∧ fmP pm ps ∧ 0 ≤ p ∧ p ≤ 2097152 ∧ 1 ≤ c ∧ c ≤ 1125899906842624
instance (e b t r gm gs pm ps p c : Int) : Decidable (pgP e b t r gm gs pm ps p c) := by unfold pgP; infer_instance
def feE (a s : Int) : Int := if fmP a s then 0 else 1
def pgE (e b t r gm gs pm ps p c : Int) : Int := if pgP e b t r gm gs pm ps p c then 0 else 1
def qE (a s g : Int) : Int := g * a / 2 ^ s.toNat
theorem errOf_val (n : Int) : errOf n = errVal 142 n := by unfold errOf errVal; rfl
theorem mdiv_any (a b c : Int) (w : World) (ha : InR a) (hb : InR b) (hc : InR c) : Calls Tryd.prog 75 #[.int .i64 a, .int .i64 b, .int .i64 c] w fun e w' => e = .returned (.tuple #[.int .i64 (mdN a b c), errVal 142 (mdE a b c)]) ∧ Below w.heap.size w w' := by
 have h := wmuldiv_any a b c w ha hb hc
 rw [errOf_val] at h
 exact h
def atV (t a s g : Int) : Int := if t + qE a s g < 4611686018427387904 then t + qE a s g else 0
def atE (t a s g : Int) : Int := if t + qE a s g < 4611686018427387904 then 0 else 2
def gdV (e b t r gm gs pm ps p c : Int) : Int := if pgP e b t r gm gs pm ps p c then b + c else 0
def bnO (r a s p g : Int) : Int := satE (satE (satE (r + upK (satE (qE a s g + 1) * p)) + (g / 2 ^ s.toNat + 2)) + 2)
def bnV (r a s p g : Int) : Int := if 9223372036854775807 < qE a s g then 0 else bnO r a s p g
def bnE (a s g : Int) : Int := if 9223372036854775807 < qE a s g then 2 else 0
def tmE (e b t r gm gs pm ps p c k : Int) : Int := if ¬ pgP e b t r gm gs pm ps p c then 1 else if k < b then 10 else if c < k - b then 14 else if 4611686018427387904 ≤ t + qE gm gs (k - b) then 2 else if 9223372036854775807 < qE pm ps (k - b) then 2 else 0
def tmT (e b t r gm gs pm ps p c k : Int) : Int := if tmE e b t r gm gs pm ps p c k = 0 then t + qE gm gs (k - b) else 0
def tmO (e b t r gm gs pm ps p c k : Int) : Int := if tmE e b t r gm gs pm ps p c k = 0 then bnO r pm ps p (k - b) else 0
def whP (t a s T c i : Int) : Prop := 0 ≤ i ∧ i ≤ c + 1 ∧ (i = 0 ∨ (t + qE a s (i - 1) < 4611686018427387904 ∧ t + qE a s (i - 1) < T)) ∧ (i = c + 1 ∨ 4611686018427387904 ≤ t + qE a s i ∨ T ≤ t + qE a s i)
noncomputable def whI (t a s T c : Int) : Int := @dite Int (∃ i, whP t a s T c i) (Classical.propDecidable _) (fun h => Classical.choose h) (fun _ => 0)
noncomputable def whE (e b t r gm gs pm ps p c T : Int) : Int := if ¬ pgP e b t r gm gs pm ps p c then 1 else if T < t then 10 else if c < whI t gm gs T c then 14 else 0
noncomputable def whV (e b t r gm gs pm ps p c T : Int) : Int := if whE e b t r gm gs pm ps p c T = 0 then b + whI t gm gs T c else 0
def p2B (b : Int) : Bool := decide (b = 0) || (List.range 51).any fun k => decide (b = 2 ^ k)
noncomputable def yaI : Nat → List Value → Int
 | 0, [.int _ a] => szE a
 | 1, [.int _ a] => satE a
 | 2, [.int _ a] => svE a
 | 3, [.int _ a] => erE a
 | 4, [.int _ a] => soE a
 | 5, [.int _ a, .int _ o] => bdE a o
 | 6, [.int _ a, .int _ b, .int _ c] => mdN a b c
 | 7, [.int _ a, .int _ b, .int _ c] => mdE a b c
 | 8, [.int _ a, .int _ b, .int _ c] => msN a b c
 | 9, [.int _ a, .int _ b, .int _ c] => msE a b c
 | 10, [.int _ g, .int _ r] => upK (g * r)
 | 11, [.int _ n, .int _ s] => n / 2 ^ s.toNat
 | 12, [.int _ a, .int _ s, .int _ g] => qE a s g
 | 13, [.int _ a, .int _ s] => feE a s
 | 14, [.int _ e, .int _ b, .int _ t, .int _ r, .int _ gm, .int _ gs, .int _ pm, .int _ ps, .int _ p, .int _ c] => pgE e b t r gm gs pm ps p c
 | 15, [.int _ e, .int _ b, .int _ t, .int _ r, .int _ gm, .int _ gs, .int _ pm, .int _ ps, .int _ p, .int _ c] => gdV e b t r gm gs pm ps p c
 | 16, [.int _ t, .int _ a, .int _ s, .int _ g] => atV t a s g
 | 17, [.int _ t, .int _ a, .int _ s, .int _ g] => atE t a s g
 | 18, [.int _ r, .int _ a, .int _ s, .int _ p, .int _ g] => bnV r a s p g
 | 19, [.int _ a, .int _ s, .int _ g] => bnE a s g
 | 20, [.int _ e, .int _ b, .int _ t, .int _ r, .int _ gm, .int _ gs, .int _ pm, .int _ ps, .int _ p, .int _ c, .int _ k] => tmE e b t r gm gs pm ps p c k
 | 21, [.int _ e, .int _ b, .int _ t, .int _ r, .int _ gm, .int _ gs, .int _ pm, .int _ ps, .int _ p, .int _ c, .int _ k] => tmT e b t r gm gs pm ps p c k
 | 22, [.int _ e, .int _ b, .int _ t, .int _ r, .int _ gm, .int _ gs, .int _ pm, .int _ ps, .int _ p, .int _ c, .int _ k] => tmO e b t r gm gs pm ps p c k
 | 23, [.int _ t, .int _ a, .int _ s, .int _ T, .int _ c] => whI t a s T c
 | 24, [.int _ e, .int _ b, .int _ t, .int _ r, .int _ gm, .int _ gs, .int _ pm, .int _ ps, .int _ p, .int _ c, .int _ T] => whE e b t r gm gs pm ps p c T
 | 25, [.int _ e, .int _ b, .int _ t, .int _ r, .int _ gm, .int _ gs, .int _ pm, .int _ ps, .int _ p, .int _ c, .int _ T] => whV e b t r gm gs pm ps p c T
 | _, _ => 0
noncomputable def yaB : Nat → List Value → Bool
 | 0, [.int _ a, .int _ s] => decide (fmP a s)
 | 1, [.int _ e, .int _ b, .int _ t, .int _ r, .int _ gm, .int _ gs, .int _ pm, .int _ ps, .int _ p, .int _ c] => decide (pgP e b t r gm gs pm ps p c)
 | 2, [.int _ b] => p2B b
 | _, _ => false
noncomputable def yaV : Nat → List Value → Value
 | _, _ => Go.undef
noncomputable abbrev yaE (iv : List Int) (bv : List Bool) (vv : List Value) (sv : List ByteArray) : Env := { iv := iv, bv := bv, vv := vv, sv := sv, fi := yaI, fb := yaB, fv := yaV, et := 142 }
theorem yai_sz (k1 : IntKind) (a : Int) : yaI 0 [.int k1 a] = szE a := rfl
theorem yai_sa (k1 : IntKind) (a : Int) : yaI 1 [.int k1 a] = satE a := rfl
theorem yai_nv (k1 : IntKind) (a : Int) : yaI 2 [.int k1 a] = svE a := rfl
theorem yai_ne (k1 : IntKind) (a : Int) : yaI 3 [.int k1 a] = erE a := rfl
theorem yai_mdn (k1 : IntKind) (a : Int) (k2 : IntKind) (b : Int) (k3 : IntKind) (c : Int) : yaI 6 [.int k1 a, .int k2 b, .int k3 c] = mdN a b c := rfl
theorem yai_mde (k1 : IntKind) (a : Int) (k2 : IntKind) (b : Int) (k3 : IntKind) (c : Int) : yaI 7 [.int k1 a, .int k2 b, .int k3 c] = mdE a b c := rfl
theorem syso (s : ByteArray) : strOf (.string s) = s := rfl
theorem syse (a b : ByteArray) : strEq (.string a) (.string b) = (a == b) := rfl
theorem syio (k : IntKind) (n : Int) : intOf (.int k n) = n := rfl
theorem sybo (b : Bool) : boolOf (.bool b) = b := rfl
theorem typ_len {r : SK} {v : Value} {n : Nat} (h : typ (.sl r) v) (e : r.wd = n) (e0 : 0 < n) : ((rows v).length / n : Nat) ≤ 140737488355328 ∧ (rows v).length = (rows v).length / n * n := by
 obtain ⟨_, m, h1, h2, _⟩ := h
 rw [e] at h2
 rw [h2, Nat.mul_div_cancel _ e0]
 exact ⟨h1, rfl⟩
theorem sym : Tryd.prog.follows .mixedOrders = true := by kernel_rfl
abbrev syG : Glob := [(0, 0, asHandle)]
def nsub_tree : Tree :=
 (.br (lt_ v1_ (.lit 0))
 (.br (lt_ (wr_ (ad_ lM_ v1_)) v0_)
 (.ret (.tup (.cons (.int .i64 (.lit 0)) (.cons (.iface 142 (.int .i64 (.lit 2))) .nil))))
 (.br (lt_ (.lit 0) v1_)
 (.br (lt_ v0_ (wr_ (ad_ lm_ v1_)))
 (.ret (.tup (.cons (.int .i64 (.lit 0)) (.cons (.iface 142 (.int .i64 (.lit 2))) .nil))))
 (.ret xaformsk0_))
 (.ret xaformsk0_)))
 (.br (lt_ (.lit 0) v1_)
 (.br (lt_ v0_ (wr_ (ad_ lm_ v1_)))
 (.ret (.tup (.cons (.int .i64 (.lit 0)) (.cons (.iface 142 (.int .i64 (.lit 2))) .nil))))
 (.ret xaformsk0_))
 (.ret xaformsk0_)))
abbrev yac_nsub : Con := ⟨171, [z0_, z1_], (an_ (an_ (le_ lm_ v0_) (le_ v0_ lM_)) (an_ (le_ lm_ v1_) (le_ v1_ lM_))), (.tup (.cons (.int .i64 (.iapp 2 (.cons (.int .i64 (sb_ v0_ v1_)) .nil))) (.cons (.err (.iapp 3 (.cons (.int .i64 (sb_ v0_ v1_)) .nil))) .nil))), ⟨2, 0, 0, 0⟩, none⟩
theorem nsub_w : walk Tryd.prog 142 ⟨[], syG, [], [], []⟩ [] .v yac_nsub yac_nsub.n 3000 = some nsub_tree := by kernel_rfl
theorem nsub_h (a b : Int) : Hyp_ yac_nsub nsub_tree (yaE [a, b] [] [] []) := by
 intro hc hty
 simp only [yac_nsub, Sy.holds, yaE, denV, denI, denB, denL, I2.den, VOp.den, List.getD_cons_zero, List.getD_cons_succ, Cst.den, syso, syse, syio, sybo, B2.ofInts, B2.denI, B2.denB, if_true, Bool.false_eq_true, if_false, Nat.div_one, Nat.mul_one, Nat.add_zero] at hc
 simp only [yac_nsub, patsTyp, patTyp, patTypL, yaE, denV, denL, List.getD_cons_zero, List.getD_cons_succ, and_true, true_and] at hty
 unfold nsub_tree
 simp only [yac_nsub, Tree.holds, Sy.holds, yaE, denV, denI, denB, denL, I2.den, VOp.den, List.getD_cons_zero, List.getD_cons_succ, Cst.den, syso, syse, syio, sybo, yai_nv, yai_ne, B2.ofInts, B2.denI, B2.denB, if_true, Bool.false_eq_true, if_false, Nat.div_one, Nat.mul_one, Nat.add_zero]
 refine ⟨fun h0 => ?_, fun h0 => ?_⟩
 have wf0 := wr_i64 (9223372036854775807 + b)
 refine ⟨fun h1 => ?_, fun h1 => ?_⟩
 refine ?a0; rotate_left
 refine ⟨fun h2 => ?_, fun h2 => ?_⟩
 have wf1 := wr_i64 ((-9223372036854775808) + b)
 refine ⟨fun h3 => ?_, fun h3 => ?_⟩
 refine ?a1; rotate_left
 have wf2 := wr_i64 (a - b)
 refine ?a2; rotate_left
 have wf3 := wr_i64 (a - b)
 refine ?a3; rotate_left
 refine ⟨fun h4 => ?_, fun h4 => ?_⟩
 have wf4 := wr_i64 ((-9223372036854775808) + b)
 refine ⟨fun h5 => ?_, fun h5 => ?_⟩
 refine ?a4; rotate_left
 have wf5 := wr_i64 (a - b)
 refine ?a5; rotate_left
 have wf6 := wr_i64 (a - b)
 refine ?a6; rotate_left
 case a0 | a1 | a2 | a3 | a4 | a5 | a6 =>
  have hs := svE_spec (a - b)
  by_cases hr : -9223372036854775808 ≤ a - b ∧ a - b ≤ 9223372036854775807
  · have e1 : svE (a - b) = a - b := by omega
    have e2 : erE (a - b) = 0 := by omega
    rw [e1, e2]
    first
    | (exfalso; omega)
    | (rw [show IntKind.wrap .i64 (a - b) = a - b by omega]; rfl)
  · have e1 : svE (a - b) = 0 := by omega
    have e2 : erE (a - b) = 2 := by omega
    rw [e1, e2]
    first
    | (exfalso; omega)
    | rfl
theorem yag_nsub : yac_nsub.Good Tryd.prog syG (yaE [] [] [] []) := good_of_walk (Γ := ⟨[], syG, [], [], []⟩) (ρ := yaE [] [] [] []) sym nsub_w rfl (fun _ _ _ _ => ok_nil) nsub_h
def subsat_tree : Tree :=
 (.need (an_ (an_ (le_ lm_ v0_) (le_ v0_ lM_)) (an_ (le_ lm_ v1_) (le_ v1_ lM_)))
 (.br (eq_ (.iapp 3 (.cons (.int .i64 (sb_ v0_ v1_)) .nil)) (.lit 0))
 (.ret (.int .i64 (.iapp 2 (.cons (.int .i64 (sb_ v0_ v1_)) .nil))))
 (.br (lt_ v1_ (.lit 0))
 (.ret (.int .i64 lM_))
 (.ret (.int .i64 lm_)))))
abbrev yac_subsat : Con := ⟨166, [z0_, z1_], (an_ (an_ (le_ lm_ v0_) (le_ v0_ lM_)) (an_ (le_ lm_ v1_) (le_ v1_ lM_))), (.int .i64 (.iapp 1 (.cons (.int .i64 (sb_ v0_ v1_)) .nil))), ⟨2, 0, 0, 0⟩, none⟩
theorem subsat_w : walk Tryd.prog 142 ⟨[yac_nsub], syG, [], [], []⟩ [] .v yac_subsat yac_subsat.n 3000 = some subsat_tree := by kernel_rfl
theorem subsat_h (a b : Int) : Hyp_ yac_subsat subsat_tree (yaE [a, b] [] [] []) := by
 intro hc hty
 simp only [yac_subsat, Sy.holds, yaE, denV, denI, denB, denL, I2.den, VOp.den, List.getD_cons_zero, List.getD_cons_succ, Cst.den, syso, syse, syio, sybo, B2.ofInts, B2.denI, B2.denB, if_true, Bool.false_eq_true, if_false, Nat.div_one, Nat.mul_one, Nat.add_zero] at hc
 simp only [yac_subsat, patsTyp, patTyp, patTypL, yaE, denV, denL, List.getD_cons_zero, List.getD_cons_succ, and_true, true_and] at hty
 unfold subsat_tree
 simp only [yac_subsat, Tree.holds, Sy.holds, yaE, denV, denI, denB, denL, I2.den, VOp.den, List.getD_cons_zero, List.getD_cons_succ, Cst.den, syso, syse, syio, sybo, yai_sa, yai_nv, yai_ne, B2.ofInts, B2.denI, B2.denB, if_true, Bool.false_eq_true, if_false, Nat.div_one, Nat.mul_one, Nat.add_zero]
 refine ⟨?_, fun h0 => ?_⟩
 ·
  omega
 refine ⟨fun h1 => ?_, fun h1 => ?_⟩
 refine ?a0; rotate_left
 refine ⟨fun h2 => ?_, fun h2 => ?_⟩
 refine ?a1; rotate_left
 refine ?a2; rotate_left
 case a0 | a1 | a2 =>
  have hs := svE_spec (a - b)
  have ht := satE_spec (a - b)
  first
  | (exfalso; omega)
  | (rw [show satE (a - b) = svE (a - b) by omega]; done)
  | (rw [show satE (a - b) = 9223372036854775807 by omega]; done)
  | (rw [show satE (a - b) = -9223372036854775808 by omega]; done)
theorem yag_subsat : yac_subsat.Good Tryd.prog syG (yaE [] [] [] []) := good_of_walk (Γ := ⟨[yac_nsub], syG, [], [], []⟩) (ρ := yaE [] [] [] []) sym subsat_w rfl (fun _ _ _ _ => (ok_cons (Con.Good.env yag_nsub _ _ _ _) ok_nil)) subsat_h
def size_tree : Tree :=
 (.br (lt_ v0_ (.lit 0))
 (.need (an_ (le_ lm_ v0_) (le_ v0_ lM_))
 (.ret (.int .i64 (.iapp 1 (.cons (.int .i64 (sb_ (.lit 0) v0_)) .nil)))))
 (.ret z0_))
abbrev yac_size : Con := ⟨152, [z0_], (an_ (le_ lm_ v0_) (le_ v0_ lM_)), (.int .i64 (.iapp 0 (.cons z0_ .nil))), ⟨1, 0, 0, 0⟩, none⟩
theorem size_w : walk Tryd.prog 142 ⟨[yac_subsat], syG, [], [], []⟩ [] .v yac_size yac_size.n 3000 = some size_tree := by kernel_rfl
theorem size_h (a : Int) : Hyp_ yac_size size_tree (yaE [a] [] [] []) := by
 intro hc hty
 simp only [yac_size, Sy.holds, yaE, denV, denI, denB, denL, I2.den, VOp.den, List.getD_cons_zero, List.getD_cons_succ, Cst.den, syso, syse, syio, sybo, B2.ofInts, B2.denI, B2.denB, if_true, Bool.false_eq_true, if_false, Nat.div_one, Nat.mul_one, Nat.add_zero] at hc
 simp only [yac_size, patsTyp, patTyp, patTypL, yaE, denV, denL, List.getD_cons_zero, List.getD_cons_succ, and_true, true_and] at hty
 unfold size_tree
 simp only [yac_size, Tree.holds, Sy.holds, yaE, denV, denI, denB, denL, I2.den, VOp.den, List.getD_cons_zero, List.getD_cons_succ, Cst.den, syso, syse, syio, sybo, yai_sz, yai_sa, B2.ofInts, B2.denI, B2.denB, if_true, Bool.false_eq_true, if_false, Nat.div_one, Nat.mul_one, Nat.add_zero]
 refine ⟨fun h0 => ?_, fun h0 => ?_⟩
 refine ⟨?_, fun h1 => ?_⟩
 ·
  omega
 refine ?a0; rotate_left
 refine ?a1; rotate_left
 case a0 | a1 =>
  have hs := szE_spec a ⟨by omega, by omega⟩
  have ht := satE_spec (0 - a)
  first
  | (exfalso; omega)
  | (rw [show szE a = a by omega]; done)
  | (rw [show szE a = satE (0 - a) by omega]; done)
theorem yag_size : yac_size.Good Tryd.prog syG (yaE [] [] [] []) := good_of_walk (Γ := ⟨[yac_subsat], syG, [], [], []⟩) (ρ := yaE [] [] [] []) sym size_w rfl (fun _ _ _ _ => (ok_cons (Con.Good.env yag_subsat _ _ _ _) ok_nil)) size_h
abbrev yac_mdiv : Con := ⟨75, [z0_, z1_, z2_], (an_ (an_ (le_ lm_ v0_) (le_ v0_ lM_)) (an_ (an_ (le_ lm_ v1_) (le_ v1_ lM_)) (an_ (le_ lm_ v2_) (le_ v2_ lM_)))), (.tup (.cons (.int .i64 (.iapp 6 (.cons z0_ (.cons z1_ (.cons z2_ .nil))))) (.cons (.err (.iapp 7 (.cons z0_ (.cons z1_ (.cons z2_ .nil))))) .nil))), ⟨3, 0, 0, 0⟩, none⟩
theorem yag_mdiv : yac_mdiv.Good Tryd.prog syG (yaE [] [] [] []) := good_flat rfl rfl rfl (by
 intro a b c hc β ok w hG
 have hc' := hc
 simp only [Tree.holds, Sy.holds, AllN, Env.more, yaE, List.cons_append, List.nil_append, List.append_nil, denV, denI, denB, denL, I2.den, VOp.den, List.getD_cons_zero, List.getD_cons_succ, Cst.den, syso, syse, syio, sybo, yai_mdn, yai_mde, List.map_nil, List.map_cons, B2.ofInts, B2.denI, B2.denB, if_true, Bool.false_eq_true, if_false, Nat.div_one, Nat.mul_one, Nat.add_zero, holds] at hc
 exact mdiv_any a b c w hc.1 hc.2.1 hc.2.2)
end Go.Proofs.YtgondiedehjkhaaDoor
