/-
  Layer 27 by the second engine: PauseHolds.
-/
import Derived.Test.YtceecflpnfpajaaDoorSycqa
import Derived.Test.YtceecflpnfpajaaDoorE00qa
import Derived.Test.YtceecflpnfpajaaDoorNumqa
import Derived.Test.YtceecflpnfpajaaDoorSyoqa
namespace Go.Proofs.YtceecflpnfpajaaDoor
open Go.RowKit Go.Extern.Stop Go.Stop Go.Extern Go.Proofs.YtceecflpnfpajaaDoor.Sy
set_option linter.unusedVariables false
set_option linter.unusedSimpArgs false
def tmP (a : Int) : Prop := -4611686018427387904 < a ∧ a < 4611686018427387904
instance (a : Int) : Decidable (tmP a) := by unfold tmP; infer_instance
def mayP (o : Bool) (a l : Int) : Prop := tmP a ∧ (o = true ∨ a = 0) ∧ 0 ≤ l ∧ l ≤ 2305843009213693952
instance (o : Bool) (a l : Int) : Decidable (mayP o a l) := by unfold mayP; infer_instance
def ckP (o : Bool) (a l : Int) : Int := if mayP o a l then 0 else 1
def stE (o : Bool) (a l t : Int) : Int := if ¬ mayP o a l ∨ ¬ tmP t then 1 else if o = true then 19 else 0
def goE (o : Bool) (a l t : Int) (j : Bool) : Int := if ¬ mayP o a l ∨ ¬ tmP t then 1 else if o = false then 19 else if t < a then 10 else if j = true then 0 else if 2305843009213693952 < l + (t - a) then 2 else 0
def goL (o : Bool) (a l t : Int) (j : Bool) : Int := if goE o a l t j = 0 then (if j = true then l else l + (t - a)) else 0
def viE (o : Bool) (a l t : Int) : Int := if ¬ mayP o a l ∨ ¬ tmP t then 1 else if tmP ((if o = true then a else t) - l) then 0 else 2
def viN (o : Bool) (a l t : Int) : Int := if viE o a l t = 0 then (if o = true then a else t) - l else 0
noncomputable def okR (l : List Value) : Bool := @decide (∀ x ∈ l, inK x) (Classical.propDecidable _)
theorem okR_iff {l : List Value} : okR l = true ↔ ∀ x ∈ l, inK x := @decide_eq_true_iff _ (Classical.propDecidable _)
abbrev KU2 : SK := .cons (.int .u16) (.cons (.int .u16) .nil)
theorem typ_rowU {l : Value} (h : typ (.sl KU2) l) {k : Nat} (hk : k < (Sy.rows l).length / 2) : (Sy.rows l).getD (k * 2) Go.undef = .int .u16 (Go.RowKit.intOf ((Sy.rows l).getD (k * 2) Go.undef)) ∧ (Sy.rows l).getD (k * 2 + 1) Go.undef = .int .u16 (Go.RowKit.intOf ((Sy.rows l).getD (k * 2 + 1) Go.undef)) := by
  obtain ⟨_, n, h1, h2, h3⟩ := h
  have : n = (Sy.rows l).length / 2 := by rw [h2]; exact (Nat.mul_div_cancel n (by decide)).symm
  obtain ⟨g1, g2, _⟩ := h3 k (by omega)
  exact ⟨g1, g2⟩
theorem okR_u16 {l : List Value} (h : okR l = true) {k : Nat} (hk : k < l.length) (ht : l.getD k Go.undef = .int .u16 (Go.RowKit.intOf (l.getD k Go.undef))) : 0 ≤ Go.RowKit.intOf (l.getD k Go.undef) ∧ Go.RowKit.intOf (l.getD k Go.undef) ≤ 65535 := by
  have hm : l.getD k Go.undef ∈ l := by rw [List.getD_eq_getElem?_getD, List.getElem?_eq_getElem hk]; exact List.getElem_mem hk
  exact bounds_u16 (okR_iff.1 h _ hm _ _ ht)
theorem num27_any (n : Int) (w : World) (hg : w.cell? ⟨0, 0, none⟩ = some asHandle) : Calls Tryd.prog 79 #[errVal 100 n] w fun e w' => e = .returned (.int .i64 n) ∧ Below w.heap.size w w' := by
  unfold errVal
  split
  · rename_i h; subst h; exact num27_nil _
  · exact num27_err _ _ hg
noncomputable def pI : Nat → List Value → Int
  | 0, [.int _ a] => szE a
  | 1, [.int _ a] => satE a
  | 2, [.int _ a] => svE a
  | 3, [.int _ a] => erE a
  | 4, [.bool o, .int _ a, .int _ l] => ckP o a l
  | 5, [.bool o, .int _ a, .int _ l, .int _ t] => stE o a l t
  | 6, [.bool o, .int _ a, .int _ l, .int _ t] => if stE o a l t = 0 then t else 0
  | 7, [.bool o, .int _ a, .int _ l, .int _ t] => if stE o a l t = 0 then l else 0
  | 8, [.bool o, .int _ a, .int _ l, .int _ t, .bool j] => goE o a l t j
  | 9, [.bool o, .int _ a, .int _ l, .int _ t, .bool j] => goL o a l t j
  | 10, [.bool o, .int _ a, .int _ l, .int _ t] => viE o a l t
  | 11, [.bool o, .int _ a, .int _ l, .int _ t] => viN o a l t
  | 12, [l, .int _ k] => Go.RowKit.intOf ((rows l).getD k.toNat Go.undef)
  | _, _ => 0
noncomputable def pB : Nat → List Value → Bool
  | 0, [l] => okR (rows l)
  | 1, [.int _ a] => decide (tmP a)
  | 2, [.bool o, .int _ a, .int _ l, .int _ t] => decide (stE o a l t = 0)
  | _, _ => false
noncomputable def pV : Nat → List Value → Value
  | _, _ => Go.undef
noncomputable abbrev pE (iv : List Int) (bv : List Bool) (vv : List Value) (sv : List ByteArray) : Env := { iv := iv, bv := bv, vv := vv, sv := sv, fi := pI, fb := pB, fv := pV, et := 100 }
theorem pi_sz (k1 : IntKind) (a : Int) : pI 0 [.int k1 a] = szE a := rfl
theorem pi_sa (k1 : IntKind) (a : Int) : pI 1 [.int k1 a] = satE a := rfl
theorem pi_nv (k1 : IntKind) (a : Int) : pI 2 [.int k1 a] = svE a := rfl
theorem pi_ne (k1 : IntKind) (a : Int) : pI 3 [.int k1 a] = erE a := rfl
theorem pi_ck (o : Bool) (k1 : IntKind) (a : Int) (k2 : IntKind) (l : Int) : pI 4 [.bool o, .int k1 a, .int k2 l] = ckP o a l := rfl
theorem pi_se (o : Bool) (k1 : IntKind) (a : Int) (k2 : IntKind) (l : Int) (k3 : IntKind) (t : Int) : pI 5 [.bool o, .int k1 a, .int k2 l, .int k3 t] = stE o a l t := rfl
theorem pi_sA (o : Bool) (k1 : IntKind) (a : Int) (k2 : IntKind) (l : Int) (k3 : IntKind) (t : Int) : pI 6 [.bool o, .int k1 a, .int k2 l, .int k3 t] = if stE o a l t = 0 then t else 0 := rfl
theorem pi_sL (o : Bool) (k1 : IntKind) (a : Int) (k2 : IntKind) (l : Int) (k3 : IntKind) (t : Int) : pI 7 [.bool o, .int k1 a, .int k2 l, .int k3 t] = if stE o a l t = 0 then l else 0 := rfl
theorem pi_ge (o : Bool) (k1 : IntKind) (a : Int) (k2 : IntKind) (l : Int) (k3 : IntKind) (t : Int) (j : Bool) : pI 8 [.bool o, .int k1 a, .int k2 l, .int k3 t, .bool j] = goE o a l t j := rfl
theorem pi_gl (o : Bool) (k1 : IntKind) (a : Int) (k2 : IntKind) (l : Int) (k3 : IntKind) (t : Int) (j : Bool) : pI 9 [.bool o, .int k1 a, .int k2 l, .int k3 t, .bool j] = goL o a l t j := rfl
theorem pi_ve (o : Bool) (k1 : IntKind) (a : Int) (k2 : IntKind) (l : Int) (k3 : IntKind) (t : Int) : pI 10 [.bool o, .int k1 a, .int k2 l, .int k3 t] = viE o a l t := rfl
theorem pi_vn (o : Bool) (k1 : IntKind) (a : Int) (k2 : IntKind) (l : Int) (k3 : IntKind) (t : Int) : pI 11 [.bool o, .int k1 a, .int k2 l, .int k3 t] = viN o a l t := rfl
theorem pi_cel (l : Value) (k1 : IntKind) (k : Int) : pI 12 [l, .int k1 k] = Go.RowKit.intOf ((rows l).getD k.toNat Go.undef) := rfl
theorem pb_okr (l : Value) : pB 0 [l] = okR (rows l) := rfl
theorem pb_tim (k1 : IntKind) (a : Int) : pB 1 [.int k1 a] = decide (tmP a) := rfl
theorem pb_st0 (o : Bool) (k1 : IntKind) (a : Int) (k2 : IntKind) (l : Int) (k3 : IntKind) (t : Int) : pB 2 [.bool o, .int k1 a, .int k2 l, .int k3 t] = decide (stE o a l t = 0) := rfl
theorem syso (s : ByteArray) : strOf (.string s) = s := rfl
theorem syse (a b : ByteArray) : strEq (.string a) (.string b) = (a == b) := rfl
theorem syio (k : IntKind) (n : Int) : intOf (.int k n) = n := rfl
theorem sybo (b : Bool) : boolOf (.bool b) = b := rfl
theorem typ_len {r : SK} {v : Value} {n : Nat} (h : typ (.sl r) v) (e : r.wd = n) (e0 : 0 < n) : ((rows v).length / n : Nat) ≤ 140737488355328 ∧ (rows v).length = (rows v).length / n * n := by
  obtain ⟨_, m, h1, h2, _⟩ := h
  rw [e] at h2
  rw [h2, Nat.mul_div_cancel _ e0]
  exact ⟨h1, rfl⟩
theorem sym : Tryd.prog.follows .mixedOrders = true := by kernel_rfl
abbrev syG : Glob := [(0, 0, asHandle)]
abbrev pc_num : Con := ⟨79, [(.err (.var 0))], (.tt true), (.int .i64 (.var 0)), ⟨1, 0, 0, 0⟩, none⟩
theorem pg_num : pc_num.Good Tryd.prog syG (pE [] [] [] []) := good_flat rfl rfl rfl (by
  intro n hc β ok w hG
  have hc' := hc
  simp only [Tree.holds, Sy.holds, AllN, Env.more, pE, List.cons_append, List.nil_append, List.append_nil, denV, denI, denB, denL, I2.den, VOp.den, List.getD_cons_zero, List.getD_cons_succ, Cst.den, syso, syse, syio, sybo, pi_sz, pi_sa, pi_nv, pi_ne, pi_ck, pi_se, pi_sA, pi_sL, pi_ge, pi_gl, pi_ve, pi_vn, pi_cel, pb_okr, pb_tim, pb_st0, List.map_nil, List.map_cons, B2.ofInts, B2.denI, B2.denB, if_true, Bool.false_eq_true, if_false, Nat.div_one, Nat.mul_one, Nat.add_zero, holds] at hc
  exact num27_any n w (hG _ (List.mem_singleton.2 rfl)).2.2)
def nsub_tree : Tree :=
 (.br (.b2 .lt (.var 1) (.lit (0)))
 (.br (.b2 .lt (.wrap .i64 (.i2 .add (.lit (9223372036854775807)) (.var 1))) (.var 0))
 (.ret (.tup (.cons (.int .i64 (.lit (0))) (.cons (.iface 100 (.int .i64 (.lit (2)))) .nil))))
 (.br (.b2 .lt (.lit (0)) (.var 1))
 (.br (.b2 .lt (.var 0) (.wrap .i64 (.i2 .add (.lit (-9223372036854775808)) (.var 1))))
 (.ret (.tup (.cons (.int .i64 (.lit (0))) (.cons (.iface 100 (.int .i64 (.lit (2)))) .nil))))
 (.ret (.tup (.cons (.int .i64 (.wrap .i64 (.i2 .sub (.var 0) (.var 1)))) (.cons (.cst .nilI) .nil)))))
 (.ret (.tup (.cons (.int .i64 (.wrap .i64 (.i2 .sub (.var 0) (.var 1)))) (.cons (.cst .nilI) .nil))))))
 (.br (.b2 .lt (.lit (0)) (.var 1))
 (.br (.b2 .lt (.var 0) (.wrap .i64 (.i2 .add (.lit (-9223372036854775808)) (.var 1))))
 (.ret (.tup (.cons (.int .i64 (.lit (0))) (.cons (.iface 100 (.int .i64 (.lit (2)))) .nil))))
 (.ret (.tup (.cons (.int .i64 (.wrap .i64 (.i2 .sub (.var 0) (.var 1)))) (.cons (.cst .nilI) .nil)))))
 (.ret (.tup (.cons (.int .i64 (.wrap .i64 (.i2 .sub (.var 0) (.var 1)))) (.cons (.cst .nilI) .nil))))))
abbrev pc_nsub : Con := ⟨93, [(.int .i64 (.var 0)), (.int .i64 (.var 1))], (.b2 .and (.b2 .and (.b2 .le (.lit (-9223372036854775808)) (.var 0)) (.b2 .le (.var 0) (.lit (9223372036854775807)))) (.b2 .and (.b2 .le (.lit (-9223372036854775808)) (.var 1)) (.b2 .le (.var 1) (.lit (9223372036854775807))))), (.tup (.cons (.int .i64 (.iapp 2 (.cons (.int .i64 (.i2 .sub (.var 0) (.var 1))) .nil))) (.cons (.err (.iapp 3 (.cons (.int .i64 (.i2 .sub (.var 0) (.var 1))) .nil))) .nil))), ⟨2, 0, 0, 0⟩, none⟩
theorem nsub_w : walk Tryd.prog 100 ⟨[], syG, [], [], []⟩ [] .v pc_nsub pc_nsub.n 3000 = some nsub_tree := by kernel_rfl
theorem nsub_h (a : Int) (b : Int) (hc : holds (pE [a, b] [] [] []) (.b2 .and (.b2 .and (.b2 .le (.lit (-9223372036854775808)) (.var 0)) (.b2 .le (.var 0) (.lit (9223372036854775807)))) (.b2 .and (.b2 .le (.lit (-9223372036854775808)) (.var 1)) (.b2 .le (.var 1) (.lit (9223372036854775807)))))) (hty : patsTyp (pE [a, b] [] [] []) [(.int .i64 (.var 0)), (.int .i64 (.var 1))]) : nsub_tree.holds (fun v_ => v_ = denV (pE [a, b] [] [] []) b0 (.tup (.cons (.int .i64 (.iapp 2 (.cons (.int .i64 (.i2 .sub (.var 0) (.var 1))) .nil))) (.cons (.err (.iapp 3 (.cons (.int .i64 (.i2 .sub (.var 0) (.var 1))) .nil))) .nil)))) (pE [a, b] [] [] []) := by
  simp only [Tree.holds, Sy.holds, AllN, Env.more, pE, List.cons_append, List.nil_append, List.append_nil, denV, denI, denB, denL, I2.den, VOp.den, List.getD_cons_zero, List.getD_cons_succ, Cst.den, syso, syse, syio, sybo, pi_sz, pi_sa, pi_nv, pi_ne, pi_ck, pi_se, pi_sA, pi_sL, pi_ge, pi_gl, pi_ve, pi_vn, pi_cel, pb_okr, pb_tim, pb_st0, List.map_nil, List.map_cons, B2.ofInts, B2.denI, B2.denB, if_true, Bool.false_eq_true, if_false, Nat.div_one, Nat.mul_one, Nat.add_zero, holds] at hc
  simp only [patsTyp, patTyp, patTypL, pE, denV, denL, List.getD_cons_zero, List.getD_cons_succ, and_true, true_and] at hty
  unfold nsub_tree
  simp only [Tree.holds, Sy.holds, AllN, Env.more, pE, List.cons_append, List.nil_append, List.append_nil, denV, denI, denB, denL, I2.den, VOp.den, List.getD_cons_zero, List.getD_cons_succ, Cst.den, syso, syse, syio, sybo, pi_sz, pi_sa, pi_nv, pi_ne, pi_ck, pi_se, pi_sA, pi_sL, pi_ge, pi_gl, pi_ve, pi_vn, pi_cel, pb_okr, pb_tim, pb_st0, List.map_nil, List.map_cons, B2.ofInts, B2.denI, B2.denB, if_true, Bool.false_eq_true, if_false, Nat.div_one, Nat.mul_one, Nat.add_zero]
  refine ⟨fun h0 => ?_, fun h0 => ?_⟩
  ·
   have wf0 := wr_i64 (9223372036854775807 + b)
   refine ⟨fun h1 => ?_, fun h1 => ?_⟩
   ·
    have hs := svE_spec (a - b)
    by_cases hr : -9223372036854775808 ≤ a - b ∧ a - b ≤ 9223372036854775807
    · have e1 : svE (a - b) = a - b := by omega
      have e2 : erE (a - b) = 0 := by omega
      rw [e1, e2]
      first
      | (exfalso; omega)
      | (rw [show IntKind.wrap .i64 (a - b) = a - b by omega]; rfl)
    · have e1 : svE (a - b) = 0 := by omega
      have e2 : erE (a - b) = 2 := by omega
      rw [e1, e2]
      first
      | (exfalso; omega)
      | rfl
   ·
    refine ⟨fun h2 => ?_, fun h2 => ?_⟩
    ·
     have wf1 := wr_i64 ((-9223372036854775808) + b)
     refine ⟨fun h3 => ?_, fun h3 => ?_⟩
     ·
      have hs := svE_spec (a - b)
      by_cases hr : -9223372036854775808 ≤ a - b ∧ a - b ≤ 9223372036854775807
      · have e1 : svE (a - b) = a - b := by omega
        have e2 : erE (a - b) = 0 := by omega
        rw [e1, e2]
        first
        | (exfalso; omega)
        | (rw [show IntKind.wrap .i64 (a - b) = a - b by omega]; rfl)
      · have e1 : svE (a - b) = 0 := by omega
        have e2 : erE (a - b) = 2 := by omega
        rw [e1, e2]
        first
        | (exfalso; omega)
        | rfl
     ·
      have wf2 := wr_i64 (a - b)
      have hs := svE_spec (a - b)
      by_cases hr : -9223372036854775808 ≤ a - b ∧ a - b ≤ 9223372036854775807
      · have e1 : svE (a - b) = a - b := by omega
        have e2 : erE (a - b) = 0 := by omega
        rw [e1, e2]
        first
        | (exfalso; omega)
        | (rw [show IntKind.wrap .i64 (a - b) = a - b by omega]; rfl)
      · have e1 : svE (a - b) = 0 := by omega
        have e2 : erE (a - b) = 2 := by omega
        rw [e1, e2]
        first
        | (exfalso; omega)
        | rfl
    ·
     have wf3 := wr_i64 (a - b)
     have hs := svE_spec (a - b)
     by_cases hr : -9223372036854775808 ≤ a - b ∧ a - b ≤ 9223372036854775807
     · have e1 : svE (a - b) = a - b := by omega
       have e2 : erE (a - b) = 0 := by omega
       rw [e1, e2]
       first
       | (exfalso; omega)
       | (rw [show IntKind.wrap .i64 (a - b) = a - b by omega]; rfl)
     · have e1 : svE (a - b) = 0 := by omega
       have e2 : erE (a - b) = 2 := by omega
       rw [e1, e2]
       first
       | (exfalso; omega)
       | rfl
  ·
   refine ⟨fun h4 => ?_, fun h4 => ?_⟩
   ·
    have wf4 := wr_i64 ((-9223372036854775808) + b)
    refine ⟨fun h5 => ?_, fun h5 => ?_⟩
    ·
     have hs := svE_spec (a - b)
     by_cases hr : -9223372036854775808 ≤ a - b ∧ a - b ≤ 9223372036854775807
     · have e1 : svE (a - b) = a - b := by omega
       have e2 : erE (a - b) = 0 := by omega
       rw [e1, e2]
       first
       | (exfalso; omega)
       | (rw [show IntKind.wrap .i64 (a - b) = a - b by omega]; rfl)
     · have e1 : svE (a - b) = 0 := by omega
       have e2 : erE (a - b) = 2 := by omega
       rw [e1, e2]
       first
       | (exfalso; omega)
       | rfl
    ·
     have wf5 := wr_i64 (a - b)
     have hs := svE_spec (a - b)
     by_cases hr : -9223372036854775808 ≤ a - b ∧ a - b ≤ 9223372036854775807
     · have e1 : svE (a - b) = a - b := by omega
       have e2 : erE (a - b) = 0 := by omega
       rw [e1, e2]
       first
       | (exfalso; omega)
       | (rw [show IntKind.wrap .i64 (a - b) = a - b by omega]; rfl)
     · have e1 : svE (a - b) = 0 := by omega
       have e2 : erE (a - b) = 2 := by omega
       rw [e1, e2]
       first
       | (exfalso; omega)
       | rfl
   ·
    have wf6 := wr_i64 (a - b)
    have hs := svE_spec (a - b)
    by_cases hr : -9223372036854775808 ≤ a - b ∧ a - b ≤ 9223372036854775807
    · have e1 : svE (a - b) = a - b := by omega
      have e2 : erE (a - b) = 0 := by omega
      rw [e1, e2]
      first
      | (exfalso; omega)
      | (rw [show IntKind.wrap .i64 (a - b) = a - b by omega]; rfl)
    · have e1 : svE (a - b) = 0 := by omega
      have e2 : erE (a - b) = 2 := by omega
      rw [e1, e2]
      first
      | (exfalso; omega)
      | rfl
theorem pg_nsub : pc_nsub.Good Tryd.prog syG (pE [] [] [] []) := good_of_walk (Γ := ⟨[], syG, [], [], []⟩) (ρ := pE [] [] [] []) sym nsub_w rfl (fun _ _ _ _ => ok_nil) (fun a b hc hty => nsub_h a b hc hty)
def subsat_tree : Tree :=
 (.need (.b2 .and (.b2 .and (.b2 .le (.lit (-9223372036854775808)) (.var 0)) (.b2 .le (.var 0) (.lit (9223372036854775807)))) (.b2 .and (.b2 .le (.lit (-9223372036854775808)) (.var 1)) (.b2 .le (.var 1) (.lit (9223372036854775807)))))
 (.br (.b2 .eq (.iapp 3 (.cons (.int .i64 (.i2 .sub (.var 0) (.var 1))) .nil)) (.lit (0)))
 (.ret (.int .i64 (.iapp 2 (.cons (.int .i64 (.i2 .sub (.var 0) (.var 1))) .nil))))
 (.br (.b2 .lt (.var 1) (.lit (0)))
 (.ret (.int .i64 (.lit (9223372036854775807))))
 (.ret (.int .i64 (.lit (-9223372036854775808)))))))
abbrev pc_subsat : Con := ⟨86, [(.int .i64 (.var 0)), (.int .i64 (.var 1))], (.b2 .and (.b2 .and (.b2 .le (.lit (-9223372036854775808)) (.var 0)) (.b2 .le (.var 0) (.lit (9223372036854775807)))) (.b2 .and (.b2 .le (.lit (-9223372036854775808)) (.var 1)) (.b2 .le (.var 1) (.lit (9223372036854775807))))), (.int .i64 (.iapp 1 (.cons (.int .i64 (.i2 .sub (.var 0) (.var 1))) .nil))), ⟨2, 0, 0, 0⟩, none⟩
theorem subsat_w : walk Tryd.prog 100 ⟨[pc_nsub], syG, [], [], []⟩ [] .v pc_subsat pc_subsat.n 3000 = some subsat_tree := by kernel_rfl
theorem subsat_h (a : Int) (b : Int) (hc : holds (pE [a, b] [] [] []) (.b2 .and (.b2 .and (.b2 .le (.lit (-9223372036854775808)) (.var 0)) (.b2 .le (.var 0) (.lit (9223372036854775807)))) (.b2 .and (.b2 .le (.lit (-9223372036854775808)) (.var 1)) (.b2 .le (.var 1) (.lit (9223372036854775807)))))) (hty : patsTyp (pE [a, b] [] [] []) [(.int .i64 (.var 0)), (.int .i64 (.var 1))]) : subsat_tree.holds (fun v_ => v_ = denV (pE [a, b] [] [] []) b0 (.int .i64 (.iapp 1 (.cons (.int .i64 (.i2 .sub (.var 0) (.var 1))) .nil)))) (pE [a, b] [] [] []) := by
  simp only [Tree.holds, Sy.holds, AllN, Env.more, pE, List.cons_append, List.nil_append, List.append_nil, denV, denI, denB, denL, I2.den, VOp.den, List.getD_cons_zero, List.getD_cons_succ, Cst.den, syso, syse, syio, sybo, pi_sz, pi_sa, pi_nv, pi_ne, pi_ck, pi_se, pi_sA, pi_sL, pi_ge, pi_gl, pi_ve, pi_vn, pi_cel, pb_okr, pb_tim, pb_st0, List.map_nil, List.map_cons, B2.ofInts, B2.denI, B2.denB, if_true, Bool.false_eq_true, if_false, Nat.div_one, Nat.mul_one, Nat.add_zero, holds] at hc
  simp only [patsTyp, patTyp, patTypL, pE, denV, denL, List.getD_cons_zero, List.getD_cons_succ, and_true, true_and] at hty
  unfold subsat_tree
  simp only [Tree.holds, Sy.holds, AllN, Env.more, pE, List.cons_append, List.nil_append, List.append_nil, denV, denI, denB, denL, I2.den, VOp.den, List.getD_cons_zero, List.getD_cons_succ, Cst.den, syso, syse, syio, sybo, pi_sz, pi_sa, pi_nv, pi_ne, pi_ck, pi_se, pi_sA, pi_sL, pi_ge, pi_gl, pi_ve, pi_vn, pi_cel, pb_okr, pb_tim, pb_st0, List.map_nil, List.map_cons, B2.ofInts, B2.denI, B2.denB, if_true, Bool.false_eq_true, if_false, Nat.div_one, Nat.mul_one, Nat.add_zero]
  refine ⟨?_, fun h0 => ?_⟩
  ·
   omega
  ·
   refine ⟨fun h1 => ?_, fun h1 => ?_⟩
   ·
    have hs := svE_spec (a - b)
    have ht := satE_spec (a - b)
    first
    | (exfalso; omega)
    | (rw [show satE (a - b) = svE (a - b) by omega]; done)
    | (rw [show satE (a - b) = 9223372036854775807 by omega]; done)
    | (rw [show satE (a - b) = -9223372036854775808 by omega]; done)
   ·
    refine ⟨fun h2 => ?_, fun h2 => ?_⟩
    ·
     have hs := svE_spec (a - b)
     have ht := satE_spec (a - b)
     first
     | (exfalso; omega)
     | (rw [show satE (a - b) = svE (a - b) by omega]; done)
     | (rw [show satE (a - b) = 9223372036854775807 by omega]; done)
     | (rw [show satE (a - b) = -9223372036854775808 by omega]; done)
    ·
     have hs := svE_spec (a - b)
     have ht := satE_spec (a - b)
     first
     | (exfalso; omega)
     | (rw [show satE (a - b) = svE (a - b) by omega]; done)
     | (rw [show satE (a - b) = 9223372036854775807 by omega]; done)
     | (rw [show satE (a - b) = -9223372036854775808 by omega]; done)
theorem pg_subsat : pc_subsat.Good Tryd.prog syG (pE [] [] [] []) := good_of_walk (Γ := ⟨[pc_nsub], syG, [], [], []⟩) (ρ := pE [] [] [] []) sym subsat_w rfl (fun _ _ _ _ => (ok_cons (Con.Good.env pg_nsub _ _ _ _) ok_nil)) (fun a b hc hty => subsat_h a b hc hty)
def size_tree : Tree :=
 (.br (.b2 .lt (.var 0) (.lit (0)))
 (.need (.b2 .and (.b2 .le (.lit (-9223372036854775808)) (.var 0)) (.b2 .le (.var 0) (.lit (9223372036854775807))))
 (.ret (.int .i64 (.iapp 1 (.cons (.int .i64 (.i2 .sub (.lit (0)) (.var 0))) .nil)))))
 (.ret (.int .i64 (.var 0))))
abbrev pc_size : Con := ⟨71, [(.int .i64 (.var 0))], (.b2 .and (.b2 .le (.lit (-9223372036854775808)) (.var 0)) (.b2 .le (.var 0) (.lit (9223372036854775807)))), (.int .i64 (.iapp 0 (.cons (.int .i64 (.var 0)) .nil))), ⟨1, 0, 0, 0⟩, none⟩
theorem size_w : walk Tryd.prog 100 ⟨[pc_subsat], syG, [], [], []⟩ [] .v pc_size pc_size.n 3000 = some size_tree := by kernel_rfl
theorem size_h (a : Int) (hc : holds (pE [a] [] [] []) (.b2 .and (.b2 .le (.lit (-9223372036854775808)) (.var 0)) (.b2 .le (.var 0) (.lit (9223372036854775807))))) (hty : patsTyp (pE [a] [] [] []) [(.int .i64 (.var 0))]) : size_tree.holds (fun v_ => v_ = denV (pE [a] [] [] []) b0 (.int .i64 (.iapp 0 (.cons (.int .i64 (.var 0)) .nil)))) (pE [a] [] [] []) := by
  simp only [Tree.holds, Sy.holds, AllN, Env.more, pE, List.cons_append, List.nil_append, List.append_nil, denV, denI, denB, denL, I2.den, VOp.den, List.getD_cons_zero, List.getD_cons_succ, Cst.den, syso, syse, syio, sybo, pi_sz, pi_sa, pi_nv, pi_ne, pi_ck, pi_se, pi_sA, pi_sL, pi_ge, pi_gl, pi_ve, pi_vn, pi_cel, pb_okr, pb_tim, pb_st0, List.map_nil, List.map_cons, B2.ofInts, B2.denI, B2.denB, if_true, Bool.false_eq_true, if_false, Nat.div_one, Nat.mul_one, Nat.add_zero, holds] at hc
  simp only [patsTyp, patTyp, patTypL, pE, denV, denL, List.getD_cons_zero, List.getD_cons_succ, and_true, true_and] at hty
  unfold size_tree
  simp only [Tree.holds, Sy.holds, AllN, Env.more, pE, List.cons_append, List.nil_append, List.append_nil, denV, denI, denB, denL, I2.den, VOp.den, List.getD_cons_zero, List.getD_cons_succ, Cst.den, syso, syse, syio, sybo, pi_sz, pi_sa, pi_nv, pi_ne, pi_ck, pi_se, pi_sA, pi_sL, pi_ge, pi_gl, pi_ve, pi_vn, pi_cel, pb_okr, pb_tim, pb_st0, List.map_nil, List.map_cons, B2.ofInts, B2.denI, B2.denB, if_true, Bool.false_eq_true, if_false, Nat.div_one, Nat.mul_one, Nat.add_zero]
  refine ⟨fun h0 => ?_, fun h0 => ?_⟩
  ·
   refine ⟨?_, fun h1 => ?_⟩
   ·
    omega
   ·
    have hs := szE_spec a ⟨by omega, by omega⟩
    have ht := satE_spec (0 - a)
    first
    | (exfalso; omega)
    | (rw [show szE a = a by omega]; done)
    | (rw [show szE a = satE (0 - a) by omega]; done)
  ·
   have hs := szE_spec a ⟨by omega, by omega⟩
   have ht := satE_spec (0 - a)
   first
   | (exfalso; omega)
   | (rw [show szE a = a by omega]; done)
   | (rw [show szE a = satE (0 - a) by omega]; done)
theorem pg_size : pc_size.Good Tryd.prog syG (pE [] [] [] []) := good_of_walk (Γ := ⟨[pc_subsat], syG, [], [], []⟩) (ρ := pE [] [] [] []) sym size_w rfl (fun _ _ _ _ => (ok_cons (Con.Good.env pg_subsat _ _ _ _) ok_nil)) (fun a hc hty => size_h a hc hty)
def toohigh_tree : Tree :=
 (.br (.b2 .lt (.lit (0)) (.var 1))
 (.ret (.bool (.b2 .lt (.wrap .i64 (.i2 .sub (.lit (9223372036854775807)) (.var 1))) (.var 0))))
 (.ret (.bool (.tt false))))
abbrev pc_toohigh : Con := ⟨87, [(.int .i64 (.var 0)), (.int .i64 (.var 1))], (.b2 .and (.b2 .and (.b2 .le (.lit (-9223372036854775808)) (.var 0)) (.b2 .le (.var 0) (.lit (9223372036854775807)))) (.b2 .and (.b2 .le (.lit (-9223372036854775808)) (.var 1)) (.b2 .le (.var 1) (.lit (9223372036854775807))))), (.bool (.b2 .lt (.lit (9223372036854775807)) (.i2 .add (.var 0) (.var 1)))), ⟨2, 0, 0, 0⟩, none⟩
theorem toohigh_w : walk Tryd.prog 100 ⟨[], syG, [], [], []⟩ [] .v pc_toohigh pc_toohigh.n 3000 = some toohigh_tree := by kernel_rfl
theorem toohigh_h (a : Int) (b : Int) (hc : holds (pE [a, b] [] [] []) (.b2 .and (.b2 .and (.b2 .le (.lit (-9223372036854775808)) (.var 0)) (.b2 .le (.var 0) (.lit (9223372036854775807)))) (.b2 .and (.b2 .le (.lit (-9223372036854775808)) (.var 1)) (.b2 .le (.var 1) (.lit (9223372036854775807)))))) (hty : patsTyp (pE [a, b] [] [] []) [(.int .i64 (.var 0)), (.int .i64 (.var 1))]) : toohigh_tree.holds (fun v_ => v_ = denV (pE [a, b] [] [] []) b0 (.bool (.b2 .lt (.lit (9223372036854775807)) (.i2 .add (.var 0) (.var 1))))) (pE [a, b] [] [] []) := by
  simp only [Tree.holds, Sy.holds, AllN, Env.more, pE, List.cons_append, List.nil_append, List.append_nil, denV, denI, denB, denL, I2.den, VOp.den, List.getD_cons_zero, List.getD_cons_succ, Cst.den, syso, syse, syio, sybo, pi_sz, pi_sa, pi_nv, pi_ne, pi_ck, pi_se, pi_sA, pi_sL, pi_ge, pi_gl, pi_ve, pi_vn, pi_cel, pb_okr, pb_tim, pb_st0, List.map_nil, List.map_cons, B2.ofInts, B2.denI, B2.denB, if_true, Bool.false_eq_true, if_false, Nat.div_one, Nat.mul_one, Nat.add_zero, holds] at hc
  simp only [patsTyp, patTyp, patTypL, pE, denV, denL, List.getD_cons_zero, List.getD_cons_succ, and_true, true_and] at hty
  unfold toohigh_tree
  simp only [Tree.holds, Sy.holds, AllN, Env.more, pE, List.cons_append, List.nil_append, List.append_nil, denV, denI, denB, denL, I2.den, VOp.den, List.getD_cons_zero, List.getD_cons_succ, Cst.den, syso, syse, syio, sybo, pi_sz, pi_sa, pi_nv, pi_ne, pi_ck, pi_se, pi_sA, pi_sL, pi_ge, pi_gl, pi_ve, pi_vn, pi_cel, pb_okr, pb_tim, pb_st0, List.map_nil, List.map_cons, B2.ofInts, B2.denI, B2.denB, if_true, Bool.false_eq_true, if_false, Nat.div_one, Nat.mul_one, Nat.add_zero]
  refine ⟨fun h0 => ?_, fun h0 => ?_⟩
  ·
   have wf0 := wr_i64 (9223372036854775807 - b)
   all_goals first | omega | rfl | (simp only [Value.tuple.injEq, Value.agg.injEq, Value.int.injEq, Value.bool.injEq, Array.mk.injEq, List.cons.injEq, true_and, and_true]; omega) | (refine congrArg Value.bool (Bool.eq_iff_iff.2 ?_); simp only [beq_iff_eq, decide_eq_true_eq, true_iff, false_iff, Bool.false_eq_true, Bool.not_eq_true', Bool.and_eq_true, Bool.or_eq_true, decide_eq_false_iff_not]; omega)
  ·
   all_goals first | omega | rfl | (simp only [Value.tuple.injEq, Value.agg.injEq, Value.int.injEq, Value.bool.injEq, Array.mk.injEq, List.cons.injEq, true_and, and_true]; omega) | (refine congrArg Value.bool (Bool.eq_iff_iff.2 ?_); simp only [beq_iff_eq, decide_eq_true_eq, true_iff, false_iff, Bool.false_eq_true, Bool.not_eq_true', Bool.and_eq_true, Bool.or_eq_true, decide_eq_false_iff_not]; omega)
theorem pg_toohigh : pc_toohigh.Good Tryd.prog syG (pE [] [] [] []) := good_of_walk (Γ := ⟨[], syG, [], [], []⟩) (ρ := pE [] [] [] []) sym toohigh_w rfl (fun _ _ _ _ => ok_nil) (fun a b hc hty => toohigh_h a b hc hty)
def toolow_tree : Tree :=
 (.br (.b2 .lt (.var 1) (.lit (0)))
 (.ret (.bool (.b2 .lt (.var 0) (.wrap .i64 (.i2 .sub (.lit (-9223372036854775808)) (.var 1))))))
 (.ret (.bool (.tt false))))
abbrev pc_toolow : Con := ⟨88, [(.int .i64 (.var 0)), (.int .i64 (.var 1))], (.b2 .and (.b2 .and (.b2 .le (.lit (-9223372036854775808)) (.var 0)) (.b2 .le (.var 0) (.lit (9223372036854775807)))) (.b2 .and (.b2 .le (.lit (-9223372036854775808)) (.var 1)) (.b2 .le (.var 1) (.lit (9223372036854775807))))), (.bool (.b2 .lt (.i2 .add (.var 0) (.var 1)) (.lit (-9223372036854775808)))), ⟨2, 0, 0, 0⟩, none⟩
theorem toolow_w : walk Tryd.prog 100 ⟨[], syG, [], [], []⟩ [] .v pc_toolow pc_toolow.n 3000 = some toolow_tree := by kernel_rfl
theorem toolow_h (a : Int) (b : Int) (hc : holds (pE [a, b] [] [] []) (.b2 .and (.b2 .and (.b2 .le (.lit (-9223372036854775808)) (.var 0)) (.b2 .le (.var 0) (.lit (9223372036854775807)))) (.b2 .and (.b2 .le (.lit (-9223372036854775808)) (.var 1)) (.b2 .le (.var 1) (.lit (9223372036854775807)))))) (hty : patsTyp (pE [a, b] [] [] []) [(.int .i64 (.var 0)), (.int .i64 (.var 1))]) : toolow_tree.holds (fun v_ => v_ = denV (pE [a, b] [] [] []) b0 (.bool (.b2 .lt (.i2 .add (.var 0) (.var 1)) (.lit (-9223372036854775808))))) (pE [a, b] [] [] []) := by
  simp only [Tree.holds, Sy.holds, AllN, Env.more, pE, List.cons_append, List.nil_append, List.append_nil, denV, denI, denB, denL, I2.den, VOp.den, List.getD_cons_zero, List.getD_cons_succ, Cst.den, syso, syse, syio, sybo, pi_sz, pi_sa, pi_nv, pi_ne, pi_ck, pi_se, pi_sA, pi_sL, pi_ge, pi_gl, pi_ve, pi_vn, pi_cel, pb_okr, pb_tim, pb_st0, List.map_nil, List.map_cons, B2.ofInts, B2.denI, B2.denB, if_true, Bool.false_eq_true, if_false, Nat.div_one, Nat.mul_one, Nat.add_zero, holds] at hc
  simp only [patsTyp, patTyp, patTypL, pE, denV, denL, List.getD_cons_zero, List.getD_cons_succ, and_true, true_and] at hty
  unfold toolow_tree
  simp only [Tree.holds, Sy.holds, AllN, Env.more, pE, List.cons_append, List.nil_append, List.append_nil, denV, denI, denB, denL, I2.den, VOp.den, List.getD_cons_zero, List.getD_cons_succ, Cst.den, syso, syse, syio, sybo, pi_sz, pi_sa, pi_nv, pi_ne, pi_ck, pi_se, pi_sA, pi_sL, pi_ge, pi_gl, pi_ve, pi_vn, pi_cel, pb_okr, pb_tim, pb_st0, List.map_nil, List.map_cons, B2.ofInts, B2.denI, B2.denB, if_true, Bool.false_eq_true, if_false, Nat.div_one, Nat.mul_one, Nat.add_zero]
  refine ⟨fun h0 => ?_, fun h0 => ?_⟩
  ·
   have wf0 := wr_i64 ((-9223372036854775808) - b)
   all_goals first | omega | rfl | (simp only [Value.tuple.injEq, Value.agg.injEq, Value.int.injEq, Value.bool.injEq, Array.mk.injEq, List.cons.injEq, true_and, and_true]; omega) | (refine congrArg Value.bool (Bool.eq_iff_iff.2 ?_); simp only [beq_iff_eq, decide_eq_true_eq, true_iff, false_iff, Bool.false_eq_true, Bool.not_eq_true', Bool.and_eq_true, Bool.or_eq_true, decide_eq_false_iff_not]; omega)
  ·
   all_goals first | omega | rfl | (simp only [Value.tuple.injEq, Value.agg.injEq, Value.int.injEq, Value.bool.injEq, Array.mk.injEq, List.cons.injEq, true_and, and_true]; omega) | (refine congrArg Value.bool (Bool.eq_iff_iff.2 ?_); simp only [beq_iff_eq, decide_eq_true_eq, true_iff, false_iff, Bool.false_eq_true, Bool.not_eq_true', Bool.and_eq_true, Bool.or_eq_true, decide_eq_false_iff_not]; omega)
theorem pg_toolow : pc_toolow.Good Tryd.prog syG (pE [] [] [] []) := good_of_walk (Γ := ⟨[], syG, [], [], []⟩) (ρ := pE [] [] [] []) sym toolow_w rfl (fun _ _ _ _ => ok_nil) (fun a b hc hty => toolow_h a b hc hty)
def addsat_tree : Tree :=
 (.need (.b2 .and (.b2 .and (.b2 .le (.lit (-9223372036854775808)) (.var 0)) (.b2 .le (.var 0) (.lit (9223372036854775807)))) (.b2 .and (.b2 .le (.lit (-9223372036854775808)) (.var 1)) (.b2 .le (.var 1) (.lit (9223372036854775807)))))
 (.br (.b2 .lt (.lit (9223372036854775807)) (.i2 .add (.var 0) (.var 1)))
 (.ret (.int .i64 (.lit (9223372036854775807))))
 (.need (.b2 .and (.b2 .and (.b2 .le (.lit (-9223372036854775808)) (.var 0)) (.b2 .le (.var 0) (.lit (9223372036854775807)))) (.b2 .and (.b2 .le (.lit (-9223372036854775808)) (.var 1)) (.b2 .le (.var 1) (.lit (9223372036854775807)))))
 (.br (.b2 .lt (.i2 .add (.var 0) (.var 1)) (.lit (-9223372036854775808)))
 (.ret (.int .i64 (.lit (-9223372036854775808))))
 (.ret (.int .i64 (.wrap .i64 (.i2 .add (.var 0) (.var 1)))))))))
abbrev pc_addsat : Con := ⟨78, [(.int .i64 (.var 0)), (.int .i64 (.var 1))], (.b2 .and (.b2 .and (.b2 .le (.lit (-9223372036854775808)) (.var 0)) (.b2 .le (.var 0) (.lit (9223372036854775807)))) (.b2 .and (.b2 .le (.lit (-9223372036854775808)) (.var 1)) (.b2 .le (.var 1) (.lit (9223372036854775807))))), (.int .i64 (.iapp 1 (.cons (.int .i64 (.i2 .add (.var 0) (.var 1))) .nil))), ⟨2, 0, 0, 0⟩, none⟩
theorem addsat_w : walk Tryd.prog 100 ⟨[pc_toohigh, pc_toolow], syG, [], [], []⟩ [] .v pc_addsat pc_addsat.n 3000 = some addsat_tree := by kernel_rfl
theorem addsat_h (a : Int) (b : Int) (hc : holds (pE [a, b] [] [] []) (.b2 .and (.b2 .and (.b2 .le (.lit (-9223372036854775808)) (.var 0)) (.b2 .le (.var 0) (.lit (9223372036854775807)))) (.b2 .and (.b2 .le (.lit (-9223372036854775808)) (.var 1)) (.b2 .le (.var 1) (.lit (9223372036854775807)))))) (hty : patsTyp (pE [a, b] [] [] []) [(.int .i64 (.var 0)), (.int .i64 (.var 1))]) : addsat_tree.holds (fun v_ => v_ = denV (pE [a, b] [] [] []) b0 (.int .i64 (.iapp 1 (.cons (.int .i64 (.i2 .add (.var 0) (.var 1))) .nil)))) (pE [a, b] [] [] []) := by
  simp only [Tree.holds, Sy.holds, AllN, Env.more, pE, List.cons_append, List.nil_append, List.append_nil, denV, denI, denB, denL, I2.den, VOp.den, List.getD_cons_zero, List.getD_cons_succ, Cst.den, syso, syse, syio, sybo, pi_sz, pi_sa, pi_nv, pi_ne, pi_ck, pi_se, pi_sA, pi_sL, pi_ge, pi_gl, pi_ve, pi_vn, pi_cel, pb_okr, pb_tim, pb_st0, List.map_nil, List.map_cons, B2.ofInts, B2.denI, B2.denB, if_true, Bool.false_eq_true, if_false, Nat.div_one, Nat.mul_one, Nat.add_zero, holds] at hc
  simp only [patsTyp, patTyp, patTypL, pE, denV, denL, List.getD_cons_zero, List.getD_cons_succ, and_true, true_and] at hty
  unfold addsat_tree
  simp only [Tree.holds, Sy.holds, AllN, Env.more, pE, List.cons_append, List.nil_append, List.append_nil, denV, denI, denB, denL, I2.den, VOp.den, List.getD_cons_zero, List.getD_cons_succ, Cst.den, syso, syse, syio, sybo, pi_sz, pi_sa, pi_nv, pi_ne, pi_ck, pi_se, pi_sA, pi_sL, pi_ge, pi_gl, pi_ve, pi_vn, pi_cel, pb_okr, pb_tim, pb_st0, List.map_nil, List.map_cons, B2.ofInts, B2.denI, B2.denB, if_true, Bool.false_eq_true, if_false, Nat.div_one, Nat.mul_one, Nat.add_zero]
  refine ⟨?_, fun h0 => ?_⟩
  ·
   omega
  ·
   refine ⟨fun h1 => ?_, fun h1 => ?_⟩
   ·
    have ht := satE_spec (a + b)
    first
    | (exfalso; omega)
    | (rw [show satE (a + b) = IntKind.wrap .i64 (a + b) by omega]; done)
    | (rw [show satE (a + b) = 9223372036854775807 by omega]; done)
    | (rw [show satE (a + b) = -9223372036854775808 by omega]; done)
   ·
    refine ⟨?_, fun h2 => ?_⟩
    ·
     omega
    ·
     refine ⟨fun h3 => ?_, fun h3 => ?_⟩
     ·
      have ht := satE_spec (a + b)
      first
      | (exfalso; omega)
      | (rw [show satE (a + b) = IntKind.wrap .i64 (a + b) by omega]; done)
      | (rw [show satE (a + b) = 9223372036854775807 by omega]; done)
      | (rw [show satE (a + b) = -9223372036854775808 by omega]; done)
     ·
      have wf0 := wr_i64 (a + b)
      have ht := satE_spec (a + b)
      first
      | (exfalso; omega)
      | (rw [show satE (a + b) = IntKind.wrap .i64 (a + b) by omega]; done)
      | (rw [show satE (a + b) = 9223372036854775807 by omega]; done)
      | (rw [show satE (a + b) = -9223372036854775808 by omega]; done)
theorem pg_addsat : pc_addsat.Good Tryd.prog syG (pE [] [] [] []) := good_of_walk (Γ := ⟨[pc_toohigh, pc_toolow], syG, [], [], []⟩) (ρ := pE [] [] [] []) sym addsat_w rfl (fun _ _ _ _ => (ok_cons (Con.Good.env pg_toohigh _ _ _ _) (ok_cons (Con.Good.env pg_toolow _ _ _ _) ok_nil))) (fun a b hc hty => addsat_h a b hc hty)
def istime_tree : Tree :=
 (.need (.b2 .and (.b2 .le (.lit (-9223372036854775808)) (.var 0)) (.b2 .le (.var 0) (.lit (9223372036854775807))))
 (.ret (.bool (.b2 .lt (.iapp 0 (.cons (.int .i64 (.var 0)) .nil)) (.lit (4611686018427387904))))))
abbrev pc_istime : Con := ⟨77, [(.int .i64 (.var 0))], (.b2 .and (.b2 .le (.lit (-9223372036854775808)) (.var 0)) (.b2 .le (.var 0) (.lit (9223372036854775807)))), (.bool (.bapp 1 (.cons (.int .i64 (.var 0)) .nil))), ⟨1, 0, 0, 0⟩, none⟩
theorem istime_w : walk Tryd.prog 100 ⟨[pc_size], syG, [], [], []⟩ [] .v pc_istime pc_istime.n 3000 = some istime_tree := by kernel_rfl
theorem istime_h (t : Int) (hc : holds (pE [t] [] [] []) (.b2 .and (.b2 .le (.lit (-9223372036854775808)) (.var 0)) (.b2 .le (.var 0) (.lit (9223372036854775807))))) (hty : patsTyp (pE [t] [] [] []) [(.int .i64 (.var 0))]) : istime_tree.holds (fun v_ => v_ = denV (pE [t] [] [] []) b0 (.bool (.bapp 1 (.cons (.int .i64 (.var 0)) .nil)))) (pE [t] [] [] []) := by
  simp only [Tree.holds, Sy.holds, AllN, Env.more, pE, List.cons_append, List.nil_append, List.append_nil, denV, denI, denB, denL, I2.den, VOp.den, List.getD_cons_zero, List.getD_cons_succ, Cst.den, syso, syse, syio, sybo, pi_sz, pi_sa, pi_nv, pi_ne, pi_ck, pi_se, pi_sA, pi_sL, pi_ge, pi_gl, pi_ve, pi_vn, pi_cel, pb_okr, pb_tim, pb_st0, List.map_nil, List.map_cons, B2.ofInts, B2.denI, B2.denB, if_true, Bool.false_eq_true, if_false, Nat.div_one, Nat.mul_one, Nat.add_zero, holds] at hc
  simp only [patsTyp, patTyp, patTypL, pE, denV, denL, List.getD_cons_zero, List.getD_cons_succ, and_true, true_and] at hty
  unfold istime_tree
  simp only [Tree.holds, Sy.holds, AllN, Env.more, pE, List.cons_append, List.nil_append, List.append_nil, denV, denI, denB, denL, I2.den, VOp.den, List.getD_cons_zero, List.getD_cons_succ, Cst.den, syso, syse, syio, sybo, pi_sz, pi_sa, pi_nv, pi_ne, pi_ck, pi_se, pi_sA, pi_sL, pi_ge, pi_gl, pi_ve, pi_vn, pi_cel, pb_okr, pb_tim, pb_st0, List.map_nil, List.map_cons, B2.ofInts, B2.denI, B2.denB, if_true, Bool.false_eq_true, if_false, Nat.div_one, Nat.mul_one, Nat.add_zero]
  refine ⟨?_, fun h0 => ?_⟩
  ·
   omega
  ·
   have hz := szE_spec t ⟨by omega, by omega⟩
   refine congrArg Value.bool (Bool.eq_iff_iff.2 ?_)
   simp only [decide_eq_true_eq]
   unfold tmP
   constructor
   · intro h
     omega
   · intro h
     omega
theorem pg_istime : pc_istime.Good Tryd.prog syG (pE [] [] [] []) := good_of_walk (Γ := ⟨[pc_size], syG, [], [], []⟩) (ρ := pE [] [] [] []) sym istime_w rfl (fun _ _ _ _ => (ok_cons (Con.Good.env pg_size _ _ _ _) ok_nil)) (fun t hc hty => istime_h t hc hty)
def check_tree : Tree :=
 (.need (.b2 .and (.b2 .le (.lit (-9223372036854775808)) (.var 0)) (.b2 .le (.var 0) (.lit (9223372036854775807))))
 (.br (.not (.bapp 1 (.cons (.int .i64 (.var 0)) .nil)))
 (.ret (.iface 100 (.int .i64 (.lit (1)))))
 (.br (.not (.bvar 0))
 (.br (.not (.b2 .eq (.var 0) (.lit (0))))
 (.ret (.iface 100 (.int .i64 (.lit (1)))))
 (.br (.b2 .lt (.var 1) (.lit (0)))
 (.ret (.iface 100 (.int .i64 (.lit (1)))))
 (.br (.b2 .lt (.lit (2305843009213693952)) (.var 1))
 (.ret (.iface 100 (.int .i64 (.lit (1)))))
 (.ret (.cst .nilI)))))
 (.br (.b2 .lt (.var 1) (.lit (0)))
 (.ret (.iface 100 (.int .i64 (.lit (1)))))
 (.br (.b2 .lt (.lit (2305843009213693952)) (.var 1))
 (.ret (.iface 100 (.int .i64 (.lit (1)))))
 (.ret (.cst .nilI)))))))
abbrev pc_check : Con := ⟨76, [(.agg (.cons (.bool (.bvar 0)) (.cons (.int .i64 (.var 0)) (.cons (.int .i64 (.var 1)) .nil))))], (.b2 .and (.b2 .and (.b2 .le (.lit (-9223372036854775808)) (.var 0)) (.b2 .le (.var 0) (.lit (9223372036854775807)))) (.b2 .and (.b2 .le (.lit (-9223372036854775808)) (.var 1)) (.b2 .le (.var 1) (.lit (9223372036854775807))))), (.err (.iapp 4 (.cons (.bool (.bvar 0)) (.cons (.int .i64 (.var 0)) (.cons (.int .i64 (.var 1)) .nil))))), ⟨2, 1, 0, 0⟩, none⟩
theorem check_w : walk Tryd.prog 100 ⟨[pc_istime], syG, [], [], []⟩ [] .v pc_check pc_check.n 3000 = some check_tree := by kernel_rfl
theorem check_h (a : Int) (l : Int) (o : Bool) (hc : holds (pE [a, l] [o] [] []) (.b2 .and (.b2 .and (.b2 .le (.lit (-9223372036854775808)) (.var 0)) (.b2 .le (.var 0) (.lit (9223372036854775807)))) (.b2 .and (.b2 .le (.lit (-9223372036854775808)) (.var 1)) (.b2 .le (.var 1) (.lit (9223372036854775807)))))) (hty : patsTyp (pE [a, l] [o] [] []) [(.agg (.cons (.bool (.bvar 0)) (.cons (.int .i64 (.var 0)) (.cons (.int .i64 (.var 1)) .nil))))]) : check_tree.holds (fun v_ => v_ = denV (pE [a, l] [o] [] []) b0 (.err (.iapp 4 (.cons (.bool (.bvar 0)) (.cons (.int .i64 (.var 0)) (.cons (.int .i64 (.var 1)) .nil)))))) (pE [a, l] [o] [] []) := by
  simp only [Tree.holds, Sy.holds, AllN, Env.more, pE, List.cons_append, List.nil_append, List.append_nil, denV, denI, denB, denL, I2.den, VOp.den, List.getD_cons_zero, List.getD_cons_succ, Cst.den, syso, syse, syio, sybo, pi_sz, pi_sa, pi_nv, pi_ne, pi_ck, pi_se, pi_sA, pi_sL, pi_ge, pi_gl, pi_ve, pi_vn, pi_cel, pb_okr, pb_tim, pb_st0, List.map_nil, List.map_cons, B2.ofInts, B2.denI, B2.denB, if_true, Bool.false_eq_true, if_false, Nat.div_one, Nat.mul_one, Nat.add_zero, holds] at hc
  simp only [patsTyp, patTyp, patTypL, pE, denV, denL, List.getD_cons_zero, List.getD_cons_succ, and_true, true_and] at hty
  unfold check_tree
  simp only [Tree.holds, Sy.holds, AllN, Env.more, pE, List.cons_append, List.nil_append, List.append_nil, denV, denI, denB, denL, I2.den, VOp.den, List.getD_cons_zero, List.getD_cons_succ, Cst.den, syso, syse, syio, sybo, pi_sz, pi_sa, pi_nv, pi_ne, pi_ck, pi_se, pi_sA, pi_sL, pi_ge, pi_gl, pi_ve, pi_vn, pi_cel, pb_okr, pb_tim, pb_st0, List.map_nil, List.map_cons, B2.ofInts, B2.denI, B2.denB, if_true, Bool.false_eq_true, if_false, Nat.div_one, Nat.mul_one, Nat.add_zero]
  refine ⟨?_, fun h0 => ?_⟩
  ·
   first
   | omega
   | grind [ckP, stE, goE, goL, viE, viN, mayP, tmP, errVal]
  ·
   refine ⟨fun h1 => ?_, fun h1 => ?_⟩
   ·
    first
    | rfl
    | (have hz := szE_spec t ⟨by omega, by omega⟩
       grind [ckP, stE, goE, goL, viE, viN, mayP, tmP, errVal])
    | grind [ckP, stE, goE, goL, viE, viN, mayP, tmP, errVal]
   ·
    refine ⟨fun h2 => ?_, fun h2 => ?_⟩
    ·
     refine ⟨fun h3 => ?_, fun h3 => ?_⟩
     ·
      first
      | rfl
      | (have hz := szE_spec t ⟨by omega, by omega⟩
         grind [ckP, stE, goE, goL, viE, viN, mayP, tmP, errVal])
      | grind [ckP, stE, goE, goL, viE, viN, mayP, tmP, errVal]
     ·
      refine ⟨fun h4 => ?_, fun h4 => ?_⟩
      ·
       first
       | rfl
       | (have hz := szE_spec t ⟨by omega, by omega⟩
          grind [ckP, stE, goE, goL, viE, viN, mayP, tmP, errVal])
       | grind [ckP, stE, goE, goL, viE, viN, mayP, tmP, errVal]
      ·
       refine ⟨fun h5 => ?_, fun h5 => ?_⟩
       ·
        first
        | rfl
        | (have hz := szE_spec t ⟨by omega, by omega⟩
           grind [ckP, stE, goE, goL, viE, viN, mayP, tmP, errVal])
        | grind [ckP, stE, goE, goL, viE, viN, mayP, tmP, errVal]
       ·
        first
        | rfl
        | (have hz := szE_spec t ⟨by omega, by omega⟩
           grind [ckP, stE, goE, goL, viE, viN, mayP, tmP, errVal])
        | grind [ckP, stE, goE, goL, viE, viN, mayP, tmP, errVal]
    ·
     refine ⟨fun h6 => ?_, fun h6 => ?_⟩
     ·
      first
      | rfl
      | (have hz := szE_spec t ⟨by omega, by omega⟩
         grind [ckP, stE, goE, goL, viE, viN, mayP, tmP, errVal])
      | grind [ckP, stE, goE, goL, viE, viN, mayP, tmP, errVal]
     ·
      refine ⟨fun h7 => ?_, fun h7 => ?_⟩
      ·
       first
       | rfl
       | (have hz := szE_spec t ⟨by omega, by omega⟩
          grind [ckP, stE, goE, goL, viE, viN, mayP, tmP, errVal])
       | grind [ckP, stE, goE, goL, viE, viN, mayP, tmP, errVal]
      ·
       first
       | rfl
       | (have hz := szE_spec t ⟨by omega, by omega⟩
          grind [ckP, stE, goE, goL, viE, viN, mayP, tmP, errVal])
       | grind [ckP, stE, goE, goL, viE, viN, mayP, tmP, errVal]
theorem pg_check : pc_check.Good Tryd.prog syG (pE [] [] [] []) := good_of_walk (Γ := ⟨[pc_istime], syG, [], [], []⟩) (ρ := pE [] [] [] []) sym check_w rfl (fun _ _ _ _ => (ok_cons (Con.Good.env pg_istime _ _ _ _) ok_nil)) (fun a l o hc hty => check_h a l o hc hty)
def stop_tree : Tree :=
 (.need (.b2 .and (.b2 .and (.b2 .le (.lit (-9223372036854775808)) (.var 0)) (.b2 .le (.var 0) (.lit (9223372036854775807)))) (.b2 .and (.b2 .le (.lit (-9223372036854775808)) (.var 1)) (.b2 .le (.var 1) (.lit (9223372036854775807)))))
 (.br (.not (.b2 .eq (.iapp 4 (.cons (.bool (.bvar 0)) (.cons (.int .i64 (.var 0)) (.cons (.int .i64 (.var 1)) .nil)))) (.lit (0))))
 (.ret (.tup (.cons (.agg (.cons (.bool (.tt false)) (.cons (.int .i64 (.lit (0))) (.cons (.int .i64 (.lit (0))) .nil)))) (.cons (.iface 100 (.int .i64 (.lit (1)))) .nil))))
 (.need (.b2 .and (.b2 .le (.lit (-9223372036854775808)) (.var 2)) (.b2 .le (.var 2) (.lit (9223372036854775807))))
 (.br (.not (.bapp 1 (.cons (.int .i64 (.var 2)) .nil)))
 (.ret (.tup (.cons (.agg (.cons (.bool (.tt false)) (.cons (.int .i64 (.lit (0))) (.cons (.int .i64 (.lit (0))) .nil)))) (.cons (.iface 100 (.int .i64 (.lit (1)))) .nil))))
 (.br (.bvar 0)
 (.ret (.tup (.cons (.agg (.cons (.bool (.tt false)) (.cons (.int .i64 (.lit (0))) (.cons (.int .i64 (.lit (0))) .nil)))) (.cons (.iface 100 (.int .i64 (.lit (19)))) .nil))))
 (.ret (.tup (.cons (.agg (.cons (.bool (.tt true)) (.cons (.int .i64 (.var 2)) (.cons (.int .i64 (.var 1)) .nil)))) (.cons (.cst .nilI) .nil)))))))))
abbrev pc_stop : Con := ⟨46, [(.agg (.cons (.bool (.bvar 0)) (.cons (.int .i64 (.var 0)) (.cons (.int .i64 (.var 1)) .nil)))), (.int .i64 (.var 2))], (.b2 .and (.b2 .and (.b2 .le (.lit (-9223372036854775808)) (.var 0)) (.b2 .le (.var 0) (.lit (9223372036854775807)))) (.b2 .and (.b2 .and (.b2 .le (.lit (-9223372036854775808)) (.var 1)) (.b2 .le (.var 1) (.lit (9223372036854775807)))) (.b2 .and (.b2 .le (.lit (-9223372036854775808)) (.var 2)) (.b2 .le (.var 2) (.lit (9223372036854775807)))))), (.tup (.cons (.agg (.cons (.bool (.bapp 2 (.cons (.bool (.bvar 0)) (.cons (.int .i64 (.var 0)) (.cons (.int .i64 (.var 1)) (.cons (.int .i64 (.var 2)) .nil)))))) (.cons (.int .i64 (.iapp 6 (.cons (.bool (.bvar 0)) (.cons (.int .i64 (.var 0)) (.cons (.int .i64 (.var 1)) (.cons (.int .i64 (.var 2)) .nil)))))) (.cons (.int .i64 (.iapp 7 (.cons (.bool (.bvar 0)) (.cons (.int .i64 (.var 0)) (.cons (.int .i64 (.var 1)) (.cons (.int .i64 (.var 2)) .nil)))))) .nil)))) (.cons (.err (.iapp 5 (.cons (.bool (.bvar 0)) (.cons (.int .i64 (.var 0)) (.cons (.int .i64 (.var 1)) (.cons (.int .i64 (.var 2)) .nil)))))) .nil))), ⟨3, 1, 0, 0⟩, none⟩
theorem stop_w : walk Tryd.prog 100 ⟨[pc_check, pc_istime], syG, [], [], []⟩ [] .v pc_stop pc_stop.n 3000 = some stop_tree := by kernel_rfl
theorem stop_h (a : Int) (l : Int) (t : Int) (o : Bool) (hc : holds (pE [a, l, t] [o] [] []) (.b2 .and (.b2 .and (.b2 .le (.lit (-9223372036854775808)) (.var 0)) (.b2 .le (.var 0) (.lit (9223372036854775807)))) (.b2 .and (.b2 .and (.b2 .le (.lit (-9223372036854775808)) (.var 1)) (.b2 .le (.var 1) (.lit (9223372036854775807)))) (.b2 .and (.b2 .le (.lit (-9223372036854775808)) (.var 2)) (.b2 .le (.var 2) (.lit (9223372036854775807))))))) (hty : patsTyp (pE [a, l, t] [o] [] []) [(.agg (.cons (.bool (.bvar 0)) (.cons (.int .i64 (.var 0)) (.cons (.int .i64 (.var 1)) .nil)))), (.int .i64 (.var 2))]) : stop_tree.holds (fun v_ => v_ = denV (pE [a, l, t] [o] [] []) b0 (.tup (.cons (.agg (.cons (.bool (.bapp 2 (.cons (.bool (.bvar 0)) (.cons (.int .i64 (.var 0)) (.cons (.int .i64 (.var 1)) (.cons (.int .i64 (.var 2)) .nil)))))) (.cons (.int .i64 (.iapp 6 (.cons (.bool (.bvar 0)) (.cons (.int .i64 (.var 0)) (.cons (.int .i64 (.var 1)) (.cons (.int .i64 (.var 2)) .nil)))))) (.cons (.int .i64 (.iapp 7 (.cons (.bool (.bvar 0)) (.cons (.int .i64 (.var 0)) (.cons (.int .i64 (.var 1)) (.cons (.int .i64 (.var 2)) .nil)))))) .nil)))) (.cons (.err (.iapp 5 (.cons (.bool (.bvar 0)) (.cons (.int .i64 (.var 0)) (.cons (.int .i64 (.var 1)) (.cons (.int .i64 (.var 2)) .nil)))))) .nil)))) (pE [a, l, t] [o] [] []) := by
  simp only [Tree.holds, Sy.holds, AllN, Env.more, pE, List.cons_append, List.nil_append, List.append_nil, denV, denI, denB, denL, I2.den, VOp.den, List.getD_cons_zero, List.getD_cons_succ, Cst.den, syso, syse, syio, sybo, pi_sz, pi_sa, pi_nv, pi_ne, pi_ck, pi_se, pi_sA, pi_sL, pi_ge, pi_gl, pi_ve, pi_vn, pi_cel, pb_okr, pb_tim, pb_st0, List.map_nil, List.map_cons, B2.ofInts, B2.denI, B2.denB, if_true, Bool.false_eq_true, if_false, Nat.div_one, Nat.mul_one, Nat.add_zero, holds] at hc
  simp only [patsTyp, patTyp, patTypL, pE, denV, denL, List.getD_cons_zero, List.getD_cons_succ, and_true, true_and] at hty
  unfold stop_tree
  simp only [Tree.holds, Sy.holds, AllN, Env.more, pE, List.cons_append, List.nil_append, List.append_nil, denV, denI, denB, denL, I2.den, VOp.den, List.getD_cons_zero, List.getD_cons_succ, Cst.den, syso, syse, syio, sybo, pi_sz, pi_sa, pi_nv, pi_ne, pi_ck, pi_se, pi_sA, pi_sL, pi_ge, pi_gl, pi_ve, pi_vn, pi_cel, pb_okr, pb_tim, pb_st0, List.map_nil, List.map_cons, B2.ofInts, B2.denI, B2.denB, if_true, Bool.false_eq_true, if_false, Nat.div_one, Nat.mul_one, Nat.add_zero]
  refine ⟨?_, fun h0 => ?_⟩
  ·
   first
   | omega
   | grind [ckP, stE, goE, goL, viE, viN, mayP, tmP, errVal]
  ·
   refine ⟨fun h1 => ?_, fun h1 => ?_⟩
   ·
    first
    | rfl
    | (have hz := szE_spec t ⟨by omega, by omega⟩
       grind [ckP, stE, goE, goL, viE, viN, mayP, tmP, errVal])
    | grind [ckP, stE, goE, goL, viE, viN, mayP, tmP, errVal]
   ·
    refine ⟨?_, fun h2 => ?_⟩
    ·
     first
     | omega
     | grind [ckP, stE, goE, goL, viE, viN, mayP, tmP, errVal]
    ·
     refine ⟨fun h3 => ?_, fun h3 => ?_⟩
     ·
      first
      | rfl
      | (have hz := szE_spec t ⟨by omega, by omega⟩
         grind [ckP, stE, goE, goL, viE, viN, mayP, tmP, errVal])
      | grind [ckP, stE, goE, goL, viE, viN, mayP, tmP, errVal]
     ·
      refine ⟨fun h4 => ?_, fun h4 => ?_⟩
      ·
       first
       | rfl
       | (have hz := szE_spec t ⟨by omega, by omega⟩
          grind [ckP, stE, goE, goL, viE, viN, mayP, tmP, errVal])
       | grind [ckP, stE, goE, goL, viE, viN, mayP, tmP, errVal]
      ·
       first
       | rfl
       | (have hz := szE_spec t ⟨by omega, by omega⟩
          grind [ckP, stE, goE, goL, viE, viN, mayP, tmP, errVal])
       | grind [ckP, stE, goE, goL, viE, viN, mayP, tmP, errVal]
theorem pg_stop : pc_stop.Good Tryd.prog syG (pE [] [] [] []) := good_of_walk (Γ := ⟨[pc_check, pc_istime], syG, [], [], []⟩) (ρ := pE [] [] [] []) sym stop_w rfl (fun _ _ _ _ => (ok_cons (Con.Good.env pg_check _ _ _ _) (ok_cons (Con.Good.env pg_istime _ _ _ _) ok_nil))) (fun a l t o hc hty => stop_h a l t o hc hty)
def go_tree : Tree :=
 (.need (.b2 .and (.b2 .and (.b2 .le (.lit (-9223372036854775808)) (.var 0)) (.b2 .le (.var 0) (.lit (9223372036854775807)))) (.b2 .and (.b2 .le (.lit (-9223372036854775808)) (.var 1)) (.b2 .le (.var 1) (.lit (9223372036854775807)))))
 (.br (.not (.b2 .eq (.iapp 4 (.cons (.bool (.bvar 0)) (.cons (.int .i64 (.var 0)) (.cons (.int .i64 (.var 1)) .nil)))) (.lit (0))))
 (.ret (.tup (.cons (.agg (.cons (.bool (.tt false)) (.cons (.int .i64 (.lit (0))) (.cons (.int .i64 (.lit (0))) .nil)))) (.cons (.iface 100 (.int .i64 (.lit (1)))) .nil))))
 (.need (.b2 .and (.b2 .le (.lit (-9223372036854775808)) (.var 2)) (.b2 .le (.var 2) (.lit (9223372036854775807))))
 (.br (.not (.bapp 1 (.cons (.int .i64 (.var 2)) .nil)))
 (.ret (.tup (.cons (.agg (.cons (.bool (.tt false)) (.cons (.int .i64 (.lit (0))) (.cons (.int .i64 (.lit (0))) .nil)))) (.cons (.iface 100 (.int .i64 (.lit (1)))) .nil))))
 (.br (.not (.bvar 0))
 (.ret (.tup (.cons (.agg (.cons (.bool (.tt false)) (.cons (.int .i64 (.lit (0))) (.cons (.int .i64 (.lit (0))) .nil)))) (.cons (.iface 100 (.int .i64 (.lit (19)))) .nil))))
 (.br (.b2 .lt (.var 2) (.var 0))
 (.ret (.tup (.cons (.agg (.cons (.bool (.tt false)) (.cons (.int .i64 (.lit (0))) (.cons (.int .i64 (.lit (0))) .nil)))) (.cons (.iface 100 (.int .i64 (.lit (10)))) .nil))))
 (.br (.bvar 1)
 (.ret (.tup (.cons (.agg (.cons (.bool (.tt false)) (.cons (.int .i64 (.lit (0))) (.cons (.int .i64 (.var 1)) .nil)))) (.cons (.cst .nilI) .nil))))
 (.need (.b2 .and (.b2 .and (.b2 .le (.lit (-9223372036854775808)) (.var 1)) (.b2 .le (.var 1) (.lit (9223372036854775807)))) (.b2 .and (.b2 .le (.lit (-9223372036854775808)) (.wrap .i64 (.i2 .sub (.var 2) (.var 0)))) (.b2 .le (.wrap .i64 (.i2 .sub (.var 2) (.var 0))) (.lit (9223372036854775807)))))
 (.br (.b2 .lt (.lit (2305843009213693952)) (.iapp 1 (.cons (.int .i64 (.i2 .add (.var 1) (.wrap .i64 (.i2 .sub (.var 2) (.var 0))))) .nil)))
 (.ret (.tup (.cons (.agg (.cons (.bool (.tt false)) (.cons (.int .i64 (.lit (0))) (.cons (.int .i64 (.lit (0))) .nil)))) (.cons (.iface 100 (.int .i64 (.lit (2)))) .nil))))
 (.ret (.tup (.cons (.agg (.cons (.bool (.tt false)) (.cons (.int .i64 (.lit (0))) (.cons (.int .i64 (.iapp 1 (.cons (.int .i64 (.i2 .add (.var 1) (.wrap .i64 (.i2 .sub (.var 2) (.var 0))))) .nil))) .nil)))) (.cons (.cst .nilI) .nil)))))))))))))
abbrev pc_go : Con := ⟨45, [(.agg (.cons (.bool (.bvar 0)) (.cons (.int .i64 (.var 0)) (.cons (.int .i64 (.var 1)) .nil)))), (.int .i64 (.var 2)), (.bool (.bvar 1))], (.b2 .and (.b2 .and (.b2 .le (.lit (-9223372036854775808)) (.var 0)) (.b2 .le (.var 0) (.lit (9223372036854775807)))) (.b2 .and (.b2 .and (.b2 .le (.lit (-9223372036854775808)) (.var 1)) (.b2 .le (.var 1) (.lit (9223372036854775807)))) (.b2 .and (.b2 .le (.lit (-9223372036854775808)) (.var 2)) (.b2 .le (.var 2) (.lit (9223372036854775807)))))), (.tup (.cons (.agg (.cons (.bool (.tt false)) (.cons (.int .i64 (.lit (0))) (.cons (.int .i64 (.iapp 9 (.cons (.bool (.bvar 0)) (.cons (.int .i64 (.var 0)) (.cons (.int .i64 (.var 1)) (.cons (.int .i64 (.var 2)) (.cons (.bool (.bvar 1)) .nil))))))) .nil)))) (.cons (.err (.iapp 8 (.cons (.bool (.bvar 0)) (.cons (.int .i64 (.var 0)) (.cons (.int .i64 (.var 1)) (.cons (.int .i64 (.var 2)) (.cons (.bool (.bvar 1)) .nil))))))) .nil))), ⟨3, 2, 0, 0⟩, none⟩
theorem go_w : walk Tryd.prog 100 ⟨[pc_check, pc_istime, pc_addsat], syG, [], [], []⟩ [] .v pc_go pc_go.n 3000 = some go_tree := by kernel_rfl
theorem go_h (a : Int) (l : Int) (t : Int) (o : Bool) (j : Bool) (hc : holds (pE [a, l, t] [o, j] [] []) (.b2 .and (.b2 .and (.b2 .le (.lit (-9223372036854775808)) (.var 0)) (.b2 .le (.var 0) (.lit (9223372036854775807)))) (.b2 .and (.b2 .and (.b2 .le (.lit (-9223372036854775808)) (.var 1)) (.b2 .le (.var 1) (.lit (9223372036854775807)))) (.b2 .and (.b2 .le (.lit (-9223372036854775808)) (.var 2)) (.b2 .le (.var 2) (.lit (9223372036854775807))))))) (hty : patsTyp (pE [a, l, t] [o, j] [] []) [(.agg (.cons (.bool (.bvar 0)) (.cons (.int .i64 (.var 0)) (.cons (.int .i64 (.var 1)) .nil)))), (.int .i64 (.var 2)), (.bool (.bvar 1))]) : go_tree.holds (fun v_ => v_ = denV (pE [a, l, t] [o, j] [] []) b0 (.tup (.cons (.agg (.cons (.bool (.tt false)) (.cons (.int .i64 (.lit (0))) (.cons (.int .i64 (.iapp 9 (.cons (.bool (.bvar 0)) (.cons (.int .i64 (.var 0)) (.cons (.int .i64 (.var 1)) (.cons (.int .i64 (.var 2)) (.cons (.bool (.bvar 1)) .nil))))))) .nil)))) (.cons (.err (.iapp 8 (.cons (.bool (.bvar 0)) (.cons (.int .i64 (.var 0)) (.cons (.int .i64 (.var 1)) (.cons (.int .i64 (.var 2)) (.cons (.bool (.bvar 1)) .nil))))))) .nil)))) (pE [a, l, t] [o, j] [] []) := by
  simp only [Tree.holds, Sy.holds, AllN, Env.more, pE, List.cons_append, List.nil_append, List.append_nil, denV, denI, denB, denL, I2.den, VOp.den, List.getD_cons_zero, List.getD_cons_succ, Cst.den, syso, syse, syio, sybo, pi_sz, pi_sa, pi_nv, pi_ne, pi_ck, pi_se, pi_sA, pi_sL, pi_ge, pi_gl, pi_ve, pi_vn, pi_cel, pb_okr, pb_tim, pb_st0, List.map_nil, List.map_cons, B2.ofInts, B2.denI, B2.denB, if_true, Bool.false_eq_true, if_false, Nat.div_one, Nat.mul_one, Nat.add_zero, holds] at hc
  simp only [patsTyp, patTyp, patTypL, pE, denV, denL, List.getD_cons_zero, List.getD_cons_succ, and_true, true_and] at hty
  unfold go_tree
  simp only [Tree.holds, Sy.holds, AllN, Env.more, pE, List.cons_append, List.nil_append, List.append_nil, denV, denI, denB, denL, I2.den, VOp.den, List.getD_cons_zero, List.getD_cons_succ, Cst.den, syso, syse, syio, sybo, pi_sz, pi_sa, pi_nv, pi_ne, pi_ck, pi_se, pi_sA, pi_sL, pi_ge, pi_gl, pi_ve, pi_vn, pi_cel, pb_okr, pb_tim, pb_st0, List.map_nil, List.map_cons, B2.ofInts, B2.denI, B2.denB, if_true, Bool.false_eq_true, if_false, Nat.div_one, Nat.mul_one, Nat.add_zero]
  refine ⟨?_, fun h0 => ?_⟩
  ·
   first
   | omega
   | grind [ckP, stE, goE, goL, viE, viN, mayP, tmP, errVal]
  ·
   refine ⟨fun h1 => ?_, fun h1 => ?_⟩
   ·
    first
    | rfl
    | (have hm : mayP o a l ∧ tmP t := by grind [ckP]
       obtain ⟨⟨⟨m1, m2⟩, m3, m4, m5⟩, m6, m7⟩ := hm
       have hw : IntKind.wrap .i64 (t - a) = t - a := by omega
       have hs := satE_spec (l + IntKind.wrap .i64 (t - a))
       have hx : (2305843009213693952 < satE (l + IntKind.wrap .i64 (t - a)) ∧ 2305843009213693952 < l + (t - a)) ∨ (satE (l + IntKind.wrap .i64 (t - a)) = l + (t - a) ∧ l + (t - a) ≤ 2305843009213693952) := by omega
       clear hs wf0
       grind [ckP, stE, goE, goL, viE, viN, mayP, tmP, errVal])
    | grind [ckP, stE, goE, goL, viE, viN, mayP, tmP, errVal]
   ·
    refine ⟨?_, fun h2 => ?_⟩
    ·
     first
     | omega
     | grind [ckP, stE, goE, goL, viE, viN, mayP, tmP, errVal]
    ·
     refine ⟨fun h3 => ?_, fun h3 => ?_⟩
     ·
      first
      | rfl
      | (have hm : mayP o a l ∧ tmP t := by grind [ckP]
         obtain ⟨⟨⟨m1, m2⟩, m3, m4, m5⟩, m6, m7⟩ := hm
         have hw : IntKind.wrap .i64 (t - a) = t - a := by omega
         have hs := satE_spec (l + IntKind.wrap .i64 (t - a))
         have hx : (2305843009213693952 < satE (l + IntKind.wrap .i64 (t - a)) ∧ 2305843009213693952 < l + (t - a)) ∨ (satE (l + IntKind.wrap .i64 (t - a)) = l + (t - a) ∧ l + (t - a) ≤ 2305843009213693952) := by omega
         clear hs wf0
         grind [ckP, stE, goE, goL, viE, viN, mayP, tmP, errVal])
      | grind [ckP, stE, goE, goL, viE, viN, mayP, tmP, errVal]
     ·
      refine ⟨fun h4 => ?_, fun h4 => ?_⟩
      ·
       first
       | rfl
       | (have hm : mayP o a l ∧ tmP t := by grind [ckP]
          obtain ⟨⟨⟨m1, m2⟩, m3, m4, m5⟩, m6, m7⟩ := hm
          have hw : IntKind.wrap .i64 (t - a) = t - a := by omega
          have hs := satE_spec (l + IntKind.wrap .i64 (t - a))
          have hx : (2305843009213693952 < satE (l + IntKind.wrap .i64 (t - a)) ∧ 2305843009213693952 < l + (t - a)) ∨ (satE (l + IntKind.wrap .i64 (t - a)) = l + (t - a) ∧ l + (t - a) ≤ 2305843009213693952) := by omega
          clear hs wf0
          grind [ckP, stE, goE, goL, viE, viN, mayP, tmP, errVal])
       | grind [ckP, stE, goE, goL, viE, viN, mayP, tmP, errVal]
      ·
       refine ⟨fun h5 => ?_, fun h5 => ?_⟩
       ·
        first
        | rfl
        | (have hm : mayP o a l ∧ tmP t := by grind [ckP]
           obtain ⟨⟨⟨m1, m2⟩, m3, m4, m5⟩, m6, m7⟩ := hm
           have hw : IntKind.wrap .i64 (t - a) = t - a := by omega
           have hs := satE_spec (l + IntKind.wrap .i64 (t - a))
           have hx : (2305843009213693952 < satE (l + IntKind.wrap .i64 (t - a)) ∧ 2305843009213693952 < l + (t - a)) ∨ (satE (l + IntKind.wrap .i64 (t - a)) = l + (t - a) ∧ l + (t - a) ≤ 2305843009213693952) := by omega
           clear hs wf0
           grind [ckP, stE, goE, goL, viE, viN, mayP, tmP, errVal])
        | grind [ckP, stE, goE, goL, viE, viN, mayP, tmP, errVal]
       ·
        refine ⟨fun h6 => ?_, fun h6 => ?_⟩
        ·
         first
         | rfl
         | (have hm : mayP o a l ∧ tmP t := by grind [ckP]
            obtain ⟨⟨⟨m1, m2⟩, m3, m4, m5⟩, m6, m7⟩ := hm
            have hw : IntKind.wrap .i64 (t - a) = t - a := by omega
            have hs := satE_spec (l + IntKind.wrap .i64 (t - a))
            have hx : (2305843009213693952 < satE (l + IntKind.wrap .i64 (t - a)) ∧ 2305843009213693952 < l + (t - a)) ∨ (satE (l + IntKind.wrap .i64 (t - a)) = l + (t - a) ∧ l + (t - a) ≤ 2305843009213693952) := by omega
            clear hs wf0
            grind [ckP, stE, goE, goL, viE, viN, mayP, tmP, errVal])
         | grind [ckP, stE, goE, goL, viE, viN, mayP, tmP, errVal]
        ·
         have wf0 := wr_i64 (t - a)
         refine ⟨?_, fun h7 => ?_⟩
         ·
          first
          | omega
          | grind [ckP, stE, goE, goL, viE, viN, mayP, tmP, errVal]
         ·
          try simp only [hw0]
          refine ⟨fun h8 => ?_, fun h8 => ?_⟩
          ·
           first
           | rfl
           | (have hm : mayP o a l ∧ tmP t := by grind [ckP]
              obtain ⟨⟨⟨m1, m2⟩, m3, m4, m5⟩, m6, m7⟩ := hm
              have hw : IntKind.wrap .i64 (t - a) = t - a := by omega
              have hs := satE_spec (l + IntKind.wrap .i64 (t - a))
              have hx : (2305843009213693952 < satE (l + IntKind.wrap .i64 (t - a)) ∧ 2305843009213693952 < l + (t - a)) ∨ (satE (l + IntKind.wrap .i64 (t - a)) = l + (t - a) ∧ l + (t - a) ≤ 2305843009213693952) := by omega
              clear hs wf0
              grind [ckP, stE, goE, goL, viE, viN, mayP, tmP, errVal])
           | grind [ckP, stE, goE, goL, viE, viN, mayP, tmP, errVal]
          ·
           try simp only [hw0]
           first
           | rfl
           | (have hm : mayP o a l ∧ tmP t := by grind [ckP]
              obtain ⟨⟨⟨m1, m2⟩, m3, m4, m5⟩, m6, m7⟩ := hm
              have hw : IntKind.wrap .i64 (t - a) = t - a := by omega
              have hs := satE_spec (l + IntKind.wrap .i64 (t - a))
              have hx : (2305843009213693952 < satE (l + IntKind.wrap .i64 (t - a)) ∧ 2305843009213693952 < l + (t - a)) ∨ (satE (l + IntKind.wrap .i64 (t - a)) = l + (t - a) ∧ l + (t - a) ≤ 2305843009213693952) := by omega
              clear hs wf0
              grind [ckP, stE, goE, goL, viE, viN, mayP, tmP, errVal])
           | grind [ckP, stE, goE, goL, viE, viN, mayP, tmP, errVal]
theorem pg_go : pc_go.Good Tryd.prog syG (pE [] [] [] []) := good_of_walk (Γ := ⟨[pc_check, pc_istime, pc_addsat], syG, [], [], []⟩) (ρ := pE [] [] [] []) sym go_w rfl (fun _ _ _ _ => (ok_cons (Con.Good.env pg_check _ _ _ _) (ok_cons (Con.Good.env pg_istime _ _ _ _) (ok_cons (Con.Good.env pg_addsat _ _ _ _) ok_nil)))) (fun a l t o j hc hty => go_h a l t o j hc hty)
def view_tree : Tree :=
 (.need (.b2 .and (.b2 .and (.b2 .le (.lit (-9223372036854775808)) (.var 0)) (.b2 .le (.var 0) (.lit (9223372036854775807)))) (.b2 .and (.b2 .le (.lit (-9223372036854775808)) (.var 1)) (.b2 .le (.var 1) (.lit (9223372036854775807)))))
 (.br (.not (.b2 .eq (.iapp 4 (.cons (.bool (.bvar 0)) (.cons (.int .i64 (.var 0)) (.cons (.int .i64 (.var 1)) .nil)))) (.lit (0))))
 (.ret (.tup (.cons (.int .i64 (.lit (0))) (.cons (.iface 100 (.int .i64 (.lit (1)))) .nil))))
 (.need (.b2 .and (.b2 .le (.lit (-9223372036854775808)) (.var 2)) (.b2 .le (.var 2) (.lit (9223372036854775807))))
 (.br (.not (.bapp 1 (.cons (.int .i64 (.var 2)) .nil)))
 (.ret (.tup (.cons (.int .i64 (.lit (0))) (.cons (.iface 100 (.int .i64 (.lit (1)))) .nil))))
 (.br (.bvar 0)
 (.need (.b2 .and (.b2 .le (.lit (-9223372036854775808)) (.wrap .i64 (.i2 .sub (.var 0) (.var 1)))) (.b2 .le (.wrap .i64 (.i2 .sub (.var 0) (.var 1))) (.lit (9223372036854775807))))
 (.br (.not (.bapp 1 (.cons (.int .i64 (.wrap .i64 (.i2 .sub (.var 0) (.var 1)))) .nil)))
 (.ret (.tup (.cons (.int .i64 (.lit (0))) (.cons (.iface 100 (.int .i64 (.lit (2)))) .nil))))
 (.ret (.tup (.cons (.int .i64 (.wrap .i64 (.i2 .sub (.var 0) (.var 1)))) (.cons (.cst .nilI) .nil))))))
 (.need (.b2 .and (.b2 .le (.lit (-9223372036854775808)) (.wrap .i64 (.i2 .sub (.var 2) (.var 1)))) (.b2 .le (.wrap .i64 (.i2 .sub (.var 2) (.var 1))) (.lit (9223372036854775807))))
 (.br (.not (.bapp 1 (.cons (.int .i64 (.wrap .i64 (.i2 .sub (.var 2) (.var 1)))) .nil)))
 (.ret (.tup (.cons (.int .i64 (.lit (0))) (.cons (.iface 100 (.int .i64 (.lit (2)))) .nil))))
 (.ret (.tup (.cons (.int .i64 (.wrap .i64 (.i2 .sub (.var 2) (.var 1)))) (.cons (.cst .nilI) .nil)))))))))))
abbrev pc_view : Con := ⟨44, [(.agg (.cons (.bool (.bvar 0)) (.cons (.int .i64 (.var 0)) (.cons (.int .i64 (.var 1)) .nil)))), (.int .i64 (.var 2))], (.b2 .and (.b2 .and (.b2 .le (.lit (-9223372036854775808)) (.var 0)) (.b2 .le (.var 0) (.lit (9223372036854775807)))) (.b2 .and (.b2 .and (.b2 .le (.lit (-9223372036854775808)) (.var 1)) (.b2 .le (.var 1) (.lit (9223372036854775807)))) (.b2 .and (.b2 .le (.lit (-9223372036854775808)) (.var 2)) (.b2 .le (.var 2) (.lit (9223372036854775807)))))), (.tup (.cons (.int .i64 (.iapp 11 (.cons (.bool (.bvar 0)) (.cons (.int .i64 (.var 0)) (.cons (.int .i64 (.var 1)) (.cons (.int .i64 (.var 2)) .nil)))))) (.cons (.err (.iapp 10 (.cons (.bool (.bvar 0)) (.cons (.int .i64 (.var 0)) (.cons (.int .i64 (.var 1)) (.cons (.int .i64 (.var 2)) .nil)))))) .nil))), ⟨3, 1, 0, 0⟩, none⟩
theorem view_w : walk Tryd.prog 100 ⟨[pc_check, pc_istime], syG, [], [], []⟩ [] .v pc_view pc_view.n 3000 = some view_tree := by kernel_rfl
theorem view_h (a : Int) (l : Int) (t : Int) (o : Bool) (hc : holds (pE [a, l, t] [o] [] []) (.b2 .and (.b2 .and (.b2 .le (.lit (-9223372036854775808)) (.var 0)) (.b2 .le (.var 0) (.lit (9223372036854775807)))) (.b2 .and (.b2 .and (.b2 .le (.lit (-9223372036854775808)) (.var 1)) (.b2 .le (.var 1) (.lit (9223372036854775807)))) (.b2 .and (.b2 .le (.lit (-9223372036854775808)) (.var 2)) (.b2 .le (.var 2) (.lit (9223372036854775807))))))) (hty : patsTyp (pE [a, l, t] [o] [] []) [(.agg (.cons (.bool (.bvar 0)) (.cons (.int .i64 (.var 0)) (.cons (.int .i64 (.var 1)) .nil)))), (.int .i64 (.var 2))]) : view_tree.holds (fun v_ => v_ = denV (pE [a, l, t] [o] [] []) b0 (.tup (.cons (.int .i64 (.iapp 11 (.cons (.bool (.bvar 0)) (.cons (.int .i64 (.var 0)) (.cons (.int .i64 (.var 1)) (.cons (.int .i64 (.var 2)) .nil)))))) (.cons (.err (.iapp 10 (.cons (.bool (.bvar 0)) (.cons (.int .i64 (.var 0)) (.cons (.int .i64 (.var 1)) (.cons (.int .i64 (.var 2)) .nil)))))) .nil)))) (pE [a, l, t] [o] [] []) := by
  simp only [Tree.holds, Sy.holds, AllN, Env.more, pE, List.cons_append, List.nil_append, List.append_nil, denV, denI, denB, denL, I2.den, VOp.den, List.getD_cons_zero, List.getD_cons_succ, Cst.den, syso, syse, syio, sybo, pi_sz, pi_sa, pi_nv, pi_ne, pi_ck, pi_se, pi_sA, pi_sL, pi_ge, pi_gl, pi_ve, pi_vn, pi_cel, pb_okr, pb_tim, pb_st0, List.map_nil, List.map_cons, B2.ofInts, B2.denI, B2.denB, if_true, Bool.false_eq_true, if_false, Nat.div_one, Nat.mul_one, Nat.add_zero, holds] at hc
  simp only [patsTyp, patTyp, patTypL, pE, denV, denL, List.getD_cons_zero, List.getD_cons_succ, and_true, true_and] at hty
  unfold view_tree
  simp only [Tree.holds, Sy.holds, AllN, Env.more, pE, List.cons_append, List.nil_append, List.append_nil, denV, denI, denB, denL, I2.den, VOp.den, List.getD_cons_zero, List.getD_cons_succ, Cst.den, syso, syse, syio, sybo, pi_sz, pi_sa, pi_nv, pi_ne, pi_ck, pi_se, pi_sA, pi_sL, pi_ge, pi_gl, pi_ve, pi_vn, pi_cel, pb_okr, pb_tim, pb_st0, List.map_nil, List.map_cons, B2.ofInts, B2.denI, B2.denB, if_true, Bool.false_eq_true, if_false, Nat.div_one, Nat.mul_one, Nat.add_zero]
  refine ⟨?_, fun h0 => ?_⟩
  ·
   first
   | omega
   | grind [ckP, stE, goE, goL, viE, viN, mayP, tmP, errVal]
  ·
   refine ⟨fun h1 => ?_, fun h1 => ?_⟩
   ·
    first
    | rfl
    | (have hz := szE_spec t ⟨by omega, by omega⟩
       grind [ckP, stE, goE, goL, viE, viN, mayP, tmP, errVal])
    | grind [ckP, stE, goE, goL, viE, viN, mayP, tmP, errVal]
   ·
    refine ⟨?_, fun h2 => ?_⟩
    ·
     first
     | omega
     | grind [ckP, stE, goE, goL, viE, viN, mayP, tmP, errVal]
    ·
     refine ⟨fun h3 => ?_, fun h3 => ?_⟩
     ·
      first
      | rfl
      | (have hz := szE_spec t ⟨by omega, by omega⟩
         grind [ckP, stE, goE, goL, viE, viN, mayP, tmP, errVal])
      | grind [ckP, stE, goE, goL, viE, viN, mayP, tmP, errVal]
     ·
      refine ⟨fun h4 => ?_, fun h4 => ?_⟩
      ·
       have wf0 := wr_i64 (a - l)
       refine ⟨?_, fun h5 => ?_⟩
       ·
        first
        | omega
        | grind [ckP, stE, goE, goL, viE, viN, mayP, tmP, errVal]
       ·
        try simp only [hw0]
        refine ⟨fun h6 => ?_, fun h6 => ?_⟩
        ·
         first
         | rfl
         | (have hz := szE_spec t ⟨by omega, by omega⟩
            grind [ckP, stE, goE, goL, viE, viN, mayP, tmP, errVal])
         | grind [ckP, stE, goE, goL, viE, viN, mayP, tmP, errVal]
        ·
         first
         | rfl
         | (have hz := szE_spec t ⟨by omega, by omega⟩
            grind [ckP, stE, goE, goL, viE, viN, mayP, tmP, errVal])
         | grind [ckP, stE, goE, goL, viE, viN, mayP, tmP, errVal]
      ·
       have wf1 := wr_i64 (t - l)
       refine ⟨?_, fun h7 => ?_⟩
       ·
        first
        | omega
        | grind [ckP, stE, goE, goL, viE, viN, mayP, tmP, errVal]
       ·
        try simp only [hw1]
        refine ⟨fun h8 => ?_, fun h8 => ?_⟩
        ·
         first
         | rfl
         | (have hz := szE_spec t ⟨by omega, by omega⟩
            grind [ckP, stE, goE, goL, viE, viN, mayP, tmP, errVal])
         | grind [ckP, stE, goE, goL, viE, viN, mayP, tmP, errVal]
        ·
         first
         | rfl
         | (have hz := szE_spec t ⟨by omega, by omega⟩
            grind [ckP, stE, goE, goL, viE, viN, mayP, tmP, errVal])
         | grind [ckP, stE, goE, goL, viE, viN, mayP, tmP, errVal]
theorem pg_view : pc_view.Good Tryd.prog syG (pE [] [] [] []) := good_of_walk (Γ := ⟨[pc_check, pc_istime], syG, [], [], []⟩) (ρ := pE [] [] [] []) sym view_w rfl (fun _ _ _ _ => (ok_cons (Con.Good.env pg_check _ _ _ _) (ok_cons (Con.Good.env pg_istime _ _ _ _) ok_nil))) (fun a l t o hc hty => view_h a l t o hc hty)
theorem vi_on {a l t : Int} (h1 : 0 ≤ l) (h2 : l ≤ a) (h3 : a ≤ t) (h4 : t ≤ 1099511627776) : viE true a l t = 0 ∧ viN true a l t = a - l := by
  constructor <;> grind [viE, viN, mayP, tmP]
theorem vi_off {l t : Int} (h1 : 0 ≤ l) (h3 : l ≤ t) (h4 : t ≤ 1099511627776) : viE false 0 l t = 0 ∧ viN false 0 l t = t - l := by
  constructor <;> grind [viE, viN, mayP, tmP]
theorem go_no {a l t : Int} (h1 : 0 ≤ l) (h2 : l ≤ a) (h3 : a ≤ t) (h4 : t ≤ 1099511627776) : goE true a l t false = 0 ∧ goL true a l t false = l + (t - a) := by
  constructor <;> grind [goE, goL, mayP, tmP]
theorem go_yes {a l t : Int} (h1 : 0 ≤ l) (h2 : l ≤ a) (h3 : a ≤ t) (h4 : t ≤ 1099511627776) : goE true a l t true = 0 ∧ goL true a l t true = l := by
  constructor <;> grind [goE, goL, mayP, tmP]
theorem st_off {l t : Int} (h1 : 0 ≤ l) (h3 : l ≤ t) (h4 : t ≤ 1099511627776) : stE false 0 l t = 0 := by
  grind [stE, mayP, tmP]
def sure27_tree : Tree :=
 (.need (.b2 .and (.b2 .and (.b2 .le (.lit (-9223372036854775808)) (.iapp 6 (.cons (.bool (.tt false)) (.cons (.int .i64 (.lit (0))) (.cons (.int .i64 (.lit (0))) (.cons (.int .i64 (.lit (5))) .nil)))))) (.b2 .le (.iapp 6 (.cons (.bool (.tt false)) (.cons (.int .i64 (.lit (0))) (.cons (.int .i64 (.lit (0))) (.cons (.int .i64 (.lit (5))) .nil))))) (.lit (9223372036854775807)))) (.b2 .and (.b2 .le (.lit (-9223372036854775808)) (.iapp 7 (.cons (.bool (.tt false)) (.cons (.int .i64 (.lit (0))) (.cons (.int .i64 (.lit (0))) (.cons (.int .i64 (.lit (5))) .nil)))))) (.b2 .le (.iapp 7 (.cons (.bool (.tt false)) (.cons (.int .i64 (.lit (0))) (.cons (.int .i64 (.lit (0))) (.cons (.int .i64 (.lit (5))) .nil))))) (.lit (9223372036854775807)))))
 (.need (.b2 .and (.b2 .and (.b2 .le (.lit (-9223372036854775808)) (.iapp 6 (.cons (.bool (.tt false)) (.cons (.int .i64 (.lit (0))) (.cons (.int .i64 (.lit (0))) (.cons (.int .i64 (.lit (5))) .nil)))))) (.b2 .le (.iapp 6 (.cons (.bool (.tt false)) (.cons (.int .i64 (.lit (0))) (.cons (.int .i64 (.lit (0))) (.cons (.int .i64 (.lit (5))) .nil))))) (.lit (9223372036854775807)))) (.b2 .and (.b2 .le (.lit (-9223372036854775808)) (.iapp 7 (.cons (.bool (.tt false)) (.cons (.int .i64 (.lit (0))) (.cons (.int .i64 (.lit (0))) (.cons (.int .i64 (.lit (5))) .nil)))))) (.b2 .le (.iapp 7 (.cons (.bool (.tt false)) (.cons (.int .i64 (.lit (0))) (.cons (.int .i64 (.lit (0))) (.cons (.int .i64 (.lit (5))) .nil))))) (.lit (9223372036854775807)))))
 (.need (.b2 .and (.b2 .le (.lit (-9223372036854775808)) (.iapp 9 (.cons (.bool (.bapp 2 (.cons (.bool (.tt false)) (.cons (.int .i64 (.lit (0))) (.cons (.int .i64 (.lit (0))) (.cons (.int .i64 (.lit (5))) .nil)))))) (.cons (.int .i64 (.iapp 6 (.cons (.bool (.tt false)) (.cons (.int .i64 (.lit (0))) (.cons (.int .i64 (.lit (0))) (.cons (.int .i64 (.lit (5))) .nil)))))) (.cons (.int .i64 (.iapp 7 (.cons (.bool (.tt false)) (.cons (.int .i64 (.lit (0))) (.cons (.int .i64 (.lit (0))) (.cons (.int .i64 (.lit (5))) .nil)))))) (.cons (.int .i64 (.lit (9))) (.cons (.bool (.tt false)) .nil))))))) (.b2 .le (.iapp 9 (.cons (.bool (.bapp 2 (.cons (.bool (.tt false)) (.cons (.int .i64 (.lit (0))) (.cons (.int .i64 (.lit (0))) (.cons (.int .i64 (.lit (5))) .nil)))))) (.cons (.int .i64 (.iapp 6 (.cons (.bool (.tt false)) (.cons (.int .i64 (.lit (0))) (.cons (.int .i64 (.lit (0))) (.cons (.int .i64 (.lit (5))) .nil)))))) (.cons (.int .i64 (.iapp 7 (.cons (.bool (.tt false)) (.cons (.int .i64 (.lit (0))) (.cons (.int .i64 (.lit (0))) (.cons (.int .i64 (.lit (5))) .nil)))))) (.cons (.int .i64 (.lit (9))) (.cons (.bool (.tt false)) .nil)))))) (.lit (9223372036854775807))))
 (.need (.b2 .and (.b2 .le (.lit (-9223372036854775808)) (.iapp 9 (.cons (.bool (.bapp 2 (.cons (.bool (.tt false)) (.cons (.int .i64 (.lit (0))) (.cons (.int .i64 (.lit (0))) (.cons (.int .i64 (.lit (5))) .nil)))))) (.cons (.int .i64 (.iapp 6 (.cons (.bool (.tt false)) (.cons (.int .i64 (.lit (0))) (.cons (.int .i64 (.lit (0))) (.cons (.int .i64 (.lit (5))) .nil)))))) (.cons (.int .i64 (.iapp 7 (.cons (.bool (.tt false)) (.cons (.int .i64 (.lit (0))) (.cons (.int .i64 (.lit (0))) (.cons (.int .i64 (.lit (5))) .nil)))))) (.cons (.int .i64 (.lit (9))) (.cons (.bool (.tt true)) .nil))))))) (.b2 .le (.iapp 9 (.cons (.bool (.bapp 2 (.cons (.bool (.tt false)) (.cons (.int .i64 (.lit (0))) (.cons (.int .i64 (.lit (0))) (.cons (.int .i64 (.lit (5))) .nil)))))) (.cons (.int .i64 (.iapp 6 (.cons (.bool (.tt false)) (.cons (.int .i64 (.lit (0))) (.cons (.int .i64 (.lit (0))) (.cons (.int .i64 (.lit (5))) .nil)))))) (.cons (.int .i64 (.iapp 7 (.cons (.bool (.tt false)) (.cons (.int .i64 (.lit (0))) (.cons (.int .i64 (.lit (0))) (.cons (.int .i64 (.lit (5))) .nil)))))) (.cons (.int .i64 (.lit (9))) (.cons (.bool (.tt true)) .nil)))))) (.lit (9223372036854775807))))
 (.need (.b2 .and (.b2 .and (.b2 .le (.lit (-9223372036854775808)) (.iapp 6 (.cons (.bool (.tt false)) (.cons (.int .i64 (.lit (0))) (.cons (.int .i64 (.lit (0))) (.cons (.int .i64 (.lit (5))) .nil)))))) (.b2 .le (.iapp 6 (.cons (.bool (.tt false)) (.cons (.int .i64 (.lit (0))) (.cons (.int .i64 (.lit (0))) (.cons (.int .i64 (.lit (5))) .nil))))) (.lit (9223372036854775807)))) (.b2 .and (.b2 .le (.lit (-9223372036854775808)) (.iapp 7 (.cons (.bool (.tt false)) (.cons (.int .i64 (.lit (0))) (.cons (.int .i64 (.lit (0))) (.cons (.int .i64 (.lit (5))) .nil)))))) (.b2 .le (.iapp 7 (.cons (.bool (.tt false)) (.cons (.int .i64 (.lit (0))) (.cons (.int .i64 (.lit (0))) (.cons (.int .i64 (.lit (5))) .nil))))) (.lit (9223372036854775807)))))
 (.need (.b2 .and (.b2 .and (.b2 .le (.lit (-9223372036854775808)) (.iapp 6 (.cons (.bool (.tt false)) (.cons (.int .i64 (.lit (0))) (.cons (.int .i64 (.lit (0))) (.cons (.int .i64 (.lit (5))) .nil)))))) (.b2 .le (.iapp 6 (.cons (.bool (.tt false)) (.cons (.int .i64 (.lit (0))) (.cons (.int .i64 (.lit (0))) (.cons (.int .i64 (.lit (5))) .nil))))) (.lit (9223372036854775807)))) (.b2 .and (.b2 .le (.lit (-9223372036854775808)) (.iapp 7 (.cons (.bool (.tt false)) (.cons (.int .i64 (.lit (0))) (.cons (.int .i64 (.lit (0))) (.cons (.int .i64 (.lit (5))) .nil)))))) (.b2 .le (.iapp 7 (.cons (.bool (.tt false)) (.cons (.int .i64 (.lit (0))) (.cons (.int .i64 (.lit (0))) (.cons (.int .i64 (.lit (5))) .nil))))) (.lit (9223372036854775807)))))
 (.br (.b2 .eq (.iapp 5 (.cons (.bool (.tt false)) (.cons (.int .i64 (.lit (0))) (.cons (.int .i64 (.lit (0))) (.cons (.int .i64 (.lit (5))) .nil))))) (.lit (0)))
 (.br (.b2 .eq (.iapp 8 (.cons (.bool (.bapp 2 (.cons (.bool (.tt false)) (.cons (.int .i64 (.lit (0))) (.cons (.int .i64 (.lit (0))) (.cons (.int .i64 (.lit (5))) .nil)))))) (.cons (.int .i64 (.iapp 6 (.cons (.bool (.tt false)) (.cons (.int .i64 (.lit (0))) (.cons (.int .i64 (.lit (0))) (.cons (.int .i64 (.lit (5))) .nil)))))) (.cons (.int .i64 (.iapp 7 (.cons (.bool (.tt false)) (.cons (.int .i64 (.lit (0))) (.cons (.int .i64 (.lit (0))) (.cons (.int .i64 (.lit (5))) .nil)))))) (.cons (.int .i64 (.lit (9))) (.cons (.bool (.tt false)) .nil)))))) (.lit (0)))
 (.br (.b2 .eq (.iapp 8 (.cons (.bool (.bapp 2 (.cons (.bool (.tt false)) (.cons (.int .i64 (.lit (0))) (.cons (.int .i64 (.lit (0))) (.cons (.int .i64 (.lit (5))) .nil)))))) (.cons (.int .i64 (.iapp 6 (.cons (.bool (.tt false)) (.cons (.int .i64 (.lit (0))) (.cons (.int .i64 (.lit (0))) (.cons (.int .i64 (.lit (5))) .nil)))))) (.cons (.int .i64 (.iapp 7 (.cons (.bool (.tt false)) (.cons (.int .i64 (.lit (0))) (.cons (.int .i64 (.lit (0))) (.cons (.int .i64 (.lit (5))) .nil)))))) (.cons (.int .i64 (.lit (9))) (.cons (.bool (.tt true)) .nil)))))) (.lit (0)))
 (.br (.b2 .eq (.iapp 10 (.cons (.bool (.tt false)) (.cons (.int .i64 (.lit (0))) (.cons (.int .i64 (.iapp 9 (.cons (.bool (.bapp 2 (.cons (.bool (.tt false)) (.cons (.int .i64 (.lit (0))) (.cons (.int .i64 (.lit (0))) (.cons (.int .i64 (.lit (5))) .nil)))))) (.cons (.int .i64 (.iapp 6 (.cons (.bool (.tt false)) (.cons (.int .i64 (.lit (0))) (.cons (.int .i64 (.lit (0))) (.cons (.int .i64 (.lit (5))) .nil)))))) (.cons (.int .i64 (.iapp 7 (.cons (.bool (.tt false)) (.cons (.int .i64 (.lit (0))) (.cons (.int .i64 (.lit (0))) (.cons (.int .i64 (.lit (5))) .nil)))))) (.cons (.int .i64 (.lit (9))) (.cons (.bool (.tt false)) .nil))))))) (.cons (.int .i64 (.lit (10))) .nil))))) (.lit (0)))
 (.br (.b2 .eq (.iapp 10 (.cons (.bool (.tt false)) (.cons (.int .i64 (.lit (0))) (.cons (.int .i64 (.iapp 9 (.cons (.bool (.bapp 2 (.cons (.bool (.tt false)) (.cons (.int .i64 (.lit (0))) (.cons (.int .i64 (.lit (0))) (.cons (.int .i64 (.lit (5))) .nil)))))) (.cons (.int .i64 (.iapp 6 (.cons (.bool (.tt false)) (.cons (.int .i64 (.lit (0))) (.cons (.int .i64 (.lit (0))) (.cons (.int .i64 (.lit (5))) .nil)))))) (.cons (.int .i64 (.iapp 7 (.cons (.bool (.tt false)) (.cons (.int .i64 (.lit (0))) (.cons (.int .i64 (.lit (0))) (.cons (.int .i64 (.lit (5))) .nil)))))) (.cons (.int .i64 (.lit (9))) (.cons (.bool (.tt true)) .nil))))))) (.cons (.int .i64 (.lit (10))) .nil))))) (.lit (0)))
 (.br (.b2 .eq (.iapp 10 (.cons (.bool (.bapp 2 (.cons (.bool (.tt false)) (.cons (.int .i64 (.lit (0))) (.cons (.int .i64 (.lit (0))) (.cons (.int .i64 (.lit (5))) .nil)))))) (.cons (.int .i64 (.iapp 6 (.cons (.bool (.tt false)) (.cons (.int .i64 (.lit (0))) (.cons (.int .i64 (.lit (0))) (.cons (.int .i64 (.lit (5))) .nil)))))) (.cons (.int .i64 (.iapp 7 (.cons (.bool (.tt false)) (.cons (.int .i64 (.lit (0))) (.cons (.int .i64 (.lit (0))) (.cons (.int .i64 (.lit (5))) .nil)))))) (.cons (.int .i64 (.lit (7))) .nil))))) (.lit (0)))
 (.br (.b2 .eq (.iapp 11 (.cons (.bool (.tt false)) (.cons (.int .i64 (.lit (0))) (.cons (.int .i64 (.iapp 9 (.cons (.bool (.bapp 2 (.cons (.bool (.tt false)) (.cons (.int .i64 (.lit (0))) (.cons (.int .i64 (.lit (0))) (.cons (.int .i64 (.lit (5))) .nil)))))) (.cons (.int .i64 (.iapp 6 (.cons (.bool (.tt false)) (.cons (.int .i64 (.lit (0))) (.cons (.int .i64 (.lit (0))) (.cons (.int .i64 (.lit (5))) .nil)))))) (.cons (.int .i64 (.iapp 7 (.cons (.bool (.tt false)) (.cons (.int .i64 (.lit (0))) (.cons (.int .i64 (.lit (0))) (.cons (.int .i64 (.lit (5))) .nil)))))) (.cons (.int .i64 (.lit (9))) (.cons (.bool (.tt false)) .nil))))))) (.cons (.int .i64 (.lit (10))) .nil))))) (.lit (6)))
 (.br (.b2 .eq (.iapp 11 (.cons (.bool (.tt false)) (.cons (.int .i64 (.lit (0))) (.cons (.int .i64 (.iapp 9 (.cons (.bool (.bapp 2 (.cons (.bool (.tt false)) (.cons (.int .i64 (.lit (0))) (.cons (.int .i64 (.lit (0))) (.cons (.int .i64 (.lit (5))) .nil)))))) (.cons (.int .i64 (.iapp 6 (.cons (.bool (.tt false)) (.cons (.int .i64 (.lit (0))) (.cons (.int .i64 (.lit (0))) (.cons (.int .i64 (.lit (5))) .nil)))))) (.cons (.int .i64 (.iapp 7 (.cons (.bool (.tt false)) (.cons (.int .i64 (.lit (0))) (.cons (.int .i64 (.lit (0))) (.cons (.int .i64 (.lit (5))) .nil)))))) (.cons (.int .i64 (.lit (9))) (.cons (.bool (.tt true)) .nil))))))) (.cons (.int .i64 (.lit (10))) .nil))))) (.lit (10)))
 (.br (.b2 .eq (.iapp 11 (.cons (.bool (.bapp 2 (.cons (.bool (.tt false)) (.cons (.int .i64 (.lit (0))) (.cons (.int .i64 (.lit (0))) (.cons (.int .i64 (.lit (5))) .nil)))))) (.cons (.int .i64 (.iapp 6 (.cons (.bool (.tt false)) (.cons (.int .i64 (.lit (0))) (.cons (.int .i64 (.lit (0))) (.cons (.int .i64 (.lit (5))) .nil)))))) (.cons (.int .i64 (.iapp 7 (.cons (.bool (.tt false)) (.cons (.int .i64 (.lit (0))) (.cons (.int .i64 (.lit (0))) (.cons (.int .i64 (.lit (5))) .nil)))))) (.cons (.int .i64 (.lit (7))) .nil))))) (.lit (5)))
 (.ret (.bool (.b2 .eq (.iapp 5 (.cons (.bool (.bapp 2 (.cons (.bool (.tt false)) (.cons (.int .i64 (.lit (0))) (.cons (.int .i64 (.lit (0))) (.cons (.int .i64 (.lit (5))) .nil)))))) (.cons (.int .i64 (.iapp 6 (.cons (.bool (.tt false)) (.cons (.int .i64 (.lit (0))) (.cons (.int .i64 (.lit (0))) (.cons (.int .i64 (.lit (5))) .nil)))))) (.cons (.int .i64 (.iapp 7 (.cons (.bool (.tt false)) (.cons (.int .i64 (.lit (0))) (.cons (.int .i64 (.lit (0))) (.cons (.int .i64 (.lit (5))) .nil)))))) (.cons (.int .i64 (.lit (6))) .nil))))) (.lit (19)))))
 (.ret (.bool (.tt false))))
 (.ret (.bool (.tt false))))
 (.ret (.bool (.tt false))))
 (.ret (.bool (.tt false))))
 (.ret (.bool (.tt false))))
 (.ret (.bool (.tt false))))
 (.ret (.bool (.tt false))))
 (.ret (.bool (.tt false))))
 (.ret (.bool (.tt false))))))))))
abbrev pc_sure27 : Con := ⟨47, [], (.tt true), (.bool (.tt true)), ⟨0, 0, 0, 0⟩, none⟩
theorem sure27_w : walk Tryd.prog 100 ⟨[pc_stop, pc_go, pc_view, pc_num], syG, [], [], []⟩ [] .v pc_sure27 pc_sure27.n 3000 = some sure27_tree := by kernel_rfl
theorem sure27_h  (hc : holds (pE [] [] [] []) (.tt true)) (hty : patsTyp (pE [] [] [] []) []) : sure27_tree.holds (fun v_ => v_ = denV (pE [] [] [] []) b0 (.bool (.tt true))) (pE [] [] [] []) := by
  simp only [Tree.holds, Sy.holds, AllN, Env.more, pE, List.cons_append, List.nil_append, List.append_nil, denV, denI, denB, denL, I2.den, VOp.den, List.getD_cons_zero, List.getD_cons_succ, Cst.den, syso, syse, syio, sybo, pi_sz, pi_sa, pi_nv, pi_ne, pi_ck, pi_se, pi_sA, pi_sL, pi_ge, pi_gl, pi_ve, pi_vn, pi_cel, pb_okr, pb_tim, pb_st0, List.map_nil, List.map_cons, B2.ofInts, B2.denI, B2.denB, if_true, Bool.false_eq_true, if_false, Nat.div_one, Nat.mul_one, Nat.add_zero, holds] at hc
  simp only [patsTyp, patTyp, patTypL, pE, denV, denL, List.getD_cons_zero, List.getD_cons_succ, and_true, true_and] at hty
  unfold sure27_tree
  simp only [Tree.holds, Sy.holds, AllN, Env.more, pE, List.cons_append, List.nil_append, List.append_nil, denV, denI, denB, denL, I2.den, VOp.den, List.getD_cons_zero, List.getD_cons_succ, Cst.den, syso, syse, syio, sybo, pi_sz, pi_sa, pi_nv, pi_ne, pi_ck, pi_se, pi_sA, pi_sL, pi_ge, pi_gl, pi_ve, pi_vn, pi_cel, pb_okr, pb_tim, pb_st0, List.map_nil, List.map_cons, B2.ofInts, B2.denI, B2.denB, if_true, Bool.false_eq_true, if_false, Nat.div_one, Nat.mul_one, Nat.add_zero]
  refine ⟨?_, fun h0 => ?_⟩
  ·
   decide
  ·
   refine ⟨?_, fun h1 => ?_⟩
   ·
    decide
   ·
    refine ⟨?_, fun h2 => ?_⟩
    ·
     decide
    ·
     refine ⟨?_, fun h3 => ?_⟩
     ·
      decide
     ·
      refine ⟨?_, fun h4 => ?_⟩
      ·
       decide
      ·
       refine ⟨?_, fun h5 => ?_⟩
       ·
        decide
       ·
        refine ⟨fun h6 => ?_, fun h6 => ?_⟩
        ·
         refine ⟨fun h7 => ?_, fun h7 => ?_⟩
         ·
          refine ⟨fun h8 => ?_, fun h8 => ?_⟩
          ·
           refine ⟨fun h9 => ?_, fun h9 => ?_⟩
           ·
            refine ⟨fun h10 => ?_, fun h10 => ?_⟩
            ·
             refine ⟨fun h11 => ?_, fun h11 => ?_⟩
             ·
              refine ⟨fun h12 => ?_, fun h12 => ?_⟩
              ·
               refine ⟨fun h13 => ?_, fun h13 => ?_⟩
               ·
                refine ⟨fun h14 => ?_, fun h14 => ?_⟩
                ·
                 first
                 | rfl
                 | exact congrArg Value.bool (by decide)
                 | exact absurd (by decide) h0
                 | exact absurd (by decide) h1
                 | exact absurd (by decide) h2
                 | exact absurd (by decide) h3
                 | exact absurd (by decide) h4
                 | exact absurd (by decide) h5
                 | exact absurd (by decide) h6
                 | exact absurd (by decide) h7
                 | exact absurd (by decide) h8
                 | exact absurd (by decide) h9
                 | exact absurd (by decide) h10
                 | exact absurd (by decide) h11
                 | exact absurd (by decide) h12
                 | exact absurd (by decide) h13
                 | exact absurd (by decide) h14
                 | exact absurd (by decide) h15
                 | exact absurd (by decide) h16
                 | exact absurd (by decide) h17
                 | exact absurd (by decide) h18
                 | exact absurd (by decide) h19
                ·
                 first
                 | rfl
                 | exact congrArg Value.bool (by decide)
                 | exact absurd (by decide) h0
                 | exact absurd (by decide) h1
                 | exact absurd (by decide) h2
                 | exact absurd (by decide) h3
                 | exact absurd (by decide) h4
                 | exact absurd (by decide) h5
                 | exact absurd (by decide) h6
                 | exact absurd (by decide) h7
                 | exact absurd (by decide) h8
                 | exact absurd (by decide) h9
                 | exact absurd (by decide) h10
                 | exact absurd (by decide) h11
                 | exact absurd (by decide) h12
                 | exact absurd (by decide) h13
                 | exact absurd (by decide) h14
                 | exact absurd (by decide) h15
                 | exact absurd (by decide) h16
                 | exact absurd (by decide) h17
                 | exact absurd (by decide) h18
                 | exact absurd (by decide) h19
               ·
                first
                | rfl
                | exact congrArg Value.bool (by decide)
                | exact absurd (by decide) h0
                | exact absurd (by decide) h1
                | exact absurd (by decide) h2
                | exact absurd (by decide) h3
                | exact absurd (by decide) h4
                | exact absurd (by decide) h5
                | exact absurd (by decide) h6
                | exact absurd (by decide) h7
                | exact absurd (by decide) h8
                | exact absurd (by decide) h9
                | exact absurd (by decide) h10
                | exact absurd (by decide) h11
                | exact absurd (by decide) h12
                | exact absurd (by decide) h13
                | exact absurd (by decide) h14
                | exact absurd (by decide) h15
                | exact absurd (by decide) h16
                | exact absurd (by decide) h17
                | exact absurd (by decide) h18
                | exact absurd (by decide) h19
              ·
               first
               | rfl
               | exact congrArg Value.bool (by decide)
               | exact absurd (by decide) h0
               | exact absurd (by decide) h1
               | exact absurd (by decide) h2
               | exact absurd (by decide) h3
               | exact absurd (by decide) h4
               | exact absurd (by decide) h5
               | exact absurd (by decide) h6
               | exact absurd (by decide) h7
               | exact absurd (by decide) h8
               | exact absurd (by decide) h9
               | exact absurd (by decide) h10
               | exact absurd (by decide) h11
               | exact absurd (by decide) h12
               | exact absurd (by decide) h13
               | exact absurd (by decide) h14
               | exact absurd (by decide) h15
               | exact absurd (by decide) h16
               | exact absurd (by decide) h17
               | exact absurd (by decide) h18
               | exact absurd (by decide) h19
             ·
              first
              | rfl
              | exact congrArg Value.bool (by decide)
              | exact absurd (by decide) h0
              | exact absurd (by decide) h1
              | exact absurd (by decide) h2
              | exact absurd (by decide) h3
              | exact absurd (by decide) h4
              | exact absurd (by decide) h5
              | exact absurd (by decide) h6
              | exact absurd (by decide) h7
              | exact absurd (by decide) h8
              | exact absurd (by decide) h9
              | exact absurd (by decide) h10
              | exact absurd (by decide) h11
              | exact absurd (by decide) h12
              | exact absurd (by decide) h13
              | exact absurd (by decide) h14
              | exact absurd (by decide) h15
              | exact absurd (by decide) h16
              | exact absurd (by decide) h17
              | exact absurd (by decide) h18
              | exact absurd (by decide) h19
            ·
             first
             | rfl
             | exact congrArg Value.bool (by decide)
             | exact absurd (by decide) h0
             | exact absurd (by decide) h1
             | exact absurd (by decide) h2
             | exact absurd (by decide) h3
             | exact absurd (by decide) h4
             | exact absurd (by decide) h5
             | exact absurd (by decide) h6
             | exact absurd (by decide) h7
             | exact absurd (by decide) h8
             | exact absurd (by decide) h9
             | exact absurd (by decide) h10
             | exact absurd (by decide) h11
             | exact absurd (by decide) h12
             | exact absurd (by decide) h13
             | exact absurd (by decide) h14
             | exact absurd (by decide) h15
             | exact absurd (by decide) h16
             | exact absurd (by decide) h17
             | exact absurd (by decide) h18
             | exact absurd (by decide) h19
           ·
            first
            | rfl
            | exact congrArg Value.bool (by decide)
            | exact absurd (by decide) h0
            | exact absurd (by decide) h1
            | exact absurd (by decide) h2
            | exact absurd (by decide) h3
            | exact absurd (by decide) h4
            | exact absurd (by decide) h5
            | exact absurd (by decide) h6
            | exact absurd (by decide) h7
            | exact absurd (by decide) h8
            | exact absurd (by decide) h9
            | exact absurd (by decide) h10
            | exact absurd (by decide) h11
            | exact absurd (by decide) h12
            | exact absurd (by decide) h13
            | exact absurd (by decide) h14
            | exact absurd (by decide) h15
            | exact absurd (by decide) h16
            | exact absurd (by decide) h17
            | exact absurd (by decide) h18
            | exact absurd (by decide) h19
          ·
           first
           | rfl
           | exact congrArg Value.bool (by decide)
           | exact absurd (by decide) h0
           | exact absurd (by decide) h1
           | exact absurd (by decide) h2
           | exact absurd (by decide) h3
           | exact absurd (by decide) h4
           | exact absurd (by decide) h5
           | exact absurd (by decide) h6
           | exact absurd (by decide) h7
           | exact absurd (by decide) h8
           | exact absurd (by decide) h9
           | exact absurd (by decide) h10
           | exact absurd (by decide) h11
           | exact absurd (by decide) h12
           | exact absurd (by decide) h13
           | exact absurd (by decide) h14
           | exact absurd (by decide) h15
           | exact absurd (by decide) h16
           | exact absurd (by decide) h17
           | exact absurd (by decide) h18
           | exact absurd (by decide) h19
         ·
          first
          | rfl
          | exact congrArg Value.bool (by decide)
          | exact absurd (by decide) h0
          | exact absurd (by decide) h1
          | exact absurd (by decide) h2
          | exact absurd (by decide) h3
          | exact absurd (by decide) h4
          | exact absurd (by decide) h5
          | exact absurd (by decide) h6
          | exact absurd (by decide) h7
          | exact absurd (by decide) h8
          | exact absurd (by decide) h9
          | exact absurd (by decide) h10
          | exact absurd (by decide) h11
          | exact absurd (by decide) h12
          | exact absurd (by decide) h13
          | exact absurd (by decide) h14
          | exact absurd (by decide) h15
          | exact absurd (by decide) h16
          | exact absurd (by decide) h17
          | exact absurd (by decide) h18
          | exact absurd (by decide) h19
        ·
         first
         | rfl
         | exact congrArg Value.bool (by decide)
         | exact absurd (by decide) h0
         | exact absurd (by decide) h1
         | exact absurd (by decide) h2
         | exact absurd (by decide) h3
         | exact absurd (by decide) h4
         | exact absurd (by decide) h5
         | exact absurd (by decide) h6
         | exact absurd (by decide) h7
         | exact absurd (by decide) h8
         | exact absurd (by decide) h9
         | exact absurd (by decide) h10
         | exact absurd (by decide) h11
         | exact absurd (by decide) h12
         | exact absurd (by decide) h13
         | exact absurd (by decide) h14
         | exact absurd (by decide) h15
         | exact absurd (by decide) h16
         | exact absurd (by decide) h17
         | exact absurd (by decide) h18
         | exact absurd (by decide) h19
theorem pg_sure27 : pc_sure27.Good Tryd.prog syG (pE [] [] [] []) := good_of_walk (Γ := ⟨[pc_stop, pc_go, pc_view, pc_num], syG, [], [], []⟩) (ρ := pE [] [] [] []) sym sure27_w rfl (fun _ _ _ _ => (ok_cons (Con.Good.env pg_stop _ _ _ _) (ok_cons (Con.Good.env pg_go _ _ _ _) (ok_cons (Con.Good.env pg_view _ _ _ _) (ok_cons (Con.Good.env pg_num _ _ _ _) ok_nil))))) (fun hc hty => sure27_h  hc hty)
def wHolds_tree : Tree :=
 (.br (.not (.b2 .eq (.iapp 10 (.cons (.bool (.tt false)) (.cons (.int .i64 (.lit (0))) (.cons (.int .i64 (.lit (0))) (.cons (.int .i64 (.lit (0))) .nil))))) (.lit (0))))
 (.ret (.bool (.tt false)))
 (.loop ⟨5, 1, 0, 0⟩ (.b2 .and (.b2 .le (.lit (0)) (.lit (0))) (.b2 .and (.b2 .le (.lit (0)) (.ofI (.vop (.len 2) (.cons (.opq 0) .nil)))) (.b2 .and (.b2 .le (.lit (0)) (.lit (60))) (.b2 .and (.b2 .le (.lit (0)) (.lit (0))) (.b2 .and (.b2 .le (.lit (0)) (.lit (0))) (.b2 .and (.b2 .le (.lit (0)) (.lit (0))) (.b2 .and (.b2 .le (.lit (0)) (.lit (0))) (.b2 .or (.b2 .and (.tt false) (.b2 .and (.b2 .le (.lit (0)) (.lit (0))) (.b2 .and (.b2 .le (.lit (0)) (.lit (0))) (.b2 .eq (.iapp 11 (.cons (.bool (.tt false)) (.cons (.int .i64 (.lit (0))) (.cons (.int .i64 (.lit (0))) (.cons (.int .i64 (.lit (0))) .nil))))) (.lit (0)))))) (.b2 .and (.not (.tt false)) (.b2 .and (.b2 .eq (.lit (0)) (.lit (0))) (.b2 .eq (.iapp 11 (.cons (.bool (.tt false)) (.cons (.int .i64 (.lit (0))) (.cons (.int .i64 (.lit (0))) (.cons (.int .i64 (.lit (0))) .nil))))) (.lit (0))))))))))))) (.b2 .and (.b2 .le (.lit (0)) (.var 4)) (.b2 .and (.b2 .le (.var 4) (.ofI (.vop (.len 2) (.cons (.opq 0) .nil)))) (.b2 .and (.b2 .le (.var 4) (.lit (60))) (.b2 .and (.b2 .le (.lit (0)) (.var 2)) (.b2 .and (.b2 .le (.var 2) (.i2 .mul (.lit (65535)) (.var 4))) (.b2 .and (.b2 .le (.lit (0)) (.var 1)) (.b2 .and (.b2 .le (.var 1) (.var 2)) (.b2 .or (.b2 .and (.bvar 0) (.b2 .and (.b2 .le (.var 0) (.var 2)) (.b2 .and (.b2 .le (.var 1) (.var 0)) (.b2 .eq (.var 3) (.i2 .sub (.var 0) (.var 1)))))) (.b2 .and (.not (.bvar 0)) (.b2 .and (.b2 .eq (.var 0) (.lit (0))) (.b2 .eq (.var 3) (.i2 .sub (.var 2) (.var 1)))))))))))))
 (.br (.b2 .lt (.var 4) (.ofI (.vop (.len 2) (.cons (.opq 0) .nil))))
 (.br (.b2 .lt (.var 4) (.lit (60)))
 (.need (.b2 .and (.b2 .le (.lit (0)) (.var 4)) (.b2 .lt (.var 4) (.ofI (.vop (.len 2) (.cons (.opq 0) .nil)))))
 (.need (.b2 .and (.b2 .and (.b2 .le (.lit (-9223372036854775808)) (.var 0)) (.b2 .le (.var 0) (.lit (9223372036854775807)))) (.b2 .and (.b2 .and (.b2 .le (.lit (-9223372036854775808)) (.var 1)) (.b2 .le (.var 1) (.lit (9223372036854775807)))) (.b2 .and (.b2 .le (.lit (-9223372036854775808)) (.wrap .i64 (.i2 .add (.var 2) (.wrap .i64 (.ofI (.vop (.sel 2 0) (.cons (.opq 0) (.cons (.int .i64 (.var 4)) .nil)))))))) (.b2 .le (.wrap .i64 (.i2 .add (.var 2) (.wrap .i64 (.ofI (.vop (.sel 2 0) (.cons (.opq 0) (.cons (.int .i64 (.var 4)) .nil))))))) (.lit (9223372036854775807))))))
 (.br (.not (.b2 .eq (.iapp 10 (.cons (.bool (.bvar 0)) (.cons (.int .i64 (.var 0)) (.cons (.int .i64 (.var 1)) (.cons (.int .i64 (.wrap .i64 (.i2 .add (.var 2) (.wrap .i64 (.ofI (.vop (.sel 2 0) (.cons (.opq 0) (.cons (.int .i64 (.var 4)) .nil)))))))) .nil))))) (.lit (0))))
 (.ret (.bool (.tt false)))
 (.br (.b2 .lt (.iapp 11 (.cons (.bool (.bvar 0)) (.cons (.int .i64 (.var 0)) (.cons (.int .i64 (.var 1)) (.cons (.int .i64 (.wrap .i64 (.i2 .add (.var 2) (.wrap .i64 (.ofI (.vop (.sel 2 0) (.cons (.opq 0) (.cons (.int .i64 (.var 4)) .nil)))))))) .nil))))) (.var 3))
 (.ret (.bool (.tt false)))
 (.br (.bvar 0)
 (.br (.not (.b2 .eq (.iapp 11 (.cons (.bool (.bvar 0)) (.cons (.int .i64 (.var 0)) (.cons (.int .i64 (.var 1)) (.cons (.int .i64 (.wrap .i64 (.i2 .add (.var 2) (.wrap .i64 (.ofI (.vop (.sel 2 0) (.cons (.opq 0) (.cons (.int .i64 (.var 4)) .nil)))))))) .nil))))) (.var 3)))
 (.ret (.bool (.tt false)))
 (.need (.b2 .and (.b2 .le (.lit (0)) (.var 4)) (.b2 .lt (.var 4) (.ofI (.vop (.len 2) (.cons (.opq 0) .nil)))))
 (.br (.b2 .eq (.i2 .rem (.ofI (.vop (.sel 2 1) (.cons (.opq 0) (.cons (.int .i64 (.var 4)) .nil)))) (.lit (3))) (.lit (0)))
 (.back (.b2 .and (.b2 .le (.lit (0)) (.wrap .i64 (.i2 .add (.var 4) (.lit (1))))) (.b2 .and (.b2 .le (.wrap .i64 (.i2 .add (.var 4) (.lit (1)))) (.ofI (.vop (.len 2) (.cons (.opq 0) .nil)))) (.b2 .and (.b2 .le (.wrap .i64 (.i2 .add (.var 4) (.lit (1)))) (.lit (60))) (.b2 .and (.b2 .le (.lit (0)) (.wrap .i64 (.i2 .add (.var 2) (.wrap .i64 (.ofI (.vop (.sel 2 0) (.cons (.opq 0) (.cons (.int .i64 (.var 4)) .nil)))))))) (.b2 .and (.b2 .le (.wrap .i64 (.i2 .add (.var 2) (.wrap .i64 (.ofI (.vop (.sel 2 0) (.cons (.opq 0) (.cons (.int .i64 (.var 4)) .nil))))))) (.i2 .mul (.lit (65535)) (.wrap .i64 (.i2 .add (.var 4) (.lit (1)))))) (.b2 .and (.b2 .le (.lit (0)) (.var 1)) (.b2 .and (.b2 .le (.var 1) (.wrap .i64 (.i2 .add (.var 2) (.wrap .i64 (.ofI (.vop (.sel 2 0) (.cons (.opq 0) (.cons (.int .i64 (.var 4)) .nil)))))))) (.b2 .or (.b2 .and (.bvar 0) (.b2 .and (.b2 .le (.var 0) (.wrap .i64 (.i2 .add (.var 2) (.wrap .i64 (.ofI (.vop (.sel 2 0) (.cons (.opq 0) (.cons (.int .i64 (.var 4)) .nil)))))))) (.b2 .and (.b2 .le (.var 1) (.var 0)) (.b2 .eq (.iapp 11 (.cons (.bool (.bvar 0)) (.cons (.int .i64 (.var 0)) (.cons (.int .i64 (.var 1)) (.cons (.int .i64 (.wrap .i64 (.i2 .add (.var 2) (.wrap .i64 (.ofI (.vop (.sel 2 0) (.cons (.opq 0) (.cons (.int .i64 (.var 4)) .nil)))))))) .nil))))) (.i2 .sub (.var 0) (.var 1)))))) (.b2 .and (.not (.bvar 0)) (.b2 .and (.b2 .eq (.var 0) (.lit (0))) (.b2 .eq (.iapp 11 (.cons (.bool (.bvar 0)) (.cons (.int .i64 (.var 0)) (.cons (.int .i64 (.var 1)) (.cons (.int .i64 (.wrap .i64 (.i2 .add (.var 2) (.wrap .i64 (.ofI (.vop (.sel 2 0) (.cons (.opq 0) (.cons (.int .i64 (.var 4)) .nil)))))))) .nil))))) (.i2 .sub (.wrap .i64 (.i2 .add (.var 2) (.wrap .i64 (.ofI (.vop (.sel 2 0) (.cons (.opq 0) (.cons (.int .i64 (.var 4)) .nil))))))) (.var 1))))))))))))) (.i2 .sub (.ofI (.vop (.len 2) (.cons (.opq 0) .nil))) (.wrap .i64 (.i2 .add (.var 4) (.lit (1))))) (.i2 .sub (.ofI (.vop (.len 2) (.cons (.opq 0) .nil))) (.var 4)))
 (.need (.b2 .and (.b2 .le (.lit (0)) (.var 4)) (.b2 .lt (.var 4) (.ofI (.vop (.len 2) (.cons (.opq 0) .nil)))))
 (.need (.b2 .and (.b2 .and (.b2 .le (.lit (-9223372036854775808)) (.var 0)) (.b2 .le (.var 0) (.lit (9223372036854775807)))) (.b2 .and (.b2 .and (.b2 .le (.lit (-9223372036854775808)) (.var 1)) (.b2 .le (.var 1) (.lit (9223372036854775807)))) (.b2 .and (.b2 .le (.lit (-9223372036854775808)) (.wrap .i64 (.i2 .add (.var 2) (.wrap .i64 (.ofI (.vop (.sel 2 0) (.cons (.opq 0) (.cons (.int .i64 (.var 4)) .nil)))))))) (.b2 .le (.wrap .i64 (.i2 .add (.var 2) (.wrap .i64 (.ofI (.vop (.sel 2 0) (.cons (.opq 0) (.cons (.int .i64 (.var 4)) .nil))))))) (.lit (9223372036854775807))))))
 (.br (.not (.b2 .eq (.iapp 8 (.cons (.bool (.bvar 0)) (.cons (.int .i64 (.var 0)) (.cons (.int .i64 (.var 1)) (.cons (.int .i64 (.wrap .i64 (.i2 .add (.var 2) (.wrap .i64 (.ofI (.vop (.sel 2 0) (.cons (.opq 0) (.cons (.int .i64 (.var 4)) .nil)))))))) (.cons (.bool (.b2 .eq (.i2 .rem (.ofI (.vop (.sel 2 1) (.cons (.opq 0) (.cons (.int .i64 (.var 4)) .nil)))) (.lit (3))) (.lit (2)))) .nil)))))) (.lit (0))))
 (.ret (.bool (.tt false)))
 (.need (.b2 .and (.b2 .and (.b2 .le (.lit (-9223372036854775808)) (.iapp 9 (.cons (.bool (.bvar 0)) (.cons (.int .i64 (.var 0)) (.cons (.int .i64 (.var 1)) (.cons (.int .i64 (.wrap .i64 (.i2 .add (.var 2) (.wrap .i64 (.ofI (.vop (.sel 2 0) (.cons (.opq 0) (.cons (.int .i64 (.var 4)) .nil)))))))) (.cons (.bool (.b2 .eq (.i2 .rem (.ofI (.vop (.sel 2 1) (.cons (.opq 0) (.cons (.int .i64 (.var 4)) .nil)))) (.lit (3))) (.lit (2)))) .nil))))))) (.b2 .le (.iapp 9 (.cons (.bool (.bvar 0)) (.cons (.int .i64 (.var 0)) (.cons (.int .i64 (.var 1)) (.cons (.int .i64 (.wrap .i64 (.i2 .add (.var 2) (.wrap .i64 (.ofI (.vop (.sel 2 0) (.cons (.opq 0) (.cons (.int .i64 (.var 4)) .nil)))))))) (.cons (.bool (.b2 .eq (.i2 .rem (.ofI (.vop (.sel 2 1) (.cons (.opq 0) (.cons (.int .i64 (.var 4)) .nil)))) (.lit (3))) (.lit (2)))) .nil)))))) (.lit (9223372036854775807)))) (.b2 .and (.b2 .le (.lit (-9223372036854775808)) (.wrap .i64 (.i2 .add (.var 2) (.wrap .i64 (.ofI (.vop (.sel 2 0) (.cons (.opq 0) (.cons (.int .i64 (.var 4)) .nil)))))))) (.b2 .le (.wrap .i64 (.i2 .add (.var 2) (.wrap .i64 (.ofI (.vop (.sel 2 0) (.cons (.opq 0) (.cons (.int .i64 (.var 4)) .nil))))))) (.lit (9223372036854775807)))))
 (.br (.not (.b2 .eq (.iapp 10 (.cons (.bool (.tt false)) (.cons (.int .i64 (.lit (0))) (.cons (.int .i64 (.iapp 9 (.cons (.bool (.bvar 0)) (.cons (.int .i64 (.var 0)) (.cons (.int .i64 (.var 1)) (.cons (.int .i64 (.wrap .i64 (.i2 .add (.var 2) (.wrap .i64 (.ofI (.vop (.sel 2 0) (.cons (.opq 0) (.cons (.int .i64 (.var 4)) .nil)))))))) (.cons (.bool (.b2 .eq (.i2 .rem (.ofI (.vop (.sel 2 1) (.cons (.opq 0) (.cons (.int .i64 (.var 4)) .nil)))) (.lit (3))) (.lit (2)))) .nil))))))) (.cons (.int .i64 (.wrap .i64 (.i2 .add (.var 2) (.wrap .i64 (.ofI (.vop (.sel 2 0) (.cons (.opq 0) (.cons (.int .i64 (.var 4)) .nil)))))))) .nil))))) (.lit (0))))
 (.ret (.bool (.tt false)))
 (.br (.b2 .lt (.iapp 11 (.cons (.bool (.tt false)) (.cons (.int .i64 (.lit (0))) (.cons (.int .i64 (.iapp 9 (.cons (.bool (.bvar 0)) (.cons (.int .i64 (.var 0)) (.cons (.int .i64 (.var 1)) (.cons (.int .i64 (.wrap .i64 (.i2 .add (.var 2) (.wrap .i64 (.ofI (.vop (.sel 2 0) (.cons (.opq 0) (.cons (.int .i64 (.var 4)) .nil)))))))) (.cons (.bool (.b2 .eq (.i2 .rem (.ofI (.vop (.sel 2 1) (.cons (.opq 0) (.cons (.int .i64 (.var 4)) .nil)))) (.lit (3))) (.lit (2)))) .nil))))))) (.cons (.int .i64 (.wrap .i64 (.i2 .add (.var 2) (.wrap .i64 (.ofI (.vop (.sel 2 0) (.cons (.opq 0) (.cons (.int .i64 (.var 4)) .nil)))))))) .nil))))) (.iapp 11 (.cons (.bool (.bvar 0)) (.cons (.int .i64 (.var 0)) (.cons (.int .i64 (.var 1)) (.cons (.int .i64 (.wrap .i64 (.i2 .add (.var 2) (.wrap .i64 (.ofI (.vop (.sel 2 0) (.cons (.opq 0) (.cons (.int .i64 (.var 4)) .nil)))))))) .nil))))))
 (.ret (.bool (.tt false)))
 (.br (.not (.b2 .eq (.i2 .rem (.ofI (.vop (.sel 2 1) (.cons (.opq 0) (.cons (.int .i64 (.var 4)) .nil)))) (.lit (3))) (.lit (2))))
 (.br (.not (.b2 .eq (.iapp 11 (.cons (.bool (.tt false)) (.cons (.int .i64 (.lit (0))) (.cons (.int .i64 (.iapp 9 (.cons (.bool (.bvar 0)) (.cons (.int .i64 (.var 0)) (.cons (.int .i64 (.var 1)) (.cons (.int .i64 (.wrap .i64 (.i2 .add (.var 2) (.wrap .i64 (.ofI (.vop (.sel 2 0) (.cons (.opq 0) (.cons (.int .i64 (.var 4)) .nil)))))))) (.cons (.bool (.b2 .eq (.i2 .rem (.ofI (.vop (.sel 2 1) (.cons (.opq 0) (.cons (.int .i64 (.var 4)) .nil)))) (.lit (3))) (.lit (2)))) .nil))))))) (.cons (.int .i64 (.wrap .i64 (.i2 .add (.var 2) (.wrap .i64 (.ofI (.vop (.sel 2 0) (.cons (.opq 0) (.cons (.int .i64 (.var 4)) .nil)))))))) .nil))))) (.iapp 11 (.cons (.bool (.bvar 0)) (.cons (.int .i64 (.var 0)) (.cons (.int .i64 (.var 1)) (.cons (.int .i64 (.wrap .i64 (.i2 .add (.var 2) (.wrap .i64 (.ofI (.vop (.sel 2 0) (.cons (.opq 0) (.cons (.int .i64 (.var 4)) .nil)))))))) .nil)))))))
 (.ret (.bool (.tt false)))
 (.back (.b2 .and (.b2 .le (.lit (0)) (.wrap .i64 (.i2 .add (.var 4) (.lit (1))))) (.b2 .and (.b2 .le (.wrap .i64 (.i2 .add (.var 4) (.lit (1)))) (.ofI (.vop (.len 2) (.cons (.opq 0) .nil)))) (.b2 .and (.b2 .le (.wrap .i64 (.i2 .add (.var 4) (.lit (1)))) (.lit (60))) (.b2 .and (.b2 .le (.lit (0)) (.wrap .i64 (.i2 .add (.var 2) (.wrap .i64 (.ofI (.vop (.sel 2 0) (.cons (.opq 0) (.cons (.int .i64 (.var 4)) .nil)))))))) (.b2 .and (.b2 .le (.wrap .i64 (.i2 .add (.var 2) (.wrap .i64 (.ofI (.vop (.sel 2 0) (.cons (.opq 0) (.cons (.int .i64 (.var 4)) .nil))))))) (.i2 .mul (.lit (65535)) (.wrap .i64 (.i2 .add (.var 4) (.lit (1)))))) (.b2 .and (.b2 .le (.lit (0)) (.iapp 9 (.cons (.bool (.bvar 0)) (.cons (.int .i64 (.var 0)) (.cons (.int .i64 (.var 1)) (.cons (.int .i64 (.wrap .i64 (.i2 .add (.var 2) (.wrap .i64 (.ofI (.vop (.sel 2 0) (.cons (.opq 0) (.cons (.int .i64 (.var 4)) .nil)))))))) (.cons (.bool (.b2 .eq (.i2 .rem (.ofI (.vop (.sel 2 1) (.cons (.opq 0) (.cons (.int .i64 (.var 4)) .nil)))) (.lit (3))) (.lit (2)))) .nil))))))) (.b2 .and (.b2 .le (.iapp 9 (.cons (.bool (.bvar 0)) (.cons (.int .i64 (.var 0)) (.cons (.int .i64 (.var 1)) (.cons (.int .i64 (.wrap .i64 (.i2 .add (.var 2) (.wrap .i64 (.ofI (.vop (.sel 2 0) (.cons (.opq 0) (.cons (.int .i64 (.var 4)) .nil)))))))) (.cons (.bool (.b2 .eq (.i2 .rem (.ofI (.vop (.sel 2 1) (.cons (.opq 0) (.cons (.int .i64 (.var 4)) .nil)))) (.lit (3))) (.lit (2)))) .nil)))))) (.wrap .i64 (.i2 .add (.var 2) (.wrap .i64 (.ofI (.vop (.sel 2 0) (.cons (.opq 0) (.cons (.int .i64 (.var 4)) .nil)))))))) (.b2 .or (.b2 .and (.tt false) (.b2 .and (.b2 .le (.lit (0)) (.wrap .i64 (.i2 .add (.var 2) (.wrap .i64 (.ofI (.vop (.sel 2 0) (.cons (.opq 0) (.cons (.int .i64 (.var 4)) .nil)))))))) (.b2 .and (.b2 .le (.iapp 9 (.cons (.bool (.bvar 0)) (.cons (.int .i64 (.var 0)) (.cons (.int .i64 (.var 1)) (.cons (.int .i64 (.wrap .i64 (.i2 .add (.var 2) (.wrap .i64 (.ofI (.vop (.sel 2 0) (.cons (.opq 0) (.cons (.int .i64 (.var 4)) .nil)))))))) (.cons (.bool (.b2 .eq (.i2 .rem (.ofI (.vop (.sel 2 1) (.cons (.opq 0) (.cons (.int .i64 (.var 4)) .nil)))) (.lit (3))) (.lit (2)))) .nil)))))) (.lit (0))) (.b2 .eq (.iapp 11 (.cons (.bool (.tt false)) (.cons (.int .i64 (.lit (0))) (.cons (.int .i64 (.iapp 9 (.cons (.bool (.bvar 0)) (.cons (.int .i64 (.var 0)) (.cons (.int .i64 (.var 1)) (.cons (.int .i64 (.wrap .i64 (.i2 .add (.var 2) (.wrap .i64 (.ofI (.vop (.sel 2 0) (.cons (.opq 0) (.cons (.int .i64 (.var 4)) .nil)))))))) (.cons (.bool (.b2 .eq (.i2 .rem (.ofI (.vop (.sel 2 1) (.cons (.opq 0) (.cons (.int .i64 (.var 4)) .nil)))) (.lit (3))) (.lit (2)))) .nil))))))) (.cons (.int .i64 (.wrap .i64 (.i2 .add (.var 2) (.wrap .i64 (.ofI (.vop (.sel 2 0) (.cons (.opq 0) (.cons (.int .i64 (.var 4)) .nil)))))))) .nil))))) (.i2 .sub (.lit (0)) (.iapp 9 (.cons (.bool (.bvar 0)) (.cons (.int .i64 (.var 0)) (.cons (.int .i64 (.var 1)) (.cons (.int .i64 (.wrap .i64 (.i2 .add (.var 2) (.wrap .i64 (.ofI (.vop (.sel 2 0) (.cons (.opq 0) (.cons (.int .i64 (.var 4)) .nil)))))))) (.cons (.bool (.b2 .eq (.i2 .rem (.ofI (.vop (.sel 2 1) (.cons (.opq 0) (.cons (.int .i64 (.var 4)) .nil)))) (.lit (3))) (.lit (2)))) .nil))))))))))) (.b2 .and (.not (.tt false)) (.b2 .and (.b2 .eq (.lit (0)) (.lit (0))) (.b2 .eq (.iapp 11 (.cons (.bool (.tt false)) (.cons (.int .i64 (.lit (0))) (.cons (.int .i64 (.iapp 9 (.cons (.bool (.bvar 0)) (.cons (.int .i64 (.var 0)) (.cons (.int .i64 (.var 1)) (.cons (.int .i64 (.wrap .i64 (.i2 .add (.var 2) (.wrap .i64 (.ofI (.vop (.sel 2 0) (.cons (.opq 0) (.cons (.int .i64 (.var 4)) .nil)))))))) (.cons (.bool (.b2 .eq (.i2 .rem (.ofI (.vop (.sel 2 1) (.cons (.opq 0) (.cons (.int .i64 (.var 4)) .nil)))) (.lit (3))) (.lit (2)))) .nil))))))) (.cons (.int .i64 (.wrap .i64 (.i2 .add (.var 2) (.wrap .i64 (.ofI (.vop (.sel 2 0) (.cons (.opq 0) (.cons (.int .i64 (.var 4)) .nil)))))))) .nil))))) (.i2 .sub (.wrap .i64 (.i2 .add (.var 2) (.wrap .i64 (.ofI (.vop (.sel 2 0) (.cons (.opq 0) (.cons (.int .i64 (.var 4)) .nil))))))) (.iapp 9 (.cons (.bool (.bvar 0)) (.cons (.int .i64 (.var 0)) (.cons (.int .i64 (.var 1)) (.cons (.int .i64 (.wrap .i64 (.i2 .add (.var 2) (.wrap .i64 (.ofI (.vop (.sel 2 0) (.cons (.opq 0) (.cons (.int .i64 (.var 4)) .nil)))))))) (.cons (.bool (.b2 .eq (.i2 .rem (.ofI (.vop (.sel 2 1) (.cons (.opq 0) (.cons (.int .i64 (.var 4)) .nil)))) (.lit (3))) (.lit (2)))) .nil)))))))))))))))))) (.i2 .sub (.ofI (.vop (.len 2) (.cons (.opq 0) .nil))) (.wrap .i64 (.i2 .add (.var 4) (.lit (1))))) (.i2 .sub (.ofI (.vop (.len 2) (.cons (.opq 0) .nil))) (.var 4))))
 (.back (.b2 .and (.b2 .le (.lit (0)) (.wrap .i64 (.i2 .add (.var 4) (.lit (1))))) (.b2 .and (.b2 .le (.wrap .i64 (.i2 .add (.var 4) (.lit (1)))) (.ofI (.vop (.len 2) (.cons (.opq 0) .nil)))) (.b2 .and (.b2 .le (.wrap .i64 (.i2 .add (.var 4) (.lit (1)))) (.lit (60))) (.b2 .and (.b2 .le (.lit (0)) (.wrap .i64 (.i2 .add (.var 2) (.wrap .i64 (.ofI (.vop (.sel 2 0) (.cons (.opq 0) (.cons (.int .i64 (.var 4)) .nil)))))))) (.b2 .and (.b2 .le (.wrap .i64 (.i2 .add (.var 2) (.wrap .i64 (.ofI (.vop (.sel 2 0) (.cons (.opq 0) (.cons (.int .i64 (.var 4)) .nil))))))) (.i2 .mul (.lit (65535)) (.wrap .i64 (.i2 .add (.var 4) (.lit (1)))))) (.b2 .and (.b2 .le (.lit (0)) (.iapp 9 (.cons (.bool (.bvar 0)) (.cons (.int .i64 (.var 0)) (.cons (.int .i64 (.var 1)) (.cons (.int .i64 (.wrap .i64 (.i2 .add (.var 2) (.wrap .i64 (.ofI (.vop (.sel 2 0) (.cons (.opq 0) (.cons (.int .i64 (.var 4)) .nil)))))))) (.cons (.bool (.b2 .eq (.i2 .rem (.ofI (.vop (.sel 2 1) (.cons (.opq 0) (.cons (.int .i64 (.var 4)) .nil)))) (.lit (3))) (.lit (2)))) .nil))))))) (.b2 .and (.b2 .le (.iapp 9 (.cons (.bool (.bvar 0)) (.cons (.int .i64 (.var 0)) (.cons (.int .i64 (.var 1)) (.cons (.int .i64 (.wrap .i64 (.i2 .add (.var 2) (.wrap .i64 (.ofI (.vop (.sel 2 0) (.cons (.opq 0) (.cons (.int .i64 (.var 4)) .nil)))))))) (.cons (.bool (.b2 .eq (.i2 .rem (.ofI (.vop (.sel 2 1) (.cons (.opq 0) (.cons (.int .i64 (.var 4)) .nil)))) (.lit (3))) (.lit (2)))) .nil)))))) (.wrap .i64 (.i2 .add (.var 2) (.wrap .i64 (.ofI (.vop (.sel 2 0) (.cons (.opq 0) (.cons (.int .i64 (.var 4)) .nil)))))))) (.b2 .or (.b2 .and (.tt false) (.b2 .and (.b2 .le (.lit (0)) (.wrap .i64 (.i2 .add (.var 2) (.wrap .i64 (.ofI (.vop (.sel 2 0) (.cons (.opq 0) (.cons (.int .i64 (.var 4)) .nil)))))))) (.b2 .and (.b2 .le (.iapp 9 (.cons (.bool (.bvar 0)) (.cons (.int .i64 (.var 0)) (.cons (.int .i64 (.var 1)) (.cons (.int .i64 (.wrap .i64 (.i2 .add (.var 2) (.wrap .i64 (.ofI (.vop (.sel 2 0) (.cons (.opq 0) (.cons (.int .i64 (.var 4)) .nil)))))))) (.cons (.bool (.b2 .eq (.i2 .rem (.ofI (.vop (.sel 2 1) (.cons (.opq 0) (.cons (.int .i64 (.var 4)) .nil)))) (.lit (3))) (.lit (2)))) .nil)))))) (.lit (0))) (.b2 .eq (.iapp 11 (.cons (.bool (.tt false)) (.cons (.int .i64 (.lit (0))) (.cons (.int .i64 (.iapp 9 (.cons (.bool (.bvar 0)) (.cons (.int .i64 (.var 0)) (.cons (.int .i64 (.var 1)) (.cons (.int .i64 (.wrap .i64 (.i2 .add (.var 2) (.wrap .i64 (.ofI (.vop (.sel 2 0) (.cons (.opq 0) (.cons (.int .i64 (.var 4)) .nil)))))))) (.cons (.bool (.b2 .eq (.i2 .rem (.ofI (.vop (.sel 2 1) (.cons (.opq 0) (.cons (.int .i64 (.var 4)) .nil)))) (.lit (3))) (.lit (2)))) .nil))))))) (.cons (.int .i64 (.wrap .i64 (.i2 .add (.var 2) (.wrap .i64 (.ofI (.vop (.sel 2 0) (.cons (.opq 0) (.cons (.int .i64 (.var 4)) .nil)))))))) .nil))))) (.i2 .sub (.lit (0)) (.iapp 9 (.cons (.bool (.bvar 0)) (.cons (.int .i64 (.var 0)) (.cons (.int .i64 (.var 1)) (.cons (.int .i64 (.wrap .i64 (.i2 .add (.var 2) (.wrap .i64 (.ofI (.vop (.sel 2 0) (.cons (.opq 0) (.cons (.int .i64 (.var 4)) .nil)))))))) (.cons (.bool (.b2 .eq (.i2 .rem (.ofI (.vop (.sel 2 1) (.cons (.opq 0) (.cons (.int .i64 (.var 4)) .nil)))) (.lit (3))) (.lit (2)))) .nil))))))))))) (.b2 .and (.not (.tt false)) (.b2 .and (.b2 .eq (.lit (0)) (.lit (0))) (.b2 .eq (.iapp 11 (.cons (.bool (.tt false)) (.cons (.int .i64 (.lit (0))) (.cons (.int .i64 (.iapp 9 (.cons (.bool (.bvar 0)) (.cons (.int .i64 (.var 0)) (.cons (.int .i64 (.var 1)) (.cons (.int .i64 (.wrap .i64 (.i2 .add (.var 2) (.wrap .i64 (.ofI (.vop (.sel 2 0) (.cons (.opq 0) (.cons (.int .i64 (.var 4)) .nil)))))))) (.cons (.bool (.b2 .eq (.i2 .rem (.ofI (.vop (.sel 2 1) (.cons (.opq 0) (.cons (.int .i64 (.var 4)) .nil)))) (.lit (3))) (.lit (2)))) .nil))))))) (.cons (.int .i64 (.wrap .i64 (.i2 .add (.var 2) (.wrap .i64 (.ofI (.vop (.sel 2 0) (.cons (.opq 0) (.cons (.int .i64 (.var 4)) .nil)))))))) .nil))))) (.i2 .sub (.wrap .i64 (.i2 .add (.var 2) (.wrap .i64 (.ofI (.vop (.sel 2 0) (.cons (.opq 0) (.cons (.int .i64 (.var 4)) .nil))))))) (.iapp 9 (.cons (.bool (.bvar 0)) (.cons (.int .i64 (.var 0)) (.cons (.int .i64 (.var 1)) (.cons (.int .i64 (.wrap .i64 (.i2 .add (.var 2) (.wrap .i64 (.ofI (.vop (.sel 2 0) (.cons (.opq 0) (.cons (.int .i64 (.var 4)) .nil)))))))) (.cons (.bool (.b2 .eq (.i2 .rem (.ofI (.vop (.sel 2 1) (.cons (.opq 0) (.cons (.int .i64 (.var 4)) .nil)))) (.lit (3))) (.lit (2)))) .nil)))))))))))))))))) (.i2 .sub (.ofI (.vop (.len 2) (.cons (.opq 0) .nil))) (.wrap .i64 (.i2 .add (.var 4) (.lit (1))))) (.i2 .sub (.ofI (.vop (.len 2) (.cons (.opq 0) .nil))) (.var 4)))))))))))))
 (.need (.b2 .and (.b2 .le (.lit (0)) (.var 4)) (.b2 .lt (.var 4) (.ofI (.vop (.len 2) (.cons (.opq 0) .nil)))))
 (.br (.not (.b2 .eq (.wrap .i64 (.i2 .sub (.iapp 11 (.cons (.bool (.bvar 0)) (.cons (.int .i64 (.var 0)) (.cons (.int .i64 (.var 1)) (.cons (.int .i64 (.wrap .i64 (.i2 .add (.var 2) (.wrap .i64 (.ofI (.vop (.sel 2 0) (.cons (.opq 0) (.cons (.int .i64 (.var 4)) .nil)))))))) .nil))))) (.var 3))) (.wrap .i64 (.ofI (.vop (.sel 2 0) (.cons (.opq 0) (.cons (.int .i64 (.var 4)) .nil)))))))
 (.ret (.bool (.tt false)))
 (.need (.b2 .and (.b2 .le (.lit (0)) (.var 4)) (.b2 .lt (.var 4) (.ofI (.vop (.len 2) (.cons (.opq 0) .nil)))))
 (.br (.b2 .eq (.i2 .rem (.ofI (.vop (.sel 2 1) (.cons (.opq 0) (.cons (.int .i64 (.var 4)) .nil)))) (.lit (3))) (.lit (0)))
 (.back (.b2 .and (.b2 .le (.lit (0)) (.wrap .i64 (.i2 .add (.var 4) (.lit (1))))) (.b2 .and (.b2 .le (.wrap .i64 (.i2 .add (.var 4) (.lit (1)))) (.ofI (.vop (.len 2) (.cons (.opq 0) .nil)))) (.b2 .and (.b2 .le (.wrap .i64 (.i2 .add (.var 4) (.lit (1)))) (.lit (60))) (.b2 .and (.b2 .le (.lit (0)) (.wrap .i64 (.i2 .add (.var 2) (.wrap .i64 (.ofI (.vop (.sel 2 0) (.cons (.opq 0) (.cons (.int .i64 (.var 4)) .nil)))))))) (.b2 .and (.b2 .le (.wrap .i64 (.i2 .add (.var 2) (.wrap .i64 (.ofI (.vop (.sel 2 0) (.cons (.opq 0) (.cons (.int .i64 (.var 4)) .nil))))))) (.i2 .mul (.lit (65535)) (.wrap .i64 (.i2 .add (.var 4) (.lit (1)))))) (.b2 .and (.b2 .le (.lit (0)) (.var 1)) (.b2 .and (.b2 .le (.var 1) (.wrap .i64 (.i2 .add (.var 2) (.wrap .i64 (.ofI (.vop (.sel 2 0) (.cons (.opq 0) (.cons (.int .i64 (.var 4)) .nil)))))))) (.b2 .or (.b2 .and (.bvar 0) (.b2 .and (.b2 .le (.var 0) (.wrap .i64 (.i2 .add (.var 2) (.wrap .i64 (.ofI (.vop (.sel 2 0) (.cons (.opq 0) (.cons (.int .i64 (.var 4)) .nil)))))))) (.b2 .and (.b2 .le (.var 1) (.var 0)) (.b2 .eq (.iapp 11 (.cons (.bool (.bvar 0)) (.cons (.int .i64 (.var 0)) (.cons (.int .i64 (.var 1)) (.cons (.int .i64 (.wrap .i64 (.i2 .add (.var 2) (.wrap .i64 (.ofI (.vop (.sel 2 0) (.cons (.opq 0) (.cons (.int .i64 (.var 4)) .nil)))))))) .nil))))) (.i2 .sub (.var 0) (.var 1)))))) (.b2 .and (.not (.bvar 0)) (.b2 .and (.b2 .eq (.var 0) (.lit (0))) (.b2 .eq (.iapp 11 (.cons (.bool (.bvar 0)) (.cons (.int .i64 (.var 0)) (.cons (.int .i64 (.var 1)) (.cons (.int .i64 (.wrap .i64 (.i2 .add (.var 2) (.wrap .i64 (.ofI (.vop (.sel 2 0) (.cons (.opq 0) (.cons (.int .i64 (.var 4)) .nil)))))))) .nil))))) (.i2 .sub (.wrap .i64 (.i2 .add (.var 2) (.wrap .i64 (.ofI (.vop (.sel 2 0) (.cons (.opq 0) (.cons (.int .i64 (.var 4)) .nil))))))) (.var 1))))))))))))) (.i2 .sub (.ofI (.vop (.len 2) (.cons (.opq 0) .nil))) (.wrap .i64 (.i2 .add (.var 4) (.lit (1))))) (.i2 .sub (.ofI (.vop (.len 2) (.cons (.opq 0) .nil))) (.var 4)))
 (.need (.b2 .and (.b2 .le (.lit (0)) (.var 4)) (.b2 .lt (.var 4) (.ofI (.vop (.len 2) (.cons (.opq 0) .nil)))))
 (.need (.b2 .and (.b2 .and (.b2 .le (.lit (-9223372036854775808)) (.var 0)) (.b2 .le (.var 0) (.lit (9223372036854775807)))) (.b2 .and (.b2 .and (.b2 .le (.lit (-9223372036854775808)) (.var 1)) (.b2 .le (.var 1) (.lit (9223372036854775807)))) (.b2 .and (.b2 .le (.lit (-9223372036854775808)) (.wrap .i64 (.i2 .add (.var 2) (.wrap .i64 (.ofI (.vop (.sel 2 0) (.cons (.opq 0) (.cons (.int .i64 (.var 4)) .nil)))))))) (.b2 .le (.wrap .i64 (.i2 .add (.var 2) (.wrap .i64 (.ofI (.vop (.sel 2 0) (.cons (.opq 0) (.cons (.int .i64 (.var 4)) .nil))))))) (.lit (9223372036854775807))))))
 (.br (.not (.b2 .eq (.iapp 5 (.cons (.bool (.bvar 0)) (.cons (.int .i64 (.var 0)) (.cons (.int .i64 (.var 1)) (.cons (.int .i64 (.wrap .i64 (.i2 .add (.var 2) (.wrap .i64 (.ofI (.vop (.sel 2 0) (.cons (.opq 0) (.cons (.int .i64 (.var 4)) .nil)))))))) .nil))))) (.lit (0))))
 (.ret (.bool (.tt false)))
 (.need (.b2 .and (.b2 .and (.b2 .le (.lit (-9223372036854775808)) (.iapp 6 (.cons (.bool (.bvar 0)) (.cons (.int .i64 (.var 0)) (.cons (.int .i64 (.var 1)) (.cons (.int .i64 (.wrap .i64 (.i2 .add (.var 2) (.wrap .i64 (.ofI (.vop (.sel 2 0) (.cons (.opq 0) (.cons (.int .i64 (.var 4)) .nil)))))))) .nil)))))) (.b2 .le (.iapp 6 (.cons (.bool (.bvar 0)) (.cons (.int .i64 (.var 0)) (.cons (.int .i64 (.var 1)) (.cons (.int .i64 (.wrap .i64 (.i2 .add (.var 2) (.wrap .i64 (.ofI (.vop (.sel 2 0) (.cons (.opq 0) (.cons (.int .i64 (.var 4)) .nil)))))))) .nil))))) (.lit (9223372036854775807)))) (.b2 .and (.b2 .and (.b2 .le (.lit (-9223372036854775808)) (.iapp 7 (.cons (.bool (.bvar 0)) (.cons (.int .i64 (.var 0)) (.cons (.int .i64 (.var 1)) (.cons (.int .i64 (.wrap .i64 (.i2 .add (.var 2) (.wrap .i64 (.ofI (.vop (.sel 2 0) (.cons (.opq 0) (.cons (.int .i64 (.var 4)) .nil)))))))) .nil)))))) (.b2 .le (.iapp 7 (.cons (.bool (.bvar 0)) (.cons (.int .i64 (.var 0)) (.cons (.int .i64 (.var 1)) (.cons (.int .i64 (.wrap .i64 (.i2 .add (.var 2) (.wrap .i64 (.ofI (.vop (.sel 2 0) (.cons (.opq 0) (.cons (.int .i64 (.var 4)) .nil)))))))) .nil))))) (.lit (9223372036854775807)))) (.b2 .and (.b2 .le (.lit (-9223372036854775808)) (.wrap .i64 (.i2 .add (.var 2) (.wrap .i64 (.ofI (.vop (.sel 2 0) (.cons (.opq 0) (.cons (.int .i64 (.var 4)) .nil)))))))) (.b2 .le (.wrap .i64 (.i2 .add (.var 2) (.wrap .i64 (.ofI (.vop (.sel 2 0) (.cons (.opq 0) (.cons (.int .i64 (.var 4)) .nil))))))) (.lit (9223372036854775807))))))
 (.br (.not (.b2 .eq (.iapp 10 (.cons (.bool (.bapp 2 (.cons (.bool (.bvar 0)) (.cons (.int .i64 (.var 0)) (.cons (.int .i64 (.var 1)) (.cons (.int .i64 (.wrap .i64 (.i2 .add (.var 2) (.wrap .i64 (.ofI (.vop (.sel 2 0) (.cons (.opq 0) (.cons (.int .i64 (.var 4)) .nil)))))))) .nil)))))) (.cons (.int .i64 (.iapp 6 (.cons (.bool (.bvar 0)) (.cons (.int .i64 (.var 0)) (.cons (.int .i64 (.var 1)) (.cons (.int .i64 (.wrap .i64 (.i2 .add (.var 2) (.wrap .i64 (.ofI (.vop (.sel 2 0) (.cons (.opq 0) (.cons (.int .i64 (.var 4)) .nil)))))))) .nil)))))) (.cons (.int .i64 (.iapp 7 (.cons (.bool (.bvar 0)) (.cons (.int .i64 (.var 0)) (.cons (.int .i64 (.var 1)) (.cons (.int .i64 (.wrap .i64 (.i2 .add (.var 2) (.wrap .i64 (.ofI (.vop (.sel 2 0) (.cons (.opq 0) (.cons (.int .i64 (.var 4)) .nil)))))))) .nil)))))) (.cons (.int .i64 (.wrap .i64 (.i2 .add (.var 2) (.wrap .i64 (.ofI (.vop (.sel 2 0) (.cons (.opq 0) (.cons (.int .i64 (.var 4)) .nil)))))))) .nil))))) (.lit (0))))
 (.ret (.bool (.tt false)))
 (.br (.b2 .beq (.bapp 2 (.cons (.bool (.bvar 0)) (.cons (.int .i64 (.var 0)) (.cons (.int .i64 (.var 1)) (.cons (.int .i64 (.wrap .i64 (.i2 .add (.var 2) (.wrap .i64 (.ofI (.vop (.sel 2 0) (.cons (.opq 0) (.cons (.int .i64 (.var 4)) .nil)))))))) .nil))))) (.bvar 0))
 (.ret (.bool (.tt false)))
 (.br (.b2 .lt (.iapp 11 (.cons (.bool (.bapp 2 (.cons (.bool (.bvar 0)) (.cons (.int .i64 (.var 0)) (.cons (.int .i64 (.var 1)) (.cons (.int .i64 (.wrap .i64 (.i2 .add (.var 2) (.wrap .i64 (.ofI (.vop (.sel 2 0) (.cons (.opq 0) (.cons (.int .i64 (.var 4)) .nil)))))))) .nil)))))) (.cons (.int .i64 (.iapp 6 (.cons (.bool (.bvar 0)) (.cons (.int .i64 (.var 0)) (.cons (.int .i64 (.var 1)) (.cons (.int .i64 (.wrap .i64 (.i2 .add (.var 2) (.wrap .i64 (.ofI (.vop (.sel 2 0) (.cons (.opq 0) (.cons (.int .i64 (.var 4)) .nil)))))))) .nil)))))) (.cons (.int .i64 (.iapp 7 (.cons (.bool (.bvar 0)) (.cons (.int .i64 (.var 0)) (.cons (.int .i64 (.var 1)) (.cons (.int .i64 (.wrap .i64 (.i2 .add (.var 2) (.wrap .i64 (.ofI (.vop (.sel 2 0) (.cons (.opq 0) (.cons (.int .i64 (.var 4)) .nil)))))))) .nil)))))) (.cons (.int .i64 (.wrap .i64 (.i2 .add (.var 2) (.wrap .i64 (.ofI (.vop (.sel 2 0) (.cons (.opq 0) (.cons (.int .i64 (.var 4)) .nil)))))))) .nil))))) (.iapp 11 (.cons (.bool (.bvar 0)) (.cons (.int .i64 (.var 0)) (.cons (.int .i64 (.var 1)) (.cons (.int .i64 (.wrap .i64 (.i2 .add (.var 2) (.wrap .i64 (.ofI (.vop (.sel 2 0) (.cons (.opq 0) (.cons (.int .i64 (.var 4)) .nil)))))))) .nil))))))
 (.ret (.bool (.tt false)))
 (.br (.not (.b2 .eq (.iapp 11 (.cons (.bool (.bapp 2 (.cons (.bool (.bvar 0)) (.cons (.int .i64 (.var 0)) (.cons (.int .i64 (.var 1)) (.cons (.int .i64 (.wrap .i64 (.i2 .add (.var 2) (.wrap .i64 (.ofI (.vop (.sel 2 0) (.cons (.opq 0) (.cons (.int .i64 (.var 4)) .nil)))))))) .nil)))))) (.cons (.int .i64 (.iapp 6 (.cons (.bool (.bvar 0)) (.cons (.int .i64 (.var 0)) (.cons (.int .i64 (.var 1)) (.cons (.int .i64 (.wrap .i64 (.i2 .add (.var 2) (.wrap .i64 (.ofI (.vop (.sel 2 0) (.cons (.opq 0) (.cons (.int .i64 (.var 4)) .nil)))))))) .nil)))))) (.cons (.int .i64 (.iapp 7 (.cons (.bool (.bvar 0)) (.cons (.int .i64 (.var 0)) (.cons (.int .i64 (.var 1)) (.cons (.int .i64 (.wrap .i64 (.i2 .add (.var 2) (.wrap .i64 (.ofI (.vop (.sel 2 0) (.cons (.opq 0) (.cons (.int .i64 (.var 4)) .nil)))))))) .nil)))))) (.cons (.int .i64 (.wrap .i64 (.i2 .add (.var 2) (.wrap .i64 (.ofI (.vop (.sel 2 0) (.cons (.opq 0) (.cons (.int .i64 (.var 4)) .nil)))))))) .nil))))) (.iapp 11 (.cons (.bool (.bvar 0)) (.cons (.int .i64 (.var 0)) (.cons (.int .i64 (.var 1)) (.cons (.int .i64 (.wrap .i64 (.i2 .add (.var 2) (.wrap .i64 (.ofI (.vop (.sel 2 0) (.cons (.opq 0) (.cons (.int .i64 (.var 4)) .nil)))))))) .nil)))))))
 (.ret (.bool (.tt false)))
 (.back (.b2 .and (.b2 .le (.lit (0)) (.wrap .i64 (.i2 .add (.var 4) (.lit (1))))) (.b2 .and (.b2 .le (.wrap .i64 (.i2 .add (.var 4) (.lit (1)))) (.ofI (.vop (.len 2) (.cons (.opq 0) .nil)))) (.b2 .and (.b2 .le (.wrap .i64 (.i2 .add (.var 4) (.lit (1)))) (.lit (60))) (.b2 .and (.b2 .le (.lit (0)) (.wrap .i64 (.i2 .add (.var 2) (.wrap .i64 (.ofI (.vop (.sel 2 0) (.cons (.opq 0) (.cons (.int .i64 (.var 4)) .nil)))))))) (.b2 .and (.b2 .le (.wrap .i64 (.i2 .add (.var 2) (.wrap .i64 (.ofI (.vop (.sel 2 0) (.cons (.opq 0) (.cons (.int .i64 (.var 4)) .nil))))))) (.i2 .mul (.lit (65535)) (.wrap .i64 (.i2 .add (.var 4) (.lit (1)))))) (.b2 .and (.b2 .le (.lit (0)) (.iapp 7 (.cons (.bool (.bvar 0)) (.cons (.int .i64 (.var 0)) (.cons (.int .i64 (.var 1)) (.cons (.int .i64 (.wrap .i64 (.i2 .add (.var 2) (.wrap .i64 (.ofI (.vop (.sel 2 0) (.cons (.opq 0) (.cons (.int .i64 (.var 4)) .nil)))))))) .nil)))))) (.b2 .and (.b2 .le (.iapp 7 (.cons (.bool (.bvar 0)) (.cons (.int .i64 (.var 0)) (.cons (.int .i64 (.var 1)) (.cons (.int .i64 (.wrap .i64 (.i2 .add (.var 2) (.wrap .i64 (.ofI (.vop (.sel 2 0) (.cons (.opq 0) (.cons (.int .i64 (.var 4)) .nil)))))))) .nil))))) (.wrap .i64 (.i2 .add (.var 2) (.wrap .i64 (.ofI (.vop (.sel 2 0) (.cons (.opq 0) (.cons (.int .i64 (.var 4)) .nil)))))))) (.b2 .or (.b2 .and (.bapp 2 (.cons (.bool (.bvar 0)) (.cons (.int .i64 (.var 0)) (.cons (.int .i64 (.var 1)) (.cons (.int .i64 (.wrap .i64 (.i2 .add (.var 2) (.wrap .i64 (.ofI (.vop (.sel 2 0) (.cons (.opq 0) (.cons (.int .i64 (.var 4)) .nil)))))))) .nil))))) (.b2 .and (.b2 .le (.iapp 6 (.cons (.bool (.bvar 0)) (.cons (.int .i64 (.var 0)) (.cons (.int .i64 (.var 1)) (.cons (.int .i64 (.wrap .i64 (.i2 .add (.var 2) (.wrap .i64 (.ofI (.vop (.sel 2 0) (.cons (.opq 0) (.cons (.int .i64 (.var 4)) .nil)))))))) .nil))))) (.wrap .i64 (.i2 .add (.var 2) (.wrap .i64 (.ofI (.vop (.sel 2 0) (.cons (.opq 0) (.cons (.int .i64 (.var 4)) .nil)))))))) (.b2 .and (.b2 .le (.iapp 7 (.cons (.bool (.bvar 0)) (.cons (.int .i64 (.var 0)) (.cons (.int .i64 (.var 1)) (.cons (.int .i64 (.wrap .i64 (.i2 .add (.var 2) (.wrap .i64 (.ofI (.vop (.sel 2 0) (.cons (.opq 0) (.cons (.int .i64 (.var 4)) .nil)))))))) .nil))))) (.iapp 6 (.cons (.bool (.bvar 0)) (.cons (.int .i64 (.var 0)) (.cons (.int .i64 (.var 1)) (.cons (.int .i64 (.wrap .i64 (.i2 .add (.var 2) (.wrap .i64 (.ofI (.vop (.sel 2 0) (.cons (.opq 0) (.cons (.int .i64 (.var 4)) .nil)))))))) .nil)))))) (.b2 .eq (.iapp 11 (.cons (.bool (.bapp 2 (.cons (.bool (.bvar 0)) (.cons (.int .i64 (.var 0)) (.cons (.int .i64 (.var 1)) (.cons (.int .i64 (.wrap .i64 (.i2 .add (.var 2) (.wrap .i64 (.ofI (.vop (.sel 2 0) (.cons (.opq 0) (.cons (.int .i64 (.var 4)) .nil)))))))) .nil)))))) (.cons (.int .i64 (.iapp 6 (.cons (.bool (.bvar 0)) (.cons (.int .i64 (.var 0)) (.cons (.int .i64 (.var 1)) (.cons (.int .i64 (.wrap .i64 (.i2 .add (.var 2) (.wrap .i64 (.ofI (.vop (.sel 2 0) (.cons (.opq 0) (.cons (.int .i64 (.var 4)) .nil)))))))) .nil)))))) (.cons (.int .i64 (.iapp 7 (.cons (.bool (.bvar 0)) (.cons (.int .i64 (.var 0)) (.cons (.int .i64 (.var 1)) (.cons (.int .i64 (.wrap .i64 (.i2 .add (.var 2) (.wrap .i64 (.ofI (.vop (.sel 2 0) (.cons (.opq 0) (.cons (.int .i64 (.var 4)) .nil)))))))) .nil)))))) (.cons (.int .i64 (.wrap .i64 (.i2 .add (.var 2) (.wrap .i64 (.ofI (.vop (.sel 2 0) (.cons (.opq 0) (.cons (.int .i64 (.var 4)) .nil)))))))) .nil))))) (.i2 .sub (.iapp 6 (.cons (.bool (.bvar 0)) (.cons (.int .i64 (.var 0)) (.cons (.int .i64 (.var 1)) (.cons (.int .i64 (.wrap .i64 (.i2 .add (.var 2) (.wrap .i64 (.ofI (.vop (.sel 2 0) (.cons (.opq 0) (.cons (.int .i64 (.var 4)) .nil)))))))) .nil))))) (.iapp 7 (.cons (.bool (.bvar 0)) (.cons (.int .i64 (.var 0)) (.cons (.int .i64 (.var 1)) (.cons (.int .i64 (.wrap .i64 (.i2 .add (.var 2) (.wrap .i64 (.ofI (.vop (.sel 2 0) (.cons (.opq 0) (.cons (.int .i64 (.var 4)) .nil)))))))) .nil)))))))))) (.b2 .and (.not (.bapp 2 (.cons (.bool (.bvar 0)) (.cons (.int .i64 (.var 0)) (.cons (.int .i64 (.var 1)) (.cons (.int .i64 (.wrap .i64 (.i2 .add (.var 2) (.wrap .i64 (.ofI (.vop (.sel 2 0) (.cons (.opq 0) (.cons (.int .i64 (.var 4)) .nil)))))))) .nil)))))) (.b2 .and (.b2 .eq (.iapp 6 (.cons (.bool (.bvar 0)) (.cons (.int .i64 (.var 0)) (.cons (.int .i64 (.var 1)) (.cons (.int .i64 (.wrap .i64 (.i2 .add (.var 2) (.wrap .i64 (.ofI (.vop (.sel 2 0) (.cons (.opq 0) (.cons (.int .i64 (.var 4)) .nil)))))))) .nil))))) (.lit (0))) (.b2 .eq (.iapp 11 (.cons (.bool (.bapp 2 (.cons (.bool (.bvar 0)) (.cons (.int .i64 (.var 0)) (.cons (.int .i64 (.var 1)) (.cons (.int .i64 (.wrap .i64 (.i2 .add (.var 2) (.wrap .i64 (.ofI (.vop (.sel 2 0) (.cons (.opq 0) (.cons (.int .i64 (.var 4)) .nil)))))))) .nil)))))) (.cons (.int .i64 (.iapp 6 (.cons (.bool (.bvar 0)) (.cons (.int .i64 (.var 0)) (.cons (.int .i64 (.var 1)) (.cons (.int .i64 (.wrap .i64 (.i2 .add (.var 2) (.wrap .i64 (.ofI (.vop (.sel 2 0) (.cons (.opq 0) (.cons (.int .i64 (.var 4)) .nil)))))))) .nil)))))) (.cons (.int .i64 (.iapp 7 (.cons (.bool (.bvar 0)) (.cons (.int .i64 (.var 0)) (.cons (.int .i64 (.var 1)) (.cons (.int .i64 (.wrap .i64 (.i2 .add (.var 2) (.wrap .i64 (.ofI (.vop (.sel 2 0) (.cons (.opq 0) (.cons (.int .i64 (.var 4)) .nil)))))))) .nil)))))) (.cons (.int .i64 (.wrap .i64 (.i2 .add (.var 2) (.wrap .i64 (.ofI (.vop (.sel 2 0) (.cons (.opq 0) (.cons (.int .i64 (.var 4)) .nil)))))))) .nil))))) (.i2 .sub (.wrap .i64 (.i2 .add (.var 2) (.wrap .i64 (.ofI (.vop (.sel 2 0) (.cons (.opq 0) (.cons (.int .i64 (.var 4)) .nil))))))) (.iapp 7 (.cons (.bool (.bvar 0)) (.cons (.int .i64 (.var 0)) (.cons (.int .i64 (.var 1)) (.cons (.int .i64 (.wrap .i64 (.i2 .add (.var 2) (.wrap .i64 (.ofI (.vop (.sel 2 0) (.cons (.opq 0) (.cons (.int .i64 (.var 4)) .nil)))))))) .nil))))))))))))))))) (.i2 .sub (.ofI (.vop (.len 2) (.cons (.opq 0) .nil))) (.wrap .i64 (.i2 .add (.var 4) (.lit (1))))) (.i2 .sub (.ofI (.vop (.len 2) (.cons (.opq 0) .nil))) (.var 4))))))))))))))))))))
 (.ret (.bool (.tt true))))
 (.ret (.bool (.tt true))))))
abbrev pc_wHolds : Con := ⟨9, [(.hs .no (.cons (.int .u16) (.cons (.int .u16) .nil)) (.opq 0))], (.bapp 0 (.cons (.opq 0) .nil)), (.bool (.tt true)), ⟨0, 0, 1, 0⟩, none⟩
theorem wHolds_w : walk Tryd.prog 100 ⟨[pc_sure27, pc_stop, pc_go, pc_view], syG, [], [], []⟩ [⟨0, ⟨5, 1, 0, 0⟩, [(4, (.int .i64 (.var 2))), (5, (.int .i64 (.var 3))), (7, (.int .i64 (.var 4)))], some [[(.bool (.bvar 0)), (.int .i64 (.var 0)), (.int .i64 (.var 1))], []], (.b2 .and (.b2 .le (.lit (0)) (.var 4)) (.b2 .and (.b2 .le (.var 4) (.ofI (.vop (.len 2) (.cons (.opq 0) .nil)))) (.b2 .and (.b2 .le (.var 4) (.lit (60))) (.b2 .and (.b2 .le (.lit (0)) (.var 2)) (.b2 .and (.b2 .le (.var 2) (.i2 .mul (.lit (65535)) (.var 4))) (.b2 .and (.b2 .le (.lit (0)) (.var 1)) (.b2 .and (.b2 .le (.var 1) (.var 2)) (.b2 .or (.b2 .and (.bvar 0) (.b2 .and (.b2 .le (.var 0) (.var 2)) (.b2 .and (.b2 .le (.var 1) (.var 0)) (.b2 .eq (.var 3) (.i2 .sub (.var 0) (.var 1)))))) (.b2 .and (.not (.bvar 0)) (.b2 .and (.b2 .eq (.var 0) (.lit (0))) (.b2 .eq (.var 3) (.i2 .sub (.var 2) (.var 1))))))))))))), (.i2 .sub (.ofI (.vop (.len 2) (.cons (.opq 0) .nil))) (.var 4)), 0, []⟩] .v pc_wHolds pc_wHolds.n 3000 = some wHolds_tree := by kernel_rfl
set_option maxHeartbeats 4000000 in
theorem wHolds_h (l : Value) (hc : holds (pE [] [] [l] []) (.bapp 0 (.cons (.opq 0) .nil))) (hty : patsTyp (pE [] [] [l] []) [(.hs .no (.cons (.int .u16) (.cons (.int .u16) .nil)) (.opq 0))]) : wHolds_tree.holds (fun v_ => v_ = denV (pE [] [] [l] []) b0 (.bool (.tt true))) (pE [] [] [l] []) := by
  simp only [Tree.holds, Sy.holds, AllN, Env.more, pE, List.cons_append, List.nil_append, List.append_nil, denV, denI, denB, denL, I2.den, VOp.den, List.getD_cons_zero, List.getD_cons_succ, Cst.den, syso, syse, syio, sybo, pi_sz, pi_sa, pi_nv, pi_ne, pi_ck, pi_se, pi_sA, pi_sL, pi_ge, pi_gl, pi_ve, pi_vn, pi_cel, pb_okr, pb_tim, pb_st0, List.map_nil, List.map_cons, B2.ofInts, B2.denI, B2.denB, if_true, Bool.false_eq_true, if_false, Nat.div_one, Nat.mul_one, Nat.add_zero, holds] at hc
  simp only [patsTyp, patTyp, patTypL, pE, denV, denL, List.getD_cons_zero, List.getD_cons_succ, and_true, true_and] at hty
  have hL_l : typ (.sl (.cons (.int .u16) (.cons (.int .u16) .nil))) l := by first | exact hty | exact hty.1 | exact hty.2 | exact hty.1.1 | exact hty.1.2 | exact hty.2.1 | exact hty.2.2 | exact hty.2.2.1 | exact hty.2.2.2
  have hN_l := typ_len (n := 2) hL_l rfl (by omega)
  unfold wHolds_tree
  simp only [Tree.holds, Sy.holds, AllN, Env.more, pE, List.cons_append, List.nil_append, List.append_nil, denV, denI, denB, denL, I2.den, VOp.den, List.getD_cons_zero, List.getD_cons_succ, Cst.den, syso, syse, syio, sybo, pi_sz, pi_sa, pi_nv, pi_ne, pi_ck, pi_se, pi_sA, pi_sL, pi_ge, pi_gl, pi_ve, pi_vn, pi_cel, pb_okr, pb_tim, pb_st0, List.map_nil, List.map_cons, B2.ofInts, B2.denI, B2.denB, if_true, Bool.false_eq_true, if_false, Nat.div_one, Nat.mul_one, Nat.add_zero]
  refine ⟨fun h0 => ?_, fun h0 => ?_⟩
  ·
   first
   | exact True.intro
   | rfl
   | exact absurd (by decide) h0
  ·
   refine ⟨?_, ?_⟩
   ·
    have e : viN false 0 0 0 = 0 := by decide
    rw [e]
    simp
    omega
   ·
    intro i0a i0b i0c i0d i0e i0f hi0
    refine ⟨fun h1 => ?_, fun h1 => ?_⟩
    ·
     refine ⟨fun h2 => ?_, fun h2 => ?_⟩
     ·
      refine ⟨?_, fun h3 => ?_⟩
      ·
       first
       | exact True.intro
       | omega
       | (
          obtain ⟨g1, g2, g3, g4, g5, g6, g7, g8⟩ := hi0
          have ht := typ_rowU hL_l (k := i0e.toNat) (by omega)
          have hx := okR_u16 hc (k := i0e.toNat * 2) (by omega) ht.1
          clear hL_l hty ht
          have w0 : IntKind.wrap .i64 (Go.RowKit.intOf ((Sy.rows l).getD (i0e.toNat * 2) Go.undef)) = Go.RowKit.intOf ((Sy.rows l).getD (i0e.toNat * 2) Go.undef) := by have := wr_i64 (Go.RowKit.intOf ((Sy.rows l).getD (i0e.toNat * 2) Go.undef)); omega
          have w1 : IntKind.wrap .i64 (i0c + Go.RowKit.intOf ((Sy.rows l).getD (i0e.toNat * 2) Go.undef)) = (i0c + Go.RowKit.intOf ((Sy.rows l).getD (i0e.toNat * 2) Go.undef)) := by have := wr_i64 (i0c + Go.RowKit.intOf ((Sy.rows l).getD (i0e.toNat * 2) Go.undef)); omega
          have w2 : IntKind.wrap .i64 (i0e + 1) = i0e + 1 := by have := wr_i64 (i0e + 1); omega
          have w3 : ∀ u, -1099511627776 ≤ u → u ≤ 1099511627776 → IntKind.wrap .i64 u = u := fun u a b => by have := wr_i64 u; omega
          rcases g8 with ⟨k1, k2, k3, k4⟩ | ⟨k1, k2, k3⟩
          · subst k1
            obtain ⟨v1, v2⟩ := vi_on (t := (i0c + Go.RowKit.intOf ((Sy.rows l).getD (i0e.toNat * 2) Go.undef))) g6 k3 (by omega) (by omega)
            obtain ⟨v3, v4⟩ := go_no (t := (i0c + Go.RowKit.intOf ((Sy.rows l).getD (i0e.toNat * 2) Go.undef))) g6 k3 (by omega) (by omega)
            obtain ⟨v5, v6⟩ := go_yes (t := (i0c + Go.RowKit.intOf ((Sy.rows l).getD (i0e.toNat * 2) Go.undef))) g6 k3 (by omega) (by omega)
            obtain ⟨v7, v8⟩ := vi_off (l := i0b) (t := (i0c + Go.RowKit.intOf ((Sy.rows l).getD (i0e.toNat * 2) Go.undef))) (by omega) (by omega) (by omega)
            obtain ⟨v9, v10⟩ := vi_off (l := i0b + ((i0c + Go.RowKit.intOf ((Sy.rows l).getD (i0e.toNat * 2) Go.undef)) - i0a)) (t := (i0c + Go.RowKit.intOf ((Sy.rows l).getD (i0e.toNat * 2) Go.undef))) (by omega) (by omega) (by omega)
            have w4 := w3 (i0a - i0b - i0d) (by omega) (by omega)
            by_cases hy : (Go.RowKit.intOf ((Sy.rows l).getD (i0e.toNat * 2 + 1) Go.undef)).tmod 3 = 2
            · have e2 : ((Go.RowKit.intOf ((Sy.rows l).getD (i0e.toNat * 2 + 1) Go.undef)).tmod 3 == 2) = true := beq_iff_eq.2 hy
              simp only [w0, w1, w2, w4, e2, v1, v2, v3, v4, v5, v6, v7, v8, v9, v10] at *
              first
              | omega
              | (exfalso; omega)
              | grind
            · have e2 : ((Go.RowKit.intOf ((Sy.rows l).getD (i0e.toNat * 2 + 1) Go.undef)).tmod 3 == 2) = false := beq_eq_false_iff_ne.2 hy
              simp only [w0, w1, w2, w4, e2, v1, v2, v3, v4, v5, v6, v7, v8, v9, v10] at *
              first
              | omega
              | (exfalso; omega)
              | grind
          · have k4 : i0f = false := by simpa using k1
            subst k4 k2
            obtain ⟨v1, v2⟩ := vi_off (t := (i0c + Go.RowKit.intOf ((Sy.rows l).getD (i0e.toNat * 2) Go.undef))) g6 (by omega) (by omega)
            have v3 := st_off (t := (i0c + Go.RowKit.intOf ((Sy.rows l).getD (i0e.toNat * 2) Go.undef))) g6 (by omega) (by omega)
            obtain ⟨v4, v5⟩ := vi_on (a := (i0c + Go.RowKit.intOf ((Sy.rows l).getD (i0e.toNat * 2) Go.undef))) (t := (i0c + Go.RowKit.intOf ((Sy.rows l).getD (i0e.toNat * 2) Go.undef))) g6 (by omega) (by omega) (by omega)
            have w4 := w3 ((i0c + Go.RowKit.intOf ((Sy.rows l).getD (i0e.toNat * 2) Go.undef)) - i0b - i0d) (by omega) (by omega)
            simp only [w0, w1, w2, w4, v1, v2, v3, if_true, decide_true, v4, v5] at *
            first
            | omega
            | (exfalso; omega)
            | grind)
      ·
       have wf0 := wr_i64 (Go.RowKit.intOf ((rows l).getD (Int.toNat i0e * 2) Go.undef))
       have wf1 := wr_i64 (i0c + (IntKind.wrap .i64 (Go.RowKit.intOf ((rows l).getD (Int.toNat i0e * 2) Go.undef))))
       refine ⟨?_, fun h4 => ?_⟩
       ·
        first
        | exact True.intro
        | omega
        | (
           obtain ⟨g1, g2, g3, g4, g5, g6, g7, g8⟩ := hi0
           have ht := typ_rowU hL_l (k := i0e.toNat) (by omega)
           have hx := okR_u16 hc (k := i0e.toNat * 2) (by omega) ht.1
           clear hL_l hty ht
           have w0 : IntKind.wrap .i64 (Go.RowKit.intOf ((Sy.rows l).getD (i0e.toNat * 2) Go.undef)) = Go.RowKit.intOf ((Sy.rows l).getD (i0e.toNat * 2) Go.undef) := by have := wr_i64 (Go.RowKit.intOf ((Sy.rows l).getD (i0e.toNat * 2) Go.undef)); omega
           have w1 : IntKind.wrap .i64 (i0c + Go.RowKit.intOf ((Sy.rows l).getD (i0e.toNat * 2) Go.undef)) = (i0c + Go.RowKit.intOf ((Sy.rows l).getD (i0e.toNat * 2) Go.undef)) := by have := wr_i64 (i0c + Go.RowKit.intOf ((Sy.rows l).getD (i0e.toNat * 2) Go.undef)); omega
           have w2 : IntKind.wrap .i64 (i0e + 1) = i0e + 1 := by have := wr_i64 (i0e + 1); omega
           have w3 : ∀ u, -1099511627776 ≤ u → u ≤ 1099511627776 → IntKind.wrap .i64 u = u := fun u a b => by have := wr_i64 u; omega
           rcases g8 with ⟨k1, k2, k3, k4⟩ | ⟨k1, k2, k3⟩
           · subst k1
             obtain ⟨v1, v2⟩ := vi_on (t := (i0c + Go.RowKit.intOf ((Sy.rows l).getD (i0e.toNat * 2) Go.undef))) g6 k3 (by omega) (by omega)
             obtain ⟨v3, v4⟩ := go_no (t := (i0c + Go.RowKit.intOf ((Sy.rows l).getD (i0e.toNat * 2) Go.undef))) g6 k3 (by omega) (by omega)
             obtain ⟨v5, v6⟩ := go_yes (t := (i0c + Go.RowKit.intOf ((Sy.rows l).getD (i0e.toNat * 2) Go.undef))) g6 k3 (by omega) (by omega)
             obtain ⟨v7, v8⟩ := vi_off (l := i0b) (t := (i0c + Go.RowKit.intOf ((Sy.rows l).getD (i0e.toNat * 2) Go.undef))) (by omega) (by omega) (by omega)
             obtain ⟨v9, v10⟩ := vi_off (l := i0b + ((i0c + Go.RowKit.intOf ((Sy.rows l).getD (i0e.toNat * 2) Go.undef)) - i0a)) (t := (i0c + Go.RowKit.intOf ((Sy.rows l).getD (i0e.toNat * 2) Go.undef))) (by omega) (by omega) (by omega)
             have w4 := w3 (i0a - i0b - i0d) (by omega) (by omega)
             by_cases hy : (Go.RowKit.intOf ((Sy.rows l).getD (i0e.toNat * 2 + 1) Go.undef)).tmod 3 = 2
             · have e2 : ((Go.RowKit.intOf ((Sy.rows l).getD (i0e.toNat * 2 + 1) Go.undef)).tmod 3 == 2) = true := beq_iff_eq.2 hy
               simp only [w0, w1, w2, w4, e2, v1, v2, v3, v4, v5, v6, v7, v8, v9, v10] at *
               first
               | omega
               | (exfalso; omega)
               | grind
             · have e2 : ((Go.RowKit.intOf ((Sy.rows l).getD (i0e.toNat * 2 + 1) Go.undef)).tmod 3 == 2) = false := beq_eq_false_iff_ne.2 hy
               simp only [w0, w1, w2, w4, e2, v1, v2, v3, v4, v5, v6, v7, v8, v9, v10] at *
               first
               | omega
               | (exfalso; omega)
               | grind
           · have k4 : i0f = false := by simpa using k1
             subst k4 k2
             obtain ⟨v1, v2⟩ := vi_off (t := (i0c + Go.RowKit.intOf ((Sy.rows l).getD (i0e.toNat * 2) Go.undef))) g6 (by omega) (by omega)
             have v3 := st_off (t := (i0c + Go.RowKit.intOf ((Sy.rows l).getD (i0e.toNat * 2) Go.undef))) g6 (by omega) (by omega)
             obtain ⟨v4, v5⟩ := vi_on (a := (i0c + Go.RowKit.intOf ((Sy.rows l).getD (i0e.toNat * 2) Go.undef))) (t := (i0c + Go.RowKit.intOf ((Sy.rows l).getD (i0e.toNat * 2) Go.undef))) g6 (by omega) (by omega) (by omega)
             have w4 := w3 ((i0c + Go.RowKit.intOf ((Sy.rows l).getD (i0e.toNat * 2) Go.undef)) - i0b - i0d) (by omega) (by omega)
             simp only [w0, w1, w2, w4, v1, v2, v3, if_true, decide_true, v4, v5] at *
             first
             | omega
             | (exfalso; omega)
             | grind)
       ·
        try simp only [hw1]
        try simp only [hw0]
        refine ⟨fun h5 => ?_, fun h5 => ?_⟩
        ·
         first
         | exact True.intro
         | rfl
         | (
            obtain ⟨g1, g2, g3, g4, g5, g6, g7, g8⟩ := hi0
            have ht := typ_rowU hL_l (k := i0e.toNat) (by omega)
            have hx := okR_u16 hc (k := i0e.toNat * 2) (by omega) ht.1
            clear hL_l hty ht
            have w0 : IntKind.wrap .i64 (Go.RowKit.intOf ((Sy.rows l).getD (i0e.toNat * 2) Go.undef)) = Go.RowKit.intOf ((Sy.rows l).getD (i0e.toNat * 2) Go.undef) := by have := wr_i64 (Go.RowKit.intOf ((Sy.rows l).getD (i0e.toNat * 2) Go.undef)); omega
            have w1 : IntKind.wrap .i64 (i0c + Go.RowKit.intOf ((Sy.rows l).getD (i0e.toNat * 2) Go.undef)) = (i0c + Go.RowKit.intOf ((Sy.rows l).getD (i0e.toNat * 2) Go.undef)) := by have := wr_i64 (i0c + Go.RowKit.intOf ((Sy.rows l).getD (i0e.toNat * 2) Go.undef)); omega
            have w2 : IntKind.wrap .i64 (i0e + 1) = i0e + 1 := by have := wr_i64 (i0e + 1); omega
            have w3 : ∀ u, -1099511627776 ≤ u → u ≤ 1099511627776 → IntKind.wrap .i64 u = u := fun u a b => by have := wr_i64 u; omega
            rcases g8 with ⟨k1, k2, k3, k4⟩ | ⟨k1, k2, k3⟩
            · subst k1
              obtain ⟨v1, v2⟩ := vi_on (t := (i0c + Go.RowKit.intOf ((Sy.rows l).getD (i0e.toNat * 2) Go.undef))) g6 k3 (by omega) (by omega)
              obtain ⟨v3, v4⟩ := go_no (t := (i0c + Go.RowKit.intOf ((Sy.rows l).getD (i0e.toNat * 2) Go.undef))) g6 k3 (by omega) (by omega)
              obtain ⟨v5, v6⟩ := go_yes (t := (i0c + Go.RowKit.intOf ((Sy.rows l).getD (i0e.toNat * 2) Go.undef))) g6 k3 (by omega) (by omega)
              obtain ⟨v7, v8⟩ := vi_off (l := i0b) (t := (i0c + Go.RowKit.intOf ((Sy.rows l).getD (i0e.toNat * 2) Go.undef))) (by omega) (by omega) (by omega)
              obtain ⟨v9, v10⟩ := vi_off (l := i0b + ((i0c + Go.RowKit.intOf ((Sy.rows l).getD (i0e.toNat * 2) Go.undef)) - i0a)) (t := (i0c + Go.RowKit.intOf ((Sy.rows l).getD (i0e.toNat * 2) Go.undef))) (by omega) (by omega) (by omega)
              have w4 := w3 (i0a - i0b - i0d) (by omega) (by omega)
              by_cases hy : (Go.RowKit.intOf ((Sy.rows l).getD (i0e.toNat * 2 + 1) Go.undef)).tmod 3 = 2
              · have e2 : ((Go.RowKit.intOf ((Sy.rows l).getD (i0e.toNat * 2 + 1) Go.undef)).tmod 3 == 2) = true := beq_iff_eq.2 hy
                simp only [w0, w1, w2, w4, e2, v1, v2, v3, v4, v5, v6, v7, v8, v9, v10] at *
                first
                | omega
                | (exfalso; omega)
                | grind
              · have e2 : ((Go.RowKit.intOf ((Sy.rows l).getD (i0e.toNat * 2 + 1) Go.undef)).tmod 3 == 2) = false := beq_eq_false_iff_ne.2 hy
                simp only [w0, w1, w2, w4, e2, v1, v2, v3, v4, v5, v6, v7, v8, v9, v10] at *
                first
                | omega
                | (exfalso; omega)
                | grind
            · have k4 : i0f = false := by simpa using k1
              subst k4 k2
              obtain ⟨v1, v2⟩ := vi_off (t := (i0c + Go.RowKit.intOf ((Sy.rows l).getD (i0e.toNat * 2) Go.undef))) g6 (by omega) (by omega)
              have v3 := st_off (t := (i0c + Go.RowKit.intOf ((Sy.rows l).getD (i0e.toNat * 2) Go.undef))) g6 (by omega) (by omega)
              obtain ⟨v4, v5⟩ := vi_on (a := (i0c + Go.RowKit.intOf ((Sy.rows l).getD (i0e.toNat * 2) Go.undef))) (t := (i0c + Go.RowKit.intOf ((Sy.rows l).getD (i0e.toNat * 2) Go.undef))) g6 (by omega) (by omega) (by omega)
              have w4 := w3 ((i0c + Go.RowKit.intOf ((Sy.rows l).getD (i0e.toNat * 2) Go.undef)) - i0b - i0d) (by omega) (by omega)
              simp only [w0, w1, w2, w4, v1, v2, v3, if_true, decide_true, v4, v5] at *
              first
              | omega
              | (exfalso; omega)
              | grind)
        ·
         try simp only [hw1]
         try simp only [hw0]
         refine ⟨fun h6 => ?_, fun h6 => ?_⟩
         ·
          first
          | exact True.intro
          | rfl
          | (
             obtain ⟨g1, g2, g3, g4, g5, g6, g7, g8⟩ := hi0
             have ht := typ_rowU hL_l (k := i0e.toNat) (by omega)
             have hx := okR_u16 hc (k := i0e.toNat * 2) (by omega) ht.1
             clear hL_l hty ht
             have w0 : IntKind.wrap .i64 (Go.RowKit.intOf ((Sy.rows l).getD (i0e.toNat * 2) Go.undef)) = Go.RowKit.intOf ((Sy.rows l).getD (i0e.toNat * 2) Go.undef) := by have := wr_i64 (Go.RowKit.intOf ((Sy.rows l).getD (i0e.toNat * 2) Go.undef)); omega
             have w1 : IntKind.wrap .i64 (i0c + Go.RowKit.intOf ((Sy.rows l).getD (i0e.toNat * 2) Go.undef)) = (i0c + Go.RowKit.intOf ((Sy.rows l).getD (i0e.toNat * 2) Go.undef)) := by have := wr_i64 (i0c + Go.RowKit.intOf ((Sy.rows l).getD (i0e.toNat * 2) Go.undef)); omega
             have w2 : IntKind.wrap .i64 (i0e + 1) = i0e + 1 := by have := wr_i64 (i0e + 1); omega
             have w3 : ∀ u, -1099511627776 ≤ u → u ≤ 1099511627776 → IntKind.wrap .i64 u = u := fun u a b => by have := wr_i64 u; omega
             rcases g8 with ⟨k1, k2, k3, k4⟩ | ⟨k1, k2, k3⟩
             · subst k1
               obtain ⟨v1, v2⟩ := vi_on (t := (i0c + Go.RowKit.intOf ((Sy.rows l).getD (i0e.toNat * 2) Go.undef))) g6 k3 (by omega) (by omega)
               obtain ⟨v3, v4⟩ := go_no (t := (i0c + Go.RowKit.intOf ((Sy.rows l).getD (i0e.toNat * 2) Go.undef))) g6 k3 (by omega) (by omega)
               obtain ⟨v5, v6⟩ := go_yes (t := (i0c + Go.RowKit.intOf ((Sy.rows l).getD (i0e.toNat * 2) Go.undef))) g6 k3 (by omega) (by omega)
               obtain ⟨v7, v8⟩ := vi_off (l := i0b) (t := (i0c + Go.RowKit.intOf ((Sy.rows l).getD (i0e.toNat * 2) Go.undef))) (by omega) (by omega) (by omega)
               obtain ⟨v9, v10⟩ := vi_off (l := i0b + ((i0c + Go.RowKit.intOf ((Sy.rows l).getD (i0e.toNat * 2) Go.undef)) - i0a)) (t := (i0c + Go.RowKit.intOf ((Sy.rows l).getD (i0e.toNat * 2) Go.undef))) (by omega) (by omega) (by omega)
               have w4 := w3 (i0a - i0b - i0d) (by omega) (by omega)
               by_cases hy : (Go.RowKit.intOf ((Sy.rows l).getD (i0e.toNat * 2 + 1) Go.undef)).tmod 3 = 2
               · have e2 : ((Go.RowKit.intOf ((Sy.rows l).getD (i0e.toNat * 2 + 1) Go.undef)).tmod 3 == 2) = true := beq_iff_eq.2 hy
                 simp only [w0, w1, w2, w4, e2, v1, v2, v3, v4, v5, v6, v7, v8, v9, v10] at *
                 first
                 | omega
                 | (exfalso; omega)
                 | grind
               · have e2 : ((Go.RowKit.intOf ((Sy.rows l).getD (i0e.toNat * 2 + 1) Go.undef)).tmod 3 == 2) = false := beq_eq_false_iff_ne.2 hy
                 simp only [w0, w1, w2, w4, e2, v1, v2, v3, v4, v5, v6, v7, v8, v9, v10] at *
                 first
                 | omega
                 | (exfalso; omega)
                 | grind
             · have k4 : i0f = false := by simpa using k1
               subst k4 k2
               obtain ⟨v1, v2⟩ := vi_off (t := (i0c + Go.RowKit.intOf ((Sy.rows l).getD (i0e.toNat * 2) Go.undef))) g6 (by omega) (by omega)
               have v3 := st_off (t := (i0c + Go.RowKit.intOf ((Sy.rows l).getD (i0e.toNat * 2) Go.undef))) g6 (by omega) (by omega)
               obtain ⟨v4, v5⟩ := vi_on (a := (i0c + Go.RowKit.intOf ((Sy.rows l).getD (i0e.toNat * 2) Go.undef))) (t := (i0c + Go.RowKit.intOf ((Sy.rows l).getD (i0e.toNat * 2) Go.undef))) g6 (by omega) (by omega) (by omega)
               have w4 := w3 ((i0c + Go.RowKit.intOf ((Sy.rows l).getD (i0e.toNat * 2) Go.undef)) - i0b - i0d) (by omega) (by omega)
               simp only [w0, w1, w2, w4, v1, v2, v3, if_true, decide_true, v4, v5] at *
               first
               | omega
               | (exfalso; omega)
               | grind)
         ·
          refine ⟨fun h7 => ?_, fun h7 => ?_⟩
          ·
           try simp only [hw1]
           try simp only [hw0]
           refine ⟨fun h8 => ?_, fun h8 => ?_⟩
           ·
            first
            | exact True.intro
            | rfl
            | (
               obtain ⟨g1, g2, g3, g4, g5, g6, g7, g8⟩ := hi0
               have ht := typ_rowU hL_l (k := i0e.toNat) (by omega)
               have hx := okR_u16 hc (k := i0e.toNat * 2) (by omega) ht.1
               clear hL_l hty ht
               have w0 : IntKind.wrap .i64 (Go.RowKit.intOf ((Sy.rows l).getD (i0e.toNat * 2) Go.undef)) = Go.RowKit.intOf ((Sy.rows l).getD (i0e.toNat * 2) Go.undef) := by have := wr_i64 (Go.RowKit.intOf ((Sy.rows l).getD (i0e.toNat * 2) Go.undef)); omega
               have w1 : IntKind.wrap .i64 (i0c + Go.RowKit.intOf ((Sy.rows l).getD (i0e.toNat * 2) Go.undef)) = (i0c + Go.RowKit.intOf ((Sy.rows l).getD (i0e.toNat * 2) Go.undef)) := by have := wr_i64 (i0c + Go.RowKit.intOf ((Sy.rows l).getD (i0e.toNat * 2) Go.undef)); omega
               have w2 : IntKind.wrap .i64 (i0e + 1) = i0e + 1 := by have := wr_i64 (i0e + 1); omega
               have w3 : ∀ u, -1099511627776 ≤ u → u ≤ 1099511627776 → IntKind.wrap .i64 u = u := fun u a b => by have := wr_i64 u; omega
               rcases g8 with ⟨k1, k2, k3, k4⟩ | ⟨k1, k2, k3⟩
               · subst k1
                 obtain ⟨v1, v2⟩ := vi_on (t := (i0c + Go.RowKit.intOf ((Sy.rows l).getD (i0e.toNat * 2) Go.undef))) g6 k3 (by omega) (by omega)
                 obtain ⟨v3, v4⟩ := go_no (t := (i0c + Go.RowKit.intOf ((Sy.rows l).getD (i0e.toNat * 2) Go.undef))) g6 k3 (by omega) (by omega)
                 obtain ⟨v5, v6⟩ := go_yes (t := (i0c + Go.RowKit.intOf ((Sy.rows l).getD (i0e.toNat * 2) Go.undef))) g6 k3 (by omega) (by omega)
                 obtain ⟨v7, v8⟩ := vi_off (l := i0b) (t := (i0c + Go.RowKit.intOf ((Sy.rows l).getD (i0e.toNat * 2) Go.undef))) (by omega) (by omega) (by omega)
                 obtain ⟨v9, v10⟩ := vi_off (l := i0b + ((i0c + Go.RowKit.intOf ((Sy.rows l).getD (i0e.toNat * 2) Go.undef)) - i0a)) (t := (i0c + Go.RowKit.intOf ((Sy.rows l).getD (i0e.toNat * 2) Go.undef))) (by omega) (by omega) (by omega)
                 have w4 := w3 (i0a - i0b - i0d) (by omega) (by omega)
                 by_cases hy : (Go.RowKit.intOf ((Sy.rows l).getD (i0e.toNat * 2 + 1) Go.undef)).tmod 3 = 2
                 · have e2 : ((Go.RowKit.intOf ((Sy.rows l).getD (i0e.toNat * 2 + 1) Go.undef)).tmod 3 == 2) = true := beq_iff_eq.2 hy
                   simp only [w0, w1, w2, w4, e2, v1, v2, v3, v4, v5, v6, v7, v8, v9, v10] at *
                   first
                   | omega
                   | (exfalso; omega)
                   | grind
                 · have e2 : ((Go.RowKit.intOf ((Sy.rows l).getD (i0e.toNat * 2 + 1) Go.undef)).tmod 3 == 2) = false := beq_eq_false_iff_ne.2 hy
                   simp only [w0, w1, w2, w4, e2, v1, v2, v3, v4, v5, v6, v7, v8, v9, v10] at *
                   first
                   | omega
                   | (exfalso; omega)
                   | grind
               · have k4 : i0f = false := by simpa using k1
                 subst k4 k2
                 obtain ⟨v1, v2⟩ := vi_off (t := (i0c + Go.RowKit.intOf ((Sy.rows l).getD (i0e.toNat * 2) Go.undef))) g6 (by omega) (by omega)
                 have v3 := st_off (t := (i0c + Go.RowKit.intOf ((Sy.rows l).getD (i0e.toNat * 2) Go.undef))) g6 (by omega) (by omega)
                 obtain ⟨v4, v5⟩ := vi_on (a := (i0c + Go.RowKit.intOf ((Sy.rows l).getD (i0e.toNat * 2) Go.undef))) (t := (i0c + Go.RowKit.intOf ((Sy.rows l).getD (i0e.toNat * 2) Go.undef))) g6 (by omega) (by omega) (by omega)
                 have w4 := w3 ((i0c + Go.RowKit.intOf ((Sy.rows l).getD (i0e.toNat * 2) Go.undef)) - i0b - i0d) (by omega) (by omega)
                 simp only [w0, w1, w2, w4, v1, v2, v3, if_true, decide_true, v4, v5] at *
                 first
                 | omega
                 | (exfalso; omega)
                 | grind)
           ·
            refine ⟨?_, fun h9 => ?_⟩
            ·
             first
             | exact True.intro
             | omega
             | (
                obtain ⟨g1, g2, g3, g4, g5, g6, g7, g8⟩ := hi0
                have ht := typ_rowU hL_l (k := i0e.toNat) (by omega)
                have hx := okR_u16 hc (k := i0e.toNat * 2) (by omega) ht.1
                clear hL_l hty ht
                have w0 : IntKind.wrap .i64 (Go.RowKit.intOf ((Sy.rows l).getD (i0e.toNat * 2) Go.undef)) = Go.RowKit.intOf ((Sy.rows l).getD (i0e.toNat * 2) Go.undef) := by have := wr_i64 (Go.RowKit.intOf ((Sy.rows l).getD (i0e.toNat * 2) Go.undef)); omega
                have w1 : IntKind.wrap .i64 (i0c + Go.RowKit.intOf ((Sy.rows l).getD (i0e.toNat * 2) Go.undef)) = (i0c + Go.RowKit.intOf ((Sy.rows l).getD (i0e.toNat * 2) Go.undef)) := by have := wr_i64 (i0c + Go.RowKit.intOf ((Sy.rows l).getD (i0e.toNat * 2) Go.undef)); omega
                have w2 : IntKind.wrap .i64 (i0e + 1) = i0e + 1 := by have := wr_i64 (i0e + 1); omega
                have w3 : ∀ u, -1099511627776 ≤ u → u ≤ 1099511627776 → IntKind.wrap .i64 u = u := fun u a b => by have := wr_i64 u; omega
                rcases g8 with ⟨k1, k2, k3, k4⟩ | ⟨k1, k2, k3⟩
                · subst k1
                  obtain ⟨v1, v2⟩ := vi_on (t := (i0c + Go.RowKit.intOf ((Sy.rows l).getD (i0e.toNat * 2) Go.undef))) g6 k3 (by omega) (by omega)
                  obtain ⟨v3, v4⟩ := go_no (t := (i0c + Go.RowKit.intOf ((Sy.rows l).getD (i0e.toNat * 2) Go.undef))) g6 k3 (by omega) (by omega)
                  obtain ⟨v5, v6⟩ := go_yes (t := (i0c + Go.RowKit.intOf ((Sy.rows l).getD (i0e.toNat * 2) Go.undef))) g6 k3 (by omega) (by omega)
                  obtain ⟨v7, v8⟩ := vi_off (l := i0b) (t := (i0c + Go.RowKit.intOf ((Sy.rows l).getD (i0e.toNat * 2) Go.undef))) (by omega) (by omega) (by omega)
                  obtain ⟨v9, v10⟩ := vi_off (l := i0b + ((i0c + Go.RowKit.intOf ((Sy.rows l).getD (i0e.toNat * 2) Go.undef)) - i0a)) (t := (i0c + Go.RowKit.intOf ((Sy.rows l).getD (i0e.toNat * 2) Go.undef))) (by omega) (by omega) (by omega)
                  have w4 := w3 (i0a - i0b - i0d) (by omega) (by omega)
                  by_cases hy : (Go.RowKit.intOf ((Sy.rows l).getD (i0e.toNat * 2 + 1) Go.undef)).tmod 3 = 2
                  · have e2 : ((Go.RowKit.intOf ((Sy.rows l).getD (i0e.toNat * 2 + 1) Go.undef)).tmod 3 == 2) = true := beq_iff_eq.2 hy
                    simp only [w0, w1, w2, w4, e2, v1, v2, v3, v4, v5, v6, v7, v8, v9, v10] at *
                    first
                    | omega
                    | (exfalso; omega)
                    | grind
                  · have e2 : ((Go.RowKit.intOf ((Sy.rows l).getD (i0e.toNat * 2 + 1) Go.undef)).tmod 3 == 2) = false := beq_eq_false_iff_ne.2 hy
                    simp only [w0, w1, w2, w4, e2, v1, v2, v3, v4, v5, v6, v7, v8, v9, v10] at *
                    first
                    | omega
                    | (exfalso; omega)
                    | grind
                · have k4 : i0f = false := by simpa using k1
                  subst k4 k2
                  obtain ⟨v1, v2⟩ := vi_off (t := (i0c + Go.RowKit.intOf ((Sy.rows l).getD (i0e.toNat * 2) Go.undef))) g6 (by omega) (by omega)
                  have v3 := st_off (t := (i0c + Go.RowKit.intOf ((Sy.rows l).getD (i0e.toNat * 2) Go.undef))) g6 (by omega) (by omega)
                  obtain ⟨v4, v5⟩ := vi_on (a := (i0c + Go.RowKit.intOf ((Sy.rows l).getD (i0e.toNat * 2) Go.undef))) (t := (i0c + Go.RowKit.intOf ((Sy.rows l).getD (i0e.toNat * 2) Go.undef))) g6 (by omega) (by omega) (by omega)
                  have w4 := w3 ((i0c + Go.RowKit.intOf ((Sy.rows l).getD (i0e.toNat * 2) Go.undef)) - i0b - i0d) (by omega) (by omega)
                  simp only [w0, w1, w2, w4, v1, v2, v3, if_true, decide_true, v4, v5] at *
                  first
                  | omega
                  | (exfalso; omega)
                  | grind)
            ·
             refine ⟨fun h10 => ?_, fun h10 => ?_⟩
             ·
              have wf2 := wr_i64 (i0e + 1)
              try simp only [hw1]
              try simp only [hw0]
              refine ⟨?_, ?_⟩
              ·
               obtain ⟨g1, g2, g3, g4, g5, g6, g7, g8⟩ := hi0
               have ht := typ_rowU hL_l (k := i0e.toNat) (by omega)
               have hx := okR_u16 hc (k := i0e.toNat * 2) (by omega) ht.1
               clear hL_l hty ht
               have w0 : IntKind.wrap .i64 (Go.RowKit.intOf ((Sy.rows l).getD (i0e.toNat * 2) Go.undef)) = Go.RowKit.intOf ((Sy.rows l).getD (i0e.toNat * 2) Go.undef) := by have := wr_i64 (Go.RowKit.intOf ((Sy.rows l).getD (i0e.toNat * 2) Go.undef)); omega
               have w1 : IntKind.wrap .i64 (i0c + Go.RowKit.intOf ((Sy.rows l).getD (i0e.toNat * 2) Go.undef)) = (i0c + Go.RowKit.intOf ((Sy.rows l).getD (i0e.toNat * 2) Go.undef)) := by have := wr_i64 (i0c + Go.RowKit.intOf ((Sy.rows l).getD (i0e.toNat * 2) Go.undef)); omega
               have w2 : IntKind.wrap .i64 (i0e + 1) = i0e + 1 := by have := wr_i64 (i0e + 1); omega
               have w3 : ∀ u, -1099511627776 ≤ u → u ≤ 1099511627776 → IntKind.wrap .i64 u = u := fun u a b => by have := wr_i64 u; omega
               rcases g8 with ⟨k1, k2, k3, k4⟩ | ⟨k1, k2, k3⟩
               · subst k1
                 obtain ⟨v1, v2⟩ := vi_on (t := (i0c + Go.RowKit.intOf ((Sy.rows l).getD (i0e.toNat * 2) Go.undef))) g6 k3 (by omega) (by omega)
                 obtain ⟨v3, v4⟩ := go_no (t := (i0c + Go.RowKit.intOf ((Sy.rows l).getD (i0e.toNat * 2) Go.undef))) g6 k3 (by omega) (by omega)
                 obtain ⟨v5, v6⟩ := go_yes (t := (i0c + Go.RowKit.intOf ((Sy.rows l).getD (i0e.toNat * 2) Go.undef))) g6 k3 (by omega) (by omega)
                 obtain ⟨v7, v8⟩ := vi_off (l := i0b) (t := (i0c + Go.RowKit.intOf ((Sy.rows l).getD (i0e.toNat * 2) Go.undef))) (by omega) (by omega) (by omega)
                 obtain ⟨v9, v10⟩ := vi_off (l := i0b + ((i0c + Go.RowKit.intOf ((Sy.rows l).getD (i0e.toNat * 2) Go.undef)) - i0a)) (t := (i0c + Go.RowKit.intOf ((Sy.rows l).getD (i0e.toNat * 2) Go.undef))) (by omega) (by omega) (by omega)
                 have w4 := w3 (i0a - i0b - i0d) (by omega) (by omega)
                 by_cases hy : (Go.RowKit.intOf ((Sy.rows l).getD (i0e.toNat * 2 + 1) Go.undef)).tmod 3 = 2
                 · have e2 : ((Go.RowKit.intOf ((Sy.rows l).getD (i0e.toNat * 2 + 1) Go.undef)).tmod 3 == 2) = true := beq_iff_eq.2 hy
                   simp only [w0, w1, w2, w4, e2, v1, v2, v3, v4, v5, v6, v7, v8, v9, v10] at *
                   first
                   | omega
                   | (exfalso; omega)
                   | grind
                 · have e2 : ((Go.RowKit.intOf ((Sy.rows l).getD (i0e.toNat * 2 + 1) Go.undef)).tmod 3 == 2) = false := beq_eq_false_iff_ne.2 hy
                   simp only [w0, w1, w2, w4, e2, v1, v2, v3, v4, v5, v6, v7, v8, v9, v10] at *
                   first
                   | omega
                   | (exfalso; omega)
                   | grind
               · have k4 : i0f = false := by simpa using k1
                 subst k4 k2
                 obtain ⟨v1, v2⟩ := vi_off (t := (i0c + Go.RowKit.intOf ((Sy.rows l).getD (i0e.toNat * 2) Go.undef))) g6 (by omega) (by omega)
                 have v3 := st_off (t := (i0c + Go.RowKit.intOf ((Sy.rows l).getD (i0e.toNat * 2) Go.undef))) g6 (by omega) (by omega)
                 obtain ⟨v4, v5⟩ := vi_on (a := (i0c + Go.RowKit.intOf ((Sy.rows l).getD (i0e.toNat * 2) Go.undef))) (t := (i0c + Go.RowKit.intOf ((Sy.rows l).getD (i0e.toNat * 2) Go.undef))) g6 (by omega) (by omega) (by omega)
                 have w4 := w3 ((i0c + Go.RowKit.intOf ((Sy.rows l).getD (i0e.toNat * 2) Go.undef)) - i0b - i0d) (by omega) (by omega)
                 simp only [w0, w1, w2, w4, v1, v2, v3, if_true, decide_true, v4, v5] at *
                 first
                 | omega
                 | (exfalso; omega)
                 | grind
              ·
               omega
             ·
              refine ⟨?_, fun h11 => ?_⟩
              ·
               first
               | exact True.intro
               | omega
               | (
                  obtain ⟨g1, g2, g3, g4, g5, g6, g7, g8⟩ := hi0
                  have ht := typ_rowU hL_l (k := i0e.toNat) (by omega)
                  have hx := okR_u16 hc (k := i0e.toNat * 2) (by omega) ht.1
                  clear hL_l hty ht
                  have w0 : IntKind.wrap .i64 (Go.RowKit.intOf ((Sy.rows l).getD (i0e.toNat * 2) Go.undef)) = Go.RowKit.intOf ((Sy.rows l).getD (i0e.toNat * 2) Go.undef) := by have := wr_i64 (Go.RowKit.intOf ((Sy.rows l).getD (i0e.toNat * 2) Go.undef)); omega
                  have w1 : IntKind.wrap .i64 (i0c + Go.RowKit.intOf ((Sy.rows l).getD (i0e.toNat * 2) Go.undef)) = (i0c + Go.RowKit.intOf ((Sy.rows l).getD (i0e.toNat * 2) Go.undef)) := by have := wr_i64 (i0c + Go.RowKit.intOf ((Sy.rows l).getD (i0e.toNat * 2) Go.undef)); omega
                  have w2 : IntKind.wrap .i64 (i0e + 1) = i0e + 1 := by have := wr_i64 (i0e + 1); omega
                  have w3 : ∀ u, -1099511627776 ≤ u → u ≤ 1099511627776 → IntKind.wrap .i64 u = u := fun u a b => by have := wr_i64 u; omega
                  rcases g8 with ⟨k1, k2, k3, k4⟩ | ⟨k1, k2, k3⟩
                  · subst k1
                    obtain ⟨v1, v2⟩ := vi_on (t := (i0c + Go.RowKit.intOf ((Sy.rows l).getD (i0e.toNat * 2) Go.undef))) g6 k3 (by omega) (by omega)
                    obtain ⟨v3, v4⟩ := go_no (t := (i0c + Go.RowKit.intOf ((Sy.rows l).getD (i0e.toNat * 2) Go.undef))) g6 k3 (by omega) (by omega)
                    obtain ⟨v5, v6⟩ := go_yes (t := (i0c + Go.RowKit.intOf ((Sy.rows l).getD (i0e.toNat * 2) Go.undef))) g6 k3 (by omega) (by omega)
                    obtain ⟨v7, v8⟩ := vi_off (l := i0b) (t := (i0c + Go.RowKit.intOf ((Sy.rows l).getD (i0e.toNat * 2) Go.undef))) (by omega) (by omega) (by omega)
                    obtain ⟨v9, v10⟩ := vi_off (l := i0b + ((i0c + Go.RowKit.intOf ((Sy.rows l).getD (i0e.toNat * 2) Go.undef)) - i0a)) (t := (i0c + Go.RowKit.intOf ((Sy.rows l).getD (i0e.toNat * 2) Go.undef))) (by omega) (by omega) (by omega)
                    have w4 := w3 (i0a - i0b - i0d) (by omega) (by omega)
                    by_cases hy : (Go.RowKit.intOf ((Sy.rows l).getD (i0e.toNat * 2 + 1) Go.undef)).tmod 3 = 2
                    · have e2 : ((Go.RowKit.intOf ((Sy.rows l).getD (i0e.toNat * 2 + 1) Go.undef)).tmod 3 == 2) = true := beq_iff_eq.2 hy
                      simp only [w0, w1, w2, w4, e2, v1, v2, v3, v4, v5, v6, v7, v8, v9, v10] at *
                      first
                      | omega
                      | (exfalso; omega)
                      | grind
                    · have e2 : ((Go.RowKit.intOf ((Sy.rows l).getD (i0e.toNat * 2 + 1) Go.undef)).tmod 3 == 2) = false := beq_eq_false_iff_ne.2 hy
                      simp only [w0, w1, w2, w4, e2, v1, v2, v3, v4, v5, v6, v7, v8, v9, v10] at *
                      first
                      | omega
                      | (exfalso; omega)
                      | grind
                  · have k4 : i0f = false := by simpa using k1
                    subst k4 k2
                    obtain ⟨v1, v2⟩ := vi_off (t := (i0c + Go.RowKit.intOf ((Sy.rows l).getD (i0e.toNat * 2) Go.undef))) g6 (by omega) (by omega)
                    have v3 := st_off (t := (i0c + Go.RowKit.intOf ((Sy.rows l).getD (i0e.toNat * 2) Go.undef))) g6 (by omega) (by omega)
                    obtain ⟨v4, v5⟩ := vi_on (a := (i0c + Go.RowKit.intOf ((Sy.rows l).getD (i0e.toNat * 2) Go.undef))) (t := (i0c + Go.RowKit.intOf ((Sy.rows l).getD (i0e.toNat * 2) Go.undef))) g6 (by omega) (by omega) (by omega)
                    have w4 := w3 ((i0c + Go.RowKit.intOf ((Sy.rows l).getD (i0e.toNat * 2) Go.undef)) - i0b - i0d) (by omega) (by omega)
                    simp only [w0, w1, w2, w4, v1, v2, v3, if_true, decide_true, v4, v5] at *
                    first
                    | omega
                    | (exfalso; omega)
                    | grind)
              ·
               refine ⟨?_, fun h12 => ?_⟩
               ·
                first
                | exact True.intro
                | omega
                | (
                   obtain ⟨g1, g2, g3, g4, g5, g6, g7, g8⟩ := hi0
                   have ht := typ_rowU hL_l (k := i0e.toNat) (by omega)
                   have hx := okR_u16 hc (k := i0e.toNat * 2) (by omega) ht.1
                   clear hL_l hty ht
                   have w0 : IntKind.wrap .i64 (Go.RowKit.intOf ((Sy.rows l).getD (i0e.toNat * 2) Go.undef)) = Go.RowKit.intOf ((Sy.rows l).getD (i0e.toNat * 2) Go.undef) := by have := wr_i64 (Go.RowKit.intOf ((Sy.rows l).getD (i0e.toNat * 2) Go.undef)); omega
                   have w1 : IntKind.wrap .i64 (i0c + Go.RowKit.intOf ((Sy.rows l).getD (i0e.toNat * 2) Go.undef)) = (i0c + Go.RowKit.intOf ((Sy.rows l).getD (i0e.toNat * 2) Go.undef)) := by have := wr_i64 (i0c + Go.RowKit.intOf ((Sy.rows l).getD (i0e.toNat * 2) Go.undef)); omega
                   have w2 : IntKind.wrap .i64 (i0e + 1) = i0e + 1 := by have := wr_i64 (i0e + 1); omega
                   have w3 : ∀ u, -1099511627776 ≤ u → u ≤ 1099511627776 → IntKind.wrap .i64 u = u := fun u a b => by have := wr_i64 u; omega
                   rcases g8 with ⟨k1, k2, k3, k4⟩ | ⟨k1, k2, k3⟩
                   · subst k1
                     obtain ⟨v1, v2⟩ := vi_on (t := (i0c + Go.RowKit.intOf ((Sy.rows l).getD (i0e.toNat * 2) Go.undef))) g6 k3 (by omega) (by omega)
                     obtain ⟨v3, v4⟩ := go_no (t := (i0c + Go.RowKit.intOf ((Sy.rows l).getD (i0e.toNat * 2) Go.undef))) g6 k3 (by omega) (by omega)
                     obtain ⟨v5, v6⟩ := go_yes (t := (i0c + Go.RowKit.intOf ((Sy.rows l).getD (i0e.toNat * 2) Go.undef))) g6 k3 (by omega) (by omega)
                     obtain ⟨v7, v8⟩ := vi_off (l := i0b) (t := (i0c + Go.RowKit.intOf ((Sy.rows l).getD (i0e.toNat * 2) Go.undef))) (by omega) (by omega) (by omega)
                     obtain ⟨v9, v10⟩ := vi_off (l := i0b + ((i0c + Go.RowKit.intOf ((Sy.rows l).getD (i0e.toNat * 2) Go.undef)) - i0a)) (t := (i0c + Go.RowKit.intOf ((Sy.rows l).getD (i0e.toNat * 2) Go.undef))) (by omega) (by omega) (by omega)
                     have w4 := w3 (i0a - i0b - i0d) (by omega) (by omega)
                     by_cases hy : (Go.RowKit.intOf ((Sy.rows l).getD (i0e.toNat * 2 + 1) Go.undef)).tmod 3 = 2
                     · have e2 : ((Go.RowKit.intOf ((Sy.rows l).getD (i0e.toNat * 2 + 1) Go.undef)).tmod 3 == 2) = true := beq_iff_eq.2 hy
                       simp only [w0, w1, w2, w4, e2, v1, v2, v3, v4, v5, v6, v7, v8, v9, v10] at *
                       first
                       | omega
                       | (exfalso; omega)
                       | grind
                     · have e2 : ((Go.RowKit.intOf ((Sy.rows l).getD (i0e.toNat * 2 + 1) Go.undef)).tmod 3 == 2) = false := beq_eq_false_iff_ne.2 hy
                       simp only [w0, w1, w2, w4, e2, v1, v2, v3, v4, v5, v6, v7, v8, v9, v10] at *
                       first
                       | omega
                       | (exfalso; omega)
                       | grind
                   · have k4 : i0f = false := by simpa using k1
                     subst k4 k2
                     obtain ⟨v1, v2⟩ := vi_off (t := (i0c + Go.RowKit.intOf ((Sy.rows l).getD (i0e.toNat * 2) Go.undef))) g6 (by omega) (by omega)
                     have v3 := st_off (t := (i0c + Go.RowKit.intOf ((Sy.rows l).getD (i0e.toNat * 2) Go.undef))) g6 (by omega) (by omega)
                     obtain ⟨v4, v5⟩ := vi_on (a := (i0c + Go.RowKit.intOf ((Sy.rows l).getD (i0e.toNat * 2) Go.undef))) (t := (i0c + Go.RowKit.intOf ((Sy.rows l).getD (i0e.toNat * 2) Go.undef))) g6 (by omega) (by omega) (by omega)
                     have w4 := w3 ((i0c + Go.RowKit.intOf ((Sy.rows l).getD (i0e.toNat * 2) Go.undef)) - i0b - i0d) (by omega) (by omega)
                     simp only [w0, w1, w2, w4, v1, v2, v3, if_true, decide_true, v4, v5] at *
                     first
                     | omega
                     | (exfalso; omega)
                     | grind)
               ·
                try simp only [hw1]
                try simp only [hw0]
                refine ⟨fun h13 => ?_, fun h13 => ?_⟩
                ·
                 first
                 | exact True.intro
                 | rfl
                 | (
                    obtain ⟨g1, g2, g3, g4, g5, g6, g7, g8⟩ := hi0
                    have ht := typ_rowU hL_l (k := i0e.toNat) (by omega)
                    have hx := okR_u16 hc (k := i0e.toNat * 2) (by omega) ht.1
                    clear hL_l hty ht
                    have w0 : IntKind.wrap .i64 (Go.RowKit.intOf ((Sy.rows l).getD (i0e.toNat * 2) Go.undef)) = Go.RowKit.intOf ((Sy.rows l).getD (i0e.toNat * 2) Go.undef) := by have := wr_i64 (Go.RowKit.intOf ((Sy.rows l).getD (i0e.toNat * 2) Go.undef)); omega
                    have w1 : IntKind.wrap .i64 (i0c + Go.RowKit.intOf ((Sy.rows l).getD (i0e.toNat * 2) Go.undef)) = (i0c + Go.RowKit.intOf ((Sy.rows l).getD (i0e.toNat * 2) Go.undef)) := by have := wr_i64 (i0c + Go.RowKit.intOf ((Sy.rows l).getD (i0e.toNat * 2) Go.undef)); omega
                    have w2 : IntKind.wrap .i64 (i0e + 1) = i0e + 1 := by have := wr_i64 (i0e + 1); omega
                    have w3 : ∀ u, -1099511627776 ≤ u → u ≤ 1099511627776 → IntKind.wrap .i64 u = u := fun u a b => by have := wr_i64 u; omega
                    rcases g8 with ⟨k1, k2, k3, k4⟩ | ⟨k1, k2, k3⟩
                    · subst k1
                      obtain ⟨v1, v2⟩ := vi_on (t := (i0c + Go.RowKit.intOf ((Sy.rows l).getD (i0e.toNat * 2) Go.undef))) g6 k3 (by omega) (by omega)
                      obtain ⟨v3, v4⟩ := go_no (t := (i0c + Go.RowKit.intOf ((Sy.rows l).getD (i0e.toNat * 2) Go.undef))) g6 k3 (by omega) (by omega)
                      obtain ⟨v5, v6⟩ := go_yes (t := (i0c + Go.RowKit.intOf ((Sy.rows l).getD (i0e.toNat * 2) Go.undef))) g6 k3 (by omega) (by omega)
                      obtain ⟨v7, v8⟩ := vi_off (l := i0b) (t := (i0c + Go.RowKit.intOf ((Sy.rows l).getD (i0e.toNat * 2) Go.undef))) (by omega) (by omega) (by omega)
                      obtain ⟨v9, v10⟩ := vi_off (l := i0b + ((i0c + Go.RowKit.intOf ((Sy.rows l).getD (i0e.toNat * 2) Go.undef)) - i0a)) (t := (i0c + Go.RowKit.intOf ((Sy.rows l).getD (i0e.toNat * 2) Go.undef))) (by omega) (by omega) (by omega)
                      have w4 := w3 (i0a - i0b - i0d) (by omega) (by omega)
                      by_cases hy : (Go.RowKit.intOf ((Sy.rows l).getD (i0e.toNat * 2 + 1) Go.undef)).tmod 3 = 2
                      · have e2 : ((Go.RowKit.intOf ((Sy.rows l).getD (i0e.toNat * 2 + 1) Go.undef)).tmod 3 == 2) = true := beq_iff_eq.2 hy
                        simp only [w0, w1, w2, w4, e2, v1, v2, v3, v4, v5, v6, v7, v8, v9, v10] at *
                        first
                        | omega
                        | (exfalso; omega)
                        | grind
                      · have e2 : ((Go.RowKit.intOf ((Sy.rows l).getD (i0e.toNat * 2 + 1) Go.undef)).tmod 3 == 2) = false := beq_eq_false_iff_ne.2 hy
                        simp only [w0, w1, w2, w4, e2, v1, v2, v3, v4, v5, v6, v7, v8, v9, v10] at *
                        first
                        | omega
                        | (exfalso; omega)
                        | grind
                    · have k4 : i0f = false := by simpa using k1
                      subst k4 k2
                      obtain ⟨v1, v2⟩ := vi_off (t := (i0c + Go.RowKit.intOf ((Sy.rows l).getD (i0e.toNat * 2) Go.undef))) g6 (by omega) (by omega)
                      have v3 := st_off (t := (i0c + Go.RowKit.intOf ((Sy.rows l).getD (i0e.toNat * 2) Go.undef))) g6 (by omega) (by omega)
                      obtain ⟨v4, v5⟩ := vi_on (a := (i0c + Go.RowKit.intOf ((Sy.rows l).getD (i0e.toNat * 2) Go.undef))) (t := (i0c + Go.RowKit.intOf ((Sy.rows l).getD (i0e.toNat * 2) Go.undef))) g6 (by omega) (by omega) (by omega)
                      have w4 := w3 ((i0c + Go.RowKit.intOf ((Sy.rows l).getD (i0e.toNat * 2) Go.undef)) - i0b - i0d) (by omega) (by omega)
                      simp only [w0, w1, w2, w4, v1, v2, v3, if_true, decide_true, v4, v5] at *
                      first
                      | omega
                      | (exfalso; omega)
                      | grind)
                ·
                 try simp only [hw1]
                 try simp only [hw0]
                 refine ⟨?_, fun h14 => ?_⟩
                 ·
                  first
                  | exact True.intro
                  | omega
                  | (
                     obtain ⟨g1, g2, g3, g4, g5, g6, g7, g8⟩ := hi0
                     have ht := typ_rowU hL_l (k := i0e.toNat) (by omega)
                     have hx := okR_u16 hc (k := i0e.toNat * 2) (by omega) ht.1
                     clear hL_l hty ht
                     have w0 : IntKind.wrap .i64 (Go.RowKit.intOf ((Sy.rows l).getD (i0e.toNat * 2) Go.undef)) = Go.RowKit.intOf ((Sy.rows l).getD (i0e.toNat * 2) Go.undef) := by have := wr_i64 (Go.RowKit.intOf ((Sy.rows l).getD (i0e.toNat * 2) Go.undef)); omega
                     have w1 : IntKind.wrap .i64 (i0c + Go.RowKit.intOf ((Sy.rows l).getD (i0e.toNat * 2) Go.undef)) = (i0c + Go.RowKit.intOf ((Sy.rows l).getD (i0e.toNat * 2) Go.undef)) := by have := wr_i64 (i0c + Go.RowKit.intOf ((Sy.rows l).getD (i0e.toNat * 2) Go.undef)); omega
                     have w2 : IntKind.wrap .i64 (i0e + 1) = i0e + 1 := by have := wr_i64 (i0e + 1); omega
                     have w3 : ∀ u, -1099511627776 ≤ u → u ≤ 1099511627776 → IntKind.wrap .i64 u = u := fun u a b => by have := wr_i64 u; omega
                     rcases g8 with ⟨k1, k2, k3, k4⟩ | ⟨k1, k2, k3⟩
                     · subst k1
                       obtain ⟨v1, v2⟩ := vi_on (t := (i0c + Go.RowKit.intOf ((Sy.rows l).getD (i0e.toNat * 2) Go.undef))) g6 k3 (by omega) (by omega)
                       obtain ⟨v3, v4⟩ := go_no (t := (i0c + Go.RowKit.intOf ((Sy.rows l).getD (i0e.toNat * 2) Go.undef))) g6 k3 (by omega) (by omega)
                       obtain ⟨v5, v6⟩ := go_yes (t := (i0c + Go.RowKit.intOf ((Sy.rows l).getD (i0e.toNat * 2) Go.undef))) g6 k3 (by omega) (by omega)
                       obtain ⟨v7, v8⟩ := vi_off (l := i0b) (t := (i0c + Go.RowKit.intOf ((Sy.rows l).getD (i0e.toNat * 2) Go.undef))) (by omega) (by omega) (by omega)
                       obtain ⟨v9, v10⟩ := vi_off (l := i0b + ((i0c + Go.RowKit.intOf ((Sy.rows l).getD (i0e.toNat * 2) Go.undef)) - i0a)) (t := (i0c + Go.RowKit.intOf ((Sy.rows l).getD (i0e.toNat * 2) Go.undef))) (by omega) (by omega) (by omega)
                       have w4 := w3 (i0a - i0b - i0d) (by omega) (by omega)
                       by_cases hy : (Go.RowKit.intOf ((Sy.rows l).getD (i0e.toNat * 2 + 1) Go.undef)).tmod 3 = 2
                       · have e2 : ((Go.RowKit.intOf ((Sy.rows l).getD (i0e.toNat * 2 + 1) Go.undef)).tmod 3 == 2) = true := beq_iff_eq.2 hy
                         simp only [w0, w1, w2, w4, e2, v1, v2, v3, v4, v5, v6, v7, v8, v9, v10] at *
                         first
                         | omega
                         | (exfalso; omega)
                         | grind
                       · have e2 : ((Go.RowKit.intOf ((Sy.rows l).getD (i0e.toNat * 2 + 1) Go.undef)).tmod 3 == 2) = false := beq_eq_false_iff_ne.2 hy
                         simp only [w0, w1, w2, w4, e2, v1, v2, v3, v4, v5, v6, v7, v8, v9, v10] at *
                         first
                         | omega
                         | (exfalso; omega)
                         | grind
                     · have k4 : i0f = false := by simpa using k1
                       subst k4 k2
                       obtain ⟨v1, v2⟩ := vi_off (t := (i0c + Go.RowKit.intOf ((Sy.rows l).getD (i0e.toNat * 2) Go.undef))) g6 (by omega) (by omega)
                       have v3 := st_off (t := (i0c + Go.RowKit.intOf ((Sy.rows l).getD (i0e.toNat * 2) Go.undef))) g6 (by omega) (by omega)
                       obtain ⟨v4, v5⟩ := vi_on (a := (i0c + Go.RowKit.intOf ((Sy.rows l).getD (i0e.toNat * 2) Go.undef))) (t := (i0c + Go.RowKit.intOf ((Sy.rows l).getD (i0e.toNat * 2) Go.undef))) g6 (by omega) (by omega) (by omega)
                       have w4 := w3 ((i0c + Go.RowKit.intOf ((Sy.rows l).getD (i0e.toNat * 2) Go.undef)) - i0b - i0d) (by omega) (by omega)
                       simp only [w0, w1, w2, w4, v1, v2, v3, if_true, decide_true, v4, v5] at *
                       first
                       | omega
                       | (exfalso; omega)
                       | grind)
                 ·
                  try simp only [hw1]
                  try simp only [hw0]
                  refine ⟨fun h15 => ?_, fun h15 => ?_⟩
                  ·
                   first
                   | exact True.intro
                   | rfl
                   | (
                      obtain ⟨g1, g2, g3, g4, g5, g6, g7, g8⟩ := hi0
                      have ht := typ_rowU hL_l (k := i0e.toNat) (by omega)
                      have hx := okR_u16 hc (k := i0e.toNat * 2) (by omega) ht.1
                      clear hL_l hty ht
                      have w0 : IntKind.wrap .i64 (Go.RowKit.intOf ((Sy.rows l).getD (i0e.toNat * 2) Go.undef)) = Go.RowKit.intOf ((Sy.rows l).getD (i0e.toNat * 2) Go.undef) := by have := wr_i64 (Go.RowKit.intOf ((Sy.rows l).getD (i0e.toNat * 2) Go.undef)); omega
                      have w1 : IntKind.wrap .i64 (i0c + Go.RowKit.intOf ((Sy.rows l).getD (i0e.toNat * 2) Go.undef)) = (i0c + Go.RowKit.intOf ((Sy.rows l).getD (i0e.toNat * 2) Go.undef)) := by have := wr_i64 (i0c + Go.RowKit.intOf ((Sy.rows l).getD (i0e.toNat * 2) Go.undef)); omega
                      have w2 : IntKind.wrap .i64 (i0e + 1) = i0e + 1 := by have := wr_i64 (i0e + 1); omega
                      have w3 : ∀ u, -1099511627776 ≤ u → u ≤ 1099511627776 → IntKind.wrap .i64 u = u := fun u a b => by have := wr_i64 u; omega
                      rcases g8 with ⟨k1, k2, k3, k4⟩ | ⟨k1, k2, k3⟩
                      · subst k1
                        obtain ⟨v1, v2⟩ := vi_on (t := (i0c + Go.RowKit.intOf ((Sy.rows l).getD (i0e.toNat * 2) Go.undef))) g6 k3 (by omega) (by omega)
                        obtain ⟨v3, v4⟩ := go_no (t := (i0c + Go.RowKit.intOf ((Sy.rows l).getD (i0e.toNat * 2) Go.undef))) g6 k3 (by omega) (by omega)
                        obtain ⟨v5, v6⟩ := go_yes (t := (i0c + Go.RowKit.intOf ((Sy.rows l).getD (i0e.toNat * 2) Go.undef))) g6 k3 (by omega) (by omega)
                        obtain ⟨v7, v8⟩ := vi_off (l := i0b) (t := (i0c + Go.RowKit.intOf ((Sy.rows l).getD (i0e.toNat * 2) Go.undef))) (by omega) (by omega) (by omega)
                        obtain ⟨v9, v10⟩ := vi_off (l := i0b + ((i0c + Go.RowKit.intOf ((Sy.rows l).getD (i0e.toNat * 2) Go.undef)) - i0a)) (t := (i0c + Go.RowKit.intOf ((Sy.rows l).getD (i0e.toNat * 2) Go.undef))) (by omega) (by omega) (by omega)
                        have w4 := w3 (i0a - i0b - i0d) (by omega) (by omega)
                        by_cases hy : (Go.RowKit.intOf ((Sy.rows l).getD (i0e.toNat * 2 + 1) Go.undef)).tmod 3 = 2
                        · have e2 : ((Go.RowKit.intOf ((Sy.rows l).getD (i0e.toNat * 2 + 1) Go.undef)).tmod 3 == 2) = true := beq_iff_eq.2 hy
                          simp only [w0, w1, w2, w4, e2, v1, v2, v3, v4, v5, v6, v7, v8, v9, v10] at *
                          first
                          | omega
                          | (exfalso; omega)
                          | grind
                        · have e2 : ((Go.RowKit.intOf ((Sy.rows l).getD (i0e.toNat * 2 + 1) Go.undef)).tmod 3 == 2) = false := beq_eq_false_iff_ne.2 hy
                          simp only [w0, w1, w2, w4, e2, v1, v2, v3, v4, v5, v6, v7, v8, v9, v10] at *
                          first
                          | omega
                          | (exfalso; omega)
                          | grind
                      · have k4 : i0f = false := by simpa using k1
                        subst k4 k2
                        obtain ⟨v1, v2⟩ := vi_off (t := (i0c + Go.RowKit.intOf ((Sy.rows l).getD (i0e.toNat * 2) Go.undef))) g6 (by omega) (by omega)
                        have v3 := st_off (t := (i0c + Go.RowKit.intOf ((Sy.rows l).getD (i0e.toNat * 2) Go.undef))) g6 (by omega) (by omega)
                        obtain ⟨v4, v5⟩ := vi_on (a := (i0c + Go.RowKit.intOf ((Sy.rows l).getD (i0e.toNat * 2) Go.undef))) (t := (i0c + Go.RowKit.intOf ((Sy.rows l).getD (i0e.toNat * 2) Go.undef))) g6 (by omega) (by omega) (by omega)
                        have w4 := w3 ((i0c + Go.RowKit.intOf ((Sy.rows l).getD (i0e.toNat * 2) Go.undef)) - i0b - i0d) (by omega) (by omega)
                        simp only [w0, w1, w2, w4, v1, v2, v3, if_true, decide_true, v4, v5] at *
                        first
                        | omega
                        | (exfalso; omega)
                        | grind)
                  ·
                   try simp only [hw1]
                   try simp only [hw0]
                   refine ⟨fun h16 => ?_, fun h16 => ?_⟩
                   ·
                    first
                    | exact True.intro
                    | rfl
                    | (
                       obtain ⟨g1, g2, g3, g4, g5, g6, g7, g8⟩ := hi0
                       have ht := typ_rowU hL_l (k := i0e.toNat) (by omega)
                       have hx := okR_u16 hc (k := i0e.toNat * 2) (by omega) ht.1
                       clear hL_l hty ht
                       have w0 : IntKind.wrap .i64 (Go.RowKit.intOf ((Sy.rows l).getD (i0e.toNat * 2) Go.undef)) = Go.RowKit.intOf ((Sy.rows l).getD (i0e.toNat * 2) Go.undef) := by have := wr_i64 (Go.RowKit.intOf ((Sy.rows l).getD (i0e.toNat * 2) Go.undef)); omega
                       have w1 : IntKind.wrap .i64 (i0c + Go.RowKit.intOf ((Sy.rows l).getD (i0e.toNat * 2) Go.undef)) = (i0c + Go.RowKit.intOf ((Sy.rows l).getD (i0e.toNat * 2) Go.undef)) := by have := wr_i64 (i0c + Go.RowKit.intOf ((Sy.rows l).getD (i0e.toNat * 2) Go.undef)); omega
                       have w2 : IntKind.wrap .i64 (i0e + 1) = i0e + 1 := by have := wr_i64 (i0e + 1); omega
                       have w3 : ∀ u, -1099511627776 ≤ u → u ≤ 1099511627776 → IntKind.wrap .i64 u = u := fun u a b => by have := wr_i64 u; omega
                       rcases g8 with ⟨k1, k2, k3, k4⟩ | ⟨k1, k2, k3⟩
                       · subst k1
                         obtain ⟨v1, v2⟩ := vi_on (t := (i0c + Go.RowKit.intOf ((Sy.rows l).getD (i0e.toNat * 2) Go.undef))) g6 k3 (by omega) (by omega)
                         obtain ⟨v3, v4⟩ := go_no (t := (i0c + Go.RowKit.intOf ((Sy.rows l).getD (i0e.toNat * 2) Go.undef))) g6 k3 (by omega) (by omega)
                         obtain ⟨v5, v6⟩ := go_yes (t := (i0c + Go.RowKit.intOf ((Sy.rows l).getD (i0e.toNat * 2) Go.undef))) g6 k3 (by omega) (by omega)
                         obtain ⟨v7, v8⟩ := vi_off (l := i0b) (t := (i0c + Go.RowKit.intOf ((Sy.rows l).getD (i0e.toNat * 2) Go.undef))) (by omega) (by omega) (by omega)
                         obtain ⟨v9, v10⟩ := vi_off (l := i0b + ((i0c + Go.RowKit.intOf ((Sy.rows l).getD (i0e.toNat * 2) Go.undef)) - i0a)) (t := (i0c + Go.RowKit.intOf ((Sy.rows l).getD (i0e.toNat * 2) Go.undef))) (by omega) (by omega) (by omega)
                         have w4 := w3 (i0a - i0b - i0d) (by omega) (by omega)
                         by_cases hy : (Go.RowKit.intOf ((Sy.rows l).getD (i0e.toNat * 2 + 1) Go.undef)).tmod 3 = 2
                         · have e2 : ((Go.RowKit.intOf ((Sy.rows l).getD (i0e.toNat * 2 + 1) Go.undef)).tmod 3 == 2) = true := beq_iff_eq.2 hy
                           simp only [w0, w1, w2, w4, e2, v1, v2, v3, v4, v5, v6, v7, v8, v9, v10] at *
                           first
                           | omega
                           | (exfalso; omega)
                           | grind
                         · have e2 : ((Go.RowKit.intOf ((Sy.rows l).getD (i0e.toNat * 2 + 1) Go.undef)).tmod 3 == 2) = false := beq_eq_false_iff_ne.2 hy
                           simp only [w0, w1, w2, w4, e2, v1, v2, v3, v4, v5, v6, v7, v8, v9, v10] at *
                           first
                           | omega
                           | (exfalso; omega)
                           | grind
                       · have k4 : i0f = false := by simpa using k1
                         subst k4 k2
                         obtain ⟨v1, v2⟩ := vi_off (t := (i0c + Go.RowKit.intOf ((Sy.rows l).getD (i0e.toNat * 2) Go.undef))) g6 (by omega) (by omega)
                         have v3 := st_off (t := (i0c + Go.RowKit.intOf ((Sy.rows l).getD (i0e.toNat * 2) Go.undef))) g6 (by omega) (by omega)
                         obtain ⟨v4, v5⟩ := vi_on (a := (i0c + Go.RowKit.intOf ((Sy.rows l).getD (i0e.toNat * 2) Go.undef))) (t := (i0c + Go.RowKit.intOf ((Sy.rows l).getD (i0e.toNat * 2) Go.undef))) g6 (by omega) (by omega) (by omega)
                         have w4 := w3 ((i0c + Go.RowKit.intOf ((Sy.rows l).getD (i0e.toNat * 2) Go.undef)) - i0b - i0d) (by omega) (by omega)
                         simp only [w0, w1, w2, w4, v1, v2, v3, if_true, decide_true, v4, v5] at *
                         first
                         | omega
                         | (exfalso; omega)
                         | grind)
                   ·
                    refine ⟨fun h17 => ?_, fun h17 => ?_⟩
                    ·
                     try simp only [hw1]
                     try simp only [hw0]
                     refine ⟨fun h18 => ?_, fun h18 => ?_⟩
                     ·
                      first
                      | exact True.intro
                      | rfl
                      | (
                         obtain ⟨g1, g2, g3, g4, g5, g6, g7, g8⟩ := hi0
                         have ht := typ_rowU hL_l (k := i0e.toNat) (by omega)
                         have hx := okR_u16 hc (k := i0e.toNat * 2) (by omega) ht.1
                         clear hL_l hty ht
                         have w0 : IntKind.wrap .i64 (Go.RowKit.intOf ((Sy.rows l).getD (i0e.toNat * 2) Go.undef)) = Go.RowKit.intOf ((Sy.rows l).getD (i0e.toNat * 2) Go.undef) := by have := wr_i64 (Go.RowKit.intOf ((Sy.rows l).getD (i0e.toNat * 2) Go.undef)); omega
                         have w1 : IntKind.wrap .i64 (i0c + Go.RowKit.intOf ((Sy.rows l).getD (i0e.toNat * 2) Go.undef)) = (i0c + Go.RowKit.intOf ((Sy.rows l).getD (i0e.toNat * 2) Go.undef)) := by have := wr_i64 (i0c + Go.RowKit.intOf ((Sy.rows l).getD (i0e.toNat * 2) Go.undef)); omega
                         have w2 : IntKind.wrap .i64 (i0e + 1) = i0e + 1 := by have := wr_i64 (i0e + 1); omega
                         have w3 : ∀ u, -1099511627776 ≤ u → u ≤ 1099511627776 → IntKind.wrap .i64 u = u := fun u a b => by have := wr_i64 u; omega
                         rcases g8 with ⟨k1, k2, k3, k4⟩ | ⟨k1, k2, k3⟩
                         · subst k1
                           obtain ⟨v1, v2⟩ := vi_on (t := (i0c + Go.RowKit.intOf ((Sy.rows l).getD (i0e.toNat * 2) Go.undef))) g6 k3 (by omega) (by omega)
                           obtain ⟨v3, v4⟩ := go_no (t := (i0c + Go.RowKit.intOf ((Sy.rows l).getD (i0e.toNat * 2) Go.undef))) g6 k3 (by omega) (by omega)
                           obtain ⟨v5, v6⟩ := go_yes (t := (i0c + Go.RowKit.intOf ((Sy.rows l).getD (i0e.toNat * 2) Go.undef))) g6 k3 (by omega) (by omega)
                           obtain ⟨v7, v8⟩ := vi_off (l := i0b) (t := (i0c + Go.RowKit.intOf ((Sy.rows l).getD (i0e.toNat * 2) Go.undef))) (by omega) (by omega) (by omega)
                           obtain ⟨v9, v10⟩ := vi_off (l := i0b + ((i0c + Go.RowKit.intOf ((Sy.rows l).getD (i0e.toNat * 2) Go.undef)) - i0a)) (t := (i0c + Go.RowKit.intOf ((Sy.rows l).getD (i0e.toNat * 2) Go.undef))) (by omega) (by omega) (by omega)
                           have w4 := w3 (i0a - i0b - i0d) (by omega) (by omega)
                           by_cases hy : (Go.RowKit.intOf ((Sy.rows l).getD (i0e.toNat * 2 + 1) Go.undef)).tmod 3 = 2
                           · have e2 : ((Go.RowKit.intOf ((Sy.rows l).getD (i0e.toNat * 2 + 1) Go.undef)).tmod 3 == 2) = true := beq_iff_eq.2 hy
                             simp only [w0, w1, w2, w4, e2, v1, v2, v3, v4, v5, v6, v7, v8, v9, v10] at *
                             first
                             | omega
                             | (exfalso; omega)
                             | grind
                           · have e2 : ((Go.RowKit.intOf ((Sy.rows l).getD (i0e.toNat * 2 + 1) Go.undef)).tmod 3 == 2) = false := beq_eq_false_iff_ne.2 hy
                             simp only [w0, w1, w2, w4, e2, v1, v2, v3, v4, v5, v6, v7, v8, v9, v10] at *
                             first
                             | omega
                             | (exfalso; omega)
                             | grind
                         · have k4 : i0f = false := by simpa using k1
                           subst k4 k2
                           obtain ⟨v1, v2⟩ := vi_off (t := (i0c + Go.RowKit.intOf ((Sy.rows l).getD (i0e.toNat * 2) Go.undef))) g6 (by omega) (by omega)
                           have v3 := st_off (t := (i0c + Go.RowKit.intOf ((Sy.rows l).getD (i0e.toNat * 2) Go.undef))) g6 (by omega) (by omega)
                           obtain ⟨v4, v5⟩ := vi_on (a := (i0c + Go.RowKit.intOf ((Sy.rows l).getD (i0e.toNat * 2) Go.undef))) (t := (i0c + Go.RowKit.intOf ((Sy.rows l).getD (i0e.toNat * 2) Go.undef))) g6 (by omega) (by omega) (by omega)
                           have w4 := w3 ((i0c + Go.RowKit.intOf ((Sy.rows l).getD (i0e.toNat * 2) Go.undef)) - i0b - i0d) (by omega) (by omega)
                           simp only [w0, w1, w2, w4, v1, v2, v3, if_true, decide_true, v4, v5] at *
                           first
                           | omega
                           | (exfalso; omega)
                           | grind)
                     ·
                      have wf3 := wr_i64 (i0e + 1)
                      try simp only [hw1]
                      try simp only [hw0]
                      refine ⟨?_, ?_⟩
                      ·
                       obtain ⟨g1, g2, g3, g4, g5, g6, g7, g8⟩ := hi0
                       have ht := typ_rowU hL_l (k := i0e.toNat) (by omega)
                       have hx := okR_u16 hc (k := i0e.toNat * 2) (by omega) ht.1
                       clear hL_l hty ht
                       have w0 : IntKind.wrap .i64 (Go.RowKit.intOf ((Sy.rows l).getD (i0e.toNat * 2) Go.undef)) = Go.RowKit.intOf ((Sy.rows l).getD (i0e.toNat * 2) Go.undef) := by have := wr_i64 (Go.RowKit.intOf ((Sy.rows l).getD (i0e.toNat * 2) Go.undef)); omega
                       have w1 : IntKind.wrap .i64 (i0c + Go.RowKit.intOf ((Sy.rows l).getD (i0e.toNat * 2) Go.undef)) = (i0c + Go.RowKit.intOf ((Sy.rows l).getD (i0e.toNat * 2) Go.undef)) := by have := wr_i64 (i0c + Go.RowKit.intOf ((Sy.rows l).getD (i0e.toNat * 2) Go.undef)); omega
                       have w2 : IntKind.wrap .i64 (i0e + 1) = i0e + 1 := by have := wr_i64 (i0e + 1); omega
                       have w3 : ∀ u, -1099511627776 ≤ u → u ≤ 1099511627776 → IntKind.wrap .i64 u = u := fun u a b => by have := wr_i64 u; omega
                       rcases g8 with ⟨k1, k2, k3, k4⟩ | ⟨k1, k2, k3⟩
                       · subst k1
                         obtain ⟨v1, v2⟩ := vi_on (t := (i0c + Go.RowKit.intOf ((Sy.rows l).getD (i0e.toNat * 2) Go.undef))) g6 k3 (by omega) (by omega)
                         obtain ⟨v3, v4⟩ := go_no (t := (i0c + Go.RowKit.intOf ((Sy.rows l).getD (i0e.toNat * 2) Go.undef))) g6 k3 (by omega) (by omega)
                         obtain ⟨v5, v6⟩ := go_yes (t := (i0c + Go.RowKit.intOf ((Sy.rows l).getD (i0e.toNat * 2) Go.undef))) g6 k3 (by omega) (by omega)
                         obtain ⟨v7, v8⟩ := vi_off (l := i0b) (t := (i0c + Go.RowKit.intOf ((Sy.rows l).getD (i0e.toNat * 2) Go.undef))) (by omega) (by omega) (by omega)
                         obtain ⟨v9, v10⟩ := vi_off (l := i0b + ((i0c + Go.RowKit.intOf ((Sy.rows l).getD (i0e.toNat * 2) Go.undef)) - i0a)) (t := (i0c + Go.RowKit.intOf ((Sy.rows l).getD (i0e.toNat * 2) Go.undef))) (by omega) (by omega) (by omega)
                         have w4 := w3 (i0a - i0b - i0d) (by omega) (by omega)
                         by_cases hy : (Go.RowKit.intOf ((Sy.rows l).getD (i0e.toNat * 2 + 1) Go.undef)).tmod 3 = 2
                         · have e2 : ((Go.RowKit.intOf ((Sy.rows l).getD (i0e.toNat * 2 + 1) Go.undef)).tmod 3 == 2) = true := beq_iff_eq.2 hy
                           simp only [w0, w1, w2, w4, e2, v1, v2, v3, v4, v5, v6, v7, v8, v9, v10] at *
                           first
                           | omega
                           | (exfalso; omega)
                           | grind
                         · have e2 : ((Go.RowKit.intOf ((Sy.rows l).getD (i0e.toNat * 2 + 1) Go.undef)).tmod 3 == 2) = false := beq_eq_false_iff_ne.2 hy
                           simp only [w0, w1, w2, w4, e2, v1, v2, v3, v4, v5, v6, v7, v8, v9, v10] at *
                           first
                           | omega
                           | (exfalso; omega)
                           | grind
                       · have k4 : i0f = false := by simpa using k1
                         subst k4 k2
                         obtain ⟨v1, v2⟩ := vi_off (t := (i0c + Go.RowKit.intOf ((Sy.rows l).getD (i0e.toNat * 2) Go.undef))) g6 (by omega) (by omega)
                         have v3 := st_off (t := (i0c + Go.RowKit.intOf ((Sy.rows l).getD (i0e.toNat * 2) Go.undef))) g6 (by omega) (by omega)
                         obtain ⟨v4, v5⟩ := vi_on (a := (i0c + Go.RowKit.intOf ((Sy.rows l).getD (i0e.toNat * 2) Go.undef))) (t := (i0c + Go.RowKit.intOf ((Sy.rows l).getD (i0e.toNat * 2) Go.undef))) g6 (by omega) (by omega) (by omega)
                         have w4 := w3 ((i0c + Go.RowKit.intOf ((Sy.rows l).getD (i0e.toNat * 2) Go.undef)) - i0b - i0d) (by omega) (by omega)
                         simp only [w0, w1, w2, w4, v1, v2, v3, if_true, decide_true, v4, v5] at *
                         first
                         | omega
                         | (exfalso; omega)
                         | grind
                      ·
                       omega
                    ·
                     have wf4 := wr_i64 (i0e + 1)
                     try simp only [hw1]
                     try simp only [hw0]
                     refine ⟨?_, ?_⟩
                     ·
                      obtain ⟨g1, g2, g3, g4, g5, g6, g7, g8⟩ := hi0
                      have ht := typ_rowU hL_l (k := i0e.toNat) (by omega)
                      have hx := okR_u16 hc (k := i0e.toNat * 2) (by omega) ht.1
                      clear hL_l hty ht
                      have w0 : IntKind.wrap .i64 (Go.RowKit.intOf ((Sy.rows l).getD (i0e.toNat * 2) Go.undef)) = Go.RowKit.intOf ((Sy.rows l).getD (i0e.toNat * 2) Go.undef) := by have := wr_i64 (Go.RowKit.intOf ((Sy.rows l).getD (i0e.toNat * 2) Go.undef)); omega
                      have w1 : IntKind.wrap .i64 (i0c + Go.RowKit.intOf ((Sy.rows l).getD (i0e.toNat * 2) Go.undef)) = (i0c + Go.RowKit.intOf ((Sy.rows l).getD (i0e.toNat * 2) Go.undef)) := by have := wr_i64 (i0c + Go.RowKit.intOf ((Sy.rows l).getD (i0e.toNat * 2) Go.undef)); omega
                      have w2 : IntKind.wrap .i64 (i0e + 1) = i0e + 1 := by have := wr_i64 (i0e + 1); omega
                      have w3 : ∀ u, -1099511627776 ≤ u → u ≤ 1099511627776 → IntKind.wrap .i64 u = u := fun u a b => by have := wr_i64 u; omega
                      rcases g8 with ⟨k1, k2, k3, k4⟩ | ⟨k1, k2, k3⟩
                      · subst k1
                        obtain ⟨v1, v2⟩ := vi_on (t := (i0c + Go.RowKit.intOf ((Sy.rows l).getD (i0e.toNat * 2) Go.undef))) g6 k3 (by omega) (by omega)
                        obtain ⟨v3, v4⟩ := go_no (t := (i0c + Go.RowKit.intOf ((Sy.rows l).getD (i0e.toNat * 2) Go.undef))) g6 k3 (by omega) (by omega)
                        obtain ⟨v5, v6⟩ := go_yes (t := (i0c + Go.RowKit.intOf ((Sy.rows l).getD (i0e.toNat * 2) Go.undef))) g6 k3 (by omega) (by omega)
                        obtain ⟨v7, v8⟩ := vi_off (l := i0b) (t := (i0c + Go.RowKit.intOf ((Sy.rows l).getD (i0e.toNat * 2) Go.undef))) (by omega) (by omega) (by omega)
                        obtain ⟨v9, v10⟩ := vi_off (l := i0b + ((i0c + Go.RowKit.intOf ((Sy.rows l).getD (i0e.toNat * 2) Go.undef)) - i0a)) (t := (i0c + Go.RowKit.intOf ((Sy.rows l).getD (i0e.toNat * 2) Go.undef))) (by omega) (by omega) (by omega)
                        have w4 := w3 (i0a - i0b - i0d) (by omega) (by omega)
                        by_cases hy : (Go.RowKit.intOf ((Sy.rows l).getD (i0e.toNat * 2 + 1) Go.undef)).tmod 3 = 2
                        · have e2 : ((Go.RowKit.intOf ((Sy.rows l).getD (i0e.toNat * 2 + 1) Go.undef)).tmod 3 == 2) = true := beq_iff_eq.2 hy
                          simp only [w0, w1, w2, w4, e2, v1, v2, v3, v4, v5, v6, v7, v8, v9, v10] at *
                          first
                          | omega
                          | (exfalso; omega)
                          | grind
                        · have e2 : ((Go.RowKit.intOf ((Sy.rows l).getD (i0e.toNat * 2 + 1) Go.undef)).tmod 3 == 2) = false := beq_eq_false_iff_ne.2 hy
                          simp only [w0, w1, w2, w4, e2, v1, v2, v3, v4, v5, v6, v7, v8, v9, v10] at *
                          first
                          | omega
                          | (exfalso; omega)
                          | grind
                      · have k4 : i0f = false := by simpa using k1
                        subst k4 k2
                        obtain ⟨v1, v2⟩ := vi_off (t := (i0c + Go.RowKit.intOf ((Sy.rows l).getD (i0e.toNat * 2) Go.undef))) g6 (by omega) (by omega)
                        have v3 := st_off (t := (i0c + Go.RowKit.intOf ((Sy.rows l).getD (i0e.toNat * 2) Go.undef))) g6 (by omega) (by omega)
                        obtain ⟨v4, v5⟩ := vi_on (a := (i0c + Go.RowKit.intOf ((Sy.rows l).getD (i0e.toNat * 2) Go.undef))) (t := (i0c + Go.RowKit.intOf ((Sy.rows l).getD (i0e.toNat * 2) Go.undef))) g6 (by omega) (by omega) (by omega)
                        have w4 := w3 ((i0c + Go.RowKit.intOf ((Sy.rows l).getD (i0e.toNat * 2) Go.undef)) - i0b - i0d) (by omega) (by omega)
                        simp only [w0, w1, w2, w4, v1, v2, v3, if_true, decide_true, v4, v5] at *
                        first
                        | omega
                        | (exfalso; omega)
                        | grind
                     ·
                      omega
          ·
           refine ⟨?_, fun h19 => ?_⟩
           ·
            first
            | exact True.intro
            | omega
            | (
               obtain ⟨g1, g2, g3, g4, g5, g6, g7, g8⟩ := hi0
               have ht := typ_rowU hL_l (k := i0e.toNat) (by omega)
               have hx := okR_u16 hc (k := i0e.toNat * 2) (by omega) ht.1
               clear hL_l hty ht
               have w0 : IntKind.wrap .i64 (Go.RowKit.intOf ((Sy.rows l).getD (i0e.toNat * 2) Go.undef)) = Go.RowKit.intOf ((Sy.rows l).getD (i0e.toNat * 2) Go.undef) := by have := wr_i64 (Go.RowKit.intOf ((Sy.rows l).getD (i0e.toNat * 2) Go.undef)); omega
               have w1 : IntKind.wrap .i64 (i0c + Go.RowKit.intOf ((Sy.rows l).getD (i0e.toNat * 2) Go.undef)) = (i0c + Go.RowKit.intOf ((Sy.rows l).getD (i0e.toNat * 2) Go.undef)) := by have := wr_i64 (i0c + Go.RowKit.intOf ((Sy.rows l).getD (i0e.toNat * 2) Go.undef)); omega
               have w2 : IntKind.wrap .i64 (i0e + 1) = i0e + 1 := by have := wr_i64 (i0e + 1); omega
               have w3 : ∀ u, -1099511627776 ≤ u → u ≤ 1099511627776 → IntKind.wrap .i64 u = u := fun u a b => by have := wr_i64 u; omega
               rcases g8 with ⟨k1, k2, k3, k4⟩ | ⟨k1, k2, k3⟩
               · subst k1
                 obtain ⟨v1, v2⟩ := vi_on (t := (i0c + Go.RowKit.intOf ((Sy.rows l).getD (i0e.toNat * 2) Go.undef))) g6 k3 (by omega) (by omega)
                 obtain ⟨v3, v4⟩ := go_no (t := (i0c + Go.RowKit.intOf ((Sy.rows l).getD (i0e.toNat * 2) Go.undef))) g6 k3 (by omega) (by omega)
                 obtain ⟨v5, v6⟩ := go_yes (t := (i0c + Go.RowKit.intOf ((Sy.rows l).getD (i0e.toNat * 2) Go.undef))) g6 k3 (by omega) (by omega)
                 obtain ⟨v7, v8⟩ := vi_off (l := i0b) (t := (i0c + Go.RowKit.intOf ((Sy.rows l).getD (i0e.toNat * 2) Go.undef))) (by omega) (by omega) (by omega)
                 obtain ⟨v9, v10⟩ := vi_off (l := i0b + ((i0c + Go.RowKit.intOf ((Sy.rows l).getD (i0e.toNat * 2) Go.undef)) - i0a)) (t := (i0c + Go.RowKit.intOf ((Sy.rows l).getD (i0e.toNat * 2) Go.undef))) (by omega) (by omega) (by omega)
                 have w4 := w3 (i0a - i0b - i0d) (by omega) (by omega)
                 by_cases hy : (Go.RowKit.intOf ((Sy.rows l).getD (i0e.toNat * 2 + 1) Go.undef)).tmod 3 = 2
                 · have e2 : ((Go.RowKit.intOf ((Sy.rows l).getD (i0e.toNat * 2 + 1) Go.undef)).tmod 3 == 2) = true := beq_iff_eq.2 hy
                   simp only [w0, w1, w2, w4, e2, v1, v2, v3, v4, v5, v6, v7, v8, v9, v10] at *
                   first
                   | omega
                   | (exfalso; omega)
                   | grind
                 · have e2 : ((Go.RowKit.intOf ((Sy.rows l).getD (i0e.toNat * 2 + 1) Go.undef)).tmod 3 == 2) = false := beq_eq_false_iff_ne.2 hy
                   simp only [w0, w1, w2, w4, e2, v1, v2, v3, v4, v5, v6, v7, v8, v9, v10] at *
                   first
                   | omega
                   | (exfalso; omega)
                   | grind
               · have k4 : i0f = false := by simpa using k1
                 subst k4 k2
                 obtain ⟨v1, v2⟩ := vi_off (t := (i0c + Go.RowKit.intOf ((Sy.rows l).getD (i0e.toNat * 2) Go.undef))) g6 (by omega) (by omega)
                 have v3 := st_off (t := (i0c + Go.RowKit.intOf ((Sy.rows l).getD (i0e.toNat * 2) Go.undef))) g6 (by omega) (by omega)
                 obtain ⟨v4, v5⟩ := vi_on (a := (i0c + Go.RowKit.intOf ((Sy.rows l).getD (i0e.toNat * 2) Go.undef))) (t := (i0c + Go.RowKit.intOf ((Sy.rows l).getD (i0e.toNat * 2) Go.undef))) g6 (by omega) (by omega) (by omega)
                 have w4 := w3 ((i0c + Go.RowKit.intOf ((Sy.rows l).getD (i0e.toNat * 2) Go.undef)) - i0b - i0d) (by omega) (by omega)
                 simp only [w0, w1, w2, w4, v1, v2, v3, if_true, decide_true, v4, v5] at *
                 first
                 | omega
                 | (exfalso; omega)
                 | grind)
           ·
            try simp only [hw1]
            try simp only [hw0]
            refine ⟨fun h20 => ?_, fun h20 => ?_⟩
            ·
             first
             | exact True.intro
             | rfl
             | (
                obtain ⟨g1, g2, g3, g4, g5, g6, g7, g8⟩ := hi0
                have ht := typ_rowU hL_l (k := i0e.toNat) (by omega)
                have hx := okR_u16 hc (k := i0e.toNat * 2) (by omega) ht.1
                clear hL_l hty ht
                have w0 : IntKind.wrap .i64 (Go.RowKit.intOf ((Sy.rows l).getD (i0e.toNat * 2) Go.undef)) = Go.RowKit.intOf ((Sy.rows l).getD (i0e.toNat * 2) Go.undef) := by have := wr_i64 (Go.RowKit.intOf ((Sy.rows l).getD (i0e.toNat * 2) Go.undef)); omega
                have w1 : IntKind.wrap .i64 (i0c + Go.RowKit.intOf ((Sy.rows l).getD (i0e.toNat * 2) Go.undef)) = (i0c + Go.RowKit.intOf ((Sy.rows l).getD (i0e.toNat * 2) Go.undef)) := by have := wr_i64 (i0c + Go.RowKit.intOf ((Sy.rows l).getD (i0e.toNat * 2) Go.undef)); omega
                have w2 : IntKind.wrap .i64 (i0e + 1) = i0e + 1 := by have := wr_i64 (i0e + 1); omega
                have w3 : ∀ u, -1099511627776 ≤ u → u ≤ 1099511627776 → IntKind.wrap .i64 u = u := fun u a b => by have := wr_i64 u; omega
                rcases g8 with ⟨k1, k2, k3, k4⟩ | ⟨k1, k2, k3⟩
                · subst k1
                  obtain ⟨v1, v2⟩ := vi_on (t := (i0c + Go.RowKit.intOf ((Sy.rows l).getD (i0e.toNat * 2) Go.undef))) g6 k3 (by omega) (by omega)
                  obtain ⟨v3, v4⟩ := go_no (t := (i0c + Go.RowKit.intOf ((Sy.rows l).getD (i0e.toNat * 2) Go.undef))) g6 k3 (by omega) (by omega)
                  obtain ⟨v5, v6⟩ := go_yes (t := (i0c + Go.RowKit.intOf ((Sy.rows l).getD (i0e.toNat * 2) Go.undef))) g6 k3 (by omega) (by omega)
                  obtain ⟨v7, v8⟩ := vi_off (l := i0b) (t := (i0c + Go.RowKit.intOf ((Sy.rows l).getD (i0e.toNat * 2) Go.undef))) (by omega) (by omega) (by omega)
                  obtain ⟨v9, v10⟩ := vi_off (l := i0b + ((i0c + Go.RowKit.intOf ((Sy.rows l).getD (i0e.toNat * 2) Go.undef)) - i0a)) (t := (i0c + Go.RowKit.intOf ((Sy.rows l).getD (i0e.toNat * 2) Go.undef))) (by omega) (by omega) (by omega)
                  have w4 := w3 (i0a - i0b - i0d) (by omega) (by omega)
                  by_cases hy : (Go.RowKit.intOf ((Sy.rows l).getD (i0e.toNat * 2 + 1) Go.undef)).tmod 3 = 2
                  · have e2 : ((Go.RowKit.intOf ((Sy.rows l).getD (i0e.toNat * 2 + 1) Go.undef)).tmod 3 == 2) = true := beq_iff_eq.2 hy
                    simp only [w0, w1, w2, w4, e2, v1, v2, v3, v4, v5, v6, v7, v8, v9, v10] at *
                    first
                    | omega
                    | (exfalso; omega)
                    | grind
                  · have e2 : ((Go.RowKit.intOf ((Sy.rows l).getD (i0e.toNat * 2 + 1) Go.undef)).tmod 3 == 2) = false := beq_eq_false_iff_ne.2 hy
                    simp only [w0, w1, w2, w4, e2, v1, v2, v3, v4, v5, v6, v7, v8, v9, v10] at *
                    first
                    | omega
                    | (exfalso; omega)
                    | grind
                · have k4 : i0f = false := by simpa using k1
                  subst k4 k2
                  obtain ⟨v1, v2⟩ := vi_off (t := (i0c + Go.RowKit.intOf ((Sy.rows l).getD (i0e.toNat * 2) Go.undef))) g6 (by omega) (by omega)
                  have v3 := st_off (t := (i0c + Go.RowKit.intOf ((Sy.rows l).getD (i0e.toNat * 2) Go.undef))) g6 (by omega) (by omega)
                  obtain ⟨v4, v5⟩ := vi_on (a := (i0c + Go.RowKit.intOf ((Sy.rows l).getD (i0e.toNat * 2) Go.undef))) (t := (i0c + Go.RowKit.intOf ((Sy.rows l).getD (i0e.toNat * 2) Go.undef))) g6 (by omega) (by omega) (by omega)
                  have w4 := w3 ((i0c + Go.RowKit.intOf ((Sy.rows l).getD (i0e.toNat * 2) Go.undef)) - i0b - i0d) (by omega) (by omega)
                  simp only [w0, w1, w2, w4, v1, v2, v3, if_true, decide_true, v4, v5] at *
                  first
                  | omega
                  | (exfalso; omega)
                  | grind)
            ·
             refine ⟨?_, fun h21 => ?_⟩
             ·
              first
              | exact True.intro
              | omega
              | (
                 obtain ⟨g1, g2, g3, g4, g5, g6, g7, g8⟩ := hi0
                 have ht := typ_rowU hL_l (k := i0e.toNat) (by omega)
                 have hx := okR_u16 hc (k := i0e.toNat * 2) (by omega) ht.1
                 clear hL_l hty ht
                 have w0 : IntKind.wrap .i64 (Go.RowKit.intOf ((Sy.rows l).getD (i0e.toNat * 2) Go.undef)) = Go.RowKit.intOf ((Sy.rows l).getD (i0e.toNat * 2) Go.undef) := by have := wr_i64 (Go.RowKit.intOf ((Sy.rows l).getD (i0e.toNat * 2) Go.undef)); omega
                 have w1 : IntKind.wrap .i64 (i0c + Go.RowKit.intOf ((Sy.rows l).getD (i0e.toNat * 2) Go.undef)) = (i0c + Go.RowKit.intOf ((Sy.rows l).getD (i0e.toNat * 2) Go.undef)) := by have := wr_i64 (i0c + Go.RowKit.intOf ((Sy.rows l).getD (i0e.toNat * 2) Go.undef)); omega
                 have w2 : IntKind.wrap .i64 (i0e + 1) = i0e + 1 := by have := wr_i64 (i0e + 1); omega
                 have w3 : ∀ u, -1099511627776 ≤ u → u ≤ 1099511627776 → IntKind.wrap .i64 u = u := fun u a b => by have := wr_i64 u; omega
                 rcases g8 with ⟨k1, k2, k3, k4⟩ | ⟨k1, k2, k3⟩
                 · subst k1
                   obtain ⟨v1, v2⟩ := vi_on (t := (i0c + Go.RowKit.intOf ((Sy.rows l).getD (i0e.toNat * 2) Go.undef))) g6 k3 (by omega) (by omega)
                   obtain ⟨v3, v4⟩ := go_no (t := (i0c + Go.RowKit.intOf ((Sy.rows l).getD (i0e.toNat * 2) Go.undef))) g6 k3 (by omega) (by omega)
                   obtain ⟨v5, v6⟩ := go_yes (t := (i0c + Go.RowKit.intOf ((Sy.rows l).getD (i0e.toNat * 2) Go.undef))) g6 k3 (by omega) (by omega)
                   obtain ⟨v7, v8⟩ := vi_off (l := i0b) (t := (i0c + Go.RowKit.intOf ((Sy.rows l).getD (i0e.toNat * 2) Go.undef))) (by omega) (by omega) (by omega)
                   obtain ⟨v9, v10⟩ := vi_off (l := i0b + ((i0c + Go.RowKit.intOf ((Sy.rows l).getD (i0e.toNat * 2) Go.undef)) - i0a)) (t := (i0c + Go.RowKit.intOf ((Sy.rows l).getD (i0e.toNat * 2) Go.undef))) (by omega) (by omega) (by omega)
                   have w4 := w3 (i0a - i0b - i0d) (by omega) (by omega)
                   by_cases hy : (Go.RowKit.intOf ((Sy.rows l).getD (i0e.toNat * 2 + 1) Go.undef)).tmod 3 = 2
                   · have e2 : ((Go.RowKit.intOf ((Sy.rows l).getD (i0e.toNat * 2 + 1) Go.undef)).tmod 3 == 2) = true := beq_iff_eq.2 hy
                     simp only [w0, w1, w2, w4, e2, v1, v2, v3, v4, v5, v6, v7, v8, v9, v10] at *
                     first
                     | omega
                     | (exfalso; omega)
                     | grind
                   · have e2 : ((Go.RowKit.intOf ((Sy.rows l).getD (i0e.toNat * 2 + 1) Go.undef)).tmod 3 == 2) = false := beq_eq_false_iff_ne.2 hy
                     simp only [w0, w1, w2, w4, e2, v1, v2, v3, v4, v5, v6, v7, v8, v9, v10] at *
                     first
                     | omega
                     | (exfalso; omega)
                     | grind
                 · have k4 : i0f = false := by simpa using k1
                   subst k4 k2
                   obtain ⟨v1, v2⟩ := vi_off (t := (i0c + Go.RowKit.intOf ((Sy.rows l).getD (i0e.toNat * 2) Go.undef))) g6 (by omega) (by omega)
                   have v3 := st_off (t := (i0c + Go.RowKit.intOf ((Sy.rows l).getD (i0e.toNat * 2) Go.undef))) g6 (by omega) (by omega)
                   obtain ⟨v4, v5⟩ := vi_on (a := (i0c + Go.RowKit.intOf ((Sy.rows l).getD (i0e.toNat * 2) Go.undef))) (t := (i0c + Go.RowKit.intOf ((Sy.rows l).getD (i0e.toNat * 2) Go.undef))) g6 (by omega) (by omega) (by omega)
                   have w4 := w3 ((i0c + Go.RowKit.intOf ((Sy.rows l).getD (i0e.toNat * 2) Go.undef)) - i0b - i0d) (by omega) (by omega)
                   simp only [w0, w1, w2, w4, v1, v2, v3, if_true, decide_true, v4, v5] at *
                   first
                   | omega
                   | (exfalso; omega)
                   | grind)
             ·
              refine ⟨fun h22 => ?_, fun h22 => ?_⟩
              ·
               have wf5 := wr_i64 (i0e + 1)
               try simp only [hw1]
               try simp only [hw0]
               refine ⟨?_, ?_⟩
               ·
                obtain ⟨g1, g2, g3, g4, g5, g6, g7, g8⟩ := hi0
                have ht := typ_rowU hL_l (k := i0e.toNat) (by omega)
                have hx := okR_u16 hc (k := i0e.toNat * 2) (by omega) ht.1
                clear hL_l hty ht
                have w0 : IntKind.wrap .i64 (Go.RowKit.intOf ((Sy.rows l).getD (i0e.toNat * 2) Go.undef)) = Go.RowKit.intOf ((Sy.rows l).getD (i0e.toNat * 2) Go.undef) := by have := wr_i64 (Go.RowKit.intOf ((Sy.rows l).getD (i0e.toNat * 2) Go.undef)); omega
                have w1 : IntKind.wrap .i64 (i0c + Go.RowKit.intOf ((Sy.rows l).getD (i0e.toNat * 2) Go.undef)) = (i0c + Go.RowKit.intOf ((Sy.rows l).getD (i0e.toNat * 2) Go.undef)) := by have := wr_i64 (i0c + Go.RowKit.intOf ((Sy.rows l).getD (i0e.toNat * 2) Go.undef)); omega
                have w2 : IntKind.wrap .i64 (i0e + 1) = i0e + 1 := by have := wr_i64 (i0e + 1); omega
                have w3 : ∀ u, -1099511627776 ≤ u → u ≤ 1099511627776 → IntKind.wrap .i64 u = u := fun u a b => by have := wr_i64 u; omega
                rcases g8 with ⟨k1, k2, k3, k4⟩ | ⟨k1, k2, k3⟩
                · subst k1
                  obtain ⟨v1, v2⟩ := vi_on (t := (i0c + Go.RowKit.intOf ((Sy.rows l).getD (i0e.toNat * 2) Go.undef))) g6 k3 (by omega) (by omega)
                  obtain ⟨v3, v4⟩ := go_no (t := (i0c + Go.RowKit.intOf ((Sy.rows l).getD (i0e.toNat * 2) Go.undef))) g6 k3 (by omega) (by omega)
                  obtain ⟨v5, v6⟩ := go_yes (t := (i0c + Go.RowKit.intOf ((Sy.rows l).getD (i0e.toNat * 2) Go.undef))) g6 k3 (by omega) (by omega)
                  obtain ⟨v7, v8⟩ := vi_off (l := i0b) (t := (i0c + Go.RowKit.intOf ((Sy.rows l).getD (i0e.toNat * 2) Go.undef))) (by omega) (by omega) (by omega)
                  obtain ⟨v9, v10⟩ := vi_off (l := i0b + ((i0c + Go.RowKit.intOf ((Sy.rows l).getD (i0e.toNat * 2) Go.undef)) - i0a)) (t := (i0c + Go.RowKit.intOf ((Sy.rows l).getD (i0e.toNat * 2) Go.undef))) (by omega) (by omega) (by omega)
                  have w4 := w3 (i0a - i0b - i0d) (by omega) (by omega)
                  by_cases hy : (Go.RowKit.intOf ((Sy.rows l).getD (i0e.toNat * 2 + 1) Go.undef)).tmod 3 = 2
                  · have e2 : ((Go.RowKit.intOf ((Sy.rows l).getD (i0e.toNat * 2 + 1) Go.undef)).tmod 3 == 2) = true := beq_iff_eq.2 hy
                    simp only [w0, w1, w2, w4, e2, v1, v2, v3, v4, v5, v6, v7, v8, v9, v10] at *
                    first
                    | omega
                    | (exfalso; omega)
                    | grind
                  · have e2 : ((Go.RowKit.intOf ((Sy.rows l).getD (i0e.toNat * 2 + 1) Go.undef)).tmod 3 == 2) = false := beq_eq_false_iff_ne.2 hy
                    simp only [w0, w1, w2, w4, e2, v1, v2, v3, v4, v5, v6, v7, v8, v9, v10] at *
                    first
                    | omega
                    | (exfalso; omega)
                    | grind
                · have k4 : i0f = false := by simpa using k1
                  subst k4 k2
                  obtain ⟨v1, v2⟩ := vi_off (t := (i0c + Go.RowKit.intOf ((Sy.rows l).getD (i0e.toNat * 2) Go.undef))) g6 (by omega) (by omega)
                  have v3 := st_off (t := (i0c + Go.RowKit.intOf ((Sy.rows l).getD (i0e.toNat * 2) Go.undef))) g6 (by omega) (by omega)
                  obtain ⟨v4, v5⟩ := vi_on (a := (i0c + Go.RowKit.intOf ((Sy.rows l).getD (i0e.toNat * 2) Go.undef))) (t := (i0c + Go.RowKit.intOf ((Sy.rows l).getD (i0e.toNat * 2) Go.undef))) g6 (by omega) (by omega) (by omega)
                  have w4 := w3 ((i0c + Go.RowKit.intOf ((Sy.rows l).getD (i0e.toNat * 2) Go.undef)) - i0b - i0d) (by omega) (by omega)
                  simp only [w0, w1, w2, w4, v1, v2, v3, if_true, decide_true, v4, v5] at *
                  first
                  | omega
                  | (exfalso; omega)
                  | grind
               ·
                omega
              ·
               refine ⟨?_, fun h23 => ?_⟩
               ·
                first
                | exact True.intro
                | omega
                | (
                   obtain ⟨g1, g2, g3, g4, g5, g6, g7, g8⟩ := hi0
                   have ht := typ_rowU hL_l (k := i0e.toNat) (by omega)
                   have hx := okR_u16 hc (k := i0e.toNat * 2) (by omega) ht.1
                   clear hL_l hty ht
                   have w0 : IntKind.wrap .i64 (Go.RowKit.intOf ((Sy.rows l).getD (i0e.toNat * 2) Go.undef)) = Go.RowKit.intOf ((Sy.rows l).getD (i0e.toNat * 2) Go.undef) := by have := wr_i64 (Go.RowKit.intOf ((Sy.rows l).getD (i0e.toNat * 2) Go.undef)); omega
                   have w1 : IntKind.wrap .i64 (i0c + Go.RowKit.intOf ((Sy.rows l).getD (i0e.toNat * 2) Go.undef)) = (i0c + Go.RowKit.intOf ((Sy.rows l).getD (i0e.toNat * 2) Go.undef)) := by have := wr_i64 (i0c + Go.RowKit.intOf ((Sy.rows l).getD (i0e.toNat * 2) Go.undef)); omega
                   have w2 : IntKind.wrap .i64 (i0e + 1) = i0e + 1 := by have := wr_i64 (i0e + 1); omega
                   have w3 : ∀ u, -1099511627776 ≤ u → u ≤ 1099511627776 → IntKind.wrap .i64 u = u := fun u a b => by have := wr_i64 u; omega
                   rcases g8 with ⟨k1, k2, k3, k4⟩ | ⟨k1, k2, k3⟩
                   · subst k1
                     obtain ⟨v1, v2⟩ := vi_on (t := (i0c + Go.RowKit.intOf ((Sy.rows l).getD (i0e.toNat * 2) Go.undef))) g6 k3 (by omega) (by omega)
                     obtain ⟨v3, v4⟩ := go_no (t := (i0c + Go.RowKit.intOf ((Sy.rows l).getD (i0e.toNat * 2) Go.undef))) g6 k3 (by omega) (by omega)
                     obtain ⟨v5, v6⟩ := go_yes (t := (i0c + Go.RowKit.intOf ((Sy.rows l).getD (i0e.toNat * 2) Go.undef))) g6 k3 (by omega) (by omega)
                     obtain ⟨v7, v8⟩ := vi_off (l := i0b) (t := (i0c + Go.RowKit.intOf ((Sy.rows l).getD (i0e.toNat * 2) Go.undef))) (by omega) (by omega) (by omega)
                     obtain ⟨v9, v10⟩ := vi_off (l := i0b + ((i0c + Go.RowKit.intOf ((Sy.rows l).getD (i0e.toNat * 2) Go.undef)) - i0a)) (t := (i0c + Go.RowKit.intOf ((Sy.rows l).getD (i0e.toNat * 2) Go.undef))) (by omega) (by omega) (by omega)
                     have w4 := w3 (i0a - i0b - i0d) (by omega) (by omega)
                     by_cases hy : (Go.RowKit.intOf ((Sy.rows l).getD (i0e.toNat * 2 + 1) Go.undef)).tmod 3 = 2
                     · have e2 : ((Go.RowKit.intOf ((Sy.rows l).getD (i0e.toNat * 2 + 1) Go.undef)).tmod 3 == 2) = true := beq_iff_eq.2 hy
                       simp only [w0, w1, w2, w4, e2, v1, v2, v3, v4, v5, v6, v7, v8, v9, v10] at *
                       first
                       | omega
                       | (exfalso; omega)
                       | grind
                     · have e2 : ((Go.RowKit.intOf ((Sy.rows l).getD (i0e.toNat * 2 + 1) Go.undef)).tmod 3 == 2) = false := beq_eq_false_iff_ne.2 hy
                       simp only [w0, w1, w2, w4, e2, v1, v2, v3, v4, v5, v6, v7, v8, v9, v10] at *
                       first
                       | omega
                       | (exfalso; omega)
                       | grind
                   · have k4 : i0f = false := by simpa using k1
                     subst k4 k2
                     obtain ⟨v1, v2⟩ := vi_off (t := (i0c + Go.RowKit.intOf ((Sy.rows l).getD (i0e.toNat * 2) Go.undef))) g6 (by omega) (by omega)
                     have v3 := st_off (t := (i0c + Go.RowKit.intOf ((Sy.rows l).getD (i0e.toNat * 2) Go.undef))) g6 (by omega) (by omega)
                     obtain ⟨v4, v5⟩ := vi_on (a := (i0c + Go.RowKit.intOf ((Sy.rows l).getD (i0e.toNat * 2) Go.undef))) (t := (i0c + Go.RowKit.intOf ((Sy.rows l).getD (i0e.toNat * 2) Go.undef))) g6 (by omega) (by omega) (by omega)
                     have w4 := w3 ((i0c + Go.RowKit.intOf ((Sy.rows l).getD (i0e.toNat * 2) Go.undef)) - i0b - i0d) (by omega) (by omega)
                     simp only [w0, w1, w2, w4, v1, v2, v3, if_true, decide_true, v4, v5] at *
                     first
                     | omega
                     | (exfalso; omega)
                     | grind)
               ·
                refine ⟨?_, fun h24 => ?_⟩
                ·
                 first
                 | exact True.intro
                 | omega
                 | (
                    obtain ⟨g1, g2, g3, g4, g5, g6, g7, g8⟩ := hi0
                    have ht := typ_rowU hL_l (k := i0e.toNat) (by omega)
                    have hx := okR_u16 hc (k := i0e.toNat * 2) (by omega) ht.1
                    clear hL_l hty ht
                    have w0 : IntKind.wrap .i64 (Go.RowKit.intOf ((Sy.rows l).getD (i0e.toNat * 2) Go.undef)) = Go.RowKit.intOf ((Sy.rows l).getD (i0e.toNat * 2) Go.undef) := by have := wr_i64 (Go.RowKit.intOf ((Sy.rows l).getD (i0e.toNat * 2) Go.undef)); omega
                    have w1 : IntKind.wrap .i64 (i0c + Go.RowKit.intOf ((Sy.rows l).getD (i0e.toNat * 2) Go.undef)) = (i0c + Go.RowKit.intOf ((Sy.rows l).getD (i0e.toNat * 2) Go.undef)) := by have := wr_i64 (i0c + Go.RowKit.intOf ((Sy.rows l).getD (i0e.toNat * 2) Go.undef)); omega
                    have w2 : IntKind.wrap .i64 (i0e + 1) = i0e + 1 := by have := wr_i64 (i0e + 1); omega
                    have w3 : ∀ u, -1099511627776 ≤ u → u ≤ 1099511627776 → IntKind.wrap .i64 u = u := fun u a b => by have := wr_i64 u; omega
                    rcases g8 with ⟨k1, k2, k3, k4⟩ | ⟨k1, k2, k3⟩
                    · subst k1
                      obtain ⟨v1, v2⟩ := vi_on (t := (i0c + Go.RowKit.intOf ((Sy.rows l).getD (i0e.toNat * 2) Go.undef))) g6 k3 (by omega) (by omega)
                      obtain ⟨v3, v4⟩ := go_no (t := (i0c + Go.RowKit.intOf ((Sy.rows l).getD (i0e.toNat * 2) Go.undef))) g6 k3 (by omega) (by omega)
                      obtain ⟨v5, v6⟩ := go_yes (t := (i0c + Go.RowKit.intOf ((Sy.rows l).getD (i0e.toNat * 2) Go.undef))) g6 k3 (by omega) (by omega)
                      obtain ⟨v7, v8⟩ := vi_off (l := i0b) (t := (i0c + Go.RowKit.intOf ((Sy.rows l).getD (i0e.toNat * 2) Go.undef))) (by omega) (by omega) (by omega)
                      obtain ⟨v9, v10⟩ := vi_off (l := i0b + ((i0c + Go.RowKit.intOf ((Sy.rows l).getD (i0e.toNat * 2) Go.undef)) - i0a)) (t := (i0c + Go.RowKit.intOf ((Sy.rows l).getD (i0e.toNat * 2) Go.undef))) (by omega) (by omega) (by omega)
                      have w4 := w3 (i0a - i0b - i0d) (by omega) (by omega)
                      by_cases hy : (Go.RowKit.intOf ((Sy.rows l).getD (i0e.toNat * 2 + 1) Go.undef)).tmod 3 = 2
                      · have e2 : ((Go.RowKit.intOf ((Sy.rows l).getD (i0e.toNat * 2 + 1) Go.undef)).tmod 3 == 2) = true := beq_iff_eq.2 hy
                        simp only [w0, w1, w2, w4, e2, v1, v2, v3, v4, v5, v6, v7, v8, v9, v10] at *
                        first
                        | omega
                        | (exfalso; omega)
                        | grind
                      · have e2 : ((Go.RowKit.intOf ((Sy.rows l).getD (i0e.toNat * 2 + 1) Go.undef)).tmod 3 == 2) = false := beq_eq_false_iff_ne.2 hy
                        simp only [w0, w1, w2, w4, e2, v1, v2, v3, v4, v5, v6, v7, v8, v9, v10] at *
                        first
                        | omega
                        | (exfalso; omega)
                        | grind
                    · have k4 : i0f = false := by simpa using k1
                      subst k4 k2
                      obtain ⟨v1, v2⟩ := vi_off (t := (i0c + Go.RowKit.intOf ((Sy.rows l).getD (i0e.toNat * 2) Go.undef))) g6 (by omega) (by omega)
                      have v3 := st_off (t := (i0c + Go.RowKit.intOf ((Sy.rows l).getD (i0e.toNat * 2) Go.undef))) g6 (by omega) (by omega)
                      obtain ⟨v4, v5⟩ := vi_on (a := (i0c + Go.RowKit.intOf ((Sy.rows l).getD (i0e.toNat * 2) Go.undef))) (t := (i0c + Go.RowKit.intOf ((Sy.rows l).getD (i0e.toNat * 2) Go.undef))) g6 (by omega) (by omega) (by omega)
                      have w4 := w3 ((i0c + Go.RowKit.intOf ((Sy.rows l).getD (i0e.toNat * 2) Go.undef)) - i0b - i0d) (by omega) (by omega)
                      simp only [w0, w1, w2, w4, v1, v2, v3, if_true, decide_true, v4, v5] at *
                      first
                      | omega
                      | (exfalso; omega)
                      | grind)
                ·
                 try simp only [hw1]
                 try simp only [hw0]
                 refine ⟨fun h25 => ?_, fun h25 => ?_⟩
                 ·
                  first
                  | exact True.intro
                  | rfl
                  | (
                     obtain ⟨g1, g2, g3, g4, g5, g6, g7, g8⟩ := hi0
                     have ht := typ_rowU hL_l (k := i0e.toNat) (by omega)
                     have hx := okR_u16 hc (k := i0e.toNat * 2) (by omega) ht.1
                     clear hL_l hty ht
                     have w0 : IntKind.wrap .i64 (Go.RowKit.intOf ((Sy.rows l).getD (i0e.toNat * 2) Go.undef)) = Go.RowKit.intOf ((Sy.rows l).getD (i0e.toNat * 2) Go.undef) := by have := wr_i64 (Go.RowKit.intOf ((Sy.rows l).getD (i0e.toNat * 2) Go.undef)); omega
                     have w1 : IntKind.wrap .i64 (i0c + Go.RowKit.intOf ((Sy.rows l).getD (i0e.toNat * 2) Go.undef)) = (i0c + Go.RowKit.intOf ((Sy.rows l).getD (i0e.toNat * 2) Go.undef)) := by have := wr_i64 (i0c + Go.RowKit.intOf ((Sy.rows l).getD (i0e.toNat * 2) Go.undef)); omega
                     have w2 : IntKind.wrap .i64 (i0e + 1) = i0e + 1 := by have := wr_i64 (i0e + 1); omega
                     have w3 : ∀ u, -1099511627776 ≤ u → u ≤ 1099511627776 → IntKind.wrap .i64 u = u := fun u a b => by have := wr_i64 u; omega
                     rcases g8 with ⟨k1, k2, k3, k4⟩ | ⟨k1, k2, k3⟩
                     · subst k1
                       obtain ⟨v1, v2⟩ := vi_on (t := (i0c + Go.RowKit.intOf ((Sy.rows l).getD (i0e.toNat * 2) Go.undef))) g6 k3 (by omega) (by omega)
                       obtain ⟨v3, v4⟩ := go_no (t := (i0c + Go.RowKit.intOf ((Sy.rows l).getD (i0e.toNat * 2) Go.undef))) g6 k3 (by omega) (by omega)
                       obtain ⟨v5, v6⟩ := go_yes (t := (i0c + Go.RowKit.intOf ((Sy.rows l).getD (i0e.toNat * 2) Go.undef))) g6 k3 (by omega) (by omega)
                       obtain ⟨v7, v8⟩ := vi_off (l := i0b) (t := (i0c + Go.RowKit.intOf ((Sy.rows l).getD (i0e.toNat * 2) Go.undef))) (by omega) (by omega) (by omega)
                       obtain ⟨v9, v10⟩ := vi_off (l := i0b + ((i0c + Go.RowKit.intOf ((Sy.rows l).getD (i0e.toNat * 2) Go.undef)) - i0a)) (t := (i0c + Go.RowKit.intOf ((Sy.rows l).getD (i0e.toNat * 2) Go.undef))) (by omega) (by omega) (by omega)
                       have w4 := w3 (i0a - i0b - i0d) (by omega) (by omega)
                       by_cases hy : (Go.RowKit.intOf ((Sy.rows l).getD (i0e.toNat * 2 + 1) Go.undef)).tmod 3 = 2
                       · have e2 : ((Go.RowKit.intOf ((Sy.rows l).getD (i0e.toNat * 2 + 1) Go.undef)).tmod 3 == 2) = true := beq_iff_eq.2 hy
                         simp only [w0, w1, w2, w4, e2, v1, v2, v3, v4, v5, v6, v7, v8, v9, v10] at *
                         first
                         | omega
                         | (exfalso; omega)
                         | grind
                       · have e2 : ((Go.RowKit.intOf ((Sy.rows l).getD (i0e.toNat * 2 + 1) Go.undef)).tmod 3 == 2) = false := beq_eq_false_iff_ne.2 hy
                         simp only [w0, w1, w2, w4, e2, v1, v2, v3, v4, v5, v6, v7, v8, v9, v10] at *
                         first
                         | omega
                         | (exfalso; omega)
                         | grind
                     · have k4 : i0f = false := by simpa using k1
                       subst k4 k2
                       obtain ⟨v1, v2⟩ := vi_off (t := (i0c + Go.RowKit.intOf ((Sy.rows l).getD (i0e.toNat * 2) Go.undef))) g6 (by omega) (by omega)
                       have v3 := st_off (t := (i0c + Go.RowKit.intOf ((Sy.rows l).getD (i0e.toNat * 2) Go.undef))) g6 (by omega) (by omega)
                       obtain ⟨v4, v5⟩ := vi_on (a := (i0c + Go.RowKit.intOf ((Sy.rows l).getD (i0e.toNat * 2) Go.undef))) (t := (i0c + Go.RowKit.intOf ((Sy.rows l).getD (i0e.toNat * 2) Go.undef))) g6 (by omega) (by omega) (by omega)
                       have w4 := w3 ((i0c + Go.RowKit.intOf ((Sy.rows l).getD (i0e.toNat * 2) Go.undef)) - i0b - i0d) (by omega) (by omega)
                       simp only [w0, w1, w2, w4, v1, v2, v3, if_true, decide_true, v4, v5] at *
                       first
                       | omega
                       | (exfalso; omega)
                       | grind)
                 ·
                  try simp only [hw1]
                  try simp only [hw0]
                  refine ⟨?_, fun h26 => ?_⟩
                  ·
                   first
                   | exact True.intro
                   | omega
                   | (
                      obtain ⟨g1, g2, g3, g4, g5, g6, g7, g8⟩ := hi0
                      have ht := typ_rowU hL_l (k := i0e.toNat) (by omega)
                      have hx := okR_u16 hc (k := i0e.toNat * 2) (by omega) ht.1
                      clear hL_l hty ht
                      have w0 : IntKind.wrap .i64 (Go.RowKit.intOf ((Sy.rows l).getD (i0e.toNat * 2) Go.undef)) = Go.RowKit.intOf ((Sy.rows l).getD (i0e.toNat * 2) Go.undef) := by have := wr_i64 (Go.RowKit.intOf ((Sy.rows l).getD (i0e.toNat * 2) Go.undef)); omega
                      have w1 : IntKind.wrap .i64 (i0c + Go.RowKit.intOf ((Sy.rows l).getD (i0e.toNat * 2) Go.undef)) = (i0c + Go.RowKit.intOf ((Sy.rows l).getD (i0e.toNat * 2) Go.undef)) := by have := wr_i64 (i0c + Go.RowKit.intOf ((Sy.rows l).getD (i0e.toNat * 2) Go.undef)); omega
                      have w2 : IntKind.wrap .i64 (i0e + 1) = i0e + 1 := by have := wr_i64 (i0e + 1); omega
                      have w3 : ∀ u, -1099511627776 ≤ u → u ≤ 1099511627776 → IntKind.wrap .i64 u = u := fun u a b => by have := wr_i64 u; omega
                      rcases g8 with ⟨k1, k2, k3, k4⟩ | ⟨k1, k2, k3⟩
                      · subst k1
                        obtain ⟨v1, v2⟩ := vi_on (t := (i0c + Go.RowKit.intOf ((Sy.rows l).getD (i0e.toNat * 2) Go.undef))) g6 k3 (by omega) (by omega)
                        obtain ⟨v3, v4⟩ := go_no (t := (i0c + Go.RowKit.intOf ((Sy.rows l).getD (i0e.toNat * 2) Go.undef))) g6 k3 (by omega) (by omega)
                        obtain ⟨v5, v6⟩ := go_yes (t := (i0c + Go.RowKit.intOf ((Sy.rows l).getD (i0e.toNat * 2) Go.undef))) g6 k3 (by omega) (by omega)
                        obtain ⟨v7, v8⟩ := vi_off (l := i0b) (t := (i0c + Go.RowKit.intOf ((Sy.rows l).getD (i0e.toNat * 2) Go.undef))) (by omega) (by omega) (by omega)
                        obtain ⟨v9, v10⟩ := vi_off (l := i0b + ((i0c + Go.RowKit.intOf ((Sy.rows l).getD (i0e.toNat * 2) Go.undef)) - i0a)) (t := (i0c + Go.RowKit.intOf ((Sy.rows l).getD (i0e.toNat * 2) Go.undef))) (by omega) (by omega) (by omega)
                        have w4 := w3 (i0a - i0b - i0d) (by omega) (by omega)
                        by_cases hy : (Go.RowKit.intOf ((Sy.rows l).getD (i0e.toNat * 2 + 1) Go.undef)).tmod 3 = 2
                        · have e2 : ((Go.RowKit.intOf ((Sy.rows l).getD (i0e.toNat * 2 + 1) Go.undef)).tmod 3 == 2) = true := beq_iff_eq.2 hy
                          simp only [w0, w1, w2, w4, e2, v1, v2, v3, v4, v5, v6, v7, v8, v9, v10] at *
                          first
                          | omega
                          | (exfalso; omega)
                          | grind
                        · have e2 : ((Go.RowKit.intOf ((Sy.rows l).getD (i0e.toNat * 2 + 1) Go.undef)).tmod 3 == 2) = false := beq_eq_false_iff_ne.2 hy
                          simp only [w0, w1, w2, w4, e2, v1, v2, v3, v4, v5, v6, v7, v8, v9, v10] at *
                          first
                          | omega
                          | (exfalso; omega)
                          | grind
                      · have k4 : i0f = false := by simpa using k1
                        subst k4 k2
                        obtain ⟨v1, v2⟩ := vi_off (t := (i0c + Go.RowKit.intOf ((Sy.rows l).getD (i0e.toNat * 2) Go.undef))) g6 (by omega) (by omega)
                        have v3 := st_off (t := (i0c + Go.RowKit.intOf ((Sy.rows l).getD (i0e.toNat * 2) Go.undef))) g6 (by omega) (by omega)
                        obtain ⟨v4, v5⟩ := vi_on (a := (i0c + Go.RowKit.intOf ((Sy.rows l).getD (i0e.toNat * 2) Go.undef))) (t := (i0c + Go.RowKit.intOf ((Sy.rows l).getD (i0e.toNat * 2) Go.undef))) g6 (by omega) (by omega) (by omega)
                        have w4 := w3 ((i0c + Go.RowKit.intOf ((Sy.rows l).getD (i0e.toNat * 2) Go.undef)) - i0b - i0d) (by omega) (by omega)
                        simp only [w0, w1, w2, w4, v1, v2, v3, if_true, decide_true, v4, v5] at *
                        first
                        | omega
                        | (exfalso; omega)
                        | grind)
                  ·
                   try simp only [hw1]
                   try simp only [hw0]
                   refine ⟨fun h27 => ?_, fun h27 => ?_⟩
                   ·
                    first
                    | exact True.intro
                    | rfl
                    | (
                       obtain ⟨g1, g2, g3, g4, g5, g6, g7, g8⟩ := hi0
                       have ht := typ_rowU hL_l (k := i0e.toNat) (by omega)
                       have hx := okR_u16 hc (k := i0e.toNat * 2) (by omega) ht.1
                       clear hL_l hty ht
                       have w0 : IntKind.wrap .i64 (Go.RowKit.intOf ((Sy.rows l).getD (i0e.toNat * 2) Go.undef)) = Go.RowKit.intOf ((Sy.rows l).getD (i0e.toNat * 2) Go.undef) := by have := wr_i64 (Go.RowKit.intOf ((Sy.rows l).getD (i0e.toNat * 2) Go.undef)); omega
                       have w1 : IntKind.wrap .i64 (i0c + Go.RowKit.intOf ((Sy.rows l).getD (i0e.toNat * 2) Go.undef)) = (i0c + Go.RowKit.intOf ((Sy.rows l).getD (i0e.toNat * 2) Go.undef)) := by have := wr_i64 (i0c + Go.RowKit.intOf ((Sy.rows l).getD (i0e.toNat * 2) Go.undef)); omega
                       have w2 : IntKind.wrap .i64 (i0e + 1) = i0e + 1 := by have := wr_i64 (i0e + 1); omega
                       have w3 : ∀ u, -1099511627776 ≤ u → u ≤ 1099511627776 → IntKind.wrap .i64 u = u := fun u a b => by have := wr_i64 u; omega
                       rcases g8 with ⟨k1, k2, k3, k4⟩ | ⟨k1, k2, k3⟩
                       · subst k1
                         obtain ⟨v1, v2⟩ := vi_on (t := (i0c + Go.RowKit.intOf ((Sy.rows l).getD (i0e.toNat * 2) Go.undef))) g6 k3 (by omega) (by omega)
                         obtain ⟨v3, v4⟩ := go_no (t := (i0c + Go.RowKit.intOf ((Sy.rows l).getD (i0e.toNat * 2) Go.undef))) g6 k3 (by omega) (by omega)
                         obtain ⟨v5, v6⟩ := go_yes (t := (i0c + Go.RowKit.intOf ((Sy.rows l).getD (i0e.toNat * 2) Go.undef))) g6 k3 (by omega) (by omega)
                         obtain ⟨v7, v8⟩ := vi_off (l := i0b) (t := (i0c + Go.RowKit.intOf ((Sy.rows l).getD (i0e.toNat * 2) Go.undef))) (by omega) (by omega) (by omega)
                         obtain ⟨v9, v10⟩ := vi_off (l := i0b + ((i0c + Go.RowKit.intOf ((Sy.rows l).getD (i0e.toNat * 2) Go.undef)) - i0a)) (t := (i0c + Go.RowKit.intOf ((Sy.rows l).getD (i0e.toNat * 2) Go.undef))) (by omega) (by omega) (by omega)
                         have w4 := w3 (i0a - i0b - i0d) (by omega) (by omega)
                         by_cases hy : (Go.RowKit.intOf ((Sy.rows l).getD (i0e.toNat * 2 + 1) Go.undef)).tmod 3 = 2
                         · have e2 : ((Go.RowKit.intOf ((Sy.rows l).getD (i0e.toNat * 2 + 1) Go.undef)).tmod 3 == 2) = true := beq_iff_eq.2 hy
                           simp only [w0, w1, w2, w4, e2, v1, v2, v3, v4, v5, v6, v7, v8, v9, v10] at *
                           first
                           | omega
                           | (exfalso; omega)
                           | grind
                         · have e2 : ((Go.RowKit.intOf ((Sy.rows l).getD (i0e.toNat * 2 + 1) Go.undef)).tmod 3 == 2) = false := beq_eq_false_iff_ne.2 hy
                           simp only [w0, w1, w2, w4, e2, v1, v2, v3, v4, v5, v6, v7, v8, v9, v10] at *
                           first
                           | omega
                           | (exfalso; omega)
                           | grind
                       · have k4 : i0f = false := by simpa using k1
                         subst k4 k2
                         obtain ⟨v1, v2⟩ := vi_off (t := (i0c + Go.RowKit.intOf ((Sy.rows l).getD (i0e.toNat * 2) Go.undef))) g6 (by omega) (by omega)
                         have v3 := st_off (t := (i0c + Go.RowKit.intOf ((Sy.rows l).getD (i0e.toNat * 2) Go.undef))) g6 (by omega) (by omega)
                         obtain ⟨v4, v5⟩ := vi_on (a := (i0c + Go.RowKit.intOf ((Sy.rows l).getD (i0e.toNat * 2) Go.undef))) (t := (i0c + Go.RowKit.intOf ((Sy.rows l).getD (i0e.toNat * 2) Go.undef))) g6 (by omega) (by omega) (by omega)
                         have w4 := w3 ((i0c + Go.RowKit.intOf ((Sy.rows l).getD (i0e.toNat * 2) Go.undef)) - i0b - i0d) (by omega) (by omega)
                         simp only [w0, w1, w2, w4, v1, v2, v3, if_true, decide_true, v4, v5] at *
                         first
                         | omega
                         | (exfalso; omega)
                         | grind)
                   ·
                    try simp only [hw1]
                    try simp only [hw0]
                    refine ⟨fun h28 => ?_, fun h28 => ?_⟩
                    ·
                     first
                     | exact True.intro
                     | rfl
                     | (
                        obtain ⟨g1, g2, g3, g4, g5, g6, g7, g8⟩ := hi0
                        have ht := typ_rowU hL_l (k := i0e.toNat) (by omega)
                        have hx := okR_u16 hc (k := i0e.toNat * 2) (by omega) ht.1
                        clear hL_l hty ht
                        have w0 : IntKind.wrap .i64 (Go.RowKit.intOf ((Sy.rows l).getD (i0e.toNat * 2) Go.undef)) = Go.RowKit.intOf ((Sy.rows l).getD (i0e.toNat * 2) Go.undef) := by have := wr_i64 (Go.RowKit.intOf ((Sy.rows l).getD (i0e.toNat * 2) Go.undef)); omega
                        have w1 : IntKind.wrap .i64 (i0c + Go.RowKit.intOf ((Sy.rows l).getD (i0e.toNat * 2) Go.undef)) = (i0c + Go.RowKit.intOf ((Sy.rows l).getD (i0e.toNat * 2) Go.undef)) := by have := wr_i64 (i0c + Go.RowKit.intOf ((Sy.rows l).getD (i0e.toNat * 2) Go.undef)); omega
                        have w2 : IntKind.wrap .i64 (i0e + 1) = i0e + 1 := by have := wr_i64 (i0e + 1); omega
                        have w3 : ∀ u, -1099511627776 ≤ u → u ≤ 1099511627776 → IntKind.wrap .i64 u = u := fun u a b => by have := wr_i64 u; omega
                        rcases g8 with ⟨k1, k2, k3, k4⟩ | ⟨k1, k2, k3⟩
                        · subst k1
                          obtain ⟨v1, v2⟩ := vi_on (t := (i0c + Go.RowKit.intOf ((Sy.rows l).getD (i0e.toNat * 2) Go.undef))) g6 k3 (by omega) (by omega)
                          obtain ⟨v3, v4⟩ := go_no (t := (i0c + Go.RowKit.intOf ((Sy.rows l).getD (i0e.toNat * 2) Go.undef))) g6 k3 (by omega) (by omega)
                          obtain ⟨v5, v6⟩ := go_yes (t := (i0c + Go.RowKit.intOf ((Sy.rows l).getD (i0e.toNat * 2) Go.undef))) g6 k3 (by omega) (by omega)
                          obtain ⟨v7, v8⟩ := vi_off (l := i0b) (t := (i0c + Go.RowKit.intOf ((Sy.rows l).getD (i0e.toNat * 2) Go.undef))) (by omega) (by omega) (by omega)
                          obtain ⟨v9, v10⟩ := vi_off (l := i0b + ((i0c + Go.RowKit.intOf ((Sy.rows l).getD (i0e.toNat * 2) Go.undef)) - i0a)) (t := (i0c + Go.RowKit.intOf ((Sy.rows l).getD (i0e.toNat * 2) Go.undef))) (by omega) (by omega) (by omega)
                          have w4 := w3 (i0a - i0b - i0d) (by omega) (by omega)
                          by_cases hy : (Go.RowKit.intOf ((Sy.rows l).getD (i0e.toNat * 2 + 1) Go.undef)).tmod 3 = 2
                          · have e2 : ((Go.RowKit.intOf ((Sy.rows l).getD (i0e.toNat * 2 + 1) Go.undef)).tmod 3 == 2) = true := beq_iff_eq.2 hy
                            simp only [w0, w1, w2, w4, e2, v1, v2, v3, v4, v5, v6, v7, v8, v9, v10] at *
                            first
                            | omega
                            | (exfalso; omega)
                            | grind
                          · have e2 : ((Go.RowKit.intOf ((Sy.rows l).getD (i0e.toNat * 2 + 1) Go.undef)).tmod 3 == 2) = false := beq_eq_false_iff_ne.2 hy
                            simp only [w0, w1, w2, w4, e2, v1, v2, v3, v4, v5, v6, v7, v8, v9, v10] at *
                            first
                            | omega
                            | (exfalso; omega)
                            | grind
                        · have k4 : i0f = false := by simpa using k1
                          subst k4 k2
                          obtain ⟨v1, v2⟩ := vi_off (t := (i0c + Go.RowKit.intOf ((Sy.rows l).getD (i0e.toNat * 2) Go.undef))) g6 (by omega) (by omega)
                          have v3 := st_off (t := (i0c + Go.RowKit.intOf ((Sy.rows l).getD (i0e.toNat * 2) Go.undef))) g6 (by omega) (by omega)
                          obtain ⟨v4, v5⟩ := vi_on (a := (i0c + Go.RowKit.intOf ((Sy.rows l).getD (i0e.toNat * 2) Go.undef))) (t := (i0c + Go.RowKit.intOf ((Sy.rows l).getD (i0e.toNat * 2) Go.undef))) g6 (by omega) (by omega) (by omega)
                          have w4 := w3 ((i0c + Go.RowKit.intOf ((Sy.rows l).getD (i0e.toNat * 2) Go.undef)) - i0b - i0d) (by omega) (by omega)
                          simp only [w0, w1, w2, w4, v1, v2, v3, if_true, decide_true, v4, v5] at *
                          first
                          | omega
                          | (exfalso; omega)
                          | grind)
                    ·
                     try simp only [hw1]
                     try simp only [hw0]
                     refine ⟨fun h29 => ?_, fun h29 => ?_⟩
                     ·
                      first
                      | exact True.intro
                      | rfl
                      | (
                         obtain ⟨g1, g2, g3, g4, g5, g6, g7, g8⟩ := hi0
                         have ht := typ_rowU hL_l (k := i0e.toNat) (by omega)
                         have hx := okR_u16 hc (k := i0e.toNat * 2) (by omega) ht.1
                         clear hL_l hty ht
                         have w0 : IntKind.wrap .i64 (Go.RowKit.intOf ((Sy.rows l).getD (i0e.toNat * 2) Go.undef)) = Go.RowKit.intOf ((Sy.rows l).getD (i0e.toNat * 2) Go.undef) := by have := wr_i64 (Go.RowKit.intOf ((Sy.rows l).getD (i0e.toNat * 2) Go.undef)); omega
                         have w1 : IntKind.wrap .i64 (i0c + Go.RowKit.intOf ((Sy.rows l).getD (i0e.toNat * 2) Go.undef)) = (i0c + Go.RowKit.intOf ((Sy.rows l).getD (i0e.toNat * 2) Go.undef)) := by have := wr_i64 (i0c + Go.RowKit.intOf ((Sy.rows l).getD (i0e.toNat * 2) Go.undef)); omega
                         have w2 : IntKind.wrap .i64 (i0e + 1) = i0e + 1 := by have := wr_i64 (i0e + 1); omega
                         have w3 : ∀ u, -1099511627776 ≤ u → u ≤ 1099511627776 → IntKind.wrap .i64 u = u := fun u a b => by have := wr_i64 u; omega
                         rcases g8 with ⟨k1, k2, k3, k4⟩ | ⟨k1, k2, k3⟩
                         · subst k1
                           obtain ⟨v1, v2⟩ := vi_on (t := (i0c + Go.RowKit.intOf ((Sy.rows l).getD (i0e.toNat * 2) Go.undef))) g6 k3 (by omega) (by omega)
                           obtain ⟨v3, v4⟩ := go_no (t := (i0c + Go.RowKit.intOf ((Sy.rows l).getD (i0e.toNat * 2) Go.undef))) g6 k3 (by omega) (by omega)
                           obtain ⟨v5, v6⟩ := go_yes (t := (i0c + Go.RowKit.intOf ((Sy.rows l).getD (i0e.toNat * 2) Go.undef))) g6 k3 (by omega) (by omega)
                           obtain ⟨v7, v8⟩ := vi_off (l := i0b) (t := (i0c + Go.RowKit.intOf ((Sy.rows l).getD (i0e.toNat * 2) Go.undef))) (by omega) (by omega) (by omega)
                           obtain ⟨v9, v10⟩ := vi_off (l := i0b + ((i0c + Go.RowKit.intOf ((Sy.rows l).getD (i0e.toNat * 2) Go.undef)) - i0a)) (t := (i0c + Go.RowKit.intOf ((Sy.rows l).getD (i0e.toNat * 2) Go.undef))) (by omega) (by omega) (by omega)
                           have w4 := w3 (i0a - i0b - i0d) (by omega) (by omega)
                           by_cases hy : (Go.RowKit.intOf ((Sy.rows l).getD (i0e.toNat * 2 + 1) Go.undef)).tmod 3 = 2
                           · have e2 : ((Go.RowKit.intOf ((Sy.rows l).getD (i0e.toNat * 2 + 1) Go.undef)).tmod 3 == 2) = true := beq_iff_eq.2 hy
                             simp only [w0, w1, w2, w4, e2, v1, v2, v3, v4, v5, v6, v7, v8, v9, v10] at *
                             first
                             | omega
                             | (exfalso; omega)
                             | grind
                           · have e2 : ((Go.RowKit.intOf ((Sy.rows l).getD (i0e.toNat * 2 + 1) Go.undef)).tmod 3 == 2) = false := beq_eq_false_iff_ne.2 hy
                             simp only [w0, w1, w2, w4, e2, v1, v2, v3, v4, v5, v6, v7, v8, v9, v10] at *
                             first
                             | omega
                             | (exfalso; omega)
                             | grind
                         · have k4 : i0f = false := by simpa using k1
                           subst k4 k2
                           obtain ⟨v1, v2⟩ := vi_off (t := (i0c + Go.RowKit.intOf ((Sy.rows l).getD (i0e.toNat * 2) Go.undef))) g6 (by omega) (by omega)
                           have v3 := st_off (t := (i0c + Go.RowKit.intOf ((Sy.rows l).getD (i0e.toNat * 2) Go.undef))) g6 (by omega) (by omega)
                           obtain ⟨v4, v5⟩ := vi_on (a := (i0c + Go.RowKit.intOf ((Sy.rows l).getD (i0e.toNat * 2) Go.undef))) (t := (i0c + Go.RowKit.intOf ((Sy.rows l).getD (i0e.toNat * 2) Go.undef))) g6 (by omega) (by omega) (by omega)
                           have w4 := w3 ((i0c + Go.RowKit.intOf ((Sy.rows l).getD (i0e.toNat * 2) Go.undef)) - i0b - i0d) (by omega) (by omega)
                           simp only [w0, w1, w2, w4, v1, v2, v3, if_true, decide_true, v4, v5] at *
                           first
                           | omega
                           | (exfalso; omega)
                           | grind)
                     ·
                      try simp only [hw1]
                      try simp only [hw0]
                      refine ⟨fun h30 => ?_, fun h30 => ?_⟩
                      ·
                       first
                       | exact True.intro
                       | rfl
                       | (
                          obtain ⟨g1, g2, g3, g4, g5, g6, g7, g8⟩ := hi0
                          have ht := typ_rowU hL_l (k := i0e.toNat) (by omega)
                          have hx := okR_u16 hc (k := i0e.toNat * 2) (by omega) ht.1
                          clear hL_l hty ht
                          have w0 : IntKind.wrap .i64 (Go.RowKit.intOf ((Sy.rows l).getD (i0e.toNat * 2) Go.undef)) = Go.RowKit.intOf ((Sy.rows l).getD (i0e.toNat * 2) Go.undef) := by have := wr_i64 (Go.RowKit.intOf ((Sy.rows l).getD (i0e.toNat * 2) Go.undef)); omega
                          have w1 : IntKind.wrap .i64 (i0c + Go.RowKit.intOf ((Sy.rows l).getD (i0e.toNat * 2) Go.undef)) = (i0c + Go.RowKit.intOf ((Sy.rows l).getD (i0e.toNat * 2) Go.undef)) := by have := wr_i64 (i0c + Go.RowKit.intOf ((Sy.rows l).getD (i0e.toNat * 2) Go.undef)); omega
                          have w2 : IntKind.wrap .i64 (i0e + 1) = i0e + 1 := by have := wr_i64 (i0e + 1); omega
                          have w3 : ∀ u, -1099511627776 ≤ u → u ≤ 1099511627776 → IntKind.wrap .i64 u = u := fun u a b => by have := wr_i64 u; omega
                          rcases g8 with ⟨k1, k2, k3, k4⟩ | ⟨k1, k2, k3⟩
                          · subst k1
                            obtain ⟨v1, v2⟩ := vi_on (t := (i0c + Go.RowKit.intOf ((Sy.rows l).getD (i0e.toNat * 2) Go.undef))) g6 k3 (by omega) (by omega)
                            obtain ⟨v3, v4⟩ := go_no (t := (i0c + Go.RowKit.intOf ((Sy.rows l).getD (i0e.toNat * 2) Go.undef))) g6 k3 (by omega) (by omega)
                            obtain ⟨v5, v6⟩ := go_yes (t := (i0c + Go.RowKit.intOf ((Sy.rows l).getD (i0e.toNat * 2) Go.undef))) g6 k3 (by omega) (by omega)
                            obtain ⟨v7, v8⟩ := vi_off (l := i0b) (t := (i0c + Go.RowKit.intOf ((Sy.rows l).getD (i0e.toNat * 2) Go.undef))) (by omega) (by omega) (by omega)
                            obtain ⟨v9, v10⟩ := vi_off (l := i0b + ((i0c + Go.RowKit.intOf ((Sy.rows l).getD (i0e.toNat * 2) Go.undef)) - i0a)) (t := (i0c + Go.RowKit.intOf ((Sy.rows l).getD (i0e.toNat * 2) Go.undef))) (by omega) (by omega) (by omega)
                            have w4 := w3 (i0a - i0b - i0d) (by omega) (by omega)
                            by_cases hy : (Go.RowKit.intOf ((Sy.rows l).getD (i0e.toNat * 2 + 1) Go.undef)).tmod 3 = 2
                            · have e2 : ((Go.RowKit.intOf ((Sy.rows l).getD (i0e.toNat * 2 + 1) Go.undef)).tmod 3 == 2) = true := beq_iff_eq.2 hy
                              simp only [w0, w1, w2, w4, e2, v1, v2, v3, v4, v5, v6, v7, v8, v9, v10] at *
                              first
                              | omega
                              | (exfalso; omega)
                              | grind
                            · have e2 : ((Go.RowKit.intOf ((Sy.rows l).getD (i0e.toNat * 2 + 1) Go.undef)).tmod 3 == 2) = false := beq_eq_false_iff_ne.2 hy
                              simp only [w0, w1, w2, w4, e2, v1, v2, v3, v4, v5, v6, v7, v8, v9, v10] at *
                              first
                              | omega
                              | (exfalso; omega)
                              | grind
                          · have k4 : i0f = false := by simpa using k1
                            subst k4 k2
                            obtain ⟨v1, v2⟩ := vi_off (t := (i0c + Go.RowKit.intOf ((Sy.rows l).getD (i0e.toNat * 2) Go.undef))) g6 (by omega) (by omega)
                            have v3 := st_off (t := (i0c + Go.RowKit.intOf ((Sy.rows l).getD (i0e.toNat * 2) Go.undef))) g6 (by omega) (by omega)
                            obtain ⟨v4, v5⟩ := vi_on (a := (i0c + Go.RowKit.intOf ((Sy.rows l).getD (i0e.toNat * 2) Go.undef))) (t := (i0c + Go.RowKit.intOf ((Sy.rows l).getD (i0e.toNat * 2) Go.undef))) g6 (by omega) (by omega) (by omega)
                            have w4 := w3 ((i0c + Go.RowKit.intOf ((Sy.rows l).getD (i0e.toNat * 2) Go.undef)) - i0b - i0d) (by omega) (by omega)
                            simp only [w0, w1, w2, w4, v1, v2, v3, if_true, decide_true, v4, v5] at *
                            first
                            | omega
                            | (exfalso; omega)
                            | grind)
                      ·
                       have wf6 := wr_i64 (i0e + 1)
                       try simp only [hw1]
                       try simp only [hw0]
                       refine ⟨?_, ?_⟩
                       ·
                        obtain ⟨g1, g2, g3, g4, g5, g6, g7, g8⟩ := hi0
                        have ht := typ_rowU hL_l (k := i0e.toNat) (by omega)
                        have hx := okR_u16 hc (k := i0e.toNat * 2) (by omega) ht.1
                        clear hL_l hty ht
                        have w0 : IntKind.wrap .i64 (Go.RowKit.intOf ((Sy.rows l).getD (i0e.toNat * 2) Go.undef)) = Go.RowKit.intOf ((Sy.rows l).getD (i0e.toNat * 2) Go.undef) := by have := wr_i64 (Go.RowKit.intOf ((Sy.rows l).getD (i0e.toNat * 2) Go.undef)); omega
                        have w1 : IntKind.wrap .i64 (i0c + Go.RowKit.intOf ((Sy.rows l).getD (i0e.toNat * 2) Go.undef)) = (i0c + Go.RowKit.intOf ((Sy.rows l).getD (i0e.toNat * 2) Go.undef)) := by have := wr_i64 (i0c + Go.RowKit.intOf ((Sy.rows l).getD (i0e.toNat * 2) Go.undef)); omega
                        have w2 : IntKind.wrap .i64 (i0e + 1) = i0e + 1 := by have := wr_i64 (i0e + 1); omega
                        have w3 : ∀ u, -1099511627776 ≤ u → u ≤ 1099511627776 → IntKind.wrap .i64 u = u := fun u a b => by have := wr_i64 u; omega
                        rcases g8 with ⟨k1, k2, k3, k4⟩ | ⟨k1, k2, k3⟩
                        · subst k1
                          obtain ⟨v1, v2⟩ := vi_on (t := (i0c + Go.RowKit.intOf ((Sy.rows l).getD (i0e.toNat * 2) Go.undef))) g6 k3 (by omega) (by omega)
                          obtain ⟨v3, v4⟩ := go_no (t := (i0c + Go.RowKit.intOf ((Sy.rows l).getD (i0e.toNat * 2) Go.undef))) g6 k3 (by omega) (by omega)
                          obtain ⟨v5, v6⟩ := go_yes (t := (i0c + Go.RowKit.intOf ((Sy.rows l).getD (i0e.toNat * 2) Go.undef))) g6 k3 (by omega) (by omega)
                          obtain ⟨v7, v8⟩ := vi_off (l := i0b) (t := (i0c + Go.RowKit.intOf ((Sy.rows l).getD (i0e.toNat * 2) Go.undef))) (by omega) (by omega) (by omega)
                          obtain ⟨v9, v10⟩ := vi_off (l := i0b + ((i0c + Go.RowKit.intOf ((Sy.rows l).getD (i0e.toNat * 2) Go.undef)) - i0a)) (t := (i0c + Go.RowKit.intOf ((Sy.rows l).getD (i0e.toNat * 2) Go.undef))) (by omega) (by omega) (by omega)
                          have w4 := w3 (i0a - i0b - i0d) (by omega) (by omega)
                          by_cases hy : (Go.RowKit.intOf ((Sy.rows l).getD (i0e.toNat * 2 + 1) Go.undef)).tmod 3 = 2
                          · have e2 : ((Go.RowKit.intOf ((Sy.rows l).getD (i0e.toNat * 2 + 1) Go.undef)).tmod 3 == 2) = true := beq_iff_eq.2 hy
                            simp only [w0, w1, w2, w4, e2, v1, v2, v3, v4, v5, v6, v7, v8, v9, v10] at *
                            first
                            | omega
                            | (exfalso; omega)
                            | grind
                          · have e2 : ((Go.RowKit.intOf ((Sy.rows l).getD (i0e.toNat * 2 + 1) Go.undef)).tmod 3 == 2) = false := beq_eq_false_iff_ne.2 hy
                            simp only [w0, w1, w2, w4, e2, v1, v2, v3, v4, v5, v6, v7, v8, v9, v10] at *
                            first
                            | omega
                            | (exfalso; omega)
                            | grind
                        · have k4 : i0f = false := by simpa using k1
                          subst k4 k2
                          obtain ⟨v1, v2⟩ := vi_off (t := (i0c + Go.RowKit.intOf ((Sy.rows l).getD (i0e.toNat * 2) Go.undef))) g6 (by omega) (by omega)
                          have v3 := st_off (t := (i0c + Go.RowKit.intOf ((Sy.rows l).getD (i0e.toNat * 2) Go.undef))) g6 (by omega) (by omega)
                          obtain ⟨v4, v5⟩ := vi_on (a := (i0c + Go.RowKit.intOf ((Sy.rows l).getD (i0e.toNat * 2) Go.undef))) (t := (i0c + Go.RowKit.intOf ((Sy.rows l).getD (i0e.toNat * 2) Go.undef))) g6 (by omega) (by omega) (by omega)
                          have w4 := w3 ((i0c + Go.RowKit.intOf ((Sy.rows l).getD (i0e.toNat * 2) Go.undef)) - i0b - i0d) (by omega) (by omega)
                          simp only [w0, w1, w2, w4, v1, v2, v3, if_true, decide_true, v4, v5] at *
                          first
                          | omega
                          | (exfalso; omega)
                          | grind
                       ·
                        omega
     ·
      first
      | exact True.intro
      | rfl
      | (
         obtain ⟨g1, g2, g3, g4, g5, g6, g7, g8⟩ := hi0
         have ht := typ_rowU hL_l (k := i0e.toNat) (by omega)
         have hx := okR_u16 hc (k := i0e.toNat * 2) (by omega) ht.1
         clear hL_l hty ht
         have w0 : IntKind.wrap .i64 (Go.RowKit.intOf ((Sy.rows l).getD (i0e.toNat * 2) Go.undef)) = Go.RowKit.intOf ((Sy.rows l).getD (i0e.toNat * 2) Go.undef) := by have := wr_i64 (Go.RowKit.intOf ((Sy.rows l).getD (i0e.toNat * 2) Go.undef)); omega
         have w1 : IntKind.wrap .i64 (i0c + Go.RowKit.intOf ((Sy.rows l).getD (i0e.toNat * 2) Go.undef)) = (i0c + Go.RowKit.intOf ((Sy.rows l).getD (i0e.toNat * 2) Go.undef)) := by have := wr_i64 (i0c + Go.RowKit.intOf ((Sy.rows l).getD (i0e.toNat * 2) Go.undef)); omega
         have w2 : IntKind.wrap .i64 (i0e + 1) = i0e + 1 := by have := wr_i64 (i0e + 1); omega
         have w3 : ∀ u, -1099511627776 ≤ u → u ≤ 1099511627776 → IntKind.wrap .i64 u = u := fun u a b => by have := wr_i64 u; omega
         rcases g8 with ⟨k1, k2, k3, k4⟩ | ⟨k1, k2, k3⟩
         · subst k1
           obtain ⟨v1, v2⟩ := vi_on (t := (i0c + Go.RowKit.intOf ((Sy.rows l).getD (i0e.toNat * 2) Go.undef))) g6 k3 (by omega) (by omega)
           obtain ⟨v3, v4⟩ := go_no (t := (i0c + Go.RowKit.intOf ((Sy.rows l).getD (i0e.toNat * 2) Go.undef))) g6 k3 (by omega) (by omega)
           obtain ⟨v5, v6⟩ := go_yes (t := (i0c + Go.RowKit.intOf ((Sy.rows l).getD (i0e.toNat * 2) Go.undef))) g6 k3 (by omega) (by omega)
           obtain ⟨v7, v8⟩ := vi_off (l := i0b) (t := (i0c + Go.RowKit.intOf ((Sy.rows l).getD (i0e.toNat * 2) Go.undef))) (by omega) (by omega) (by omega)
           obtain ⟨v9, v10⟩ := vi_off (l := i0b + ((i0c + Go.RowKit.intOf ((Sy.rows l).getD (i0e.toNat * 2) Go.undef)) - i0a)) (t := (i0c + Go.RowKit.intOf ((Sy.rows l).getD (i0e.toNat * 2) Go.undef))) (by omega) (by omega) (by omega)
           have w4 := w3 (i0a - i0b - i0d) (by omega) (by omega)
           by_cases hy : (Go.RowKit.intOf ((Sy.rows l).getD (i0e.toNat * 2 + 1) Go.undef)).tmod 3 = 2
           · have e2 : ((Go.RowKit.intOf ((Sy.rows l).getD (i0e.toNat * 2 + 1) Go.undef)).tmod 3 == 2) = true := beq_iff_eq.2 hy
             simp only [w0, w1, w2, w4, e2, v1, v2, v3, v4, v5, v6, v7, v8, v9, v10] at *
             first
             | omega
             | (exfalso; omega)
             | grind
           · have e2 : ((Go.RowKit.intOf ((Sy.rows l).getD (i0e.toNat * 2 + 1) Go.undef)).tmod 3 == 2) = false := beq_eq_false_iff_ne.2 hy
             simp only [w0, w1, w2, w4, e2, v1, v2, v3, v4, v5, v6, v7, v8, v9, v10] at *
             first
             | omega
             | (exfalso; omega)
             | grind
         · have k4 : i0f = false := by simpa using k1
           subst k4 k2
           obtain ⟨v1, v2⟩ := vi_off (t := (i0c + Go.RowKit.intOf ((Sy.rows l).getD (i0e.toNat * 2) Go.undef))) g6 (by omega) (by omega)
           have v3 := st_off (t := (i0c + Go.RowKit.intOf ((Sy.rows l).getD (i0e.toNat * 2) Go.undef))) g6 (by omega) (by omega)
           obtain ⟨v4, v5⟩ := vi_on (a := (i0c + Go.RowKit.intOf ((Sy.rows l).getD (i0e.toNat * 2) Go.undef))) (t := (i0c + Go.RowKit.intOf ((Sy.rows l).getD (i0e.toNat * 2) Go.undef))) g6 (by omega) (by omega) (by omega)
           have w4 := w3 ((i0c + Go.RowKit.intOf ((Sy.rows l).getD (i0e.toNat * 2) Go.undef)) - i0b - i0d) (by omega) (by omega)
           simp only [w0, w1, w2, w4, v1, v2, v3, if_true, decide_true, v4, v5] at *
           first
           | omega
           | (exfalso; omega)
           | grind)
    ·
     first
     | exact True.intro
     | rfl
     | (
        obtain ⟨g1, g2, g3, g4, g5, g6, g7, g8⟩ := hi0
        have ht := typ_rowU hL_l (k := i0e.toNat) (by omega)
        have hx := okR_u16 hc (k := i0e.toNat * 2) (by omega) ht.1
        clear hL_l hty ht
        have w0 : IntKind.wrap .i64 (Go.RowKit.intOf ((Sy.rows l).getD (i0e.toNat * 2) Go.undef)) = Go.RowKit.intOf ((Sy.rows l).getD (i0e.toNat * 2) Go.undef) := by have := wr_i64 (Go.RowKit.intOf ((Sy.rows l).getD (i0e.toNat * 2) Go.undef)); omega
        have w1 : IntKind.wrap .i64 (i0c + Go.RowKit.intOf ((Sy.rows l).getD (i0e.toNat * 2) Go.undef)) = (i0c + Go.RowKit.intOf ((Sy.rows l).getD (i0e.toNat * 2) Go.undef)) := by have := wr_i64 (i0c + Go.RowKit.intOf ((Sy.rows l).getD (i0e.toNat * 2) Go.undef)); omega
        have w2 : IntKind.wrap .i64 (i0e + 1) = i0e + 1 := by have := wr_i64 (i0e + 1); omega
        have w3 : ∀ u, -1099511627776 ≤ u → u ≤ 1099511627776 → IntKind.wrap .i64 u = u := fun u a b => by have := wr_i64 u; omega
        rcases g8 with ⟨k1, k2, k3, k4⟩ | ⟨k1, k2, k3⟩
        · subst k1
          obtain ⟨v1, v2⟩ := vi_on (t := (i0c + Go.RowKit.intOf ((Sy.rows l).getD (i0e.toNat * 2) Go.undef))) g6 k3 (by omega) (by omega)
          obtain ⟨v3, v4⟩ := go_no (t := (i0c + Go.RowKit.intOf ((Sy.rows l).getD (i0e.toNat * 2) Go.undef))) g6 k3 (by omega) (by omega)
          obtain ⟨v5, v6⟩ := go_yes (t := (i0c + Go.RowKit.intOf ((Sy.rows l).getD (i0e.toNat * 2) Go.undef))) g6 k3 (by omega) (by omega)
          obtain ⟨v7, v8⟩ := vi_off (l := i0b) (t := (i0c + Go.RowKit.intOf ((Sy.rows l).getD (i0e.toNat * 2) Go.undef))) (by omega) (by omega) (by omega)
          obtain ⟨v9, v10⟩ := vi_off (l := i0b + ((i0c + Go.RowKit.intOf ((Sy.rows l).getD (i0e.toNat * 2) Go.undef)) - i0a)) (t := (i0c + Go.RowKit.intOf ((Sy.rows l).getD (i0e.toNat * 2) Go.undef))) (by omega) (by omega) (by omega)
          have w4 := w3 (i0a - i0b - i0d) (by omega) (by omega)
          by_cases hy : (Go.RowKit.intOf ((Sy.rows l).getD (i0e.toNat * 2 + 1) Go.undef)).tmod 3 = 2
          · have e2 : ((Go.RowKit.intOf ((Sy.rows l).getD (i0e.toNat * 2 + 1) Go.undef)).tmod 3 == 2) = true := beq_iff_eq.2 hy
            simp only [w0, w1, w2, w4, e2, v1, v2, v3, v4, v5, v6, v7, v8, v9, v10] at *
            first
            | omega
            | (exfalso; omega)
            | grind
          · have e2 : ((Go.RowKit.intOf ((Sy.rows l).getD (i0e.toNat * 2 + 1) Go.undef)).tmod 3 == 2) = false := beq_eq_false_iff_ne.2 hy
            simp only [w0, w1, w2, w4, e2, v1, v2, v3, v4, v5, v6, v7, v8, v9, v10] at *
            first
            | omega
            | (exfalso; omega)
            | grind
        · have k4 : i0f = false := by simpa using k1
          subst k4 k2
          obtain ⟨v1, v2⟩ := vi_off (t := (i0c + Go.RowKit.intOf ((Sy.rows l).getD (i0e.toNat * 2) Go.undef))) g6 (by omega) (by omega)
          have v3 := st_off (t := (i0c + Go.RowKit.intOf ((Sy.rows l).getD (i0e.toNat * 2) Go.undef))) g6 (by omega) (by omega)
          obtain ⟨v4, v5⟩ := vi_on (a := (i0c + Go.RowKit.intOf ((Sy.rows l).getD (i0e.toNat * 2) Go.undef))) (t := (i0c + Go.RowKit.intOf ((Sy.rows l).getD (i0e.toNat * 2) Go.undef))) g6 (by omega) (by omega) (by omega)
          have w4 := w3 ((i0c + Go.RowKit.intOf ((Sy.rows l).getD (i0e.toNat * 2) Go.undef)) - i0b - i0d) (by omega) (by omega)
          simp only [w0, w1, w2, w4, v1, v2, v3, if_true, decide_true, v4, v5] at *
          first
          | omega
          | (exfalso; omega)
          | grind)
theorem pg_wHolds : pc_wHolds.Good Tryd.prog syG (pE [] [] [] []) := good_of_walk (Γ := ⟨[pc_sure27, pc_stop, pc_go, pc_view], syG, [], [], []⟩) (ρ := pE [] [] [] []) sym wHolds_w rfl (fun _ _ _ _ => (ok_cons (Con.Good.env pg_sure27 _ _ _ _) (ok_cons (Con.Good.env pg_stop _ _ _ _) (ok_cons (Con.Good.env pg_go _ _ _ _) (ok_cons (Con.Good.env pg_view _ _ _ _) ok_nil))))) (fun l hc hty => wHolds_h l hc hty)
end Go.Proofs.YtceecflpnfpajaaDoor
