import Derived.Test.YtflckmhlobpfiaaDoorSycqb
import Derived.Test.YtflckmhlobpfiaaDoorZ13dqb
/-
  Layer 13 by the second engine: what the laws hand over; SpanVotes.
-/
namespace Go.Proofs.YtflckmhlobpfiaaDoor
open Go.RowKit Go.Extern.Stop Go.Stop Go.Extern Go.Proofs.YtflckmhlobpfiaaDoor.Sy
set_option linter.unusedVariables false
set_option linter.unusedSimpArgs false
noncomputable def eqV (a b : Value) : Bool := @decide (a = b) (Classical.propDecidable _)
theorem eqV_iff {a b : Value} : eqV a b = true ↔ a = b := @decide_eq_true_iff _ (Classical.propDecidable _)
theorem rows_tup (a : Array Value) : Sy.rows (.tuple a) = a.toList := rfl
def tkV (l : Value) (n : Nat) : Value := .tuple ((Sy.rows l).take (n * 2)).toArray
def midM (a b : Int) : Int := IntKind.wrap .i64 (a + IntKind.wrap .i64 (IntKind.wrap .u64 (Int.tdiv (IntKind.wrap .u64 (IntKind.wrap .u64 b - IntKind.wrap .u64 a)) 2)))
noncomputable def weI : Nat → List Value → Int
  | 12, [.int _ a, .int _ b] => midM a b
  | 13, [.int _ a] => satE a
  | 14, [.int _ a] => svE a
  | 15, [.int _ a] => erE a
  | i, l => wdI i l
noncomputable def weB : Nat → List Value → Bool
  | 3, [x, y, .int _ n] => eqV x (tkV y n.toNat)
  | i, l => wdB i l
noncomputable def weV : Nat → List Value → Value
  | i, l => wdV i l
noncomputable abbrev weE (iv : List Int) (bv : List Bool) (vv : List Value) (sv : List ByteArray) : Env := { iv := iv, bv := bv, vv := vv, sv := sv, fi := weI, fb := weB, fv := weV, et := 141 }
theorem weup : Agree 12 3 0 (wdE [] [] [] []) (weE [] [] [] []) := ⟨rfl, (by
    intro f hf
    funext l
    show weI f l = wdI f l
    unfold weI
    split <;> first | rfl | omega), (by
    intro f hf
    funext l
    show weB f l = wdB f l
    unfold weB
    split <;> first | rfl | omega), (by
    intro f hf
    funext l
    show weV f l = wdV f l
    unfold weV
    split <;> first | rfl | omega)⟩
theorem wei_of (l : Value) (k1 : IntKind) (n : Int) (k2 : IntKind) (k : Int) : weI 0 [l, .int k1 n, .int k2 k] = ((ofN (rows l) n k.toNat : Nat) : Int) := rfl
theorem wei_arh (l : Value) (k1 : IntKind) (n : Int) (k2 : IntKind) (k : Int) : weI 1 [l, .int k1 n, .int k2 k] = arH (rows l) n k.toNat := rfl
theorem wei_fb (l : Value) (k1 : IntKind) (k : Int) : weI 2 [l, .int k1 k] = fbW (rows l) k.toNat := rfl
theorem wei_se (k1 : IntKind) (a : Int) (k2 : IntKind) (b : Int) : weI 3 [.int k1 a, .int k2 b] = spE a b := rfl
theorem wei_vm (l : Value) (k1 : IntKind) (k : Int) : weI 4 [l, .int k1 k] = (((vo (rows l) ((rows l).length / 2) k.toNat).1 : Nat) : Int) := rfl
theorem wei_vl (l : Value) (k1 : IntKind) (k : Int) : weI 5 [l, .int k1 k] = (vo (rows l) ((rows l).length / 2) k.toNat).2.1 := rfl
theorem wei_vh (l : Value) (k1 : IntKind) (k : Int) : weI 6 [l, .int k1 k] = (vo (rows l) ((rows l).length / 2) k.toNat).2.2 := rfl
theorem wei_vE (l : Value) : weI 7 [l] = voE (rows l) := rfl
theorem wei_vM (l : Value) : weI 8 [l] = (((voR (rows l)).1 : Nat) : Int) := rfl
theorem wei_vL (l : Value) : weI 9 [l] = (voR (rows l)).2.1 := rfl
theorem wei_vH (l : Value) : weI 10 [l] = (voR (rows l)).2.2 := rfl
theorem wei_aa (l : Value) (k1 : IntKind) (k : Int) : weI 11 [l, .int k1 k] = (atS (rows l) ((rows l).length / 2) k.toNat).2 := rfl
theorem wei_mi (k1 : IntKind) (a : Int) (k2 : IntKind) (b : Int) : weI 12 [.int k1 a, .int k2 b] = midM a b := rfl
theorem wei_sa (k1 : IntKind) (a : Int) : weI 13 [.int k1 a] = satE a := rfl
theorem wei_nv (k1 : IntKind) (a : Int) : weI 14 [.int k1 a] = svE a := rfl
theorem wei_ne (k1 : IntKind) (a : Int) : weI 15 [.int k1 a] = erE a := rfl
theorem web_pre (l : Value) (k1 : IntKind) (k : Int) : weB 0 [l, .int k1 k] = preW (rows l) k.toNat := rfl
theorem web_sm (l : Value) (k1 : IntKind) (a : Int) (k2 : IntKind) (b : Int) (k3 : IntKind) (k : Int) : weB 1 [l, .int k1 a, .int k2 b, .int k3 k] = smB (rows l) a b k.toNat := rfl
theorem web_ai (l : Value) (k1 : IntKind) (k : Int) : weB 2 [l, .int k1 k] = (atS (rows l) ((rows l).length / 2) k.toNat).1 := rfl
theorem web_tk (x : Value) (y : Value) (k1 : IntKind) (n : Int) : weB 3 [x, y, .int k1 n] = eqV x (tkV y n.toNat) := rfl
def nsub_tree : Tree :=
 (.br (.b2 .lt (.var 1) (.lit (0)))
 (.br (.b2 .lt (.wrap .i64 (.i2 .add (.lit (9223372036854775807)) (.var 1))) (.var 0))
 (.ret (.tup (.cons (.int .i64 (.lit (0))) (.cons (.iface 141 (.int .i64 (.lit (2)))) .nil))))
 (.br (.b2 .lt (.lit (0)) (.var 1))
 (.br (.b2 .lt (.var 0) (.wrap .i64 (.i2 .add (.lit (-9223372036854775808)) (.var 1))))
 (.ret (.tup (.cons (.int .i64 (.lit (0))) (.cons (.iface 141 (.int .i64 (.lit (2)))) .nil))))
 (.ret (.tup (.cons (.int .i64 (.wrap .i64 (.i2 .sub (.var 0) (.var 1)))) (.cons (.cst .nilI) .nil)))))
 (.ret (.tup (.cons (.int .i64 (.wrap .i64 (.i2 .sub (.var 0) (.var 1)))) (.cons (.cst .nilI) .nil))))))
 (.br (.b2 .lt (.lit (0)) (.var 1))
 (.br (.b2 .lt (.var 0) (.wrap .i64 (.i2 .add (.lit (-9223372036854775808)) (.var 1))))
 (.ret (.tup (.cons (.int .i64 (.lit (0))) (.cons (.iface 141 (.int .i64 (.lit (2)))) .nil))))
 (.ret (.tup (.cons (.int .i64 (.wrap .i64 (.i2 .sub (.var 0) (.var 1)))) (.cons (.cst .nilI) .nil)))))
 (.ret (.tup (.cons (.int .i64 (.wrap .i64 (.i2 .sub (.var 0) (.var 1)))) (.cons (.cst .nilI) .nil))))))
abbrev wec_nsub : Con := ⟨133, [(.int .i64 (.var 0)), (.int .i64 (.var 1))], (.b2 .and (.b2 .and (.b2 .le (.lit (-9223372036854775808)) (.var 0)) (.b2 .le (.var 0) (.lit (9223372036854775807)))) (.b2 .and (.b2 .le (.lit (-9223372036854775808)) (.var 1)) (.b2 .le (.var 1) (.lit (9223372036854775807))))), (.tup (.cons (.int .i64 (.iapp 14 (.cons (.int .i64 (.i2 .sub (.var 0) (.var 1))) .nil))) (.cons (.err (.iapp 15 (.cons (.int .i64 (.i2 .sub (.var 0) (.var 1))) .nil))) .nil))), ⟨2, 0, 0, 0⟩, none⟩
theorem nsub_w : walk Tryd.prog 141 ⟨[], syG, [], [], []⟩ [] .v wec_nsub wec_nsub.n 3000 = some nsub_tree := by kernel_rfl
theorem nsub_h (a : Int) (b : Int) (hc : holds (weE [a, b] [] [] []) (.b2 .and (.b2 .and (.b2 .le (.lit (-9223372036854775808)) (.var 0)) (.b2 .le (.var 0) (.lit (9223372036854775807)))) (.b2 .and (.b2 .le (.lit (-9223372036854775808)) (.var 1)) (.b2 .le (.var 1) (.lit (9223372036854775807)))))) (hty : patsTyp (weE [a, b] [] [] []) [(.int .i64 (.var 0)), (.int .i64 (.var 1))]) : nsub_tree.holds (fun v_ => v_ = denV (weE [a, b] [] [] []) b0 (.tup (.cons (.int .i64 (.iapp 14 (.cons (.int .i64 (.i2 .sub (.var 0) (.var 1))) .nil))) (.cons (.err (.iapp 15 (.cons (.int .i64 (.i2 .sub (.var 0) (.var 1))) .nil))) .nil)))) (weE [a, b] [] [] []) := by
  simp only [Tree.holds, Sy.holds, AllN, Env.more, weE, List.cons_append, List.nil_append, List.append_nil, denV, denI, denB, denL, I2.den, VOp.den, List.getD_cons_zero, List.getD_cons_succ, Cst.den, syso, syse, syio, sybo, wei_of, wei_arh, wei_fb, wei_se, wei_vm, wei_vl, wei_vh, wei_vE, wei_vM, wei_vL, wei_vH, wei_aa, wei_mi, wei_sa, wei_nv, wei_ne, web_pre, web_sm, web_ai, web_tk, List.map_nil, List.map_cons, B2.ofInts, B2.denI, B2.denB, if_true, Bool.false_eq_true, if_false, Nat.div_one, Nat.mul_one, Nat.add_zero, holds] at hc
  simp only [patsTyp, patTyp, patTypL, weE, denV, denL, List.getD_cons_zero, List.getD_cons_succ, and_true, true_and] at hty
  unfold nsub_tree
  simp only [Tree.holds, Sy.holds, AllN, Env.more, weE, List.cons_append, List.nil_append, List.append_nil, denV, denI, denB, denL, I2.den, VOp.den, List.getD_cons_zero, List.getD_cons_succ, Cst.den, syso, syse, syio, sybo, wei_of, wei_arh, wei_fb, wei_se, wei_vm, wei_vl, wei_vh, wei_vE, wei_vM, wei_vL, wei_vH, wei_aa, wei_mi, wei_sa, wei_nv, wei_ne, web_pre, web_sm, web_ai, web_tk, List.map_nil, List.map_cons, B2.ofInts, B2.denI, B2.denB, if_true, Bool.false_eq_true, if_false, Nat.div_one, Nat.mul_one, Nat.add_zero]
  refine ⟨fun h0 => ?_, fun h0 => ?_⟩
  ·
   have wf0 := wr_i64 (9223372036854775807 + b)
   refine ⟨fun h1 => ?_, fun h1 => ?_⟩
   ·
    have hs := svE_spec (a - b)
    by_cases hr : -9223372036854775808 ≤ a - b ∧ a - b ≤ 9223372036854775807
    · have e1 : svE (a - b) = a - b := by omega
      have e2 : erE (a - b) = 0 := by omega
      rw [e1, e2]
      first
      | (exfalso; omega)
      | (rw [show IntKind.wrap .i64 (a - b) = a - b by omega]; rfl)
    · have e1 : svE (a - b) = 0 := by omega
      have e2 : erE (a - b) = 2 := by omega
      rw [e1, e2]
      first
      | (exfalso; omega)
      | rfl
   ·
    refine ⟨fun h2 => ?_, fun h2 => ?_⟩
    ·
     have wf1 := wr_i64 ((-9223372036854775808) + b)
     refine ⟨fun h3 => ?_, fun h3 => ?_⟩
     ·
      have hs := svE_spec (a - b)
      by_cases hr : -9223372036854775808 ≤ a - b ∧ a - b ≤ 9223372036854775807
      · have e1 : svE (a - b) = a - b := by omega
        have e2 : erE (a - b) = 0 := by omega
        rw [e1, e2]
        first
        | (exfalso; omega)
        | (rw [show IntKind.wrap .i64 (a - b) = a - b by omega]; rfl)
      · have e1 : svE (a - b) = 0 := by omega
        have e2 : erE (a - b) = 2 := by omega
        rw [e1, e2]
        first
        | (exfalso; omega)
        | rfl
     ·
      have wf2 := wr_i64 (a - b)
      have hs := svE_spec (a - b)
      by_cases hr : -9223372036854775808 ≤ a - b ∧ a - b ≤ 9223372036854775807
      · have e1 : svE (a - b) = a - b := by omega
        have e2 : erE (a - b) = 0 := by omega
        rw [e1, e2]
        first
        | (exfalso; omega)
        | (rw [show IntKind.wrap .i64 (a - b) = a - b by omega]; rfl)
      · have e1 : svE (a - b) = 0 := by omega
        have e2 : erE (a - b) = 2 := by omega
        rw [e1, e2]
        first
        | (exfalso; omega)
        | rfl
    ·
     have wf3 := wr_i64 (a - b)
     have hs := svE_spec (a - b)
     by_cases hr : -9223372036854775808 ≤ a - b ∧ a - b ≤ 9223372036854775807
     · have e1 : svE (a - b) = a - b := by omega
       have e2 : erE (a - b) = 0 := by omega
       rw [e1, e2]
       first
       | (exfalso; omega)
       | (rw [show IntKind.wrap .i64 (a - b) = a - b by omega]; rfl)
     · have e1 : svE (a - b) = 0 := by omega
       have e2 : erE (a - b) = 2 := by omega
       rw [e1, e2]
       first
       | (exfalso; omega)
       | rfl
  ·
   refine ⟨fun h4 => ?_, fun h4 => ?_⟩
   ·
    have wf4 := wr_i64 ((-9223372036854775808) + b)
    refine ⟨fun h5 => ?_, fun h5 => ?_⟩
    ·
     have hs := svE_spec (a - b)
     by_cases hr : -9223372036854775808 ≤ a - b ∧ a - b ≤ 9223372036854775807
     · have e1 : svE (a - b) = a - b := by omega
       have e2 : erE (a - b) = 0 := by omega
       rw [e1, e2]
       first
       | (exfalso; omega)
       | (rw [show IntKind.wrap .i64 (a - b) = a - b by omega]; rfl)
     · have e1 : svE (a - b) = 0 := by omega
       have e2 : erE (a - b) = 2 := by omega
       rw [e1, e2]
       first
       | (exfalso; omega)
       | rfl
    ·
     have wf5 := wr_i64 (a - b)
     have hs := svE_spec (a - b)
     by_cases hr : -9223372036854775808 ≤ a - b ∧ a - b ≤ 9223372036854775807
     · have e1 : svE (a - b) = a - b := by omega
       have e2 : erE (a - b) = 0 := by omega
       rw [e1, e2]
       first
       | (exfalso; omega)
       | (rw [show IntKind.wrap .i64 (a - b) = a - b by omega]; rfl)
     · have e1 : svE (a - b) = 0 := by omega
       have e2 : erE (a - b) = 2 := by omega
       rw [e1, e2]
       first
       | (exfalso; omega)
       | rfl
   ·
    have wf6 := wr_i64 (a - b)
    have hs := svE_spec (a - b)
    by_cases hr : -9223372036854775808 ≤ a - b ∧ a - b ≤ 9223372036854775807
    · have e1 : svE (a - b) = a - b := by omega
      have e2 : erE (a - b) = 0 := by omega
      rw [e1, e2]
      first
      | (exfalso; omega)
      | (rw [show IntKind.wrap .i64 (a - b) = a - b by omega]; rfl)
    · have e1 : svE (a - b) = 0 := by omega
      have e2 : erE (a - b) = 2 := by omega
      rw [e1, e2]
      first
      | (exfalso; omega)
      | rfl
theorem weg_nsub : wec_nsub.Good Tryd.prog syG (weE [] [] [] []) := good_of_walk (Γ := ⟨[], syG, [], [], []⟩) (ρ := weE [] [] [] []) sym nsub_w rfl (fun _ _ _ _ => ok_nil) (fun a b hc hty => nsub_h a b hc hty)
def subsat_tree : Tree :=
 (.need (.b2 .and (.b2 .and (.b2 .le (.lit (-9223372036854775808)) (.var 0)) (.b2 .le (.var 0) (.lit (9223372036854775807)))) (.b2 .and (.b2 .le (.lit (-9223372036854775808)) (.var 1)) (.b2 .le (.var 1) (.lit (9223372036854775807)))))
 (.br (.b2 .eq (.iapp 15 (.cons (.int .i64 (.i2 .sub (.var 0) (.var 1))) .nil)) (.lit (0)))
 (.ret (.int .i64 (.iapp 14 (.cons (.int .i64 (.i2 .sub (.var 0) (.var 1))) .nil))))
 (.br (.b2 .lt (.var 1) (.lit (0)))
 (.ret (.int .i64 (.lit (9223372036854775807))))
 (.ret (.int .i64 (.lit (-9223372036854775808)))))))
abbrev wec_subsat : Con := ⟨156, [(.int .i64 (.var 0)), (.int .i64 (.var 1))], (.b2 .and (.b2 .and (.b2 .le (.lit (-9223372036854775808)) (.var 0)) (.b2 .le (.var 0) (.lit (9223372036854775807)))) (.b2 .and (.b2 .le (.lit (-9223372036854775808)) (.var 1)) (.b2 .le (.var 1) (.lit (9223372036854775807))))), (.int .i64 (.iapp 13 (.cons (.int .i64 (.i2 .sub (.var 0) (.var 1))) .nil))), ⟨2, 0, 0, 0⟩, none⟩
theorem subsat_w : walk Tryd.prog 141 ⟨[wec_nsub], syG, [], [], []⟩ [] .v wec_subsat wec_subsat.n 3000 = some subsat_tree := by kernel_rfl
theorem subsat_h (a : Int) (b : Int) (hc : holds (weE [a, b] [] [] []) (.b2 .and (.b2 .and (.b2 .le (.lit (-9223372036854775808)) (.var 0)) (.b2 .le (.var 0) (.lit (9223372036854775807)))) (.b2 .and (.b2 .le (.lit (-9223372036854775808)) (.var 1)) (.b2 .le (.var 1) (.lit (9223372036854775807)))))) (hty : patsTyp (weE [a, b] [] [] []) [(.int .i64 (.var 0)), (.int .i64 (.var 1))]) : subsat_tree.holds (fun v_ => v_ = denV (weE [a, b] [] [] []) b0 (.int .i64 (.iapp 13 (.cons (.int .i64 (.i2 .sub (.var 0) (.var 1))) .nil)))) (weE [a, b] [] [] []) := by
  simp only [Tree.holds, Sy.holds, AllN, Env.more, weE, List.cons_append, List.nil_append, List.append_nil, denV, denI, denB, denL, I2.den, VOp.den, List.getD_cons_zero, List.getD_cons_succ, Cst.den, syso, syse, syio, sybo, wei_of, wei_arh, wei_fb, wei_se, wei_vm, wei_vl, wei_vh, wei_vE, wei_vM, wei_vL, wei_vH, wei_aa, wei_mi, wei_sa, wei_nv, wei_ne, web_pre, web_sm, web_ai, web_tk, List.map_nil, List.map_cons, B2.ofInts, B2.denI, B2.denB, if_true, Bool.false_eq_true, if_false, Nat.div_one, Nat.mul_one, Nat.add_zero, holds] at hc
  simp only [patsTyp, patTyp, patTypL, weE, denV, denL, List.getD_cons_zero, List.getD_cons_succ, and_true, true_and] at hty
  unfold subsat_tree
  simp only [Tree.holds, Sy.holds, AllN, Env.more, weE, List.cons_append, List.nil_append, List.append_nil, denV, denI, denB, denL, I2.den, VOp.den, List.getD_cons_zero, List.getD_cons_succ, Cst.den, syso, syse, syio, sybo, wei_of, wei_arh, wei_fb, wei_se, wei_vm, wei_vl, wei_vh, wei_vE, wei_vM, wei_vL, wei_vH, wei_aa, wei_mi, wei_sa, wei_nv, wei_ne, web_pre, web_sm, web_ai, web_tk, List.map_nil, List.map_cons, B2.ofInts, B2.denI, B2.denB, if_true, Bool.false_eq_true, if_false, Nat.div_one, Nat.mul_one, Nat.add_zero]
  refine ⟨?_, fun h0 => ?_⟩
  ·
   omega
  ·
   refine ⟨fun h1 => ?_, fun h1 => ?_⟩
   ·
    have hs := svE_spec (a - b)
    have ht := satE_spec (a - b)
    first
    | (exfalso; omega)
    | (rw [show satE (a - b) = svE (a - b) by omega]; done)
    | (rw [show satE (a - b) = 9223372036854775807 by omega]; done)
    | (rw [show satE (a - b) = -9223372036854775808 by omega]; done)
   ·
    refine ⟨fun h2 => ?_, fun h2 => ?_⟩
    ·
     have hs := svE_spec (a - b)
     have ht := satE_spec (a - b)
     first
     | (exfalso; omega)
     | (rw [show satE (a - b) = svE (a - b) by omega]; done)
     | (rw [show satE (a - b) = 9223372036854775807 by omega]; done)
     | (rw [show satE (a - b) = -9223372036854775808 by omega]; done)
    ·
     have hs := svE_spec (a - b)
     have ht := satE_spec (a - b)
     first
     | (exfalso; omega)
     | (rw [show satE (a - b) = svE (a - b) by omega]; done)
     | (rw [show satE (a - b) = 9223372036854775807 by omega]; done)
     | (rw [show satE (a - b) = -9223372036854775808 by omega]; done)
theorem weg_subsat : wec_subsat.Good Tryd.prog syG (weE [] [] [] []) := good_of_walk (Γ := ⟨[wec_nsub], syG, [], [], []⟩) (ρ := weE [] [] [] []) sym subsat_w rfl (fun _ _ _ _ => (ok_cons (Con.Good.env weg_nsub _ _ _ _) ok_nil)) (fun a b hc hty => subsat_h a b hc hty)
end Go.Proofs.YtflckmhlobpfiaaDoor
