import Derived.Test.YtflckmhlobpfiaaDoorSycqb
import Derived.Test.YtflckmhlobpfiaaDoorZ15bqb
import Derived.Test.YtflckmhlobpfiaaDoorW17qb
import Derived.Test.YtflckmhlobpfiaaDoorW02sqb
import Derived.Test.YtflckmhlobpfiaaDoorW02jqb
import Derived.Test.YtflckmhlobpfiaaDoorBigmqb
import Derived.Test.YtflckmhlobpfiaaDoorW13qb
/-
  Layer 15 by the second engine: spans later on.
-/
namespace Go.Proofs.YtflckmhlobpfiaaDoor
open Go.RowKit Go.Extern.Stop Go.Stop Go.Extern Go.Proofs.YtflckmhlobpfiaaDoor.Sy
set_option linter.unusedVariables false
set_option linter.unusedSimpArgs false
theorem up_bd {g r : Int} (g0 : 0 ≤ g) (g1 : g ≤ 9223372036854775807) (r0 : 0 ≤ r) (r1 : r ≤ 1048576) : 0 ≤ upK (g * r) ∧ upK (g * r) ≤ 18014398509481984 ∧ (-g) * r / 1073741824 = -(upK (g * r)) := by
  obtain ⟨h1, h2⟩ := mul_rho g0 g1 r0 (show r ≤ 2097152 by omega)
  have e : (-g) * r = -(g * r) := Int.neg_mul g r
  rw [e]
  unfold upK
  omega
theorem wmd_x (a b : Int) (w : World) (h : (-9223372036854775807 ≤ a ∧ a ≤ 0) ∧ 0 ≤ b ∧ b ≤ 1048576) : Calls Tryd.prog 158 #[.int .i64 a, .int .i64 b, .int .i64 1073741824] w fun e w' => e = .returned (.tuple #[.int .i64 (a * b / 1073741824), .nilIface]) ∧ Below w.heap.size w w' := by
  obtain ⟨⟨h1, h2⟩, h3, h4⟩ := h
  obtain ⟨u1, u2, u3⟩ := up_bd (g := -a) (r := b) (by omega) (by omega) h3 h4
  rw [Int.neg_neg] at u3
  have hin : InR (a * b / 1073741824) := by rw [u3]; constructor <;> omega
  have e1 : mdN a b 1073741824 = a * b / 1073741824 := by unfold mdN; rw [if_neg (by omega), if_pos hin]
  have e2 : mdE a b 1073741824 = 0 := by unfold mdE; rw [if_neg (by omega), if_pos hin]
  have := wmuldiv_any a b 1073741824 w ⟨by omega, by omega⟩ ⟨by omega, by omega⟩ ⟨by decide, by decide⟩
  rw [e1, e2, errOf_zero] at this
  exact this
/-- does an entry count? -/
def cntF (l : List Value) (p n : Int) (k : Nat) : Prop := Go.RowKit.intOf (l.getD (k * 4 + 1) Go.undef) ≤ n ∧ n - Go.RowKit.intOf (l.getD (k * 4 + 1) Go.undef) ≤ p
instance (l : List Value) (p n : Int) (k : Nat) : Decidable (cntF l p n k) := by unfold cntF; infer_instance
def spanF (l : List Value) (r n : Int) (k : Nat) : List Value := [.int .i64 (satE (Go.RowKit.intOf (l.getD (k * 4 + 2) Go.undef) - upK ((n - Go.RowKit.intOf (l.getD (k * 4 + 1) Go.undef)) * r))), .int .i64 (satE (Go.RowKit.intOf (l.getD (k * 4 + 3) Go.undef) + upK ((n - Go.RowKit.intOf (l.getD (k * 4 + 1) Go.undef)) * r)))]
/-- what the first k that count say now -/
def nowL (l : List Value) (r p n : Int) : Nat → List Value
  | 0 => []
  | k + 1 => if cntF l p n k then nowL l r p n k ++ spanF l r n k else nowL l r p n k
theorem now_yes {l : List Value} {r p n : Int} {k : Nat} (h : cntF l p n k) : nowL l r p n (k + 1) = nowL l r p n k ++ spanF l r n k := by rw [nowL, if_pos h]
theorem now_no {l : List Value} {r p n : Int} {k : Nat} (h : ¬ cntF l p n k) : nowL l r p n (k + 1) = nowL l r p n k := by rw [nowL, if_neg h]
theorem now_len (l : List Value) (r p n : Int) : ∀ k, ∃ q, q ≤ k ∧ (nowL l r p n k).length = q * 2
  | 0 => ⟨0, Nat.le_refl _, rfl⟩
  | k + 1 => by
    obtain ⟨q, h1, h2⟩ := now_len l r p n k
    by_cases h : cntF l p n k
    · rw [now_yes h]; exact ⟨q + 1, by omega, by rw [List.length_append, h2]; show q * 2 + 2 = _; omega⟩
    · rw [now_no h]; exact ⟨q, by omega, h2⟩
noncomputable def fcI : Nat → List Value → Int
  | 21, [.int _ a, .int _ b] => a * b / 1073741824
  | 22, [.int _ g, .int _ r] => upK (g * r)
  | 23, [.int _ a] => svE a
  | 24, [.int _ a] => soE a
  | 25, [.int _ a, .int _ o] => bdE a o
  | i, l => fbI i l
noncomputable def fcB : Nat → List Value → Bool
  | 8, [v, l, .int _ r, .int _ p, .int _ n, .int _ k] => eqV v (Value.tuple (nowL (rows l) r p n k.toNat).toArray)
  | i, l => fbB i l
noncomputable def fcV : Nat → List Value → Value
  | 1, [l, .int _ r, .int _ p, .int _ n, .int _ k] => Value.tuple (nowL (rows l) r p n k.toNat).toArray
  | i, l => fbV i l
noncomputable abbrev fcE (iv : List Int) (bv : List Bool) (vv : List Value) (sv : List ByteArray) : Env := { iv := iv, bv := bv, vv := vv, sv := sv, fi := fcI, fb := fcB, fv := fcV, et := 141 }
theorem fcup : Agree 21 8 1 (fbE [] [] [] []) (fcE [] [] [] []) := ⟨rfl, (by
    intro f hf
    funext l
    show fcI f l = fbI f l
    unfold fcI
    split <;> first | rfl | omega), (by
    intro f hf
    funext l
    show fcB f l = fbB f l
    unfold fcB
    split <;> first | rfl | omega), (by
    intro f hf
    funext l
    show fcV f l = fbV f l
    unfold fcV
    split <;> first | rfl | omega)⟩
theorem fci_of (l : Value) (k1 : IntKind) (n : Int) (k2 : IntKind) (k : Int) : fcI 0 [l, .int k1 n, .int k2 k] = ((ofN (rows l) n k.toNat : Nat) : Int) := rfl
theorem fci_arh (l : Value) (k1 : IntKind) (n : Int) (k2 : IntKind) (k : Int) : fcI 1 [l, .int k1 n, .int k2 k] = arH (rows l) n k.toNat := rfl
theorem fci_fb (l : Value) (k1 : IntKind) (k : Int) : fcI 2 [l, .int k1 k] = fbW (rows l) k.toNat := rfl
theorem fci_se (k1 : IntKind) (a : Int) (k2 : IntKind) (b : Int) : fcI 3 [.int k1 a, .int k2 b] = spE a b := rfl
theorem fci_vm (l : Value) (k1 : IntKind) (k : Int) : fcI 4 [l, .int k1 k] = (((vo (rows l) ((rows l).length / 2) k.toNat).1 : Nat) : Int) := rfl
theorem fci_vl (l : Value) (k1 : IntKind) (k : Int) : fcI 5 [l, .int k1 k] = (vo (rows l) ((rows l).length / 2) k.toNat).2.1 := rfl
theorem fci_vh (l : Value) (k1 : IntKind) (k : Int) : fcI 6 [l, .int k1 k] = (vo (rows l) ((rows l).length / 2) k.toNat).2.2 := rfl
theorem fci_vE (l : Value) : fcI 7 [l] = voE (rows l) := rfl
theorem fci_vM (l : Value) : fcI 8 [l] = (((voR (rows l)).1 : Nat) : Int) := rfl
theorem fci_vL (l : Value) : fcI 9 [l] = (voR (rows l)).2.1 := rfl
theorem fci_vH (l : Value) : fcI 10 [l] = (voR (rows l)).2.2 := rfl
theorem fci_aa (l : Value) (k1 : IntKind) (k : Int) : fcI 11 [l, .int k1 k] = (atS (rows l) ((rows l).length / 2) k.toNat).2 := rfl
theorem fci_mi (k1 : IntKind) (a : Int) (k2 : IntKind) (b : Int) : fcI 12 [.int k1 a, .int k2 b] = midM a b := rfl
theorem fci_sa (k1 : IntKind) (a : Int) : fcI 13 [.int k1 a] = satE a := rfl
theorem fci_nv (k1 : IntKind) (a : Int) : fcI 14 [.int k1 a] = svE a := rfl
theorem fci_ne (k1 : IntKind) (a : Int) : fcI 15 [.int k1 a] = erE a := rfl
theorem fci_sz (k1 : IntKind) (a : Int) : fcI 16 [.int k1 a] = szE a := rfl
theorem fci_lst (l : Value) (k1 : IntKind) (k : Int) : fcI 17 [l, .int k1 k] = leastS (rows l) k.toNat := rfl
theorem fci_chk (l : Value) : fcI 18 [l] = chkF (rows l) := rfl
theorem fci_ix (l : Value) (k1 : IntKind) (s : Int) (k2 : IntKind) (k : Int) : fcI 19 [l, .int k1 s, .int k2 k] = ixF (rows l) s k.toNat := rfl
theorem fci_pE (l : Value) (k1 : IntKind) (a : Int) (k2 : IntKind) (b : Int) (k3 : IntKind) (c : Int) (k4 : IntKind) (d : Int) : fcI 20 [l, .int k1 a, .int k2 b, .int k3 c, .int k4 d] = putE (rows l) a b c d := rfl
theorem fci_md (k1 : IntKind) (a : Int) (k2 : IntKind) (b : Int) : fcI 21 [.int k1 a, .int k2 b] = a * b / 1073741824 := rfl
theorem fci_up (k1 : IntKind) (g : Int) (k2 : IntKind) (r : Int) : fcI 22 [.int k1 g, .int k2 r] = upK (g * r) := rfl
theorem fci_rsv (k1 : IntKind) (a : Int) : fcI 23 [.int k1 a] = svE a := rfl
theorem fci_rso (k1 : IntKind) (a : Int) : fcI 24 [.int k1 a] = soE a := rfl
theorem fci_rbd (k1 : IntKind) (a : Int) (k2 : IntKind) (o : Int) : fcI 25 [.int k1 a, .int k2 o] = bdE a o := rfl
theorem fcb_pre (l : Value) (k1 : IntKind) (k : Int) : fcB 0 [l, .int k1 k] = preW (rows l) k.toNat := rfl
theorem fcb_sm (l : Value) (k1 : IntKind) (a : Int) (k2 : IntKind) (b : Int) (k3 : IntKind) (k : Int) : fcB 1 [l, .int k1 a, .int k2 b, .int k3 k] = smB (rows l) a b k.toNat := rfl
theorem fcb_ai (l : Value) (k1 : IntKind) (k : Int) : fcB 2 [l, .int k1 k] = (atS (rows l) ((rows l).length / 2) k.toNat).1 := rfl
theorem fcb_tk (x : Value) (y : Value) (k1 : IntKind) (n : Int) : fcB 3 [x, y, .int k1 n] = eqV x (tkV y n.toNat) := rfl
theorem fcb_okr (l : Value) : fcB 4 [l] = okR (rows l) := rfl
theorem fcb_okf (l : Value) (k1 : IntKind) (k : Int) : fcB 5 [l, .int k1 k] = okF (rows l) k.toNat := rfl
theorem fcb_rp (v : Value) (l : Value) (k1 : IntKind) (a : Int) (k2 : IntKind) (b : Int) (k3 : IntKind) (c : Int) (k4 : IntKind) (d : Int) (k5 : IntKind) (k : Int) : fcB 6 [v, l, .int k1 a, .int k2 b, .int k3 c, .int k4 d, .int k5 k] = rpB v (rows l) a b c d k.toNat := rfl
theorem fcb_rd (l : Value) (k1 : IntKind) (a : Int) (k2 : IntKind) (k : Int) : fcB 7 [l, .int k1 a, .int k2 k] = decide (inF (rows l) a < k.toNat) := rfl
theorem fcb_nb (v : Value) (l : Value) (k1 : IntKind) (r : Int) (k2 : IntKind) (p : Int) (k3 : IntKind) (n : Int) (k4 : IntKind) (k : Int) : fcB 8 [v, l, .int k1 r, .int k2 p, .int k3 n, .int k4 k] = eqV v (Value.tuple (nowL (rows l) r p n k.toNat).toArray) := rfl
theorem fcv_pV (l : Value) (k1 : IntKind) (a : Int) (k2 : IntKind) (b : Int) (k3 : IntKind) (c : Int) (k4 : IntKind) (d : Int) : fcV 0 [l, .int k1 a, .int k2 b, .int k3 c, .int k4 d] = Value.tuple (putV (rows l) a b c d).toArray := rfl
theorem fcv_nw (l : Value) (k1 : IntKind) (r : Int) (k2 : IntKind) (p : Int) (k3 : IntKind) (n : Int) (k4 : IntKind) (k : Int) : fcV 1 [l, .int k1 r, .int k2 p, .int k3 n, .int k4 k] = Value.tuple (nowL (rows l) r p n k.toNat).toArray := rfl
abbrev fcc_wmd : Con := ⟨158, [(.int .i64 (.var 0)), (.int .i64 (.var 1)), (.int .i64 (.lit (1073741824)))], (.b2 .and (.b2 .and (.b2 .le (.lit (-9223372036854775807)) (.var 0)) (.b2 .le (.var 0) (.lit (0)))) (.b2 .and (.b2 .le (.lit (0)) (.var 1)) (.b2 .le (.var 1) (.lit (1048576))))), (.tup (.cons (.int .i64 (.iapp 21 (.cons (.int .i64 (.var 0)) (.cons (.int .i64 (.var 1)) .nil)))) (.cons (.err (.lit (0))) .nil))), ⟨2, 0, 0, 0⟩, none⟩
theorem fcg_wmd : fcc_wmd.Good Tryd.prog syG (fcE [] [] [] []) := good_flat rfl rfl rfl (by
  intro a b hc β ok w hG
  have hc' := hc
  simp only [Tree.holds, Sy.holds, AllN, Env.more, fcE, List.cons_append, List.nil_append, List.append_nil, denV, denI, denB, denL, I2.den, VOp.den, List.getD_cons_zero, List.getD_cons_succ, Cst.den, syso, syse, syio, sybo, fci_of, fci_arh, fci_fb, fci_se, fci_vm, fci_vl, fci_vh, fci_vE, fci_vM, fci_vL, fci_vH, fci_aa, fci_mi, fci_sa, fci_nv, fci_ne, fci_sz, fci_lst, fci_chk, fci_ix, fci_pE, fci_md, fci_up, fci_rsv, fci_rso, fci_rbd, fcb_pre, fcb_sm, fcb_ai, fcb_tk, fcb_okr, fcb_okf, fcb_rp, fcb_rd, fcb_nb, fcv_pV, fcv_nw, List.map_nil, List.map_cons, B2.ofInts, B2.denI, B2.denB, if_true, Bool.false_eq_true, if_false, Nat.div_one, Nat.mul_one, Nat.add_zero, holds] at hc
  exact wmd_x a b w hc)
def toohigh_tree : Tree :=
 (.br (.b2 .lt (.lit (0)) (.var 1))
 (.ret (.bool (.b2 .lt (.wrap .i64 (.i2 .sub (.lit (9223372036854775807)) (.var 1))) (.var 0))))
 (.ret (.bool (.tt false))))
abbrev fcc_toohigh : Con := ⟨207, [(.int .i64 (.var 0)), (.int .i64 (.var 1))], (.b2 .and (.b2 .and (.b2 .le (.lit (-9223372036854775808)) (.var 0)) (.b2 .le (.var 0) (.lit (9223372036854775807)))) (.b2 .and (.b2 .le (.lit (-9223372036854775808)) (.var 1)) (.b2 .le (.var 1) (.lit (9223372036854775807))))), (.bool (.b2 .lt (.lit (9223372036854775807)) (.i2 .add (.var 0) (.var 1)))), ⟨2, 0, 0, 0⟩, none⟩
theorem toohigh_w : walk Tryd.prog 141 ⟨[], syG, [], [], []⟩ [] .v fcc_toohigh fcc_toohigh.n 3000 = some toohigh_tree := by kernel_rfl
theorem toohigh_h (a : Int) (b : Int) (hc : holds (fcE [a, b] [] [] []) (.b2 .and (.b2 .and (.b2 .le (.lit (-9223372036854775808)) (.var 0)) (.b2 .le (.var 0) (.lit (9223372036854775807)))) (.b2 .and (.b2 .le (.lit (-9223372036854775808)) (.var 1)) (.b2 .le (.var 1) (.lit (9223372036854775807)))))) (hty : patsTyp (fcE [a, b] [] [] []) [(.int .i64 (.var 0)), (.int .i64 (.var 1))]) : toohigh_tree.holds (fun v_ => v_ = denV (fcE [a, b] [] [] []) b0 (.bool (.b2 .lt (.lit (9223372036854775807)) (.i2 .add (.var 0) (.var 1))))) (fcE [a, b] [] [] []) := by
  simp only [Tree.holds, Sy.holds, AllN, Env.more, fcE, List.cons_append, List.nil_append, List.append_nil, denV, denI, denB, denL, I2.den, VOp.den, List.getD_cons_zero, List.getD_cons_succ, Cst.den, syso, syse, syio, sybo, fci_of, fci_arh, fci_fb, fci_se, fci_vm, fci_vl, fci_vh, fci_vE, fci_vM, fci_vL, fci_vH, fci_aa, fci_mi, fci_sa, fci_nv, fci_ne, fci_sz, fci_lst, fci_chk, fci_ix, fci_pE, fci_md, fci_up, fci_rsv, fci_rso, fci_rbd, fcb_pre, fcb_sm, fcb_ai, fcb_tk, fcb_okr, fcb_okf, fcb_rp, fcb_rd, fcb_nb, fcv_pV, fcv_nw, List.map_nil, List.map_cons, B2.ofInts, B2.denI, B2.denB, if_true, Bool.false_eq_true, if_false, Nat.div_one, Nat.mul_one, Nat.add_zero, holds] at hc
  simp only [patsTyp, patTyp, patTypL, fcE, denV, denL, List.getD_cons_zero, List.getD_cons_succ, and_true, true_and] at hty
  unfold toohigh_tree
  simp only [Tree.holds, Sy.holds, AllN, Env.more, fcE, List.cons_append, List.nil_append, List.append_nil, denV, denI, denB, denL, I2.den, VOp.den, List.getD_cons_zero, List.getD_cons_succ, Cst.den, syso, syse, syio, sybo, fci_of, fci_arh, fci_fb, fci_se, fci_vm, fci_vl, fci_vh, fci_vE, fci_vM, fci_vL, fci_vH, fci_aa, fci_mi, fci_sa, fci_nv, fci_ne, fci_sz, fci_lst, fci_chk, fci_ix, fci_pE, fci_md, fci_up, fci_rsv, fci_rso, fci_rbd, fcb_pre, fcb_sm, fcb_ai, fcb_tk, fcb_okr, fcb_okf, fcb_rp, fcb_rd, fcb_nb, fcv_pV, fcv_nw, List.map_nil, List.map_cons, B2.ofInts, B2.denI, B2.denB, if_true, Bool.false_eq_true, if_false, Nat.div_one, Nat.mul_one, Nat.add_zero]
  refine ⟨fun h0 => ?_, fun h0 => ?_⟩
  ·
   have wf0 := wr_i64 (9223372036854775807 - b)
   all_goals first | omega | rfl | (simp only [Value.tuple.injEq, Value.agg.injEq, Value.int.injEq, Value.bool.injEq, Array.mk.injEq, List.cons.injEq, true_and, and_true]; omega) | (refine congrArg Value.bool (Bool.eq_iff_iff.2 ?_); simp only [beq_iff_eq, decide_eq_true_eq, true_iff, false_iff, Bool.false_eq_true, Bool.not_eq_true', Bool.and_eq_true, Bool.or_eq_true, decide_eq_false_iff_not]; omega)
  ·
   all_goals first | omega | rfl | (simp only [Value.tuple.injEq, Value.agg.injEq, Value.int.injEq, Value.bool.injEq, Array.mk.injEq, List.cons.injEq, true_and, and_true]; omega) | (refine congrArg Value.bool (Bool.eq_iff_iff.2 ?_); simp only [beq_iff_eq, decide_eq_true_eq, true_iff, false_iff, Bool.false_eq_true, Bool.not_eq_true', Bool.and_eq_true, Bool.or_eq_true, decide_eq_false_iff_not]; omega)
theorem fcg_toohigh : fcc_toohigh.Good Tryd.prog syG (fcE [] [] [] []) := good_of_walk (Γ := ⟨[], syG, [], [], []⟩) (ρ := fcE [] [] [] []) sym toohigh_w rfl (fun _ _ _ _ => ok_nil) (fun a b hc hty => toohigh_h a b hc hty)
def toolow_tree : Tree :=
 (.br (.b2 .lt (.var 1) (.lit (0)))
 (.ret (.bool (.b2 .lt (.var 0) (.wrap .i64 (.i2 .sub (.lit (-9223372036854775808)) (.var 1))))))
 (.ret (.bool (.tt false))))
abbrev fcc_toolow : Con := ⟨208, [(.int .i64 (.var 0)), (.int .i64 (.var 1))], (.b2 .and (.b2 .and (.b2 .le (.lit (-9223372036854775808)) (.var 0)) (.b2 .le (.var 0) (.lit (9223372036854775807)))) (.b2 .and (.b2 .le (.lit (-9223372036854775808)) (.var 1)) (.b2 .le (.var 1) (.lit (9223372036854775807))))), (.bool (.b2 .lt (.i2 .add (.var 0) (.var 1)) (.lit (-9223372036854775808)))), ⟨2, 0, 0, 0⟩, none⟩
theorem toolow_w : walk Tryd.prog 141 ⟨[], syG, [], [], []⟩ [] .v fcc_toolow fcc_toolow.n 3000 = some toolow_tree := by kernel_rfl
theorem toolow_h (a : Int) (b : Int) (hc : holds (fcE [a, b] [] [] []) (.b2 .and (.b2 .and (.b2 .le (.lit (-9223372036854775808)) (.var 0)) (.b2 .le (.var 0) (.lit (9223372036854775807)))) (.b2 .and (.b2 .le (.lit (-9223372036854775808)) (.var 1)) (.b2 .le (.var 1) (.lit (9223372036854775807)))))) (hty : patsTyp (fcE [a, b] [] [] []) [(.int .i64 (.var 0)), (.int .i64 (.var 1))]) : toolow_tree.holds (fun v_ => v_ = denV (fcE [a, b] [] [] []) b0 (.bool (.b2 .lt (.i2 .add (.var 0) (.var 1)) (.lit (-9223372036854775808))))) (fcE [a, b] [] [] []) := by
  simp only [Tree.holds, Sy.holds, AllN, Env.more, fcE, List.cons_append, List.nil_append, List.append_nil, denV, denI, denB, denL, I2.den, VOp.den, List.getD_cons_zero, List.getD_cons_succ, Cst.den, syso, syse, syio, sybo, fci_of, fci_arh, fci_fb, fci_se, fci_vm, fci_vl, fci_vh, fci_vE, fci_vM, fci_vL, fci_vH, fci_aa, fci_mi, fci_sa, fci_nv, fci_ne, fci_sz, fci_lst, fci_chk, fci_ix, fci_pE, fci_md, fci_up, fci_rsv, fci_rso, fci_rbd, fcb_pre, fcb_sm, fcb_ai, fcb_tk, fcb_okr, fcb_okf, fcb_rp, fcb_rd, fcb_nb, fcv_pV, fcv_nw, List.map_nil, List.map_cons, B2.ofInts, B2.denI, B2.denB, if_true, Bool.false_eq_true, if_false, Nat.div_one, Nat.mul_one, Nat.add_zero, holds] at hc
  simp only [patsTyp, patTyp, patTypL, fcE, denV, denL, List.getD_cons_zero, List.getD_cons_succ, and_true, true_and] at hty
  unfold toolow_tree
  simp only [Tree.holds, Sy.holds, AllN, Env.more, fcE, List.cons_append, List.nil_append, List.append_nil, denV, denI, denB, denL, I2.den, VOp.den, List.getD_cons_zero, List.getD_cons_succ, Cst.den, syso, syse, syio, sybo, fci_of, fci_arh, fci_fb, fci_se, fci_vm, fci_vl, fci_vh, fci_vE, fci_vM, fci_vL, fci_vH, fci_aa, fci_mi, fci_sa, fci_nv, fci_ne, fci_sz, fci_lst, fci_chk, fci_ix, fci_pE, fci_md, fci_up, fci_rsv, fci_rso, fci_rbd, fcb_pre, fcb_sm, fcb_ai, fcb_tk, fcb_okr, fcb_okf, fcb_rp, fcb_rd, fcb_nb, fcv_pV, fcv_nw, List.map_nil, List.map_cons, B2.ofInts, B2.denI, B2.denB, if_true, Bool.false_eq_true, if_false, Nat.div_one, Nat.mul_one, Nat.add_zero]
  refine ⟨fun h0 => ?_, fun h0 => ?_⟩
  ·
   have wf0 := wr_i64 ((-9223372036854775808) - b)
   all_goals first | omega | rfl | (simp only [Value.tuple.injEq, Value.agg.injEq, Value.int.injEq, Value.bool.injEq, Array.mk.injEq, List.cons.injEq, true_and, and_true]; omega) | (refine congrArg Value.bool (Bool.eq_iff_iff.2 ?_); simp only [beq_iff_eq, decide_eq_true_eq, true_iff, false_iff, Bool.false_eq_true, Bool.not_eq_true', Bool.and_eq_true, Bool.or_eq_true, decide_eq_false_iff_not]; omega)
  ·
   all_goals first | omega | rfl | (simp only [Value.tuple.injEq, Value.agg.injEq, Value.int.injEq, Value.bool.injEq, Array.mk.injEq, List.cons.injEq, true_and, and_true]; omega) | (refine congrArg Value.bool (Bool.eq_iff_iff.2 ?_); simp only [beq_iff_eq, decide_eq_true_eq, true_iff, false_iff, Bool.false_eq_true, Bool.not_eq_true', Bool.and_eq_true, Bool.or_eq_true, decide_eq_false_iff_not]; omega)
theorem fcg_toolow : fcc_toolow.Good Tryd.prog syG (fcE [] [] [] []) := good_of_walk (Γ := ⟨[], syG, [], [], []⟩) (ρ := fcE [] [] [] []) sym toolow_w rfl (fun _ _ _ _ => ok_nil) (fun a b hc hty => toolow_h a b hc hty)
def addsat_tree : Tree :=
 (.need (.b2 .and (.b2 .and (.b2 .le (.lit (-9223372036854775808)) (.var 0)) (.b2 .le (.var 0) (.lit (9223372036854775807)))) (.b2 .and (.b2 .le (.lit (-9223372036854775808)) (.var 1)) (.b2 .le (.var 1) (.lit (9223372036854775807)))))
 (.br (.b2 .lt (.lit (9223372036854775807)) (.i2 .add (.var 0) (.var 1)))
 (.ret (.int .i64 (.lit (9223372036854775807))))
 (.need (.b2 .and (.b2 .and (.b2 .le (.lit (-9223372036854775808)) (.var 0)) (.b2 .le (.var 0) (.lit (9223372036854775807)))) (.b2 .and (.b2 .le (.lit (-9223372036854775808)) (.var 1)) (.b2 .le (.var 1) (.lit (9223372036854775807)))))
 (.br (.b2 .lt (.i2 .add (.var 0) (.var 1)) (.lit (-9223372036854775808)))
 (.ret (.int .i64 (.lit (-9223372036854775808))))
 (.ret (.int .i64 (.wrap .i64 (.i2 .add (.var 0) (.var 1)))))))))
abbrev fcc_addsat : Con := ⟨178, [(.int .i64 (.var 0)), (.int .i64 (.var 1))], (.b2 .and (.b2 .and (.b2 .le (.lit (-9223372036854775808)) (.var 0)) (.b2 .le (.var 0) (.lit (9223372036854775807)))) (.b2 .and (.b2 .le (.lit (-9223372036854775808)) (.var 1)) (.b2 .le (.var 1) (.lit (9223372036854775807))))), (.int .i64 (.iapp 13 (.cons (.int .i64 (.i2 .add (.var 0) (.var 1))) .nil))), ⟨2, 0, 0, 0⟩, none⟩
theorem addsat_w : walk Tryd.prog 141 ⟨[fcc_toohigh, fcc_toolow], syG, [], [], []⟩ [] .v fcc_addsat fcc_addsat.n 3000 = some addsat_tree := by kernel_rfl
theorem addsat_h (a : Int) (b : Int) (hc : holds (fcE [a, b] [] [] []) (.b2 .and (.b2 .and (.b2 .le (.lit (-9223372036854775808)) (.var 0)) (.b2 .le (.var 0) (.lit (9223372036854775807)))) (.b2 .and (.b2 .le (.lit (-9223372036854775808)) (.var 1)) (.b2 .le (.var 1) (.lit (9223372036854775807)))))) (hty : patsTyp (fcE [a, b] [] [] []) [(.int .i64 (.var 0)), (.int .i64 (.var 1))]) : addsat_tree.holds (fun v_ => v_ = denV (fcE [a, b] [] [] []) b0 (.int .i64 (.iapp 13 (.cons (.int .i64 (.i2 .add (.var 0) (.var 1))) .nil)))) (fcE [a, b] [] [] []) := by
  simp only [Tree.holds, Sy.holds, AllN, Env.more, fcE, List.cons_append, List.nil_append, List.append_nil, denV, denI, denB, denL, I2.den, VOp.den, List.getD_cons_zero, List.getD_cons_succ, Cst.den, syso, syse, syio, sybo, fci_of, fci_arh, fci_fb, fci_se, fci_vm, fci_vl, fci_vh, fci_vE, fci_vM, fci_vL, fci_vH, fci_aa, fci_mi, fci_sa, fci_nv, fci_ne, fci_sz, fci_lst, fci_chk, fci_ix, fci_pE, fci_md, fci_up, fci_rsv, fci_rso, fci_rbd, fcb_pre, fcb_sm, fcb_ai, fcb_tk, fcb_okr, fcb_okf, fcb_rp, fcb_rd, fcb_nb, fcv_pV, fcv_nw, List.map_nil, List.map_cons, B2.ofInts, B2.denI, B2.denB, if_true, Bool.false_eq_true, if_false, Nat.div_one, Nat.mul_one, Nat.add_zero, holds] at hc
  simp only [patsTyp, patTyp, patTypL, fcE, denV, denL, List.getD_cons_zero, List.getD_cons_succ, and_true, true_and] at hty
  unfold addsat_tree
  simp only [Tree.holds, Sy.holds, AllN, Env.more, fcE, List.cons_append, List.nil_append, List.append_nil, denV, denI, denB, denL, I2.den, VOp.den, List.getD_cons_zero, List.getD_cons_succ, Cst.den, syso, syse, syio, sybo, fci_of, fci_arh, fci_fb, fci_se, fci_vm, fci_vl, fci_vh, fci_vE, fci_vM, fci_vL, fci_vH, fci_aa, fci_mi, fci_sa, fci_nv, fci_ne, fci_sz, fci_lst, fci_chk, fci_ix, fci_pE, fci_md, fci_up, fci_rsv, fci_rso, fci_rbd, fcb_pre, fcb_sm, fcb_ai, fcb_tk, fcb_okr, fcb_okf, fcb_rp, fcb_rd, fcb_nb, fcv_pV, fcv_nw, List.map_nil, List.map_cons, B2.ofInts, B2.denI, B2.denB, if_true, Bool.false_eq_true, if_false, Nat.div_one, Nat.mul_one, Nat.add_zero]
  refine ⟨?_, fun h0 => ?_⟩
  ·
   omega
  ·
   refine ⟨fun h1 => ?_, fun h1 => ?_⟩
   ·
    have ht := satE_spec (a + b)
    first
    | (exfalso; omega)
    | (rw [show satE (a + b) = IntKind.wrap .i64 (a + b) by omega]; done)
    | (rw [show satE (a + b) = 9223372036854775807 by omega]; done)
    | (rw [show satE (a + b) = -9223372036854775808 by omega]; done)
   ·
    refine ⟨?_, fun h2 => ?_⟩
    ·
     omega
    ·
     refine ⟨fun h3 => ?_, fun h3 => ?_⟩
     ·
      have ht := satE_spec (a + b)
      first
      | (exfalso; omega)
      | (rw [show satE (a + b) = IntKind.wrap .i64 (a + b) by omega]; done)
      | (rw [show satE (a + b) = 9223372036854775807 by omega]; done)
      | (rw [show satE (a + b) = -9223372036854775808 by omega]; done)
     ·
      have wf0 := wr_i64 (a + b)
      have ht := satE_spec (a + b)
      first
      | (exfalso; omega)
      | (rw [show satE (a + b) = IntKind.wrap .i64 (a + b) by omega]; done)
      | (rw [show satE (a + b) = 9223372036854775807 by omega]; done)
      | (rw [show satE (a + b) = -9223372036854775808 by omega]; done)
theorem fcg_addsat : fcc_addsat.Good Tryd.prog syG (fcE [] [] [] []) := good_of_walk (Γ := ⟨[fcc_toohigh, fcc_toolow], syG, [], [], []⟩) (ρ := fcE [] [] [] []) sym addsat_w rfl (fun _ _ _ _ => (ok_cons (Con.Good.env fcg_toohigh _ _ _ _) (ok_cons (Con.Good.env fcg_toolow _ _ _ _) ok_nil))) (fun a b hc hty => addsat_h a b hc hty)
def grow_tree : Tree :=
 (.br (.not (.b2 .eq (.iapp 3 (.cons (.int .i64 (.var 0)) (.cons (.int .i64 (.var 1)) .nil))) (.lit (0))))
 (.ret (.tup (.cons (.agg (.cons (.int .i64 (.lit (0))) (.cons (.int .i64 (.lit (0))) .nil))) (.cons (.iface 141 (.int .i64 (.lit (1)))) .nil))))
 (.br (.b2 .lt (.var 2) (.lit (0)))
 (.ret (.tup (.cons (.agg (.cons (.int .i64 (.lit (0))) (.cons (.int .i64 (.lit (0))) .nil))) (.cons (.iface 141 (.int .i64 (.lit (1)))) .nil))))
 (.need (.b2 .and (.b2 .and (.b2 .le (.lit (-9223372036854775808)) (.var 0)) (.b2 .le (.var 0) (.lit (9223372036854775807)))) (.b2 .and (.b2 .le (.lit (-9223372036854775808)) (.var 2)) (.b2 .le (.var 2) (.lit (9223372036854775807)))))
 (.need (.b2 .and (.b2 .and (.b2 .le (.lit (-9223372036854775808)) (.var 1)) (.b2 .le (.var 1) (.lit (9223372036854775807)))) (.b2 .and (.b2 .le (.lit (-9223372036854775808)) (.var 2)) (.b2 .le (.var 2) (.lit (9223372036854775807)))))
 (.ret (.tup (.cons (.agg (.cons (.int .i64 (.iapp 13 (.cons (.int .i64 (.i2 .sub (.var 0) (.var 2))) .nil))) (.cons (.int .i64 (.iapp 13 (.cons (.int .i64 (.i2 .add (.var 1) (.var 2))) .nil))) .nil))) (.cons (.cst .nilI) .nil))))))))
abbrev fcc_grow : Con := ⟨159, [(.agg (.cons (.int .i64 (.var 0)) (.cons (.int .i64 (.var 1)) .nil))), (.int .i64 (.var 2))], (.b2 .and (.b2 .le (.var 0) (.var 1)) (.b2 .and (.b2 .le (.lit (0)) (.var 2)) (.b2 .and (.b2 .and (.b2 .le (.lit (-9223372036854775808)) (.var 0)) (.b2 .le (.var 0) (.lit (9223372036854775807)))) (.b2 .and (.b2 .and (.b2 .le (.lit (-9223372036854775808)) (.var 1)) (.b2 .le (.var 1) (.lit (9223372036854775807)))) (.b2 .and (.b2 .le (.lit (-9223372036854775808)) (.var 2)) (.b2 .le (.var 2) (.lit (9223372036854775807)))))))), (.tup (.cons (.agg (.cons (.int .i64 (.iapp 13 (.cons (.int .i64 (.i2 .sub (.var 0) (.var 2))) .nil))) (.cons (.int .i64 (.iapp 13 (.cons (.int .i64 (.i2 .add (.var 1) (.var 2))) .nil))) .nil))) (.cons (.err (.lit (0))) .nil))), ⟨3, 0, 0, 0⟩, none⟩
theorem grow_w : walk Tryd.prog 141 ⟨[wc_check, wec_subsat, fcc_addsat], syG, [], [], []⟩ [] .v fcc_grow fcc_grow.n 3000 = some grow_tree := by kernel_rfl
theorem grow_h (a : Int) (b : Int) (n : Int) (hc : holds (fcE [a, b, n] [] [] []) (.b2 .and (.b2 .le (.var 0) (.var 1)) (.b2 .and (.b2 .le (.lit (0)) (.var 2)) (.b2 .and (.b2 .and (.b2 .le (.lit (-9223372036854775808)) (.var 0)) (.b2 .le (.var 0) (.lit (9223372036854775807)))) (.b2 .and (.b2 .and (.b2 .le (.lit (-9223372036854775808)) (.var 1)) (.b2 .le (.var 1) (.lit (9223372036854775807)))) (.b2 .and (.b2 .le (.lit (-9223372036854775808)) (.var 2)) (.b2 .le (.var 2) (.lit (9223372036854775807))))))))) (hty : patsTyp (fcE [a, b, n] [] [] []) [(.agg (.cons (.int .i64 (.var 0)) (.cons (.int .i64 (.var 1)) .nil))), (.int .i64 (.var 2))]) : grow_tree.holds (fun v_ => v_ = denV (fcE [a, b, n] [] [] []) b0 (.tup (.cons (.agg (.cons (.int .i64 (.iapp 13 (.cons (.int .i64 (.i2 .sub (.var 0) (.var 2))) .nil))) (.cons (.int .i64 (.iapp 13 (.cons (.int .i64 (.i2 .add (.var 1) (.var 2))) .nil))) .nil))) (.cons (.err (.lit (0))) .nil)))) (fcE [a, b, n] [] [] []) := by
  simp only [Tree.holds, Sy.holds, AllN, Env.more, fcE, List.cons_append, List.nil_append, List.append_nil, denV, denI, denB, denL, I2.den, VOp.den, List.getD_cons_zero, List.getD_cons_succ, Cst.den, syso, syse, syio, sybo, fci_of, fci_arh, fci_fb, fci_se, fci_vm, fci_vl, fci_vh, fci_vE, fci_vM, fci_vL, fci_vH, fci_aa, fci_mi, fci_sa, fci_nv, fci_ne, fci_sz, fci_lst, fci_chk, fci_ix, fci_pE, fci_md, fci_up, fci_rsv, fci_rso, fci_rbd, fcb_pre, fcb_sm, fcb_ai, fcb_tk, fcb_okr, fcb_okf, fcb_rp, fcb_rd, fcb_nb, fcv_pV, fcv_nw, List.map_nil, List.map_cons, B2.ofInts, B2.denI, B2.denB, if_true, Bool.false_eq_true, if_false, Nat.div_one, Nat.mul_one, Nat.add_zero, holds] at hc
  simp only [patsTyp, patTyp, patTypL, fcE, denV, denL, List.getD_cons_zero, List.getD_cons_succ, and_true, true_and] at hty
  unfold grow_tree
  simp only [Tree.holds, Sy.holds, AllN, Env.more, fcE, List.cons_append, List.nil_append, List.append_nil, denV, denI, denB, denL, I2.den, VOp.den, List.getD_cons_zero, List.getD_cons_succ, Cst.den, syso, syse, syio, sybo, fci_of, fci_arh, fci_fb, fci_se, fci_vm, fci_vl, fci_vh, fci_vE, fci_vM, fci_vL, fci_vH, fci_aa, fci_mi, fci_sa, fci_nv, fci_ne, fci_sz, fci_lst, fci_chk, fci_ix, fci_pE, fci_md, fci_up, fci_rsv, fci_rso, fci_rbd, fcb_pre, fcb_sm, fcb_ai, fcb_tk, fcb_okr, fcb_okf, fcb_rp, fcb_rd, fcb_nb, fcv_pV, fcv_nw, List.map_nil, List.map_cons, B2.ofInts, B2.denI, B2.denB, if_true, Bool.false_eq_true, if_false, Nat.div_one, Nat.mul_one, Nat.add_zero]
  refine ⟨fun h0 => ?_, fun h0 => ?_⟩
  ·
   first
   | rfl
   | (have hsp := spE_spec a b
      exfalso
      omega)
  ·
   refine ⟨fun h1 => ?_, fun h1 => ?_⟩
   ·
    first
    | rfl
    | (have hsp := spE_spec a b
       exfalso
       omega)
   ·
    refine ⟨?_, fun h2 => ?_⟩
    ·
     omega
    ·
     refine ⟨?_, fun h3 => ?_⟩
     ·
      omega
     ·
      first
      | rfl
      | (have hsp := spE_spec a b
         exfalso
         omega)
theorem fcg_grow : fcc_grow.Good Tryd.prog syG (fcE [] [] [] []) := good_of_walk (Γ := ⟨[wc_check, wec_subsat, fcc_addsat], syG, [], [], []⟩) (ρ := fcE [] [] [] []) sym grow_w rfl (fun _ _ _ _ => (ok_cons (Con.Good.env (Con.Good.up (Con.Good.up (Con.Good.up (Con.Good.up (Con.Good.up (Con.Good.up (Con.Good.up (Con.Good.up wg_check wbup rfl) wcup rfl) wdup rfl) weup rfl) wfup rfl) faup rfl) fbup rfl) fcup rfl) _ _ _ _) (ok_cons (Con.Good.env (Con.Good.up (Con.Good.up (Con.Good.up (Con.Good.up weg_subsat wfup rfl) faup rfl) fbup rfl) fcup rfl) _ _ _ _) (ok_cons (Con.Good.env fcg_addsat _ _ _ _) ok_nil)))) (fun a b n hc hty => grow_h a b n hc hty)
def pres_tree : Tree :=
 (.need (.b2 .and (.b2 .and (.b2 .le (.lit (-9223372036854775807)) (.wrap .i64 (.i2 .sub (.lit (0)) (.var 5)))) (.b2 .le (.wrap .i64 (.i2 .sub (.lit (0)) (.var 5))) (.lit (0)))) (.b2 .and (.b2 .le (.lit (0)) (.var 4)) (.b2 .le (.var 4) (.lit (1048576)))))
 (.need (.b2 .and (.b2 .le (.var 2) (.var 3)) (.b2 .and (.b2 .le (.lit (0)) (.wrap .i64 (.i2 .sub (.lit (0)) (.iapp 21 (.cons (.int .i64 (.wrap .i64 (.i2 .sub (.lit (0)) (.var 5)))) (.cons (.int .i64 (.var 4)) .nil)))))) (.b2 .and (.b2 .and (.b2 .le (.lit (-9223372036854775808)) (.var 2)) (.b2 .le (.var 2) (.lit (9223372036854775807)))) (.b2 .and (.b2 .and (.b2 .le (.lit (-9223372036854775808)) (.var 3)) (.b2 .le (.var 3) (.lit (9223372036854775807)))) (.b2 .and (.b2 .le (.lit (-9223372036854775808)) (.wrap .i64 (.i2 .sub (.lit (0)) (.iapp 21 (.cons (.int .i64 (.wrap .i64 (.i2 .sub (.lit (0)) (.var 5)))) (.cons (.int .i64 (.var 4)) .nil)))))) (.b2 .le (.wrap .i64 (.i2 .sub (.lit (0)) (.iapp 21 (.cons (.int .i64 (.wrap .i64 (.i2 .sub (.lit (0)) (.var 5)))) (.cons (.int .i64 (.var 4)) .nil))))) (.lit (9223372036854775807))))))))
 (.ret (.tup (.cons (.agg (.cons (.int .i64 (.iapp 13 (.cons (.int .i64 (.i2 .sub (.var 2) (.wrap .i64 (.i2 .sub (.lit (0)) (.iapp 21 (.cons (.int .i64 (.wrap .i64 (.i2 .sub (.lit (0)) (.var 5)))) (.cons (.int .i64 (.var 4)) .nil))))))) .nil))) (.cons (.int .i64 (.iapp 13 (.cons (.int .i64 (.i2 .add (.var 3) (.wrap .i64 (.i2 .sub (.lit (0)) (.iapp 21 (.cons (.int .i64 (.wrap .i64 (.i2 .sub (.lit (0)) (.var 5)))) (.cons (.int .i64 (.var 4)) .nil))))))) .nil))) .nil))) (.cons (.err (.lit (0))) .nil))))))
abbrev fcc_pres : Con := ⟨127, [(.agg (.cons (.int .i64 (.var 0)) (.cons (.int .i64 (.var 1)) (.cons (.int .i64 (.var 2)) (.cons (.int .i64 (.var 3)) .nil))))), (.int .i64 (.var 4)), (.int .i64 (.var 5))], (.b2 .and (.b2 .le (.var 2) (.var 3)) (.b2 .and (.b2 .and (.b2 .le (.lit (-9223372036854775808)) (.var 2)) (.b2 .le (.var 2) (.lit (9223372036854775807)))) (.b2 .and (.b2 .and (.b2 .le (.lit (-9223372036854775808)) (.var 3)) (.b2 .le (.var 3) (.lit (9223372036854775807)))) (.b2 .and (.b2 .le (.lit (0)) (.var 4)) (.b2 .and (.b2 .le (.var 4) (.lit (1048576))) (.b2 .and (.b2 .le (.lit (0)) (.var 5)) (.b2 .le (.var 5) (.lit (1125899906842624))))))))), (.tup (.cons (.agg (.cons (.int .i64 (.iapp 13 (.cons (.int .i64 (.i2 .sub (.var 2) (.iapp 22 (.cons (.int .i64 (.var 5)) (.cons (.int .i64 (.var 4)) .nil))))) .nil))) (.cons (.int .i64 (.iapp 13 (.cons (.int .i64 (.i2 .add (.var 3) (.iapp 22 (.cons (.int .i64 (.var 5)) (.cons (.int .i64 (.var 4)) .nil))))) .nil))) .nil))) (.cons (.err (.lit (0))) .nil))), ⟨6, 0, 0, 0⟩, none⟩
theorem pres_w : walk Tryd.prog 141 ⟨[fcc_wmd, fcc_grow], syG, [], [], []⟩ [] .v fcc_pres fcc_pres.n 3000 = some pres_tree := by kernel_rfl
theorem pres_h (a : Int) (b : Int) (c : Int) (d : Int) (r : Int) (g : Int) (hc : holds (fcE [a, b, c, d, r, g] [] [] []) (.b2 .and (.b2 .le (.var 2) (.var 3)) (.b2 .and (.b2 .and (.b2 .le (.lit (-9223372036854775808)) (.var 2)) (.b2 .le (.var 2) (.lit (9223372036854775807)))) (.b2 .and (.b2 .and (.b2 .le (.lit (-9223372036854775808)) (.var 3)) (.b2 .le (.var 3) (.lit (9223372036854775807)))) (.b2 .and (.b2 .le (.lit (0)) (.var 4)) (.b2 .and (.b2 .le (.var 4) (.lit (1048576))) (.b2 .and (.b2 .le (.lit (0)) (.var 5)) (.b2 .le (.var 5) (.lit (1125899906842624)))))))))) (hty : patsTyp (fcE [a, b, c, d, r, g] [] [] []) [(.agg (.cons (.int .i64 (.var 0)) (.cons (.int .i64 (.var 1)) (.cons (.int .i64 (.var 2)) (.cons (.int .i64 (.var 3)) .nil))))), (.int .i64 (.var 4)), (.int .i64 (.var 5))]) : pres_tree.holds (fun v_ => v_ = denV (fcE [a, b, c, d, r, g] [] [] []) b0 (.tup (.cons (.agg (.cons (.int .i64 (.iapp 13 (.cons (.int .i64 (.i2 .sub (.var 2) (.iapp 22 (.cons (.int .i64 (.var 5)) (.cons (.int .i64 (.var 4)) .nil))))) .nil))) (.cons (.int .i64 (.iapp 13 (.cons (.int .i64 (.i2 .add (.var 3) (.iapp 22 (.cons (.int .i64 (.var 5)) (.cons (.int .i64 (.var 4)) .nil))))) .nil))) .nil))) (.cons (.err (.lit (0))) .nil)))) (fcE [a, b, c, d, r, g] [] [] []) := by
  simp only [Tree.holds, Sy.holds, AllN, Env.more, fcE, List.cons_append, List.nil_append, List.append_nil, denV, denI, denB, denL, I2.den, VOp.den, List.getD_cons_zero, List.getD_cons_succ, Cst.den, syso, syse, syio, sybo, fci_of, fci_arh, fci_fb, fci_se, fci_vm, fci_vl, fci_vh, fci_vE, fci_vM, fci_vL, fci_vH, fci_aa, fci_mi, fci_sa, fci_nv, fci_ne, fci_sz, fci_lst, fci_chk, fci_ix, fci_pE, fci_md, fci_up, fci_rsv, fci_rso, fci_rbd, fcb_pre, fcb_sm, fcb_ai, fcb_tk, fcb_okr, fcb_okf, fcb_rp, fcb_rd, fcb_nb, fcv_pV, fcv_nw, List.map_nil, List.map_cons, B2.ofInts, B2.denI, B2.denB, if_true, Bool.false_eq_true, if_false, Nat.div_one, Nat.mul_one, Nat.add_zero, holds] at hc
  simp only [patsTyp, patTyp, patTypL, fcE, denV, denL, List.getD_cons_zero, List.getD_cons_succ, and_true, true_and] at hty
  unfold pres_tree
  simp only [Tree.holds, Sy.holds, AllN, Env.more, fcE, List.cons_append, List.nil_append, List.append_nil, denV, denI, denB, denL, I2.den, VOp.den, List.getD_cons_zero, List.getD_cons_succ, Cst.den, syso, syse, syio, sybo, fci_of, fci_arh, fci_fb, fci_se, fci_vm, fci_vl, fci_vh, fci_vE, fci_vM, fci_vL, fci_vH, fci_aa, fci_mi, fci_sa, fci_nv, fci_ne, fci_sz, fci_lst, fci_chk, fci_ix, fci_pE, fci_md, fci_up, fci_rsv, fci_rso, fci_rbd, fcb_pre, fcb_sm, fcb_ai, fcb_tk, fcb_okr, fcb_okf, fcb_rp, fcb_rd, fcb_nb, fcv_pV, fcv_nw, List.map_nil, List.map_cons, B2.ofInts, B2.denI, B2.denB, if_true, Bool.false_eq_true, if_false, Nat.div_one, Nat.mul_one, Nat.add_zero]
  obtain ⟨u1, u2, u3⟩ := up_bd (g := g) (r := r) (by omega) (by omega) (by omega) (by omega)
  have w1 : IntKind.wrap .i64 (0 - g) = -g := by have := wr_i64 (0 - g); omega
  have w2 : IntKind.wrap .i64 (0 - -(upK (g * r))) = upK (g * r) := by have := wr_i64 (0 - -(upK (g * r))); omega
  have wf0 := wr_i64 (0 - g)
  refine ⟨?_, fun h0 => ?_⟩
  ·
   first
   | omega
   | (rw [w1, u3, w2]
      omega)
  ·
   have wf1 := wr_i64 (0 - ((IntKind.wrap .i64 (0 - g)) * r / 1073741824))
   try simp only [hw0]
   refine ⟨?_, fun h1 => ?_⟩
   ·
    first
    | omega
    | (rw [w1, u3, w2]
       omega)
   ·
    try simp only [hw1]
    try simp only [hw0]
    rw [w1, u3, w2]
theorem fcg_pres : fcc_pres.Good Tryd.prog syG (fcE [] [] [] []) := good_of_walk (Γ := ⟨[fcc_wmd, fcc_grow], syG, [], [], []⟩) (ρ := fcE [] [] [] []) sym pres_w rfl (fun _ _ _ _ => (ok_cons (Con.Good.env fcg_wmd _ _ _ _) (ok_cons (Con.Good.env fcg_grow _ _ _ _) ok_nil))) (fun a b c d r g hc hty => pres_h a b c d r g hc hty)
end Go.Proofs.YtflckmhlobpfiaaDoor
