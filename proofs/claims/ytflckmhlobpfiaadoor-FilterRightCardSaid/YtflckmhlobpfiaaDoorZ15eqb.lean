import Derived.Test.YtflckmhlobpfiaaDoorSycqb
import Derived.Test.YtflckmhlobpfiaaDoorZ15dqb
/-
  Layer 15 by the second engine: what the laws hand over; FilterTells.
-/
namespace Go.Proofs.YtflckmhlobpfiaaDoor
open Go.RowKit Go.Extern.Stop Go.Stop Go.Extern Go.Proofs.YtflckmhlobpfiaaDoor.Sy
set_option linter.unusedVariables false
set_option linter.unusedSimpArgs false
def tk4V (l : Value) (n : Nat) : Value := .tuple ((Sy.rows l).take (n * 4)).toArray
theorem typ_all4 {l : Value} (h : typ (.sl KE) l) {n : Nat} (hn : (Sy.rows l).length = n * 4) : tk4V l n = l := by
  unfold tk4V
  rw [← hn, List.take_length]
  exact h.1.symm
theorem num15_any (n : Int) (w : World) (hg : w.cell? ⟨0, 0, none⟩ = some asHandle) : Calls Tryd.prog 67 #[errVal 141 n] w fun e w' => e = .returned (.int .i64 n) ∧ Below w.heap.size w w' := by
  unfold errVal
  split
  · rename_i h; subst h; exact num15_nil _
  · exact num15_err _ _ hg
theorem okR_nil : okR [] = true := okR_iff.2 fun x hx => absurd hx List.not_mem_nil
theorem okR_put {l : List Value} {a b c d : Int} (h : okR l = true) (h2 : ((-9223372036854775808 ≤ a ∧ a ≤ 9223372036854775807) ∧ (-9223372036854775808 ≤ b ∧ b ≤ 9223372036854775807) ∧ (-9223372036854775808 ≤ c ∧ c ≤ 9223372036854775807) ∧ -9223372036854775808 ≤ d ∧ d ≤ 9223372036854775807)) : okR (putV l a b c d) = true := okR_iff.2 fun x hx => by
  unfold putV at hx
  split at hx
  · rcases List.mem_append.1 hx with hx | hx
    · rcases List.mem_append.1 hx with hx | hx
      · exact okR_iff.1 h x (List.mem_of_mem_take hx)
      · exact okR_iff.1 (okR_ent h2) x hx
    · exact okR_iff.1 h x (List.mem_of_mem_drop hx)
  · exact absurd hx List.not_mem_nil
abbrev n15 : List Value := Sy.rows (Value.tuple #[])
abbrev y15 : List Value := Sy.rows (Value.tuple (putV n15 1 0 1 5).toArray)
abbrev x15 : List Value := Sy.rows (Value.tuple (putV y15 0 0 4 9).toArray)
theorem okR_y : okR y15 = true := okR_put (l := n15) (a := 1) (b := 0) (c := 1) (d := 5) okR_nil ⟨by decide, by decide, by decide, by decide⟩
theorem okR_x : okR x15 = true := okR_put (l := y15) (a := 0) (b := 0) (c := 4) (d := 9) okR_y ⟨by decide, by decide, by decide, by decide⟩
theorem q15 : putE n15 1 0 1 5 = 0 ∧ putE y15 0 0 4 9 = 0 ∧ ((x15.length / 4 : Nat) : Int) = 2 ∧ Go.RowKit.intOf (x15.getD (Int.toNat 0 * 4) Go.undef) = 0 ∧ bstE x15 0 9 5 = 0 ∧ (bstR x15 0 9 5).2.1 = 4 ∧ (bstR x15 0 9 5).2.2 = 5 ∧ (((bstR x15 0 9 5).1 : Nat) : Int) = 2 ∧ bstE x15 0 9 50 = 13 := by decide
noncomputable def feI : Nat → List Value → Int
  | i, l => fdI i l
noncomputable def feB : Nat → List Value → Bool
  | 9, [x, y, .int _ n] => eqV x (tk4V y n.toNat)
  | 10, [x, y] => eqV x y
  | i, l => fdB i l
noncomputable def feV : Nat → List Value → Value
  | i, l => fdV i l
noncomputable abbrev feE (iv : List Int) (bv : List Bool) (vv : List Value) (sv : List ByteArray) : Env := { iv := iv, bv := bv, vv := vv, sv := sv, fi := feI, fb := feB, fv := feV, et := 141 }
theorem feup : Agree 30 9 2 (fdE [] [] [] []) (feE [] [] [] []) := ⟨rfl, (by
    intro f hf
    funext l
    show feI f l = fdI f l
    unfold feI
    split <;> first | rfl | omega), (by
    intro f hf
    funext l
    show feB f l = fdB f l
    unfold feB
    split <;> first | rfl | omega), (by
    intro f hf
    funext l
    show feV f l = fdV f l
    unfold feV
    split <;> first | rfl | omega)⟩
theorem fei_of (l : Value) (k1 : IntKind) (n : Int) (k2 : IntKind) (k : Int) : feI 0 [l, .int k1 n, .int k2 k] = ((ofN (rows l) n k.toNat : Nat) : Int) := rfl
theorem fei_arh (l : Value) (k1 : IntKind) (n : Int) (k2 : IntKind) (k : Int) : feI 1 [l, .int k1 n, .int k2 k] = arH (rows l) n k.toNat := rfl
theorem fei_fb (l : Value) (k1 : IntKind) (k : Int) : feI 2 [l, .int k1 k] = fbW (rows l) k.toNat := rfl
theorem fei_se (k1 : IntKind) (a : Int) (k2 : IntKind) (b : Int) : feI 3 [.int k1 a, .int k2 b] = spE a b := rfl
theorem fei_vm (l : Value) (k1 : IntKind) (k : Int) : feI 4 [l, .int k1 k] = (((vo (rows l) ((rows l).length / 2) k.toNat).1 : Nat) : Int) := rfl
theorem fei_vl (l : Value) (k1 : IntKind) (k : Int) : feI 5 [l, .int k1 k] = (vo (rows l) ((rows l).length / 2) k.toNat).2.1 := rfl
theorem fei_vh (l : Value) (k1 : IntKind) (k : Int) : feI 6 [l, .int k1 k] = (vo (rows l) ((rows l).length / 2) k.toNat).2.2 := rfl
theorem fei_vE (l : Value) : feI 7 [l] = voE (rows l) := rfl
theorem fei_vM (l : Value) : feI 8 [l] = (((voR (rows l)).1 : Nat) : Int) := rfl
theorem fei_vL (l : Value) : feI 9 [l] = (voR (rows l)).2.1 := rfl
theorem fei_vH (l : Value) : feI 10 [l] = (voR (rows l)).2.2 := rfl
theorem fei_aa (l : Value) (k1 : IntKind) (k : Int) : feI 11 [l, .int k1 k] = (atS (rows l) ((rows l).length / 2) k.toNat).2 := rfl
theorem fei_mi (k1 : IntKind) (a : Int) (k2 : IntKind) (b : Int) : feI 12 [.int k1 a, .int k2 b] = midM a b := rfl
theorem fei_sa (k1 : IntKind) (a : Int) : feI 13 [.int k1 a] = satE a := rfl
theorem fei_nv (k1 : IntKind) (a : Int) : feI 14 [.int k1 a] = svE a := rfl
theorem fei_ne (k1 : IntKind) (a : Int) : feI 15 [.int k1 a] = erE a := rfl
theorem fei_sz (k1 : IntKind) (a : Int) : feI 16 [.int k1 a] = szE a := rfl
theorem fei_lst (l : Value) (k1 : IntKind) (k : Int) : feI 17 [l, .int k1 k] = leastS (rows l) k.toNat := rfl
theorem fei_chk (l : Value) : feI 18 [l] = chkF (rows l) := rfl
theorem fei_ix (l : Value) (k1 : IntKind) (s : Int) (k2 : IntKind) (k : Int) : feI 19 [l, .int k1 s, .int k2 k] = ixF (rows l) s k.toNat := rfl
theorem fei_pE (l : Value) (k1 : IntKind) (a : Int) (k2 : IntKind) (b : Int) (k3 : IntKind) (c : Int) (k4 : IntKind) (d : Int) : feI 20 [l, .int k1 a, .int k2 b, .int k3 c, .int k4 d] = putE (rows l) a b c d := rfl
theorem fei_md (k1 : IntKind) (a : Int) (k2 : IntKind) (b : Int) : feI 21 [.int k1 a, .int k2 b] = a * b / 1073741824 := rfl
theorem fei_up (k1 : IntKind) (g : Int) (k2 : IntKind) (r : Int) : feI 22 [.int k1 g, .int k2 r] = upK (g * r) := rfl
theorem fei_rsv (k1 : IntKind) (a : Int) : feI 23 [.int k1 a] = svE a := rfl
theorem fei_rso (k1 : IntKind) (a : Int) : feI 24 [.int k1 a] = soE a := rfl
theorem fei_rbd (k1 : IntKind) (a : Int) (k2 : IntKind) (o : Int) : feI 25 [.int k1 a, .int k2 o] = bdE a o := rfl
theorem fei_bE (l : Value) (k1 : IntKind) (r : Int) (k2 : IntKind) (p : Int) (k3 : IntKind) (n : Int) : feI 26 [l, .int k1 r, .int k2 p, .int k3 n] = bstE (rows l) r p n := rfl
theorem fei_bL (l : Value) (k1 : IntKind) (r : Int) (k2 : IntKind) (p : Int) (k3 : IntKind) (n : Int) : feI 27 [l, .int k1 r, .int k2 p, .int k3 n] = (bstR (rows l) r p n).2.1 := rfl
theorem fei_bH (l : Value) (k1 : IntKind) (r : Int) (k2 : IntKind) (p : Int) (k3 : IntKind) (n : Int) : feI 28 [l, .int k1 r, .int k2 p, .int k3 n] = (bstR (rows l) r p n).2.2 := rfl
theorem fei_bM (l : Value) (k1 : IntKind) (r : Int) (k2 : IntKind) (p : Int) (k3 : IntKind) (n : Int) : feI 29 [l, .int k1 r, .int k2 p, .int k3 n] = (((bstR (rows l) r p n).1 : Nat) : Int) := rfl
theorem feb_pre (l : Value) (k1 : IntKind) (k : Int) : feB 0 [l, .int k1 k] = preW (rows l) k.toNat := rfl
theorem feb_sm (l : Value) (k1 : IntKind) (a : Int) (k2 : IntKind) (b : Int) (k3 : IntKind) (k : Int) : feB 1 [l, .int k1 a, .int k2 b, .int k3 k] = smB (rows l) a b k.toNat := rfl
theorem feb_ai (l : Value) (k1 : IntKind) (k : Int) : feB 2 [l, .int k1 k] = (atS (rows l) ((rows l).length / 2) k.toNat).1 := rfl
theorem feb_tk (x : Value) (y : Value) (k1 : IntKind) (n : Int) : feB 3 [x, y, .int k1 n] = eqV x (tkV y n.toNat) := rfl
theorem feb_okr (l : Value) : feB 4 [l] = okR (rows l) := rfl
theorem feb_okf (l : Value) (k1 : IntKind) (k : Int) : feB 5 [l, .int k1 k] = okF (rows l) k.toNat := rfl
theorem feb_rp (v : Value) (l : Value) (k1 : IntKind) (a : Int) (k2 : IntKind) (b : Int) (k3 : IntKind) (c : Int) (k4 : IntKind) (d : Int) (k5 : IntKind) (k : Int) : feB 6 [v, l, .int k1 a, .int k2 b, .int k3 c, .int k4 d, .int k5 k] = rpB v (rows l) a b c d k.toNat := rfl
theorem feb_rd (l : Value) (k1 : IntKind) (a : Int) (k2 : IntKind) (k : Int) : feB 7 [l, .int k1 a, .int k2 k] = decide (inF (rows l) a < k.toNat) := rfl
theorem feb_nb (v : Value) (l : Value) (k1 : IntKind) (r : Int) (k2 : IntKind) (p : Int) (k3 : IntKind) (n : Int) (k4 : IntKind) (k : Int) : feB 8 [v, l, .int k1 r, .int k2 p, .int k3 n, .int k4 k] = eqV v (Value.tuple (nowL (rows l) r p n k.toNat).toArray) := rfl
theorem feb_tk4 (x : Value) (y : Value) (k1 : IntKind) (n : Int) : feB 9 [x, y, .int k1 n] = eqV x (tk4V y n.toNat) := rfl
theorem feb_eqv (x : Value) (y : Value) : feB 10 [x, y] = eqV x y := rfl
theorem fev_pV (l : Value) (k1 : IntKind) (a : Int) (k2 : IntKind) (b : Int) (k3 : IntKind) (c : Int) (k4 : IntKind) (d : Int) : feV 0 [l, .int k1 a, .int k2 b, .int k3 c, .int k4 d] = Value.tuple (putV (rows l) a b c d).toArray := rfl
theorem fev_nw (l : Value) (k1 : IntKind) (r : Int) (k2 : IntKind) (p : Int) (k3 : IntKind) (n : Int) (k4 : IntKind) (k : Int) : feV 1 [l, .int k1 r, .int k2 p, .int k3 n, .int k4 k] = Value.tuple (nowL (rows l) r p n k.toNat).toArray := rfl
abbrev fec_num : Con := ⟨67, [(.err (.var 0))], (.tt true), (.int .i64 (.var 0)), ⟨1, 0, 0, 0⟩, none⟩
theorem feg_num : fec_num.Good Tryd.prog syG (feE [] [] [] []) := good_flat rfl rfl rfl (by
  intro n hc β ok w hG
  have hc' := hc
  simp only [Tree.holds, Sy.holds, AllN, Env.more, feE, List.cons_append, List.nil_append, List.append_nil, denV, denI, denB, denL, I2.den, VOp.den, List.getD_cons_zero, List.getD_cons_succ, Cst.den, syso, syse, syio, sybo, fei_of, fei_arh, fei_fb, fei_se, fei_vm, fei_vl, fei_vh, fei_vE, fei_vM, fei_vL, fei_vH, fei_aa, fei_mi, fei_sa, fei_nv, fei_ne, fei_sz, fei_lst, fei_chk, fei_ix, fei_pE, fei_md, fei_up, fei_rsv, fei_rso, fei_rbd, fei_bE, fei_bL, fei_bH, fei_bM, feb_pre, feb_sm, feb_ai, feb_tk, feb_okr, feb_okf, feb_rp, feb_rd, feb_nb, feb_tk4, feb_eqv, fev_pV, fev_nw, List.map_nil, List.map_cons, B2.ofInts, B2.denI, B2.denB, if_true, Bool.false_eq_true, if_false, Nat.div_one, Nat.mul_one, Nat.add_zero, holds] at hc
  exact num15_any n w (hG _ (List.mem_singleton.2 rfl)).2.2)
def givef_tree : Tree :=
 (.loop ⟨1, 0, 1, 0⟩ (.b2 .and (.b2 .le (.lit (0)) (.lit (0))) (.b2 .and (.b2 .le (.lit (0)) (.ofI (.vop (.len 4) (.cons (.opq 0) .nil)))) (.bapp 9 (.cons (.tup .nil) (.cons (.opq 0) (.cons (.int .i64 (.lit (0))) .nil)))))) (.b2 .and (.b2 .le (.lit (0)) (.var 0)) (.b2 .and (.b2 .le (.var 0) (.ofI (.vop (.len 4) (.cons (.opq 0) .nil)))) (.bapp 9 (.cons (.opq 1) (.cons (.opq 0) (.cons (.int .i64 (.var 0)) .nil))))))
 (.br (.b2 .lt (.var 0) (.ofI (.vop (.len 4) (.cons (.opq 0) .nil))))
 (.need (.b2 .and (.b2 .le (.lit (0)) (.var 0)) (.b2 .lt (.var 0) (.ofI (.vop (.len 4) (.cons (.opq 0) .nil)))))
 (.need (.b2 .and (.b2 .le (.lit (0)) (.var 0)) (.b2 .lt (.var 0) (.ofI (.vop (.len 4) (.cons (.opq 0) .nil)))))
 (.need (.b2 .and (.b2 .le (.lit (0)) (.var 0)) (.b2 .lt (.var 0) (.ofI (.vop (.len 4) (.cons (.opq 0) .nil)))))
 (.need (.b2 .le (.i2 .add (.ofI (.vop (.len 4) (.cons (.opq 1) .nil))) (.lit (1))) (.lit (4398046511104)))
 (.back (.b2 .and (.b2 .le (.lit (0)) (.wrap .i64 (.i2 .add (.var 0) (.lit (1))))) (.b2 .and (.b2 .le (.wrap .i64 (.i2 .add (.var 0) (.lit (1)))) (.ofI (.vop (.len 4) (.cons (.opq 0) .nil)))) (.bapp 9 (.cons (.vop .cat (.cons (.opq 1) (.cons (.tup (.cons (.int .i64 (.ofI (.vop (.sel 4 0) (.cons (.opq 0) (.cons (.int .i64 (.var 0)) .nil))))) (.cons (.int .i64 (.ofI (.vop (.sel 4 1) (.cons (.opq 0) (.cons (.int .i64 (.var 0)) .nil))))) (.cons (.int .i64 (.ofI (.vop (.sel 4 2) (.cons (.opq 0) (.cons (.int .i64 (.var 0)) .nil))))) (.cons (.int .i64 (.ofI (.vop (.sel 4 3) (.cons (.opq 0) (.cons (.int .i64 (.var 0)) .nil))))) .nil))))) .nil))) (.cons (.opq 0) (.cons (.int .i64 (.wrap .i64 (.i2 .add (.var 0) (.lit (1))))) .nil)))))) (.i2 .sub (.ofI (.vop (.len 4) (.cons (.opq 0) .nil))) (.wrap .i64 (.i2 .add (.var 0) (.lit (1))))) (.i2 .sub (.ofI (.vop (.len 4) (.cons (.opq 0) .nil))) (.var 0)))))))
 (.ret (.agg (.cons (.hs (.new 111) (.cons (.int .i64) (.cons (.int .i64) (.cons (.int .i64) (.cons (.int .i64) .nil)))) (.opq 1)) .nil)))))
abbrev fec_givef : Con := ⟨61, [(.agg (.cons (.hs .no (.cons (.int .i64) (.cons (.int .i64) (.cons (.int .i64) (.cons (.int .i64) .nil)))) (.opq 0)) .nil))], (.b2 .le (.ofI (.vop (.len 4) (.cons (.opq 0) .nil))) (.lit (4398046511103))), (.agg (.cons (.hs (.new 111) (.cons (.int .i64) (.cons (.int .i64) (.cons (.int .i64) (.cons (.int .i64) .nil)))) (.opq 0)) .nil)), ⟨0, 0, 1, 0⟩, none⟩
theorem givef_w : walk Tryd.prog 141 ⟨[], syG, [], [], []⟩ [⟨0, ⟨1, 0, 1, 0⟩, [(4, (.int .i64 (.var 0)))], some [[(.hs .no (.cons (.int .i64) (.cons (.int .i64) (.cons (.int .i64) (.cons (.int .i64) .nil)))) (.opq 0))], [(.cst .nilS)], [(.hs (.id 1000 111) (.cons (.int .i64) (.cons (.int .i64) (.cons (.int .i64) (.cons (.int .i64) .nil)))) (.opq 1))]], (.b2 .and (.b2 .le (.lit (0)) (.var 0)) (.b2 .and (.b2 .le (.var 0) (.ofI (.vop (.len 4) (.cons (.opq 0) .nil)))) (.bapp 9 (.cons (.opq 1) (.cons (.opq 0) (.cons (.int .i64 (.var 0)) .nil)))))), (.i2 .sub (.ofI (.vop (.len 4) (.cons (.opq 0) .nil))) (.var 0)), 1, []⟩] (.agg (.cons (.o 111 (.cons (.int .i64) (.cons (.int .i64) (.cons (.int .i64) (.cons (.int .i64) .nil))))) .nil)) fec_givef fec_givef.n 3000 = some givef_tree := by kernel_rfl
theorem givef_h (l : Value) (hc : holds (feE [] [] [l] []) (.b2 .le (.ofI (.vop (.len 4) (.cons (.opq 0) .nil))) (.lit (4398046511103)))) (hty : patsTyp (feE [] [] [l] []) [(.agg (.cons (.hs .no (.cons (.int .i64) (.cons (.int .i64) (.cons (.int .i64) (.cons (.int .i64) .nil)))) (.opq 0)) .nil))]) : givef_tree.holds (fun v_ => v_ = denV (feE [] [] [l] []) b0 (.agg (.cons (.hs (.new 111) (.cons (.int .i64) (.cons (.int .i64) (.cons (.int .i64) (.cons (.int .i64) .nil)))) (.opq 0)) .nil))) (feE [] [] [l] []) := by
  simp only [Tree.holds, Sy.holds, AllN, Env.more, feE, List.cons_append, List.nil_append, List.append_nil, denV, denI, denB, denL, I2.den, VOp.den, List.getD_cons_zero, List.getD_cons_succ, Cst.den, syso, syse, syio, sybo, fei_of, fei_arh, fei_fb, fei_se, fei_vm, fei_vl, fei_vh, fei_vE, fei_vM, fei_vL, fei_vH, fei_aa, fei_mi, fei_sa, fei_nv, fei_ne, fei_sz, fei_lst, fei_chk, fei_ix, fei_pE, fei_md, fei_up, fei_rsv, fei_rso, fei_rbd, fei_bE, fei_bL, fei_bH, fei_bM, feb_pre, feb_sm, feb_ai, feb_tk, feb_okr, feb_okf, feb_rp, feb_rd, feb_nb, feb_tk4, feb_eqv, fev_pV, fev_nw, List.map_nil, List.map_cons, B2.ofInts, B2.denI, B2.denB, if_true, Bool.false_eq_true, if_false, Nat.div_one, Nat.mul_one, Nat.add_zero, holds] at hc
  simp only [patsTyp, patTyp, patTypL, feE, denV, denL, List.getD_cons_zero, List.getD_cons_succ, and_true, true_and] at hty
  have hL_l : typ (.sl (.cons (.int .i64) (.cons (.int .i64) (.cons (.int .i64) (.cons (.int .i64) .nil))))) l := by first | exact hty | exact hty.1 | exact hty.2 | exact hty.1.1 | exact hty.1.2 | exact hty.2.1 | exact hty.2.2 | exact hty.2.2.1 | exact hty.2.2.2
  have hN_l := typ_len (n := 4) hL_l rfl (by omega)
  unfold givef_tree
  simp only [Tree.holds, Sy.holds, AllN, Env.more, feE, List.cons_append, List.nil_append, List.append_nil, denV, denI, denB, denL, I2.den, VOp.den, List.getD_cons_zero, List.getD_cons_succ, Cst.den, syso, syse, syio, sybo, fei_of, fei_arh, fei_fb, fei_se, fei_vm, fei_vl, fei_vh, fei_vE, fei_vM, fei_vL, fei_vH, fei_aa, fei_mi, fei_sa, fei_nv, fei_ne, fei_sz, fei_lst, fei_chk, fei_ix, fei_pE, fei_md, fei_up, fei_rsv, fei_rso, fei_rbd, fei_bE, fei_bL, fei_bH, fei_bM, feb_pre, feb_sm, feb_ai, feb_tk, feb_okr, feb_okf, feb_rp, feb_rd, feb_nb, feb_tk4, feb_eqv, fev_pV, fev_nw, List.map_nil, List.map_cons, B2.ofInts, B2.denI, B2.denB, if_true, Bool.false_eq_true, if_false, Nat.div_one, Nat.mul_one, Nat.add_zero]
  refine ⟨?_, ?_⟩
  ·
   exact ⟨by omega, by omega, eqV_iff.2 (by simp [tk4V])⟩
  ·
   intro i0a i0b hi0
   refine ⟨fun h0 => ?_, fun h0 => ?_⟩
   ·
    refine ⟨?_, fun h1 => ?_⟩
    ·
     first
     | omega
     | (have hlen : (Sy.rows i0b).length = i0a.toNat * 4 := by
          rw [eqV_iff.1 hi0.2.2]
          simp only [tk4V, rows_tup, List.length_take]
          omega
        omega)
    ·
     refine ⟨?_, fun h2 => ?_⟩
     ·
      first
      | omega
      | (have hlen : (Sy.rows i0b).length = i0a.toNat * 4 := by
           rw [eqV_iff.1 hi0.2.2]
           simp only [tk4V, rows_tup, List.length_take]
           omega
         omega)
     ·
      refine ⟨?_, fun h3 => ?_⟩
      ·
       first
       | omega
       | (have hlen : (Sy.rows i0b).length = i0a.toNat * 4 := by
            rw [eqV_iff.1 hi0.2.2]
            simp only [tk4V, rows_tup, List.length_take]
            omega
          omega)
      ·
       refine ⟨?_, fun h4 => ?_⟩
       ·
        first
        | omega
        | (have hlen : (Sy.rows i0b).length = i0a.toNat * 4 := by
             rw [eqV_iff.1 hi0.2.2]
             simp only [tk4V, rows_tup, List.length_take]
             omega
           omega)
       ·
        have wf0 := wr_i64 (i0a + 1)
        refine ⟨?_, ?_⟩
        ·
         obtain ⟨hi1, hi2, hi3⟩ := hi0
         have e : IntKind.wrap .i64 (i0a + 1) = i0a + 1 := by omega
         rw [e, show (i0a + 1).toNat = i0a.toNat + 1 by omega]
         refine ⟨by omega, by omega, eqV_iff.2 ?_⟩
         rw [eqV_iff.1 hi3]
         simp only [tk4V, rows_tup]
         rw [take4 (by omega), ← rowF_int hL_l (by omega)]
        ·
         omega
   ·
    obtain ⟨hi1, hi2, hi3⟩ := hi0
    rw [eqV_iff.1 hi3, typ_all4 hL_l (by omega)]
theorem feg_givef : fec_givef.Good Tryd.prog syG (feE [] [] [] []) := good_of_walk (Γ := ⟨[], syG, [], [], []⟩) (ρ := feE [] [] [] []) sym givef_w rfl (fun _ _ _ _ => ok_nil) (fun l hc hty => givef_h l hc hty)
def sure15_tree : Tree :=
 (.need (.bapp 4 (.cons (.tup .nil) .nil))
 (.need (.bapp 4 (.cons (.vapp 0 (.cons (.tup .nil) (.cons (.int .i64 (.lit (1))) (.cons (.int .i64 (.lit (0))) (.cons (.int .i64 (.lit (1))) (.cons (.int .i64 (.lit (5))) .nil)))))) .nil))
 (.need (.bapp 4 (.cons (.vapp 0 (.cons (.vapp 0 (.cons (.tup .nil) (.cons (.int .i64 (.lit (1))) (.cons (.int .i64 (.lit (0))) (.cons (.int .i64 (.lit (1))) (.cons (.int .i64 (.lit (5))) .nil)))))) (.cons (.int .i64 (.lit (0))) (.cons (.int .i64 (.lit (0))) (.cons (.int .i64 (.lit (4))) (.cons (.int .i64 (.lit (9))) .nil)))))) .nil))
 (.need (.bapp 4 (.cons (.vapp 0 (.cons (.vapp 0 (.cons (.tup .nil) (.cons (.int .i64 (.lit (1))) (.cons (.int .i64 (.lit (0))) (.cons (.int .i64 (.lit (1))) (.cons (.int .i64 (.lit (5))) .nil)))))) (.cons (.int .i64 (.lit (0))) (.cons (.int .i64 (.lit (0))) (.cons (.int .i64 (.lit (4))) (.cons (.int .i64 (.lit (9))) .nil)))))) .nil))
 (.br (.b2 .eq (.iapp 20 (.cons (.tup .nil) (.cons (.int .i64 (.lit (1))) (.cons (.int .i64 (.lit (0))) (.cons (.int .i64 (.lit (1))) (.cons (.int .i64 (.lit (5))) .nil)))))) (.lit (0)))
 (.br (.b2 .eq (.iapp 20 (.cons (.vapp 0 (.cons (.tup .nil) (.cons (.int .i64 (.lit (1))) (.cons (.int .i64 (.lit (0))) (.cons (.int .i64 (.lit (1))) (.cons (.int .i64 (.lit (5))) .nil)))))) (.cons (.int .i64 (.lit (0))) (.cons (.int .i64 (.lit (0))) (.cons (.int .i64 (.lit (4))) (.cons (.int .i64 (.lit (9))) .nil)))))) (.lit (0)))
 (.br (.b2 .eq (.iapp 26 (.cons (.vapp 0 (.cons (.vapp 0 (.cons (.tup .nil) (.cons (.int .i64 (.lit (1))) (.cons (.int .i64 (.lit (0))) (.cons (.int .i64 (.lit (1))) (.cons (.int .i64 (.lit (5))) .nil)))))) (.cons (.int .i64 (.lit (0))) (.cons (.int .i64 (.lit (0))) (.cons (.int .i64 (.lit (4))) (.cons (.int .i64 (.lit (9))) .nil)))))) (.cons (.int .i64 (.lit (0))) (.cons (.int .i64 (.lit (9))) (.cons (.int .i64 (.lit (5))) .nil))))) (.lit (0)))
 (.br (.b2 .eq (.ofI (.vop (.len 4) (.cons (.vapp 0 (.cons (.vapp 0 (.cons (.tup .nil) (.cons (.int .i64 (.lit (1))) (.cons (.int .i64 (.lit (0))) (.cons (.int .i64 (.lit (1))) (.cons (.int .i64 (.lit (5))) .nil)))))) (.cons (.int .i64 (.lit (0))) (.cons (.int .i64 (.lit (0))) (.cons (.int .i64 (.lit (4))) (.cons (.int .i64 (.lit (9))) .nil)))))) .nil))) (.lit (2)))
 (.need (.b2 .lt (.lit (0)) (.ofI (.vop (.len 4) (.cons (.vapp 0 (.cons (.vapp 0 (.cons (.tup .nil) (.cons (.int .i64 (.lit (1))) (.cons (.int .i64 (.lit (0))) (.cons (.int .i64 (.lit (1))) (.cons (.int .i64 (.lit (5))) .nil)))))) (.cons (.int .i64 (.lit (0))) (.cons (.int .i64 (.lit (0))) (.cons (.int .i64 (.lit (4))) (.cons (.int .i64 (.lit (9))) .nil)))))) .nil))))
 (.br (.b2 .eq (.ofI (.vop (.sel 4 0) (.cons (.vapp 0 (.cons (.vapp 0 (.cons (.tup .nil) (.cons (.int .i64 (.lit (1))) (.cons (.int .i64 (.lit (0))) (.cons (.int .i64 (.lit (1))) (.cons (.int .i64 (.lit (5))) .nil)))))) (.cons (.int .i64 (.lit (0))) (.cons (.int .i64 (.lit (0))) (.cons (.int .i64 (.lit (4))) (.cons (.int .i64 (.lit (9))) .nil)))))) (.cons (.int .i64 (.lit (0))) .nil)))) (.lit (0)))
 (.br (.b2 .and (.b2 .eq (.iapp 27 (.cons (.vapp 0 (.cons (.vapp 0 (.cons (.tup .nil) (.cons (.int .i64 (.lit (1))) (.cons (.int .i64 (.lit (0))) (.cons (.int .i64 (.lit (1))) (.cons (.int .i64 (.lit (5))) .nil)))))) (.cons (.int .i64 (.lit (0))) (.cons (.int .i64 (.lit (0))) (.cons (.int .i64 (.lit (4))) (.cons (.int .i64 (.lit (9))) .nil)))))) (.cons (.int .i64 (.lit (0))) (.cons (.int .i64 (.lit (9))) (.cons (.int .i64 (.lit (5))) .nil))))) (.lit (4))) (.b2 .eq (.iapp 28 (.cons (.vapp 0 (.cons (.vapp 0 (.cons (.tup .nil) (.cons (.int .i64 (.lit (1))) (.cons (.int .i64 (.lit (0))) (.cons (.int .i64 (.lit (1))) (.cons (.int .i64 (.lit (5))) .nil)))))) (.cons (.int .i64 (.lit (0))) (.cons (.int .i64 (.lit (0))) (.cons (.int .i64 (.lit (4))) (.cons (.int .i64 (.lit (9))) .nil)))))) (.cons (.int .i64 (.lit (0))) (.cons (.int .i64 (.lit (9))) (.cons (.int .i64 (.lit (5))) .nil))))) (.lit (5))))
 (.br (.b2 .eq (.iapp 29 (.cons (.vapp 0 (.cons (.vapp 0 (.cons (.tup .nil) (.cons (.int .i64 (.lit (1))) (.cons (.int .i64 (.lit (0))) (.cons (.int .i64 (.lit (1))) (.cons (.int .i64 (.lit (5))) .nil)))))) (.cons (.int .i64 (.lit (0))) (.cons (.int .i64 (.lit (0))) (.cons (.int .i64 (.lit (4))) (.cons (.int .i64 (.lit (9))) .nil)))))) (.cons (.int .i64 (.lit (0))) (.cons (.int .i64 (.lit (9))) (.cons (.int .i64 (.lit (5))) .nil))))) (.lit (2)))
 (.ret (.bool (.b2 .eq (.iapp 26 (.cons (.vapp 0 (.cons (.vapp 0 (.cons (.tup .nil) (.cons (.int .i64 (.lit (1))) (.cons (.int .i64 (.lit (0))) (.cons (.int .i64 (.lit (1))) (.cons (.int .i64 (.lit (5))) .nil)))))) (.cons (.int .i64 (.lit (0))) (.cons (.int .i64 (.lit (0))) (.cons (.int .i64 (.lit (4))) (.cons (.int .i64 (.lit (9))) .nil)))))) (.cons (.int .i64 (.lit (0))) (.cons (.int .i64 (.lit (9))) (.cons (.int .i64 (.lit (50))) .nil))))) (.lit (13)))))
 (.ret (.bool (.tt false))))
 (.ret (.bool (.tt false))))
 (.ret (.bool (.tt false)))))
 (.ret (.bool (.tt false))))
 (.ret (.bool (.tt false))))
 (.ret (.bool (.tt false))))
 (.ret (.bool (.tt false))))))))
abbrev fec_sure15 : Con := ⟨60, [], (.tt true), (.bool (.tt true)), ⟨0, 0, 0, 0⟩, none⟩
theorem sure15_w : walk Tryd.prog 141 ⟨[fac_fput, fdc_best, fec_num], syG, [], [], []⟩ [] .v fec_sure15 fec_sure15.n 3000 = some sure15_tree := by kernel_rfl
theorem sure15_h  (hc : holds (feE [] [] [] []) (.tt true)) (hty : patsTyp (feE [] [] [] []) []) : sure15_tree.holds (fun v_ => v_ = denV (feE [] [] [] []) b0 (.bool (.tt true))) (feE [] [] [] []) := by
  simp only [Tree.holds, Sy.holds, AllN, Env.more, feE, List.cons_append, List.nil_append, List.append_nil, denV, denI, denB, denL, I2.den, VOp.den, List.getD_cons_zero, List.getD_cons_succ, Cst.den, syso, syse, syio, sybo, fei_of, fei_arh, fei_fb, fei_se, fei_vm, fei_vl, fei_vh, fei_vE, fei_vM, fei_vL, fei_vH, fei_aa, fei_mi, fei_sa, fei_nv, fei_ne, fei_sz, fei_lst, fei_chk, fei_ix, fei_pE, fei_md, fei_up, fei_rsv, fei_rso, fei_rbd, fei_bE, fei_bL, fei_bH, fei_bM, feb_pre, feb_sm, feb_ai, feb_tk, feb_okr, feb_okf, feb_rp, feb_rd, feb_nb, feb_tk4, feb_eqv, fev_pV, fev_nw, List.map_nil, List.map_cons, B2.ofInts, B2.denI, B2.denB, if_true, Bool.false_eq_true, if_false, Nat.div_one, Nat.mul_one, Nat.add_zero, holds] at hc
  simp only [patsTyp, patTyp, patTypL, feE, denV, denL, List.getD_cons_zero, List.getD_cons_succ, and_true, true_and] at hty
  unfold sure15_tree
  simp only [Tree.holds, Sy.holds, AllN, Env.more, feE, List.cons_append, List.nil_append, List.append_nil, denV, denI, denB, denL, I2.den, VOp.den, List.getD_cons_zero, List.getD_cons_succ, Cst.den, syso, syse, syio, sybo, fei_of, fei_arh, fei_fb, fei_se, fei_vm, fei_vl, fei_vh, fei_vE, fei_vM, fei_vL, fei_vH, fei_aa, fei_mi, fei_sa, fei_nv, fei_ne, fei_sz, fei_lst, fei_chk, fei_ix, fei_pE, fei_md, fei_up, fei_rsv, fei_rso, fei_rbd, fei_bE, fei_bL, fei_bH, fei_bM, feb_pre, feb_sm, feb_ai, feb_tk, feb_okr, feb_okf, feb_rp, feb_rd, feb_nb, feb_tk4, feb_eqv, fev_pV, fev_nw, List.map_nil, List.map_cons, B2.ofInts, B2.denI, B2.denB, if_true, Bool.false_eq_true, if_false, Nat.div_one, Nat.mul_one, Nat.add_zero]
  obtain ⟨q1, q2, q3, q4, q5, q6, q7, q8, q9⟩ := q15
  refine ⟨?_, fun h0 => ?_⟩
  ·
   first
   | exact okR_nil
   | exact okR_y
   | exact okR_x
   | exact ⟨okR_nil, by decide, by decide, by decide, by decide⟩
   | exact ⟨okR_y, by decide, by decide, by decide, by decide⟩
   | exact ⟨okR_x, by decide, by decide⟩
   | omega
  ·
   refine ⟨?_, fun h1 => ?_⟩
   ·
    first
    | exact okR_nil
    | exact okR_y
    | exact okR_x
    | exact ⟨okR_nil, by decide, by decide, by decide, by decide⟩
    | exact ⟨okR_y, by decide, by decide, by decide, by decide⟩
    | exact ⟨okR_x, by decide, by decide⟩
    | omega
   ·
    refine ⟨?_, fun h2 => ?_⟩
    ·
     first
     | exact okR_nil
     | exact okR_y
     | exact okR_x
     | exact ⟨okR_nil, by decide, by decide, by decide, by decide⟩
     | exact ⟨okR_y, by decide, by decide, by decide, by decide⟩
     | exact ⟨okR_x, by decide, by decide⟩
     | omega
    ·
     refine ⟨?_, fun h3 => ?_⟩
     ·
      first
      | exact okR_nil
      | exact okR_y
      | exact okR_x
      | exact ⟨okR_nil, by decide, by decide, by decide, by decide⟩
      | exact ⟨okR_y, by decide, by decide, by decide, by decide⟩
      | exact ⟨okR_x, by decide, by decide⟩
      | omega
     ·
      refine ⟨fun h4 => ?_, fun h4 => ?_⟩
      ·
       refine ⟨fun h5 => ?_, fun h5 => ?_⟩
       ·
        refine ⟨fun h6 => ?_, fun h6 => ?_⟩
        ·
         refine ⟨fun h7 => ?_, fun h7 => ?_⟩
         ·
          refine ⟨?_, fun h8 => ?_⟩
          ·
           first
           | exact okR_nil
           | exact okR_y
           | exact okR_x
           | exact ⟨okR_nil, by decide, by decide, by decide, by decide⟩
           | exact ⟨okR_y, by decide, by decide, by decide, by decide⟩
           | exact ⟨okR_x, by decide, by decide⟩
           | omega
          ·
           refine ⟨fun h9 => ?_, fun h9 => ?_⟩
           ·
            refine ⟨fun h10 => ?_, fun h10 => ?_⟩
            ·
             refine ⟨fun h11 => ?_, fun h11 => ?_⟩
             ·
              first
              | rfl
              | exact congrArg Value.bool (beq_iff_eq.2 q9)
              | exact absurd ⟨q6, q7⟩ h10
              | exact absurd q1 h0
              | exact absurd q2 h0
              | exact absurd q3 h0
              | exact absurd q4 h0
              | exact absurd q5 h0
              | exact absurd q6 h0
              | exact absurd q7 h0
              | exact absurd q8 h0
              | exact absurd q9 h0
              | exact absurd q1 h1
              | exact absurd q2 h1
              | exact absurd q3 h1
              | exact absurd q4 h1
              | exact absurd q5 h1
              | exact absurd q6 h1
              | exact absurd q7 h1
              | exact absurd q8 h1
              | exact absurd q9 h1
              | exact absurd q1 h2
              | exact absurd q2 h2
              | exact absurd q3 h2
              | exact absurd q4 h2
              | exact absurd q5 h2
              | exact absurd q6 h2
              | exact absurd q7 h2
              | exact absurd q8 h2
              | exact absurd q9 h2
              | exact absurd q1 h3
              | exact absurd q2 h3
              | exact absurd q3 h3
              | exact absurd q4 h3
              | exact absurd q5 h3
              | exact absurd q6 h3
              | exact absurd q7 h3
              | exact absurd q8 h3
              | exact absurd q9 h3
              | exact absurd q1 h4
              | exact absurd q2 h4
              | exact absurd q3 h4
              | exact absurd q4 h4
              | exact absurd q5 h4
              | exact absurd q6 h4
              | exact absurd q7 h4
              | exact absurd q8 h4
              | exact absurd q9 h4
              | exact absurd q1 h5
              | exact absurd q2 h5
              | exact absurd q3 h5
              | exact absurd q4 h5
              | exact absurd q5 h5
              | exact absurd q6 h5
              | exact absurd q7 h5
              | exact absurd q8 h5
              | exact absurd q9 h5
              | exact absurd q1 h6
              | exact absurd q2 h6
              | exact absurd q3 h6
              | exact absurd q4 h6
              | exact absurd q5 h6
              | exact absurd q6 h6
              | exact absurd q7 h6
              | exact absurd q8 h6
              | exact absurd q9 h6
              | exact absurd q1 h7
              | exact absurd q2 h7
              | exact absurd q3 h7
              | exact absurd q4 h7
              | exact absurd q5 h7
              | exact absurd q6 h7
              | exact absurd q7 h7
              | exact absurd q8 h7
              | exact absurd q9 h7
              | exact absurd q1 h8
              | exact absurd q2 h8
              | exact absurd q3 h8
              | exact absurd q4 h8
              | exact absurd q5 h8
              | exact absurd q6 h8
              | exact absurd q7 h8
              | exact absurd q8 h8
              | exact absurd q9 h8
              | exact absurd q1 h9
              | exact absurd q2 h9
              | exact absurd q3 h9
              | exact absurd q4 h9
              | exact absurd q5 h9
              | exact absurd q6 h9
              | exact absurd q7 h9
              | exact absurd q8 h9
              | exact absurd q9 h9
              | exact absurd q1 h10
              | exact absurd q2 h10
              | exact absurd q3 h10
              | exact absurd q4 h10
              | exact absurd q5 h10
              | exact absurd q6 h10
              | exact absurd q7 h10
              | exact absurd q8 h10
              | exact absurd q9 h10
              | exact absurd q1 h11
              | exact absurd q2 h11
              | exact absurd q3 h11
              | exact absurd q4 h11
              | exact absurd q5 h11
              | exact absurd q6 h11
              | exact absurd q7 h11
              | exact absurd q8 h11
              | exact absurd q9 h11
             ·
              first
              | rfl
              | exact congrArg Value.bool (beq_iff_eq.2 q9)
              | exact absurd ⟨q6, q7⟩ h10
              | exact absurd q1 h0
              | exact absurd q2 h0
              | exact absurd q3 h0
              | exact absurd q4 h0
              | exact absurd q5 h0
              | exact absurd q6 h0
              | exact absurd q7 h0
              | exact absurd q8 h0
              | exact absurd q9 h0
              | exact absurd q1 h1
              | exact absurd q2 h1
              | exact absurd q3 h1
              | exact absurd q4 h1
              | exact absurd q5 h1
              | exact absurd q6 h1
              | exact absurd q7 h1
              | exact absurd q8 h1
              | exact absurd q9 h1
              | exact absurd q1 h2
              | exact absurd q2 h2
              | exact absurd q3 h2
              | exact absurd q4 h2
              | exact absurd q5 h2
              | exact absurd q6 h2
              | exact absurd q7 h2
              | exact absurd q8 h2
              | exact absurd q9 h2
              | exact absurd q1 h3
              | exact absurd q2 h3
              | exact absurd q3 h3
              | exact absurd q4 h3
              | exact absurd q5 h3
              | exact absurd q6 h3
              | exact absurd q7 h3
              | exact absurd q8 h3
              | exact absurd q9 h3
              | exact absurd q1 h4
              | exact absurd q2 h4
              | exact absurd q3 h4
              | exact absurd q4 h4
              | exact absurd q5 h4
              | exact absurd q6 h4
              | exact absurd q7 h4
              | exact absurd q8 h4
              | exact absurd q9 h4
              | exact absurd q1 h5
              | exact absurd q2 h5
              | exact absurd q3 h5
              | exact absurd q4 h5
              | exact absurd q5 h5
              | exact absurd q6 h5
              | exact absurd q7 h5
              | exact absurd q8 h5
              | exact absurd q9 h5
              | exact absurd q1 h6
              | exact absurd q2 h6
              | exact absurd q3 h6
              | exact absurd q4 h6
              | exact absurd q5 h6
              | exact absurd q6 h6
              | exact absurd q7 h6
              | exact absurd q8 h6
              | exact absurd q9 h6
              | exact absurd q1 h7
              | exact absurd q2 h7
              | exact absurd q3 h7
              | exact absurd q4 h7
              | exact absurd q5 h7
              | exact absurd q6 h7
              | exact absurd q7 h7
              | exact absurd q8 h7
              | exact absurd q9 h7
              | exact absurd q1 h8
              | exact absurd q2 h8
              | exact absurd q3 h8
              | exact absurd q4 h8
              | exact absurd q5 h8
              | exact absurd q6 h8
              | exact absurd q7 h8
              | exact absurd q8 h8
              | exact absurd q9 h8
              | exact absurd q1 h9
              | exact absurd q2 h9
              | exact absurd q3 h9
              | exact absurd q4 h9
              | exact absurd q5 h9
              | exact absurd q6 h9
              | exact absurd q7 h9
              | exact absurd q8 h9
              | exact absurd q9 h9
              | exact absurd q1 h10
              | exact absurd q2 h10
              | exact absurd q3 h10
              | exact absurd q4 h10
              | exact absurd q5 h10
              | exact absurd q6 h10
              | exact absurd q7 h10
              | exact absurd q8 h10
              | exact absurd q9 h10
              | exact absurd q1 h11
              | exact absurd q2 h11
              | exact absurd q3 h11
              | exact absurd q4 h11
              | exact absurd q5 h11
              | exact absurd q6 h11
              | exact absurd q7 h11
              | exact absurd q8 h11
              | exact absurd q9 h11
            ·
             first
             | rfl
             | exact congrArg Value.bool (beq_iff_eq.2 q9)
             | exact absurd ⟨q6, q7⟩ h10
             | exact absurd q1 h0
             | exact absurd q2 h0
             | exact absurd q3 h0
             | exact absurd q4 h0
             | exact absurd q5 h0
             | exact absurd q6 h0
             | exact absurd q7 h0
             | exact absurd q8 h0
             | exact absurd q9 h0
             | exact absurd q1 h1
             | exact absurd q2 h1
             | exact absurd q3 h1
             | exact absurd q4 h1
             | exact absurd q5 h1
             | exact absurd q6 h1
             | exact absurd q7 h1
             | exact absurd q8 h1
             | exact absurd q9 h1
             | exact absurd q1 h2
             | exact absurd q2 h2
             | exact absurd q3 h2
             | exact absurd q4 h2
             | exact absurd q5 h2
             | exact absurd q6 h2
             | exact absurd q7 h2
             | exact absurd q8 h2
             | exact absurd q9 h2
             | exact absurd q1 h3
             | exact absurd q2 h3
             | exact absurd q3 h3
             | exact absurd q4 h3
             | exact absurd q5 h3
             | exact absurd q6 h3
             | exact absurd q7 h3
             | exact absurd q8 h3
             | exact absurd q9 h3
             | exact absurd q1 h4
             | exact absurd q2 h4
             | exact absurd q3 h4
             | exact absurd q4 h4
             | exact absurd q5 h4
             | exact absurd q6 h4
             | exact absurd q7 h4
             | exact absurd q8 h4
             | exact absurd q9 h4
             | exact absurd q1 h5
             | exact absurd q2 h5
             | exact absurd q3 h5
             | exact absurd q4 h5
             | exact absurd q5 h5
             | exact absurd q6 h5
             | exact absurd q7 h5
             | exact absurd q8 h5
             | exact absurd q9 h5
             | exact absurd q1 h6
             | exact absurd q2 h6
             | exact absurd q3 h6
             | exact absurd q4 h6
             | exact absurd q5 h6
             | exact absurd q6 h6
             | exact absurd q7 h6
             | exact absurd q8 h6
             | exact absurd q9 h6
             | exact absurd q1 h7
             | exact absurd q2 h7
             | exact absurd q3 h7
             | exact absurd q4 h7
             | exact absurd q5 h7
             | exact absurd q6 h7
             | exact absurd q7 h7
             | exact absurd q8 h7
             | exact absurd q9 h7
             | exact absurd q1 h8
             | exact absurd q2 h8
             | exact absurd q3 h8
             | exact absurd q4 h8
             | exact absurd q5 h8
             | exact absurd q6 h8
             | exact absurd q7 h8
             | exact absurd q8 h8
             | exact absurd q9 h8
             | exact absurd q1 h9
             | exact absurd q2 h9
             | exact absurd q3 h9
             | exact absurd q4 h9
             | exact absurd q5 h9
             | exact absurd q6 h9
             | exact absurd q7 h9
             | exact absurd q8 h9
             | exact absurd q9 h9
             | exact absurd q1 h10
             | exact absurd q2 h10
             | exact absurd q3 h10
             | exact absurd q4 h10
             | exact absurd q5 h10
             | exact absurd q6 h10
             | exact absurd q7 h10
             | exact absurd q8 h10
             | exact absurd q9 h10
             | exact absurd q1 h11
             | exact absurd q2 h11
             | exact absurd q3 h11
             | exact absurd q4 h11
             | exact absurd q5 h11
             | exact absurd q6 h11
             | exact absurd q7 h11
             | exact absurd q8 h11
             | exact absurd q9 h11
           ·
            first
            | rfl
            | exact congrArg Value.bool (beq_iff_eq.2 q9)
            | exact absurd ⟨q6, q7⟩ h10
            | exact absurd q1 h0
            | exact absurd q2 h0
            | exact absurd q3 h0
            | exact absurd q4 h0
            | exact absurd q5 h0
            | exact absurd q6 h0
            | exact absurd q7 h0
            | exact absurd q8 h0
            | exact absurd q9 h0
            | exact absurd q1 h1
            | exact absurd q2 h1
            | exact absurd q3 h1
            | exact absurd q4 h1
            | exact absurd q5 h1
            | exact absurd q6 h1
            | exact absurd q7 h1
            | exact absurd q8 h1
            | exact absurd q9 h1
            | exact absurd q1 h2
            | exact absurd q2 h2
            | exact absurd q3 h2
            | exact absurd q4 h2
            | exact absurd q5 h2
            | exact absurd q6 h2
            | exact absurd q7 h2
            | exact absurd q8 h2
            | exact absurd q9 h2
            | exact absurd q1 h3
            | exact absurd q2 h3
            | exact absurd q3 h3
            | exact absurd q4 h3
            | exact absurd q5 h3
            | exact absurd q6 h3
            | exact absurd q7 h3
            | exact absurd q8 h3
            | exact absurd q9 h3
            | exact absurd q1 h4
            | exact absurd q2 h4
            | exact absurd q3 h4
            | exact absurd q4 h4
            | exact absurd q5 h4
            | exact absurd q6 h4
            | exact absurd q7 h4
            | exact absurd q8 h4
            | exact absurd q9 h4
            | exact absurd q1 h5
            | exact absurd q2 h5
            | exact absurd q3 h5
            | exact absurd q4 h5
            | exact absurd q5 h5
            | exact absurd q6 h5
            | exact absurd q7 h5
            | exact absurd q8 h5
            | exact absurd q9 h5
            | exact absurd q1 h6
            | exact absurd q2 h6
            | exact absurd q3 h6
            | exact absurd q4 h6
            | exact absurd q5 h6
            | exact absurd q6 h6
            | exact absurd q7 h6
            | exact absurd q8 h6
            | exact absurd q9 h6
            | exact absurd q1 h7
            | exact absurd q2 h7
            | exact absurd q3 h7
            | exact absurd q4 h7
            | exact absurd q5 h7
            | exact absurd q6 h7
            | exact absurd q7 h7
            | exact absurd q8 h7
            | exact absurd q9 h7
            | exact absurd q1 h8
            | exact absurd q2 h8
            | exact absurd q3 h8
            | exact absurd q4 h8
            | exact absurd q5 h8
            | exact absurd q6 h8
            | exact absurd q7 h8
            | exact absurd q8 h8
            | exact absurd q9 h8
            | exact absurd q1 h9
            | exact absurd q2 h9
            | exact absurd q3 h9
            | exact absurd q4 h9
            | exact absurd q5 h9
            | exact absurd q6 h9
            | exact absurd q7 h9
            | exact absurd q8 h9
            | exact absurd q9 h9
            | exact absurd q1 h10
            | exact absurd q2 h10
            | exact absurd q3 h10
            | exact absurd q4 h10
            | exact absurd q5 h10
            | exact absurd q6 h10
            | exact absurd q7 h10
            | exact absurd q8 h10
            | exact absurd q9 h10
            | exact absurd q1 h11
            | exact absurd q2 h11
            | exact absurd q3 h11
            | exact absurd q4 h11
            | exact absurd q5 h11
            | exact absurd q6 h11
            | exact absurd q7 h11
            | exact absurd q8 h11
            | exact absurd q9 h11
         ·
          first
          | rfl
          | exact congrArg Value.bool (beq_iff_eq.2 q9)
          | exact absurd ⟨q6, q7⟩ h10
          | exact absurd q1 h0
          | exact absurd q2 h0
          | exact absurd q3 h0
          | exact absurd q4 h0
          | exact absurd q5 h0
          | exact absurd q6 h0
          | exact absurd q7 h0
          | exact absurd q8 h0
          | exact absurd q9 h0
          | exact absurd q1 h1
          | exact absurd q2 h1
          | exact absurd q3 h1
          | exact absurd q4 h1
          | exact absurd q5 h1
          | exact absurd q6 h1
          | exact absurd q7 h1
          | exact absurd q8 h1
          | exact absurd q9 h1
          | exact absurd q1 h2
          | exact absurd q2 h2
          | exact absurd q3 h2
          | exact absurd q4 h2
          | exact absurd q5 h2
          | exact absurd q6 h2
          | exact absurd q7 h2
          | exact absurd q8 h2
          | exact absurd q9 h2
          | exact absurd q1 h3
          | exact absurd q2 h3
          | exact absurd q3 h3
          | exact absurd q4 h3
          | exact absurd q5 h3
          | exact absurd q6 h3
          | exact absurd q7 h3
          | exact absurd q8 h3
          | exact absurd q9 h3
          | exact absurd q1 h4
          | exact absurd q2 h4
          | exact absurd q3 h4
          | exact absurd q4 h4
          | exact absurd q5 h4
          | exact absurd q6 h4
          | exact absurd q7 h4
          | exact absurd q8 h4
          | exact absurd q9 h4
          | exact absurd q1 h5
          | exact absurd q2 h5
          | exact absurd q3 h5
          | exact absurd q4 h5
          | exact absurd q5 h5
          | exact absurd q6 h5
          | exact absurd q7 h5
          | exact absurd q8 h5
          | exact absurd q9 h5
          | exact absurd q1 h6
          | exact absurd q2 h6
          | exact absurd q3 h6
          | exact absurd q4 h6
          | exact absurd q5 h6
          | exact absurd q6 h6
          | exact absurd q7 h6
          | exact absurd q8 h6
          | exact absurd q9 h6
          | exact absurd q1 h7
          | exact absurd q2 h7
          | exact absurd q3 h7
          | exact absurd q4 h7
          | exact absurd q5 h7
          | exact absurd q6 h7
          | exact absurd q7 h7
          | exact absurd q8 h7
          | exact absurd q9 h7
          | exact absurd q1 h8
          | exact absurd q2 h8
          | exact absurd q3 h8
          | exact absurd q4 h8
          | exact absurd q5 h8
          | exact absurd q6 h8
          | exact absurd q7 h8
          | exact absurd q8 h8
          | exact absurd q9 h8
          | exact absurd q1 h9
          | exact absurd q2 h9
          | exact absurd q3 h9
          | exact absurd q4 h9
          | exact absurd q5 h9
          | exact absurd q6 h9
          | exact absurd q7 h9
          | exact absurd q8 h9
          | exact absurd q9 h9
          | exact absurd q1 h10
          | exact absurd q2 h10
          | exact absurd q3 h10
          | exact absurd q4 h10
          | exact absurd q5 h10
          | exact absurd q6 h10
          | exact absurd q7 h10
          | exact absurd q8 h10
          | exact absurd q9 h10
          | exact absurd q1 h11
          | exact absurd q2 h11
          | exact absurd q3 h11
          | exact absurd q4 h11
          | exact absurd q5 h11
          | exact absurd q6 h11
          | exact absurd q7 h11
          | exact absurd q8 h11
          | exact absurd q9 h11
        ·
         first
         | rfl
         | exact congrArg Value.bool (beq_iff_eq.2 q9)
         | exact absurd ⟨q6, q7⟩ h10
         | exact absurd q1 h0
         | exact absurd q2 h0
         | exact absurd q3 h0
         | exact absurd q4 h0
         | exact absurd q5 h0
         | exact absurd q6 h0
         | exact absurd q7 h0
         | exact absurd q8 h0
         | exact absurd q9 h0
         | exact absurd q1 h1
         | exact absurd q2 h1
         | exact absurd q3 h1
         | exact absurd q4 h1
         | exact absurd q5 h1
         | exact absurd q6 h1
         | exact absurd q7 h1
         | exact absurd q8 h1
         | exact absurd q9 h1
         | exact absurd q1 h2
         | exact absurd q2 h2
         | exact absurd q3 h2
         | exact absurd q4 h2
         | exact absurd q5 h2
         | exact absurd q6 h2
         | exact absurd q7 h2
         | exact absurd q8 h2
         | exact absurd q9 h2
         | exact absurd q1 h3
         | exact absurd q2 h3
         | exact absurd q3 h3
         | exact absurd q4 h3
         | exact absurd q5 h3
         | exact absurd q6 h3
         | exact absurd q7 h3
         | exact absurd q8 h3
         | exact absurd q9 h3
         | exact absurd q1 h4
         | exact absurd q2 h4
         | exact absurd q3 h4
         | exact absurd q4 h4
         | exact absurd q5 h4
         | exact absurd q6 h4
         | exact absurd q7 h4
         | exact absurd q8 h4
         | exact absurd q9 h4
         | exact absurd q1 h5
         | exact absurd q2 h5
         | exact absurd q3 h5
         | exact absurd q4 h5
         | exact absurd q5 h5
         | exact absurd q6 h5
         | exact absurd q7 h5
         | exact absurd q8 h5
         | exact absurd q9 h5
         | exact absurd q1 h6
         | exact absurd q2 h6
         | exact absurd q3 h6
         | exact absurd q4 h6
         | exact absurd q5 h6
         | exact absurd q6 h6
         | exact absurd q7 h6
         | exact absurd q8 h6
         | exact absurd q9 h6
         | exact absurd q1 h7
         | exact absurd q2 h7
         | exact absurd q3 h7
         | exact absurd q4 h7
         | exact absurd q5 h7
         | exact absurd q6 h7
         | exact absurd q7 h7
         | exact absurd q8 h7
         | exact absurd q9 h7
         | exact absurd q1 h8
         | exact absurd q2 h8
         | exact absurd q3 h8
         | exact absurd q4 h8
         | exact absurd q5 h8
         | exact absurd q6 h8
         | exact absurd q7 h8
         | exact absurd q8 h8
         | exact absurd q9 h8
         | exact absurd q1 h9
         | exact absurd q2 h9
         | exact absurd q3 h9
         | exact absurd q4 h9
         | exact absurd q5 h9
         | exact absurd q6 h9
         | exact absurd q7 h9
         | exact absurd q8 h9
         | exact absurd q9 h9
         | exact absurd q1 h10
         | exact absurd q2 h10
         | exact absurd q3 h10
         | exact absurd q4 h10
         | exact absurd q5 h10
         | exact absurd q6 h10
         | exact absurd q7 h10
         | exact absurd q8 h10
         | exact absurd q9 h10
         | exact absurd q1 h11
         | exact absurd q2 h11
         | exact absurd q3 h11
         | exact absurd q4 h11
         | exact absurd q5 h11
         | exact absurd q6 h11
         | exact absurd q7 h11
         | exact absurd q8 h11
         | exact absurd q9 h11
       ·
        first
        | rfl
        | exact congrArg Value.bool (beq_iff_eq.2 q9)
        | exact absurd ⟨q6, q7⟩ h10
        | exact absurd q1 h0
        | exact absurd q2 h0
        | exact absurd q3 h0
        | exact absurd q4 h0
        | exact absurd q5 h0
        | exact absurd q6 h0
        | exact absurd q7 h0
        | exact absurd q8 h0
        | exact absurd q9 h0
        | exact absurd q1 h1
        | exact absurd q2 h1
        | exact absurd q3 h1
        | exact absurd q4 h1
        | exact absurd q5 h1
        | exact absurd q6 h1
        | exact absurd q7 h1
        | exact absurd q8 h1
        | exact absurd q9 h1
        | exact absurd q1 h2
        | exact absurd q2 h2
        | exact absurd q3 h2
        | exact absurd q4 h2
        | exact absurd q5 h2
        | exact absurd q6 h2
        | exact absurd q7 h2
        | exact absurd q8 h2
        | exact absurd q9 h2
        | exact absurd q1 h3
        | exact absurd q2 h3
        | exact absurd q3 h3
        | exact absurd q4 h3
        | exact absurd q5 h3
        | exact absurd q6 h3
        | exact absurd q7 h3
        | exact absurd q8 h3
        | exact absurd q9 h3
        | exact absurd q1 h4
        | exact absurd q2 h4
        | exact absurd q3 h4
        | exact absurd q4 h4
        | exact absurd q5 h4
        | exact absurd q6 h4
        | exact absurd q7 h4
        | exact absurd q8 h4
        | exact absurd q9 h4
        | exact absurd q1 h5
        | exact absurd q2 h5
        | exact absurd q3 h5
        | exact absurd q4 h5
        | exact absurd q5 h5
        | exact absurd q6 h5
        | exact absurd q7 h5
        | exact absurd q8 h5
        | exact absurd q9 h5
        | exact absurd q1 h6
        | exact absurd q2 h6
        | exact absurd q3 h6
        | exact absurd q4 h6
        | exact absurd q5 h6
        | exact absurd q6 h6
        | exact absurd q7 h6
        | exact absurd q8 h6
        | exact absurd q9 h6
        | exact absurd q1 h7
        | exact absurd q2 h7
        | exact absurd q3 h7
        | exact absurd q4 h7
        | exact absurd q5 h7
        | exact absurd q6 h7
        | exact absurd q7 h7
        | exact absurd q8 h7
        | exact absurd q9 h7
        | exact absurd q1 h8
        | exact absurd q2 h8
        | exact absurd q3 h8
        | exact absurd q4 h8
        | exact absurd q5 h8
        | exact absurd q6 h8
        | exact absurd q7 h8
        | exact absurd q8 h8
        | exact absurd q9 h8
        | exact absurd q1 h9
        | exact absurd q2 h9
        | exact absurd q3 h9
        | exact absurd q4 h9
        | exact absurd q5 h9
        | exact absurd q6 h9
        | exact absurd q7 h9
        | exact absurd q8 h9
        | exact absurd q9 h9
        | exact absurd q1 h10
        | exact absurd q2 h10
        | exact absurd q3 h10
        | exact absurd q4 h10
        | exact absurd q5 h10
        | exact absurd q6 h10
        | exact absurd q7 h10
        | exact absurd q8 h10
        | exact absurd q9 h10
        | exact absurd q1 h11
        | exact absurd q2 h11
        | exact absurd q3 h11
        | exact absurd q4 h11
        | exact absurd q5 h11
        | exact absurd q6 h11
        | exact absurd q7 h11
        | exact absurd q8 h11
        | exact absurd q9 h11
      ·
       first
       | rfl
       | exact congrArg Value.bool (beq_iff_eq.2 q9)
       | exact absurd ⟨q6, q7⟩ h10
       | exact absurd q1 h0
       | exact absurd q2 h0
       | exact absurd q3 h0
       | exact absurd q4 h0
       | exact absurd q5 h0
       | exact absurd q6 h0
       | exact absurd q7 h0
       | exact absurd q8 h0
       | exact absurd q9 h0
       | exact absurd q1 h1
       | exact absurd q2 h1
       | exact absurd q3 h1
       | exact absurd q4 h1
       | exact absurd q5 h1
       | exact absurd q6 h1
       | exact absurd q7 h1
       | exact absurd q8 h1
       | exact absurd q9 h1
       | exact absurd q1 h2
       | exact absurd q2 h2
       | exact absurd q3 h2
       | exact absurd q4 h2
       | exact absurd q5 h2
       | exact absurd q6 h2
       | exact absurd q7 h2
       | exact absurd q8 h2
       | exact absurd q9 h2
       | exact absurd q1 h3
       | exact absurd q2 h3
       | exact absurd q3 h3
       | exact absurd q4 h3
       | exact absurd q5 h3
       | exact absurd q6 h3
       | exact absurd q7 h3
       | exact absurd q8 h3
       | exact absurd q9 h3
       | exact absurd q1 h4
       | exact absurd q2 h4
       | exact absurd q3 h4
       | exact absurd q4 h4
       | exact absurd q5 h4
       | exact absurd q6 h4
       | exact absurd q7 h4
       | exact absurd q8 h4
       | exact absurd q9 h4
       | exact absurd q1 h5
       | exact absurd q2 h5
       | exact absurd q3 h5
       | exact absurd q4 h5
       | exact absurd q5 h5
       | exact absurd q6 h5
       | exact absurd q7 h5
       | exact absurd q8 h5
       | exact absurd q9 h5
       | exact absurd q1 h6
       | exact absurd q2 h6
       | exact absurd q3 h6
       | exact absurd q4 h6
       | exact absurd q5 h6
       | exact absurd q6 h6
       | exact absurd q7 h6
       | exact absurd q8 h6
       | exact absurd q9 h6
       | exact absurd q1 h7
       | exact absurd q2 h7
       | exact absurd q3 h7
       | exact absurd q4 h7
       | exact absurd q5 h7
       | exact absurd q6 h7
       | exact absurd q7 h7
       | exact absurd q8 h7
       | exact absurd q9 h7
       | exact absurd q1 h8
       | exact absurd q2 h8
       | exact absurd q3 h8
       | exact absurd q4 h8
       | exact absurd q5 h8
       | exact absurd q6 h8
       | exact absurd q7 h8
       | exact absurd q8 h8
       | exact absurd q9 h8
       | exact absurd q1 h9
       | exact absurd q2 h9
       | exact absurd q3 h9
       | exact absurd q4 h9
       | exact absurd q5 h9
       | exact absurd q6 h9
       | exact absurd q7 h9
       | exact absurd q8 h9
       | exact absurd q9 h9
       | exact absurd q1 h10
       | exact absurd q2 h10
       | exact absurd q3 h10
       | exact absurd q4 h10
       | exact absurd q5 h10
       | exact absurd q6 h10
       | exact absurd q7 h10
       | exact absurd q8 h10
       | exact absurd q9 h10
       | exact absurd q1 h11
       | exact absurd q2 h11
       | exact absurd q3 h11
       | exact absurd q4 h11
       | exact absurd q5 h11
       | exact absurd q6 h11
       | exact absurd q7 h11
       | exact absurd q8 h11
       | exact absurd q9 h11
theorem feg_sure15 : fec_sure15.Good Tryd.prog syG (feE [] [] [] []) := good_of_walk (Γ := ⟨[fac_fput, fdc_best, fec_num], syG, [], [], []⟩) (ρ := feE [] [] [] []) sym sure15_w rfl (fun _ _ _ _ => (ok_cons (Con.Good.env (Con.Good.up (Con.Good.up (Con.Good.up (Con.Good.up fag_fput fbup rfl) fcup rfl) fdup rfl) feup rfl) _ _ _ _) (ok_cons (Con.Good.env (Con.Good.up fdg_best feup rfl) _ _ _ _) (ok_cons (Con.Good.env feg_num _ _ _ _) ok_nil)))) (fun hc hty => sure15_h  hc hty)
end Go.Proofs.YtflckmhlobpfiaaDoor
