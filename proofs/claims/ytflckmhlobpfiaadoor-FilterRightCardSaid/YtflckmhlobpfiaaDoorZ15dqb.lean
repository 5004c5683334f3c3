import Derived.Test.YtflckmhlobpfiaaDoorSycqb
import Derived.Test.YtflckmhlobpfiaaDoorZ15cqb
/-
  Layer 15 by the second engine: what most agree in.
-/
namespace Go.Proofs.YtflckmhlobpfiaaDoor
open Go.RowKit Go.Extern.Stop Go.Stop Go.Extern Go.Proofs.YtflckmhlobpfiaaDoor.Sy
set_option linter.unusedVariables false
set_option linter.unusedSimpArgs false
def wrgF (r p n : Int) : Prop := r < 0 ∨ 1048576 < r ∨ p < 1 ∨ 1125899906842624 < p ∨ n ≤ -4611686018427387904 ∨ 4611686018427387904 ≤ n
instance (r p n : Int) : Decidable (wrgF r p n) := by unfold wrgF; infer_instance
abbrev nowA (l : List Value) (r p n : Int) : List Value := nowL l r p n (l.length / 4)
def bstE (l : List Value) (r p n : Int) : Int := if chkF l ≠ 0 ∨ wrgF r p n then 1 else if voE (nowA l r p n) = 0 ∧ (nowA l r p n).length / 2 < 2 * (voR (nowA l r p n)).1 then 0 else 13
def bstR (l : List Value) (r p n : Int) : Nat × Int × Int := if bstE l r p n = 0 then voR (nowA l r p n) else (0, 0, 0)
theorem bst_bad {l : List Value} {r p n : Int} (h : chkF l ≠ 0 ∨ wrgF r p n) : bstE l r p n = 1 ∧ bstR l r p n = (0, 0, 0) := by
  have hE : bstE l r p n = 1 := by unfold bstE; rw [if_pos h]
  exact ⟨hE, by unfold bstR; rw [if_neg (by omega)]⟩
theorem bst_none {l : List Value} {r p n : Int} (h : ¬ (chkF l ≠ 0 ∨ wrgF r p n)) (h2 : ¬ (voE (nowA l r p n) = 0 ∧ (nowA l r p n).length / 2 < 2 * (voR (nowA l r p n)).1)) : bstE l r p n = 13 ∧ bstR l r p n = (0, 0, 0) := by
  have hE : bstE l r p n = 13 := by unfold bstE; rw [if_neg h, if_neg h2]
  exact ⟨hE, by unfold bstR; rw [if_neg (by omega)]⟩
theorem bst_yes {l : List Value} {r p n : Int} (h : ¬ (chkF l ≠ 0 ∨ wrgF r p n)) (h2 : voE (nowA l r p n) = 0 ∧ (nowA l r p n).length / 2 < 2 * (voR (nowA l r p n)).1) : bstE l r p n = 0 ∧ bstR l r p n = voR (nowA l r p n) := by
  have hE : bstE l r p n = 0 := by unfold bstE; rw [if_neg h, if_pos h2]
  exact ⟨hE, by unfold bstR; rw [if_pos hE]⟩
theorem getD_left {A B : List Value} {k : Nat} (h : k < A.length) : (A ++ B).getD k Go.undef = A.getD k Go.undef := by
  simp [List.getD_eq_getElem?_getD, List.getElem?_append_left h]
theorem getD_right {A B : List Value} {k : Nat} (h : A.length ≤ k) : (A ++ B).getD k Go.undef = B.getD (k - A.length) Go.undef := by
  simp [List.getD_eq_getElem?_getD, List.getElem?_append_right h]
theorem preW_left {A B : List Value} : ∀ {k : Nat}, k * 2 ≤ A.length → preW (A ++ B) k = preW A k
  | 0, _ => rfl
  | k + 1, h => by
    simp only [preW]
    rw [preW_left (by omega), getD_left (by omega), getD_left (by omega)]
theorem satE_mono {a b : Int} (h : a ≤ b) : satE a ≤ satE b := by
  have h1 := satE_spec a
  have h2 := satE_spec b
  omega
theorem now_pre {l : List Value} {r p : Int} (n : Int) {N : Nat} (ho : okF l N = true) (r0 : 0 ≤ r) (r1 : r ≤ 1048576) (p1 : p ≤ 1125899906842624) : ∀ {k : Nat}, k ≤ N → preW (nowL l r p n k) ((nowL l r p n k).length / 2) = true
  | 0, _ => by simp [nowL, preW]
  | k + 1, hk => by
    have ih := now_pre n ho r0 r1 p1 (k := k) (by omega)
    obtain ⟨q, q1, q2⟩ := now_len l r p n k
    by_cases h : cntF l p n k
    · rw [now_yes h]
      have hl : (nowL l r p n k ++ spanF l r n k).length / 2 = q + 1 := by rw [List.length_append, q2]; show (q * 2 + 2) / 2 = _; omega
      rw [hl]
      simp only [preW]
      rw [preW_left (by omega), getD_right (by omega), getD_right (by omega), q2]
      rw [q2, Nat.mul_div_cancel q (by decide)] at ih
      rw [ih, Bool.true_and, decide_eq_true_iff, show q * 2 - q * 2 = 0 by omega, show q * 2 + 1 - q * 2 = 1 by omega]
      have hf := fineE_iff.1 (okF_get ho (j := k) (by omega))
      unfold cntF at h
      obtain ⟨u1, _, _⟩ := up_bd (g := n - Go.RowKit.intOf (l.getD (k * 4 + 1) Go.undef)) (r := r) (by omega) (by omega) r0 r1
      exact satE_mono (a := Go.RowKit.intOf (l.getD (k * 4 + 2) Go.undef) - upK ((n - Go.RowKit.intOf (l.getD (k * 4 + 1) Go.undef)) * r)) (b := Go.RowKit.intOf (l.getD (k * 4 + 3) Go.undef) + upK ((n - Go.RowKit.intOf (l.getD (k * 4 + 1) Go.undef)) * r)) (by omega)
    · rw [now_no h]; exact ih
theorem now_vo {l : List Value} {r p n : Int} (h : ¬ (chkF l ≠ 0 ∨ wrgF r p n)) : ((nowA l r p n).length / 2 = 0 ∧ voE (nowA l r p n) = 6) ∨ (0 < (nowA l r p n).length / 2 ∧ voE (nowA l r p n) = 0 ∧ (nowA l r p n).length / 2 ≤ 8) := by
  have hq : chkF l = 0 := by
    by_cases hc : chkF l = 0
    · exact hc
    · exact absurd (.inl hc) h
  have hw : ¬ wrgF r p n := fun hw => h (.inr hw)
  unfold wrgF at hw
  obtain ⟨ho, h8⟩ := chkF_8 hq
  have hp := now_pre (r := r) (p := p) n ho (by omega) (by omega) (by omega) (Nat.le_refl _)
  have hf : fbW (nowA l r p n) ((nowA l r p n).length / 2) = -1 := fb_pre hp
  obtain ⟨q, q1, q2⟩ := now_len l r p n (l.length / 4)
  have e : (nowA l r p n).length / 2 = q := by rw [q2]; exact Nat.mul_div_cancel q (by decide)
  by_cases h0 : q = 0
  · left
    refine ⟨by omega, ?_⟩
    unfold voE
    rw [if_neg (by omega), if_pos (by omega)]
  · right
    refine ⟨by omega, ?_, by omega⟩
    unfold voE
    rw [if_neg (by omega), if_neg (by omega)]
theorem vo_le (l : List Value) (N : Nat) : ∀ k, (vo l N k).1 ≤ N
  | 0 => Nat.zero_le _
  | k + 1 => by
    have ih := vo_le l N k
    have := ofN_le l (Go.RowKit.intOf (l.getD (k * 2) Go.undef)) N
    rw [vo]
    split
    · exact this
    · exact ih
theorem vr_le (l : List Value) : (voR l).1 ≤ l.length / 2 := by
  unfold voR
  split
  · exact vo_le _ _ _
  · exact Nat.zero_le _
noncomputable def fdI : Nat → List Value → Int
  | 26, [l, .int _ r, .int _ p, .int _ n] => bstE (rows l) r p n
  | 27, [l, .int _ r, .int _ p, .int _ n] => (bstR (rows l) r p n).2.1
  | 28, [l, .int _ r, .int _ p, .int _ n] => (bstR (rows l) r p n).2.2
  | 29, [l, .int _ r, .int _ p, .int _ n] => (((bstR (rows l) r p n).1 : Nat) : Int)
  | i, l => fcI i l
noncomputable def fdB : Nat → List Value → Bool
  | i, l => fcB i l
noncomputable def fdV : Nat → List Value → Value
  | i, l => fcV i l
noncomputable abbrev fdE (iv : List Int) (bv : List Bool) (vv : List Value) (sv : List ByteArray) : Env := { iv := iv, bv := bv, vv := vv, sv := sv, fi := fdI, fb := fdB, fv := fdV, et := 141 }
theorem fdup : Agree 26 9 2 (fcE [] [] [] []) (fdE [] [] [] []) := ⟨rfl, (by
    intro f hf
    funext l
    show fdI f l = fcI f l
    unfold fdI
    split <;> first | rfl | omega), (by
    intro f hf
    funext l
    show fdB f l = fcB f l
    unfold fdB
    split <;> first | rfl | omega), (by
    intro f hf
    funext l
    show fdV f l = fcV f l
    unfold fdV
    split <;> first | rfl | omega)⟩
theorem fdi_of (l : Value) (k1 : IntKind) (n : Int) (k2 : IntKind) (k : Int) : fdI 0 [l, .int k1 n, .int k2 k] = ((ofN (rows l) n k.toNat : Nat) : Int) := rfl
theorem fdi_arh (l : Value) (k1 : IntKind) (n : Int) (k2 : IntKind) (k : Int) : fdI 1 [l, .int k1 n, .int k2 k] = arH (rows l) n k.toNat := rfl
theorem fdi_fb (l : Value) (k1 : IntKind) (k : Int) : fdI 2 [l, .int k1 k] = fbW (rows l) k.toNat := rfl
theorem fdi_se (k1 : IntKind) (a : Int) (k2 : IntKind) (b : Int) : fdI 3 [.int k1 a, .int k2 b] = spE a b := rfl
theorem fdi_vm (l : Value) (k1 : IntKind) (k : Int) : fdI 4 [l, .int k1 k] = (((vo (rows l) ((rows l).length / 2) k.toNat).1 : Nat) : Int) := rfl
theorem fdi_vl (l : Value) (k1 : IntKind) (k : Int) : fdI 5 [l, .int k1 k] = (vo (rows l) ((rows l).length / 2) k.toNat).2.1 := rfl
theorem fdi_vh (l : Value) (k1 : IntKind) (k : Int) : fdI 6 [l, .int k1 k] = (vo (rows l) ((rows l).length / 2) k.toNat).2.2 := rfl
theorem fdi_vE (l : Value) : fdI 7 [l] = voE (rows l) := rfl
theorem fdi_vM (l : Value) : fdI 8 [l] = (((voR (rows l)).1 : Nat) : Int) := rfl
theorem fdi_vL (l : Value) : fdI 9 [l] = (voR (rows l)).2.1 := rfl
theorem fdi_vH (l : Value) : fdI 10 [l] = (voR (rows l)).2.2 := rfl
theorem fdi_aa (l : Value) (k1 : IntKind) (k : Int) : fdI 11 [l, .int k1 k] = (atS (rows l) ((rows l).length / 2) k.toNat).2 := rfl
theorem fdi_mi (k1 : IntKind) (a : Int) (k2 : IntKind) (b : Int) : fdI 12 [.int k1 a, .int k2 b] = midM a b := rfl
theorem fdi_sa (k1 : IntKind) (a : Int) : fdI 13 [.int k1 a] = satE a := rfl
theorem fdi_nv (k1 : IntKind) (a : Int) : fdI 14 [.int k1 a] = svE a := rfl
theorem fdi_ne (k1 : IntKind) (a : Int) : fdI 15 [.int k1 a] = erE a := rfl
theorem fdi_sz (k1 : IntKind) (a : Int) : fdI 16 [.int k1 a] = szE a := rfl
theorem fdi_lst (l : Value) (k1 : IntKind) (k : Int) : fdI 17 [l, .int k1 k] = leastS (rows l) k.toNat := rfl
theorem fdi_chk (l : Value) : fdI 18 [l] = chkF (rows l) := rfl
theorem fdi_ix (l : Value) (k1 : IntKind) (s : Int) (k2 : IntKind) (k : Int) : fdI 19 [l, .int k1 s, .int k2 k] = ixF (rows l) s k.toNat := rfl
theorem fdi_pE (l : Value) (k1 : IntKind) (a : Int) (k2 : IntKind) (b : Int) (k3 : IntKind) (c : Int) (k4 : IntKind) (d : Int) : fdI 20 [l, .int k1 a, .int k2 b, .int k3 c, .int k4 d] = putE (rows l) a b c d := rfl
theorem fdi_md (k1 : IntKind) (a : Int) (k2 : IntKind) (b : Int) : fdI 21 [.int k1 a, .int k2 b] = a * b / 1073741824 := rfl
theorem fdi_up (k1 : IntKind) (g : Int) (k2 : IntKind) (r : Int) : fdI 22 [.int k1 g, .int k2 r] = upK (g * r) := rfl
theorem fdi_rsv (k1 : IntKind) (a : Int) : fdI 23 [.int k1 a] = svE a := rfl
theorem fdi_rso (k1 : IntKind) (a : Int) : fdI 24 [.int k1 a] = soE a := rfl
theorem fdi_rbd (k1 : IntKind) (a : Int) (k2 : IntKind) (o : Int) : fdI 25 [.int k1 a, .int k2 o] = bdE a o := rfl
theorem fdi_bE (l : Value) (k1 : IntKind) (r : Int) (k2 : IntKind) (p : Int) (k3 : IntKind) (n : Int) : fdI 26 [l, .int k1 r, .int k2 p, .int k3 n] = bstE (rows l) r p n := rfl
theorem fdi_bL (l : Value) (k1 : IntKind) (r : Int) (k2 : IntKind) (p : Int) (k3 : IntKind) (n : Int) : fdI 27 [l, .int k1 r, .int k2 p, .int k3 n] = (bstR (rows l) r p n).2.1 := rfl
theorem fdi_bH (l : Value) (k1 : IntKind) (r : Int) (k2 : IntKind) (p : Int) (k3 : IntKind) (n : Int) : fdI 28 [l, .int k1 r, .int k2 p, .int k3 n] = (bstR (rows l) r p n).2.2 := rfl
theorem fdi_bM (l : Value) (k1 : IntKind) (r : Int) (k2 : IntKind) (p : Int) (k3 : IntKind) (n : Int) : fdI 29 [l, .int k1 r, .int k2 p, .int k3 n] = (((bstR (rows l) r p n).1 : Nat) : Int) := rfl
theorem fdb_pre (l : Value) (k1 : IntKind) (k : Int) : fdB 0 [l, .int k1 k] = preW (rows l) k.toNat := rfl
theorem fdb_sm (l : Value) (k1 : IntKind) (a : Int) (k2 : IntKind) (b : Int) (k3 : IntKind) (k : Int) : fdB 1 [l, .int k1 a, .int k2 b, .int k3 k] = smB (rows l) a b k.toNat := rfl
theorem fdb_ai (l : Value) (k1 : IntKind) (k : Int) : fdB 2 [l, .int k1 k] = (atS (rows l) ((rows l).length / 2) k.toNat).1 := rfl
theorem fdb_tk (x : Value) (y : Value) (k1 : IntKind) (n : Int) : fdB 3 [x, y, .int k1 n] = eqV x (tkV y n.toNat) := rfl
theorem fdb_okr (l : Value) : fdB 4 [l] = okR (rows l) := rfl
theorem fdb_okf (l : Value) (k1 : IntKind) (k : Int) : fdB 5 [l, .int k1 k] = okF (rows l) k.toNat := rfl
theorem fdb_rp (v : Value) (l : Value) (k1 : IntKind) (a : Int) (k2 : IntKind) (b : Int) (k3 : IntKind) (c : Int) (k4 : IntKind) (d : Int) (k5 : IntKind) (k : Int) : fdB 6 [v, l, .int k1 a, .int k2 b, .int k3 c, .int k4 d, .int k5 k] = rpB v (rows l) a b c d k.toNat := rfl
theorem fdb_rd (l : Value) (k1 : IntKind) (a : Int) (k2 : IntKind) (k : Int) : fdB 7 [l, .int k1 a, .int k2 k] = decide (inF (rows l) a < k.toNat) := rfl
theorem fdb_nb (v : Value) (l : Value) (k1 : IntKind) (r : Int) (k2 : IntKind) (p : Int) (k3 : IntKind) (n : Int) (k4 : IntKind) (k : Int) : fdB 8 [v, l, .int k1 r, .int k2 p, .int k3 n, .int k4 k] = eqV v (Value.tuple (nowL (rows l) r p n k.toNat).toArray) := rfl
theorem fdv_pV (l : Value) (k1 : IntKind) (a : Int) (k2 : IntKind) (b : Int) (k3 : IntKind) (c : Int) (k4 : IntKind) (d : Int) : fdV 0 [l, .int k1 a, .int k2 b, .int k3 c, .int k4 d] = Value.tuple (putV (rows l) a b c d).toArray := rfl
theorem fdv_nw (l : Value) (k1 : IntKind) (r : Int) (k2 : IntKind) (p : Int) (k3 : IntKind) (n : Int) (k4 : IntKind) (k : Int) : fdV 1 [l, .int k1 r, .int k2 p, .int k3 n, .int k4 k] = Value.tuple (nowL (rows l) r p n k.toNat).toArray := rfl
def best_tree : Tree :=
 (.br (.b2 .lt (.var 0) (.lit (0)))
 (.need (.bapp 4 (.cons (.opq 0) .nil))
 (.br (.not (.b2 .eq (.iapp 18 (.cons (.opq 0) .nil)) (.lit (0))))
 (.ret (.tup (.cons (.agg (.cons (.int .i64 (.lit (0))) (.cons (.int .i64 (.lit (0))) .nil))) (.cons (.int .i64 (.lit (0))) (.cons (.iface 141 (.int .i64 (.lit (1)))) .nil)))))
 (.ret (.tup (.cons (.agg (.cons (.int .i64 (.lit (0))) (.cons (.int .i64 (.lit (0))) .nil))) (.cons (.int .i64 (.lit (0))) (.cons (.iface 141 (.int .i64 (.lit (1)))) .nil)))))))
 (.br (.b2 .lt (.lit (1048576)) (.var 0))
 (.need (.bapp 4 (.cons (.opq 0) .nil))
 (.br (.not (.b2 .eq (.iapp 18 (.cons (.opq 0) .nil)) (.lit (0))))
 (.ret (.tup (.cons (.agg (.cons (.int .i64 (.lit (0))) (.cons (.int .i64 (.lit (0))) .nil))) (.cons (.int .i64 (.lit (0))) (.cons (.iface 141 (.int .i64 (.lit (1)))) .nil)))))
 (.ret (.tup (.cons (.agg (.cons (.int .i64 (.lit (0))) (.cons (.int .i64 (.lit (0))) .nil))) (.cons (.int .i64 (.lit (0))) (.cons (.iface 141 (.int .i64 (.lit (1)))) .nil)))))))
 (.br (.b2 .lt (.var 1) (.lit (1)))
 (.need (.bapp 4 (.cons (.opq 0) .nil))
 (.br (.not (.b2 .eq (.iapp 18 (.cons (.opq 0) .nil)) (.lit (0))))
 (.ret (.tup (.cons (.agg (.cons (.int .i64 (.lit (0))) (.cons (.int .i64 (.lit (0))) .nil))) (.cons (.int .i64 (.lit (0))) (.cons (.iface 141 (.int .i64 (.lit (1)))) .nil)))))
 (.ret (.tup (.cons (.agg (.cons (.int .i64 (.lit (0))) (.cons (.int .i64 (.lit (0))) .nil))) (.cons (.int .i64 (.lit (0))) (.cons (.iface 141 (.int .i64 (.lit (1)))) .nil)))))))
 (.need (.bapp 4 (.cons (.opq 0) .nil))
 (.br (.not (.b2 .eq (.iapp 18 (.cons (.opq 0) .nil)) (.lit (0))))
 (.ret (.tup (.cons (.agg (.cons (.int .i64 (.lit (0))) (.cons (.int .i64 (.lit (0))) .nil))) (.cons (.int .i64 (.lit (0))) (.cons (.iface 141 (.int .i64 (.lit (1)))) .nil)))))
 (.br (.b2 .lt (.lit (1125899906842624)) (.var 1))
 (.ret (.tup (.cons (.agg (.cons (.int .i64 (.lit (0))) (.cons (.int .i64 (.lit (0))) .nil))) (.cons (.int .i64 (.lit (0))) (.cons (.iface 141 (.int .i64 (.lit (1)))) .nil)))))
 (.need (.b2 .and (.b2 .le (.lit (-9223372036854775808)) (.var 2)) (.b2 .le (.var 2) (.lit (9223372036854775807))))
 (.br (.b2 .le (.lit (4611686018427387904)) (.iapp 16 (.cons (.int .i64 (.var 2)) .nil)))
 (.ret (.tup (.cons (.agg (.cons (.int .i64 (.lit (0))) (.cons (.int .i64 (.lit (0))) .nil))) (.cons (.int .i64 (.lit (0))) (.cons (.iface 141 (.int .i64 (.lit (1)))) .nil)))))
 (.loop ⟨1, 0, 1, 0⟩ (.b2 .and (.b2 .le (.lit (0)) (.lit (0))) (.b2 .and (.b2 .le (.lit (0)) (.ofI (.vop (.len 4) (.cons (.opq 0) .nil)))) (.bapp 8 (.cons (.tup .nil) (.cons (.opq 0) (.cons (.int .i64 (.var 0)) (.cons (.int .i64 (.var 1)) (.cons (.int .i64 (.var 2)) (.cons (.int .i64 (.lit (0))) .nil))))))))) (.b2 .and (.b2 .le (.lit (0)) (.var 3)) (.b2 .and (.b2 .le (.var 3) (.ofI (.vop (.len 4) (.cons (.opq 0) .nil)))) (.bapp 8 (.cons (.opq 1) (.cons (.opq 0) (.cons (.int .i64 (.var 0)) (.cons (.int .i64 (.var 1)) (.cons (.int .i64 (.var 2)) (.cons (.int .i64 (.var 3)) .nil)))))))))
 (.br (.b2 .lt (.var 3) (.ofI (.vop (.len 4) (.cons (.opq 0) .nil))))
 (.need (.b2 .and (.b2 .le (.lit (0)) (.var 3)) (.b2 .lt (.var 3) (.ofI (.vop (.len 4) (.cons (.opq 0) .nil)))))
 (.br (.b2 .lt (.wrap .i64 (.i2 .sub (.var 2) (.ofI (.vop (.sel 4 1) (.cons (.opq 0) (.cons (.int .i64 (.var 3)) .nil)))))) (.lit (0)))
 (.back (.b2 .and (.b2 .le (.lit (0)) (.wrap .i64 (.i2 .add (.var 3) (.lit (1))))) (.b2 .and (.b2 .le (.wrap .i64 (.i2 .add (.var 3) (.lit (1)))) (.ofI (.vop (.len 4) (.cons (.opq 0) .nil)))) (.bapp 8 (.cons (.opq 1) (.cons (.opq 0) (.cons (.int .i64 (.var 0)) (.cons (.int .i64 (.var 1)) (.cons (.int .i64 (.var 2)) (.cons (.int .i64 (.wrap .i64 (.i2 .add (.var 3) (.lit (1))))) .nil))))))))) (.i2 .sub (.ofI (.vop (.len 4) (.cons (.opq 0) .nil))) (.wrap .i64 (.i2 .add (.var 3) (.lit (1))))) (.i2 .sub (.ofI (.vop (.len 4) (.cons (.opq 0) .nil))) (.var 3)))
 (.br (.b2 .lt (.var 1) (.wrap .i64 (.i2 .sub (.var 2) (.ofI (.vop (.sel 4 1) (.cons (.opq 0) (.cons (.int .i64 (.var 3)) .nil)))))))
 (.back (.b2 .and (.b2 .le (.lit (0)) (.wrap .i64 (.i2 .add (.var 3) (.lit (1))))) (.b2 .and (.b2 .le (.wrap .i64 (.i2 .add (.var 3) (.lit (1)))) (.ofI (.vop (.len 4) (.cons (.opq 0) .nil)))) (.bapp 8 (.cons (.opq 1) (.cons (.opq 0) (.cons (.int .i64 (.var 0)) (.cons (.int .i64 (.var 1)) (.cons (.int .i64 (.var 2)) (.cons (.int .i64 (.wrap .i64 (.i2 .add (.var 3) (.lit (1))))) .nil))))))))) (.i2 .sub (.ofI (.vop (.len 4) (.cons (.opq 0) .nil))) (.wrap .i64 (.i2 .add (.var 3) (.lit (1))))) (.i2 .sub (.ofI (.vop (.len 4) (.cons (.opq 0) .nil))) (.var 3)))
 (.need (.b2 .and (.b2 .le (.ofI (.vop (.sel 4 2) (.cons (.opq 0) (.cons (.int .i64 (.var 3)) .nil)))) (.ofI (.vop (.sel 4 3) (.cons (.opq 0) (.cons (.int .i64 (.var 3)) .nil))))) (.b2 .and (.b2 .and (.b2 .le (.lit (-9223372036854775808)) (.ofI (.vop (.sel 4 2) (.cons (.opq 0) (.cons (.int .i64 (.var 3)) .nil))))) (.b2 .le (.ofI (.vop (.sel 4 2) (.cons (.opq 0) (.cons (.int .i64 (.var 3)) .nil)))) (.lit (9223372036854775807)))) (.b2 .and (.b2 .and (.b2 .le (.lit (-9223372036854775808)) (.ofI (.vop (.sel 4 3) (.cons (.opq 0) (.cons (.int .i64 (.var 3)) .nil))))) (.b2 .le (.ofI (.vop (.sel 4 3) (.cons (.opq 0) (.cons (.int .i64 (.var 3)) .nil)))) (.lit (9223372036854775807)))) (.b2 .and (.b2 .le (.lit (0)) (.var 0)) (.b2 .and (.b2 .le (.var 0) (.lit (1048576))) (.b2 .and (.b2 .le (.lit (0)) (.wrap .i64 (.i2 .sub (.var 2) (.ofI (.vop (.sel 4 1) (.cons (.opq 0) (.cons (.int .i64 (.var 3)) .nil))))))) (.b2 .le (.wrap .i64 (.i2 .sub (.var 2) (.ofI (.vop (.sel 4 1) (.cons (.opq 0) (.cons (.int .i64 (.var 3)) .nil)))))) (.lit (1125899906842624)))))))))
 (.need (.b2 .le (.i2 .add (.ofI (.vop (.len 2) (.cons (.opq 1) .nil))) (.lit (1))) (.lit (8796093022208)))
 (.back (.b2 .and (.b2 .le (.lit (0)) (.wrap .i64 (.i2 .add (.var 3) (.lit (1))))) (.b2 .and (.b2 .le (.wrap .i64 (.i2 .add (.var 3) (.lit (1)))) (.ofI (.vop (.len 4) (.cons (.opq 0) .nil)))) (.bapp 8 (.cons (.vop .cat (.cons (.opq 1) (.cons (.tup (.cons (.int .i64 (.iapp 13 (.cons (.int .i64 (.i2 .sub (.ofI (.vop (.sel 4 2) (.cons (.opq 0) (.cons (.int .i64 (.var 3)) .nil)))) (.iapp 22 (.cons (.int .i64 (.wrap .i64 (.i2 .sub (.var 2) (.ofI (.vop (.sel 4 1) (.cons (.opq 0) (.cons (.int .i64 (.var 3)) .nil))))))) (.cons (.int .i64 (.var 0)) .nil))))) .nil))) (.cons (.int .i64 (.iapp 13 (.cons (.int .i64 (.i2 .add (.ofI (.vop (.sel 4 3) (.cons (.opq 0) (.cons (.int .i64 (.var 3)) .nil)))) (.iapp 22 (.cons (.int .i64 (.wrap .i64 (.i2 .sub (.var 2) (.ofI (.vop (.sel 4 1) (.cons (.opq 0) (.cons (.int .i64 (.var 3)) .nil))))))) (.cons (.int .i64 (.var 0)) .nil))))) .nil))) .nil))) .nil))) (.cons (.opq 0) (.cons (.int .i64 (.var 0)) (.cons (.int .i64 (.var 1)) (.cons (.int .i64 (.var 2)) (.cons (.int .i64 (.wrap .i64 (.i2 .add (.var 3) (.lit (1))))) .nil))))))))) (.i2 .sub (.ofI (.vop (.len 4) (.cons (.opq 0) .nil))) (.wrap .i64 (.i2 .add (.var 3) (.lit (1))))) (.i2 .sub (.ofI (.vop (.len 4) (.cons (.opq 0) .nil))) (.var 3))))))))
 (.br (.b2 .eq (.ofI (.vop (.len 2) (.cons (.opq 1) .nil))) (.lit (0)))
 (.ret (.tup (.cons (.agg (.cons (.int .i64 (.lit (0))) (.cons (.int .i64 (.lit (0))) .nil))) (.cons (.int .i64 (.lit (0))) (.cons (.iface 141 (.int .i64 (.lit (13)))) .nil)))))
 (.br (.not (.b2 .eq (.iapp 7 (.cons (.opq 1) .nil)) (.lit (0))))
 (.ret (.tup (.cons (.agg (.cons (.int .i64 (.lit (0))) (.cons (.int .i64 (.lit (0))) .nil))) (.cons (.int .i64 (.lit (0))) (.cons (.err (.iapp 7 (.cons (.opq 1) .nil))) .nil)))))
 (.br (.b2 .le (.wrap .i64 (.i2 .mul (.lit (2)) (.iapp 8 (.cons (.opq 1) .nil)))) (.ofI (.vop (.len 2) (.cons (.opq 1) .nil))))
 (.ret (.tup (.cons (.agg (.cons (.int .i64 (.lit (0))) (.cons (.int .i64 (.lit (0))) .nil))) (.cons (.int .i64 (.lit (0))) (.cons (.iface 141 (.int .i64 (.lit (13)))) .nil)))))
 (.ret (.tup (.cons (.agg (.cons (.int .i64 (.iapp 9 (.cons (.opq 1) .nil))) (.cons (.int .i64 (.iapp 10 (.cons (.opq 1) .nil))) .nil))) (.cons (.int .i64 (.iapp 8 (.cons (.opq 1) .nil))) (.cons (.cst .nilI) .nil))))))))))))))))))
abbrev fdc_best : Con := ⟨64, [(.agg (.cons (.hs .no (.cons (.int .i64) (.cons (.int .i64) (.cons (.int .i64) (.cons (.int .i64) .nil)))) (.opq 0)) .nil)), (.agg (.cons (.int .i64 (.var 0)) (.cons (.int .i64 (.var 1)) .nil))), (.int .i64 (.var 2))], (.b2 .and (.bapp 4 (.cons (.opq 0) .nil)) (.b2 .and (.b2 .le (.lit (-9223372036854775808)) (.var 2)) (.b2 .le (.var 2) (.lit (9223372036854775807))))), (.tup (.cons (.agg (.cons (.int .i64 (.iapp 27 (.cons (.opq 0) (.cons (.int .i64 (.var 0)) (.cons (.int .i64 (.var 1)) (.cons (.int .i64 (.var 2)) .nil)))))) (.cons (.int .i64 (.iapp 28 (.cons (.opq 0) (.cons (.int .i64 (.var 0)) (.cons (.int .i64 (.var 1)) (.cons (.int .i64 (.var 2)) .nil)))))) .nil))) (.cons (.int .i64 (.iapp 29 (.cons (.opq 0) (.cons (.int .i64 (.var 0)) (.cons (.int .i64 (.var 1)) (.cons (.int .i64 (.var 2)) .nil)))))) (.cons (.err (.iapp 26 (.cons (.opq 0) (.cons (.int .i64 (.var 0)) (.cons (.int .i64 (.var 1)) (.cons (.int .i64 (.var 2)) .nil)))))) .nil)))), ⟨3, 0, 1, 0⟩, none⟩
theorem best_w : walk Tryd.prog 141 ⟨[fac_fck, fac_size, fcc_pres, wbc_vote], syG, [], [], []⟩ [⟨0, ⟨1, 0, 1, 0⟩, [(10, (.hs (.id 1000 86) (.cons (.int .i64) (.cons (.int .i64) .nil)) (.opq 1))), (53, (.int .i64 (.var 3)))], none, (.b2 .and (.b2 .le (.lit (0)) (.var 3)) (.b2 .and (.b2 .le (.var 3) (.ofI (.vop (.len 4) (.cons (.opq 0) .nil)))) (.bapp 8 (.cons (.opq 1) (.cons (.opq 0) (.cons (.int .i64 (.var 0)) (.cons (.int .i64 (.var 1)) (.cons (.int .i64 (.var 2)) (.cons (.int .i64 (.var 3)) .nil))))))))), (.i2 .sub (.ofI (.vop (.len 4) (.cons (.opq 0) .nil))) (.var 3)), 1, []⟩] .v fdc_best fdc_best.n 3000 = some best_tree := by kernel_rfl
theorem best_h (r : Int) (p : Int) (n : Int) (l : Value) (hc : holds (fdE [r, p, n] [] [l] []) (.b2 .and (.bapp 4 (.cons (.opq 0) .nil)) (.b2 .and (.b2 .le (.lit (-9223372036854775808)) (.var 2)) (.b2 .le (.var 2) (.lit (9223372036854775807)))))) (hty : patsTyp (fdE [r, p, n] [] [l] []) [(.agg (.cons (.hs .no (.cons (.int .i64) (.cons (.int .i64) (.cons (.int .i64) (.cons (.int .i64) .nil)))) (.opq 0)) .nil)), (.agg (.cons (.int .i64 (.var 0)) (.cons (.int .i64 (.var 1)) .nil))), (.int .i64 (.var 2))]) : best_tree.holds (fun v_ => v_ = denV (fdE [r, p, n] [] [l] []) b0 (.tup (.cons (.agg (.cons (.int .i64 (.iapp 27 (.cons (.opq 0) (.cons (.int .i64 (.var 0)) (.cons (.int .i64 (.var 1)) (.cons (.int .i64 (.var 2)) .nil)))))) (.cons (.int .i64 (.iapp 28 (.cons (.opq 0) (.cons (.int .i64 (.var 0)) (.cons (.int .i64 (.var 1)) (.cons (.int .i64 (.var 2)) .nil)))))) .nil))) (.cons (.int .i64 (.iapp 29 (.cons (.opq 0) (.cons (.int .i64 (.var 0)) (.cons (.int .i64 (.var 1)) (.cons (.int .i64 (.var 2)) .nil)))))) (.cons (.err (.iapp 26 (.cons (.opq 0) (.cons (.int .i64 (.var 0)) (.cons (.int .i64 (.var 1)) (.cons (.int .i64 (.var 2)) .nil)))))) .nil))))) (fdE [r, p, n] [] [l] []) := by
  simp only [Tree.holds, Sy.holds, AllN, Env.more, fdE, List.cons_append, List.nil_append, List.append_nil, denV, denI, denB, denL, I2.den, VOp.den, List.getD_cons_zero, List.getD_cons_succ, Cst.den, syso, syse, syio, sybo, fdi_of, fdi_arh, fdi_fb, fdi_se, fdi_vm, fdi_vl, fdi_vh, fdi_vE, fdi_vM, fdi_vL, fdi_vH, fdi_aa, fdi_mi, fdi_sa, fdi_nv, fdi_ne, fdi_sz, fdi_lst, fdi_chk, fdi_ix, fdi_pE, fdi_md, fdi_up, fdi_rsv, fdi_rso, fdi_rbd, fdi_bE, fdi_bL, fdi_bH, fdi_bM, fdb_pre, fdb_sm, fdb_ai, fdb_tk, fdb_okr, fdb_okf, fdb_rp, fdb_rd, fdb_nb, fdv_pV, fdv_nw, List.map_nil, List.map_cons, B2.ofInts, B2.denI, B2.denB, if_true, Bool.false_eq_true, if_false, Nat.div_one, Nat.mul_one, Nat.add_zero, holds] at hc
  simp only [patsTyp, patTyp, patTypL, fdE, denV, denL, List.getD_cons_zero, List.getD_cons_succ, and_true, true_and] at hty
  have hL_l : typ (.sl (.cons (.int .i64) (.cons (.int .i64) (.cons (.int .i64) (.cons (.int .i64) .nil))))) l := by first | exact hty | exact hty.1 | exact hty.2 | exact hty.1.1 | exact hty.1.2 | exact hty.2.1 | exact hty.2.2 | exact hty.2.2.1 | exact hty.2.2.2
  have hN_l := typ_len (n := 4) hL_l rfl (by omega)
  unfold best_tree
  simp only [Tree.holds, Sy.holds, AllN, Env.more, fdE, List.cons_append, List.nil_append, List.append_nil, denV, denI, denB, denL, I2.den, VOp.den, List.getD_cons_zero, List.getD_cons_succ, Cst.den, syso, syse, syio, sybo, fdi_of, fdi_arh, fdi_fb, fdi_se, fdi_vm, fdi_vl, fdi_vh, fdi_vE, fdi_vM, fdi_vL, fdi_vH, fdi_aa, fdi_mi, fdi_sa, fdi_nv, fdi_ne, fdi_sz, fdi_lst, fdi_chk, fdi_ix, fdi_pE, fdi_md, fdi_up, fdi_rsv, fdi_rso, fdi_rbd, fdi_bE, fdi_bL, fdi_bH, fdi_bM, fdb_pre, fdb_sm, fdb_ai, fdb_tk, fdb_okr, fdb_okf, fdb_rp, fdb_rd, fdb_nb, fdv_pV, fdv_nw, List.map_nil, List.map_cons, B2.ofInts, B2.denI, B2.denB, if_true, Bool.false_eq_true, if_false, Nat.div_one, Nat.mul_one, Nat.add_zero]
  refine ⟨fun h0 => ?_, fun h0 => ?_⟩
  ·
   refine ⟨?_, fun h1 => ?_⟩
   ·
    first
    | exact hc.1
    | exact ⟨hc.2.1, hc.2.2⟩
    | omega
    | (have hz := szE_spec n ⟨hc.2.1, hc.2.2⟩
       obtain ⟨g1, g2, g3⟩ := hi0
       have hv := eqV_iff.1 g3
       have c1 := hc.1
       have c2 : chkF (Sy.rows l) = 0 := by omega
       obtain ⟨ho, h8⟩ := chkF_8 c2
       obtain ⟨q, q1, q2⟩ := now_len (Sy.rows l) r p n i0a.toNat
       have hf := fineE_iff.1 (okF_get ho (j := i0a.toNat) (by omega))
       have ht := typ_row4 hL_l (k := i0a.toNat) (by omega)
       have hlo := okR_at c1 (k := i0a.toNat * 4 + 2) (by omega) ht.2.2.1
       have hhi := okR_at c1 (k := i0a.toNat * 4 + 3) (by omega) ht.2.2.2
       have w1 : IntKind.wrap .i64 (n - Go.RowKit.intOf ((Sy.rows l).getD (i0a.toNat * 4 + 1) Go.undef)) = n - Go.RowKit.intOf ((Sy.rows l).getD (i0a.toNat * 4 + 1) Go.undef) := by
         have := wr_i64 (n - Go.RowKit.intOf ((Sy.rows l).getD (i0a.toNat * 4 + 1) Go.undef))
         omega
       clear ht hty hL_l
       rw [w1]
       omega)
    | (have hz := szE_spec n ⟨hc.2.1, hc.2.2⟩
       obtain ⟨g1, g2, g3⟩ := hi0
       have hv := eqV_iff.1 g3
       have c1 := hc.1
       have c2 : chkF (Sy.rows l) = 0 := by omega
       obtain ⟨ho, h8⟩ := chkF_8 c2
       obtain ⟨q, q1, q2⟩ := now_len (Sy.rows l) r p n i0a.toNat
       have hf := fineE_iff.1 (okF_get ho (j := i0a.toNat) (by omega))
       have ht := typ_row4 hL_l (k := i0a.toNat) (by omega)
       have hlo := okR_at c1 (k := i0a.toNat * 4 + 2) (by omega) ht.2.2.1
       have hhi := okR_at c1 (k := i0a.toNat * 4 + 3) (by omega) ht.2.2.2
       have w1 : IntKind.wrap .i64 (n - Go.RowKit.intOf ((Sy.rows l).getD (i0a.toNat * 4 + 1) Go.undef)) = n - Go.RowKit.intOf ((Sy.rows l).getD (i0a.toNat * 4 + 1) Go.undef) := by
         have := wr_i64 (n - Go.RowKit.intOf ((Sy.rows l).getD (i0a.toNat * 4 + 1) Go.undef))
         omega
       clear ht hty hL_l
       rw [hv]
       simp only [rows_tup, List.toList_toArray]
       omega)
   ·
    refine ⟨fun h2 => ?_, fun h2 => ?_⟩
    ·
     have hz := szE_spec n ⟨hc.2.1, hc.2.2⟩
     by_cases hb : chkF (Sy.rows l) ≠ 0 ∨ wrgF r p n
     · obtain ⟨e1, e2⟩ := bst_bad hb
       unfold wrgF at hb
       first
       | (exfalso; omega)
       | (rw [e1, e2]; done)
       | (rw [e1, e2]; rfl)
     · have hw := now_vo hb
       have hl := vr_le (nowA (Sy.rows l) r p n)
       have hb2 := hb
       unfold wrgF at hb2
       first
       | (exfalso; omega)
       | (obtain ⟨g1, g2, g3⟩ := hi0
          have hv := eqV_iff.1 g3
          rw [show i0a.toNat = (Sy.rows l).length / 4 by omega] at hv
          have hr : Sy.rows i0b = (nowA (Sy.rows l) r p n) := by rw [hv]; simp only [rows_tup, List.toList_toArray]
          clear hv g3
          simp only [hr] at *
          by_cases h2_ : voE (nowA (Sy.rows l) r p n) = 0 ∧ (nowA (Sy.rows l) r p n).length / 2 < 2 * (voR (nowA (Sy.rows l) r p n)).1
          · obtain ⟨e1, e2⟩ := bst_yes hb h2_
            skip
            first
            | (exfalso; omega)
            | (rw [e1, e2]; done)
            | (rw [e1, e2]; rfl)
          · obtain ⟨e1, e2⟩ := bst_none hb h2_
            skip
            first
            | (exfalso; omega)
            | (rw [e1, e2]; done)
            | (rw [e1, e2]; rfl))
    ·
     have hz := szE_spec n ⟨hc.2.1, hc.2.2⟩
     by_cases hb : chkF (Sy.rows l) ≠ 0 ∨ wrgF r p n
     · obtain ⟨e1, e2⟩ := bst_bad hb
       unfold wrgF at hb
       first
       | (exfalso; omega)
       | (rw [e1, e2]; done)
       | (rw [e1, e2]; rfl)
     · have hw := now_vo hb
       have hl := vr_le (nowA (Sy.rows l) r p n)
       have hb2 := hb
       unfold wrgF at hb2
       first
       | (exfalso; omega)
       | (obtain ⟨g1, g2, g3⟩ := hi0
          have hv := eqV_iff.1 g3
          rw [show i0a.toNat = (Sy.rows l).length / 4 by omega] at hv
          have hr : Sy.rows i0b = (nowA (Sy.rows l) r p n) := by rw [hv]; simp only [rows_tup, List.toList_toArray]
          clear hv g3
          simp only [hr] at *
          by_cases h2_ : voE (nowA (Sy.rows l) r p n) = 0 ∧ (nowA (Sy.rows l) r p n).length / 2 < 2 * (voR (nowA (Sy.rows l) r p n)).1
          · obtain ⟨e1, e2⟩ := bst_yes hb h2_
            skip
            first
            | (exfalso; omega)
            | (rw [e1, e2]; done)
            | (rw [e1, e2]; rfl)
          · obtain ⟨e1, e2⟩ := bst_none hb h2_
            skip
            first
            | (exfalso; omega)
            | (rw [e1, e2]; done)
            | (rw [e1, e2]; rfl))
  ·
   refine ⟨fun h3 => ?_, fun h3 => ?_⟩
   ·
    refine ⟨?_, fun h4 => ?_⟩
    ·
     first
     | exact hc.1
     | exact ⟨hc.2.1, hc.2.2⟩
     | omega
     | (have hz := szE_spec n ⟨hc.2.1, hc.2.2⟩
        obtain ⟨g1, g2, g3⟩ := hi0
        have hv := eqV_iff.1 g3
        have c1 := hc.1
        have c2 : chkF (Sy.rows l) = 0 := by omega
        obtain ⟨ho, h8⟩ := chkF_8 c2
        obtain ⟨q, q1, q2⟩ := now_len (Sy.rows l) r p n i0a.toNat
        have hf := fineE_iff.1 (okF_get ho (j := i0a.toNat) (by omega))
        have ht := typ_row4 hL_l (k := i0a.toNat) (by omega)
        have hlo := okR_at c1 (k := i0a.toNat * 4 + 2) (by omega) ht.2.2.1
        have hhi := okR_at c1 (k := i0a.toNat * 4 + 3) (by omega) ht.2.2.2
        have w1 : IntKind.wrap .i64 (n - Go.RowKit.intOf ((Sy.rows l).getD (i0a.toNat * 4 + 1) Go.undef)) = n - Go.RowKit.intOf ((Sy.rows l).getD (i0a.toNat * 4 + 1) Go.undef) := by
          have := wr_i64 (n - Go.RowKit.intOf ((Sy.rows l).getD (i0a.toNat * 4 + 1) Go.undef))
          omega
        clear ht hty hL_l
        rw [w1]
        omega)
     | (have hz := szE_spec n ⟨hc.2.1, hc.2.2⟩
        obtain ⟨g1, g2, g3⟩ := hi0
        have hv := eqV_iff.1 g3
        have c1 := hc.1
        have c2 : chkF (Sy.rows l) = 0 := by omega
        obtain ⟨ho, h8⟩ := chkF_8 c2
        obtain ⟨q, q1, q2⟩ := now_len (Sy.rows l) r p n i0a.toNat
        have hf := fineE_iff.1 (okF_get ho (j := i0a.toNat) (by omega))
        have ht := typ_row4 hL_l (k := i0a.toNat) (by omega)
        have hlo := okR_at c1 (k := i0a.toNat * 4 + 2) (by omega) ht.2.2.1
        have hhi := okR_at c1 (k := i0a.toNat * 4 + 3) (by omega) ht.2.2.2
        have w1 : IntKind.wrap .i64 (n - Go.RowKit.intOf ((Sy.rows l).getD (i0a.toNat * 4 + 1) Go.undef)) = n - Go.RowKit.intOf ((Sy.rows l).getD (i0a.toNat * 4 + 1) Go.undef) := by
          have := wr_i64 (n - Go.RowKit.intOf ((Sy.rows l).getD (i0a.toNat * 4 + 1) Go.undef))
          omega
        clear ht hty hL_l
        rw [hv]
        simp only [rows_tup, List.toList_toArray]
        omega)
    ·
     refine ⟨fun h5 => ?_, fun h5 => ?_⟩
     ·
      have hz := szE_spec n ⟨hc.2.1, hc.2.2⟩
      by_cases hb : chkF (Sy.rows l) ≠ 0 ∨ wrgF r p n
      · obtain ⟨e1, e2⟩ := bst_bad hb
        unfold wrgF at hb
        first
        | (exfalso; omega)
        | (rw [e1, e2]; done)
        | (rw [e1, e2]; rfl)
      · have hw := now_vo hb
        have hl := vr_le (nowA (Sy.rows l) r p n)
        have hb2 := hb
        unfold wrgF at hb2
        first
        | (exfalso; omega)
        | (obtain ⟨g1, g2, g3⟩ := hi0
           have hv := eqV_iff.1 g3
           rw [show i0a.toNat = (Sy.rows l).length / 4 by omega] at hv
           have hr : Sy.rows i0b = (nowA (Sy.rows l) r p n) := by rw [hv]; simp only [rows_tup, List.toList_toArray]
           clear hv g3
           simp only [hr] at *
           by_cases h2_ : voE (nowA (Sy.rows l) r p n) = 0 ∧ (nowA (Sy.rows l) r p n).length / 2 < 2 * (voR (nowA (Sy.rows l) r p n)).1
           · obtain ⟨e1, e2⟩ := bst_yes hb h2_
             skip
             first
             | (exfalso; omega)
             | (rw [e1, e2]; done)
             | (rw [e1, e2]; rfl)
           · obtain ⟨e1, e2⟩ := bst_none hb h2_
             skip
             first
             | (exfalso; omega)
             | (rw [e1, e2]; done)
             | (rw [e1, e2]; rfl))
     ·
      have hz := szE_spec n ⟨hc.2.1, hc.2.2⟩
      by_cases hb : chkF (Sy.rows l) ≠ 0 ∨ wrgF r p n
      · obtain ⟨e1, e2⟩ := bst_bad hb
        unfold wrgF at hb
        first
        | (exfalso; omega)
        | (rw [e1, e2]; done)
        | (rw [e1, e2]; rfl)
      · have hw := now_vo hb
        have hl := vr_le (nowA (Sy.rows l) r p n)
        have hb2 := hb
        unfold wrgF at hb2
        first
        | (exfalso; omega)
        | (obtain ⟨g1, g2, g3⟩ := hi0
           have hv := eqV_iff.1 g3
           rw [show i0a.toNat = (Sy.rows l).length / 4 by omega] at hv
           have hr : Sy.rows i0b = (nowA (Sy.rows l) r p n) := by rw [hv]; simp only [rows_tup, List.toList_toArray]
           clear hv g3
           simp only [hr] at *
           by_cases h2_ : voE (nowA (Sy.rows l) r p n) = 0 ∧ (nowA (Sy.rows l) r p n).length / 2 < 2 * (voR (nowA (Sy.rows l) r p n)).1
           · obtain ⟨e1, e2⟩ := bst_yes hb h2_
             skip
             first
             | (exfalso; omega)
             | (rw [e1, e2]; done)
             | (rw [e1, e2]; rfl)
           · obtain ⟨e1, e2⟩ := bst_none hb h2_
             skip
             first
             | (exfalso; omega)
             | (rw [e1, e2]; done)
             | (rw [e1, e2]; rfl))
   ·
    refine ⟨fun h6 => ?_, fun h6 => ?_⟩
    ·
     refine ⟨?_, fun h7 => ?_⟩
     ·
      first
      | exact hc.1
      | exact ⟨hc.2.1, hc.2.2⟩
      | omega
      | (have hz := szE_spec n ⟨hc.2.1, hc.2.2⟩
         obtain ⟨g1, g2, g3⟩ := hi0
         have hv := eqV_iff.1 g3
         have c1 := hc.1
         have c2 : chkF (Sy.rows l) = 0 := by omega
         obtain ⟨ho, h8⟩ := chkF_8 c2
         obtain ⟨q, q1, q2⟩ := now_len (Sy.rows l) r p n i0a.toNat
         have hf := fineE_iff.1 (okF_get ho (j := i0a.toNat) (by omega))
         have ht := typ_row4 hL_l (k := i0a.toNat) (by omega)
         have hlo := okR_at c1 (k := i0a.toNat * 4 + 2) (by omega) ht.2.2.1
         have hhi := okR_at c1 (k := i0a.toNat * 4 + 3) (by omega) ht.2.2.2
         have w1 : IntKind.wrap .i64 (n - Go.RowKit.intOf ((Sy.rows l).getD (i0a.toNat * 4 + 1) Go.undef)) = n - Go.RowKit.intOf ((Sy.rows l).getD (i0a.toNat * 4 + 1) Go.undef) := by
           have := wr_i64 (n - Go.RowKit.intOf ((Sy.rows l).getD (i0a.toNat * 4 + 1) Go.undef))
           omega
         clear ht hty hL_l
         rw [w1]
         omega)
      | (have hz := szE_spec n ⟨hc.2.1, hc.2.2⟩
         obtain ⟨g1, g2, g3⟩ := hi0
         have hv := eqV_iff.1 g3
         have c1 := hc.1
         have c2 : chkF (Sy.rows l) = 0 := by omega
         obtain ⟨ho, h8⟩ := chkF_8 c2
         obtain ⟨q, q1, q2⟩ := now_len (Sy.rows l) r p n i0a.toNat
         have hf := fineE_iff.1 (okF_get ho (j := i0a.toNat) (by omega))
         have ht := typ_row4 hL_l (k := i0a.toNat) (by omega)
         have hlo := okR_at c1 (k := i0a.toNat * 4 + 2) (by omega) ht.2.2.1
         have hhi := okR_at c1 (k := i0a.toNat * 4 + 3) (by omega) ht.2.2.2
         have w1 : IntKind.wrap .i64 (n - Go.RowKit.intOf ((Sy.rows l).getD (i0a.toNat * 4 + 1) Go.undef)) = n - Go.RowKit.intOf ((Sy.rows l).getD (i0a.toNat * 4 + 1) Go.undef) := by
           have := wr_i64 (n - Go.RowKit.intOf ((Sy.rows l).getD (i0a.toNat * 4 + 1) Go.undef))
           omega
         clear ht hty hL_l
         rw [hv]
         simp only [rows_tup, List.toList_toArray]
         omega)
     ·
      refine ⟨fun h8 => ?_, fun h8 => ?_⟩
      ·
       have hz := szE_spec n ⟨hc.2.1, hc.2.2⟩
       by_cases hb : chkF (Sy.rows l) ≠ 0 ∨ wrgF r p n
       · obtain ⟨e1, e2⟩ := bst_bad hb
         unfold wrgF at hb
         first
         | (exfalso; omega)
         | (rw [e1, e2]; done)
         | (rw [e1, e2]; rfl)
       · have hw := now_vo hb
         have hl := vr_le (nowA (Sy.rows l) r p n)
         have hb2 := hb
         unfold wrgF at hb2
         first
         | (exfalso; omega)
         | (obtain ⟨g1, g2, g3⟩ := hi0
            have hv := eqV_iff.1 g3
            rw [show i0a.toNat = (Sy.rows l).length / 4 by omega] at hv
            have hr : Sy.rows i0b = (nowA (Sy.rows l) r p n) := by rw [hv]; simp only [rows_tup, List.toList_toArray]
            clear hv g3
            simp only [hr] at *
            by_cases h2_ : voE (nowA (Sy.rows l) r p n) = 0 ∧ (nowA (Sy.rows l) r p n).length / 2 < 2 * (voR (nowA (Sy.rows l) r p n)).1
            · obtain ⟨e1, e2⟩ := bst_yes hb h2_
              skip
              first
              | (exfalso; omega)
              | (rw [e1, e2]; done)
              | (rw [e1, e2]; rfl)
            · obtain ⟨e1, e2⟩ := bst_none hb h2_
              skip
              first
              | (exfalso; omega)
              | (rw [e1, e2]; done)
              | (rw [e1, e2]; rfl))
      ·
       have hz := szE_spec n ⟨hc.2.1, hc.2.2⟩
       by_cases hb : chkF (Sy.rows l) ≠ 0 ∨ wrgF r p n
       · obtain ⟨e1, e2⟩ := bst_bad hb
         unfold wrgF at hb
         first
         | (exfalso; omega)
         | (rw [e1, e2]; done)
         | (rw [e1, e2]; rfl)
       · have hw := now_vo hb
         have hl := vr_le (nowA (Sy.rows l) r p n)
         have hb2 := hb
         unfold wrgF at hb2
         first
         | (exfalso; omega)
         | (obtain ⟨g1, g2, g3⟩ := hi0
            have hv := eqV_iff.1 g3
            rw [show i0a.toNat = (Sy.rows l).length / 4 by omega] at hv
            have hr : Sy.rows i0b = (nowA (Sy.rows l) r p n) := by rw [hv]; simp only [rows_tup, List.toList_toArray]
            clear hv g3
            simp only [hr] at *
            by_cases h2_ : voE (nowA (Sy.rows l) r p n) = 0 ∧ (nowA (Sy.rows l) r p n).length / 2 < 2 * (voR (nowA (Sy.rows l) r p n)).1
            · obtain ⟨e1, e2⟩ := bst_yes hb h2_
              skip
              first
              | (exfalso; omega)
              | (rw [e1, e2]; done)
              | (rw [e1, e2]; rfl)
            · obtain ⟨e1, e2⟩ := bst_none hb h2_
              skip
              first
              | (exfalso; omega)
              | (rw [e1, e2]; done)
              | (rw [e1, e2]; rfl))
    ·
     refine ⟨?_, fun h9 => ?_⟩
     ·
      first
      | exact hc.1
      | exact ⟨hc.2.1, hc.2.2⟩
      | omega
      | (have hz := szE_spec n ⟨hc.2.1, hc.2.2⟩
         obtain ⟨g1, g2, g3⟩ := hi0
         have hv := eqV_iff.1 g3
         have c1 := hc.1
         have c2 : chkF (Sy.rows l) = 0 := by omega
         obtain ⟨ho, h8⟩ := chkF_8 c2
         obtain ⟨q, q1, q2⟩ := now_len (Sy.rows l) r p n i0a.toNat
         have hf := fineE_iff.1 (okF_get ho (j := i0a.toNat) (by omega))
         have ht := typ_row4 hL_l (k := i0a.toNat) (by omega)
         have hlo := okR_at c1 (k := i0a.toNat * 4 + 2) (by omega) ht.2.2.1
         have hhi := okR_at c1 (k := i0a.toNat * 4 + 3) (by omega) ht.2.2.2
         have w1 : IntKind.wrap .i64 (n - Go.RowKit.intOf ((Sy.rows l).getD (i0a.toNat * 4 + 1) Go.undef)) = n - Go.RowKit.intOf ((Sy.rows l).getD (i0a.toNat * 4 + 1) Go.undef) := by
           have := wr_i64 (n - Go.RowKit.intOf ((Sy.rows l).getD (i0a.toNat * 4 + 1) Go.undef))
           omega
         clear ht hty hL_l
         rw [w1]
         omega)
      | (have hz := szE_spec n ⟨hc.2.1, hc.2.2⟩
         obtain ⟨g1, g2, g3⟩ := hi0
         have hv := eqV_iff.1 g3
         have c1 := hc.1
         have c2 : chkF (Sy.rows l) = 0 := by omega
         obtain ⟨ho, h8⟩ := chkF_8 c2
         obtain ⟨q, q1, q2⟩ := now_len (Sy.rows l) r p n i0a.toNat
         have hf := fineE_iff.1 (okF_get ho (j := i0a.toNat) (by omega))
         have ht := typ_row4 hL_l (k := i0a.toNat) (by omega)
         have hlo := okR_at c1 (k := i0a.toNat * 4 + 2) (by omega) ht.2.2.1
         have hhi := okR_at c1 (k := i0a.toNat * 4 + 3) (by omega) ht.2.2.2
         have w1 : IntKind.wrap .i64 (n - Go.RowKit.intOf ((Sy.rows l).getD (i0a.toNat * 4 + 1) Go.undef)) = n - Go.RowKit.intOf ((Sy.rows l).getD (i0a.toNat * 4 + 1) Go.undef) := by
           have := wr_i64 (n - Go.RowKit.intOf ((Sy.rows l).getD (i0a.toNat * 4 + 1) Go.undef))
           omega
         clear ht hty hL_l
         rw [hv]
         simp only [rows_tup, List.toList_toArray]
         omega)
     ·
      refine ⟨fun h10 => ?_, fun h10 => ?_⟩
      ·
       have hz := szE_spec n ⟨hc.2.1, hc.2.2⟩
       by_cases hb : chkF (Sy.rows l) ≠ 0 ∨ wrgF r p n
       · obtain ⟨e1, e2⟩ := bst_bad hb
         unfold wrgF at hb
         first
         | (exfalso; omega)
         | (rw [e1, e2]; done)
         | (rw [e1, e2]; rfl)
       · have hw := now_vo hb
         have hl := vr_le (nowA (Sy.rows l) r p n)
         have hb2 := hb
         unfold wrgF at hb2
         first
         | (exfalso; omega)
         | (obtain ⟨g1, g2, g3⟩ := hi0
            have hv := eqV_iff.1 g3
            rw [show i0a.toNat = (Sy.rows l).length / 4 by omega] at hv
            have hr : Sy.rows i0b = (nowA (Sy.rows l) r p n) := by rw [hv]; simp only [rows_tup, List.toList_toArray]
            clear hv g3
            simp only [hr] at *
            by_cases h2_ : voE (nowA (Sy.rows l) r p n) = 0 ∧ (nowA (Sy.rows l) r p n).length / 2 < 2 * (voR (nowA (Sy.rows l) r p n)).1
            · obtain ⟨e1, e2⟩ := bst_yes hb h2_
              skip
              first
              | (exfalso; omega)
              | (rw [e1, e2]; done)
              | (rw [e1, e2]; rfl)
            · obtain ⟨e1, e2⟩ := bst_none hb h2_
              skip
              first
              | (exfalso; omega)
              | (rw [e1, e2]; done)
              | (rw [e1, e2]; rfl))
      ·
       refine ⟨fun h11 => ?_, fun h11 => ?_⟩
       ·
        have hz := szE_spec n ⟨hc.2.1, hc.2.2⟩
        by_cases hb : chkF (Sy.rows l) ≠ 0 ∨ wrgF r p n
        · obtain ⟨e1, e2⟩ := bst_bad hb
          unfold wrgF at hb
          first
          | (exfalso; omega)
          | (rw [e1, e2]; done)
          | (rw [e1, e2]; rfl)
        · have hw := now_vo hb
          have hl := vr_le (nowA (Sy.rows l) r p n)
          have hb2 := hb
          unfold wrgF at hb2
          first
          | (exfalso; omega)
          | (obtain ⟨g1, g2, g3⟩ := hi0
             have hv := eqV_iff.1 g3
             rw [show i0a.toNat = (Sy.rows l).length / 4 by omega] at hv
             have hr : Sy.rows i0b = (nowA (Sy.rows l) r p n) := by rw [hv]; simp only [rows_tup, List.toList_toArray]
             clear hv g3
             simp only [hr] at *
             by_cases h2_ : voE (nowA (Sy.rows l) r p n) = 0 ∧ (nowA (Sy.rows l) r p n).length / 2 < 2 * (voR (nowA (Sy.rows l) r p n)).1
             · obtain ⟨e1, e2⟩ := bst_yes hb h2_
               skip
               first
               | (exfalso; omega)
               | (rw [e1, e2]; done)
               | (rw [e1, e2]; rfl)
             · obtain ⟨e1, e2⟩ := bst_none hb h2_
               skip
               first
               | (exfalso; omega)
               | (rw [e1, e2]; done)
               | (rw [e1, e2]; rfl))
       ·
        refine ⟨?_, fun h12 => ?_⟩
        ·
         first
         | exact hc.1
         | exact ⟨hc.2.1, hc.2.2⟩
         | omega
         | (have hz := szE_spec n ⟨hc.2.1, hc.2.2⟩
            obtain ⟨g1, g2, g3⟩ := hi0
            have hv := eqV_iff.1 g3
            have c1 := hc.1
            have c2 : chkF (Sy.rows l) = 0 := by omega
            obtain ⟨ho, h8⟩ := chkF_8 c2
            obtain ⟨q, q1, q2⟩ := now_len (Sy.rows l) r p n i0a.toNat
            have hf := fineE_iff.1 (okF_get ho (j := i0a.toNat) (by omega))
            have ht := typ_row4 hL_l (k := i0a.toNat) (by omega)
            have hlo := okR_at c1 (k := i0a.toNat * 4 + 2) (by omega) ht.2.2.1
            have hhi := okR_at c1 (k := i0a.toNat * 4 + 3) (by omega) ht.2.2.2
            have w1 : IntKind.wrap .i64 (n - Go.RowKit.intOf ((Sy.rows l).getD (i0a.toNat * 4 + 1) Go.undef)) = n - Go.RowKit.intOf ((Sy.rows l).getD (i0a.toNat * 4 + 1) Go.undef) := by
              have := wr_i64 (n - Go.RowKit.intOf ((Sy.rows l).getD (i0a.toNat * 4 + 1) Go.undef))
              omega
            clear ht hty hL_l
            rw [w1]
            omega)
         | (have hz := szE_spec n ⟨hc.2.1, hc.2.2⟩
            obtain ⟨g1, g2, g3⟩ := hi0
            have hv := eqV_iff.1 g3
            have c1 := hc.1
            have c2 : chkF (Sy.rows l) = 0 := by omega
            obtain ⟨ho, h8⟩ := chkF_8 c2
            obtain ⟨q, q1, q2⟩ := now_len (Sy.rows l) r p n i0a.toNat
            have hf := fineE_iff.1 (okF_get ho (j := i0a.toNat) (by omega))
            have ht := typ_row4 hL_l (k := i0a.toNat) (by omega)
            have hlo := okR_at c1 (k := i0a.toNat * 4 + 2) (by omega) ht.2.2.1
            have hhi := okR_at c1 (k := i0a.toNat * 4 + 3) (by omega) ht.2.2.2
            have w1 : IntKind.wrap .i64 (n - Go.RowKit.intOf ((Sy.rows l).getD (i0a.toNat * 4 + 1) Go.undef)) = n - Go.RowKit.intOf ((Sy.rows l).getD (i0a.toNat * 4 + 1) Go.undef) := by
              have := wr_i64 (n - Go.RowKit.intOf ((Sy.rows l).getD (i0a.toNat * 4 + 1) Go.undef))
              omega
            clear ht hty hL_l
            rw [hv]
            simp only [rows_tup, List.toList_toArray]
            omega)
        ·
         refine ⟨fun h13 => ?_, fun h13 => ?_⟩
         ·
          have hz := szE_spec n ⟨hc.2.1, hc.2.2⟩
          by_cases hb : chkF (Sy.rows l) ≠ 0 ∨ wrgF r p n
          · obtain ⟨e1, e2⟩ := bst_bad hb
            unfold wrgF at hb
            first
            | (exfalso; omega)
            | (rw [e1, e2]; done)
            | (rw [e1, e2]; rfl)
          · have hw := now_vo hb
            have hl := vr_le (nowA (Sy.rows l) r p n)
            have hb2 := hb
            unfold wrgF at hb2
            first
            | (exfalso; omega)
            | (obtain ⟨g1, g2, g3⟩ := hi0
               have hv := eqV_iff.1 g3
               rw [show i0a.toNat = (Sy.rows l).length / 4 by omega] at hv
               have hr : Sy.rows i0b = (nowA (Sy.rows l) r p n) := by rw [hv]; simp only [rows_tup, List.toList_toArray]
               clear hv g3
               simp only [hr] at *
               by_cases h2_ : voE (nowA (Sy.rows l) r p n) = 0 ∧ (nowA (Sy.rows l) r p n).length / 2 < 2 * (voR (nowA (Sy.rows l) r p n)).1
               · obtain ⟨e1, e2⟩ := bst_yes hb h2_
                 skip
                 first
                 | (exfalso; omega)
                 | (rw [e1, e2]; done)
                 | (rw [e1, e2]; rfl)
               · obtain ⟨e1, e2⟩ := bst_none hb h2_
                 skip
                 first
                 | (exfalso; omega)
                 | (rw [e1, e2]; done)
                 | (rw [e1, e2]; rfl))
         ·
          refine ⟨?_, ?_⟩
          ·
           exact ⟨by omega, by omega, eqV_iff.2 rfl⟩
          ·
           intro i0a i0b hi0
           refine ⟨fun h14 => ?_, fun h14 => ?_⟩
           ·
            refine ⟨?_, fun h15 => ?_⟩
            ·
             first
             | exact hc.1
             | exact ⟨hc.2.1, hc.2.2⟩
             | omega
             | (have hz := szE_spec n ⟨hc.2.1, hc.2.2⟩
                obtain ⟨g1, g2, g3⟩ := hi0
                have hv := eqV_iff.1 g3
                have c1 := hc.1
                have c2 : chkF (Sy.rows l) = 0 := by omega
                obtain ⟨ho, h8⟩ := chkF_8 c2
                obtain ⟨q, q1, q2⟩ := now_len (Sy.rows l) r p n i0a.toNat
                have hf := fineE_iff.1 (okF_get ho (j := i0a.toNat) (by omega))
                have ht := typ_row4 hL_l (k := i0a.toNat) (by omega)
                have hlo := okR_at c1 (k := i0a.toNat * 4 + 2) (by omega) ht.2.2.1
                have hhi := okR_at c1 (k := i0a.toNat * 4 + 3) (by omega) ht.2.2.2
                have w1 : IntKind.wrap .i64 (n - Go.RowKit.intOf ((Sy.rows l).getD (i0a.toNat * 4 + 1) Go.undef)) = n - Go.RowKit.intOf ((Sy.rows l).getD (i0a.toNat * 4 + 1) Go.undef) := by
                  have := wr_i64 (n - Go.RowKit.intOf ((Sy.rows l).getD (i0a.toNat * 4 + 1) Go.undef))
                  omega
                clear ht hty hL_l
                rw [w1]
                omega)
             | (have hz := szE_spec n ⟨hc.2.1, hc.2.2⟩
                obtain ⟨g1, g2, g3⟩ := hi0
                have hv := eqV_iff.1 g3
                have c1 := hc.1
                have c2 : chkF (Sy.rows l) = 0 := by omega
                obtain ⟨ho, h8⟩ := chkF_8 c2
                obtain ⟨q, q1, q2⟩ := now_len (Sy.rows l) r p n i0a.toNat
                have hf := fineE_iff.1 (okF_get ho (j := i0a.toNat) (by omega))
                have ht := typ_row4 hL_l (k := i0a.toNat) (by omega)
                have hlo := okR_at c1 (k := i0a.toNat * 4 + 2) (by omega) ht.2.2.1
                have hhi := okR_at c1 (k := i0a.toNat * 4 + 3) (by omega) ht.2.2.2
                have w1 : IntKind.wrap .i64 (n - Go.RowKit.intOf ((Sy.rows l).getD (i0a.toNat * 4 + 1) Go.undef)) = n - Go.RowKit.intOf ((Sy.rows l).getD (i0a.toNat * 4 + 1) Go.undef) := by
                  have := wr_i64 (n - Go.RowKit.intOf ((Sy.rows l).getD (i0a.toNat * 4 + 1) Go.undef))
                  omega
                clear ht hty hL_l
                rw [hv]
                simp only [rows_tup, List.toList_toArray]
                omega)
            ·
             have wf0 := wr_i64 (n - (Go.RowKit.intOf ((rows l).getD (Int.toNat i0a * 4 + 1) Go.undef)))
             refine ⟨fun h16 => ?_, fun h16 => ?_⟩
             ·
              have wf1 := wr_i64 (i0a + 1)
              refine ⟨?_, ?_⟩
              ·
               have hz := szE_spec n ⟨hc.2.1, hc.2.2⟩
               obtain ⟨g1, g2, g3⟩ := hi0
               have hv := eqV_iff.1 g3
               have c1 := hc.1
               have c2 : chkF (Sy.rows l) = 0 := by omega
               obtain ⟨ho, h8⟩ := chkF_8 c2
               obtain ⟨q, q1, q2⟩ := now_len (Sy.rows l) r p n i0a.toNat
               have hf := fineE_iff.1 (okF_get ho (j := i0a.toNat) (by omega))
               have ht := typ_row4 hL_l (k := i0a.toNat) (by omega)
               have hlo := okR_at c1 (k := i0a.toNat * 4 + 2) (by omega) ht.2.2.1
               have hhi := okR_at c1 (k := i0a.toNat * 4 + 3) (by omega) ht.2.2.2
               have w1 : IntKind.wrap .i64 (n - Go.RowKit.intOf ((Sy.rows l).getD (i0a.toNat * 4 + 1) Go.undef)) = n - Go.RowKit.intOf ((Sy.rows l).getD (i0a.toNat * 4 + 1) Go.undef) := by
                 have := wr_i64 (n - Go.RowKit.intOf ((Sy.rows l).getD (i0a.toNat * 4 + 1) Go.undef))
                 omega
               clear ht hty hL_l
               have e : IntKind.wrap .i64 (i0a + 1) = i0a + 1 := by omega
               rw [e, show (i0a + 1).toNat = i0a.toNat + 1 by omega]
               by_cases hcn : cntF (Sy.rows l) p n i0a.toNat
               · have hcn2 := hcn
                 unfold cntF at hcn2
                 first
                 | (exfalso; omega)
                 | (rw [now_yes hcn]
                    refine ⟨by omega, by omega, eqV_iff.2 ?_⟩
                    rw [hv]
                    simp only [rows_tup, List.toList_toArray, spanF, w1])
               · have hcn2 := hcn
                 unfold cntF at hcn2
                 first
                 | (exfalso; omega)
                 | (rw [now_no hcn]
                    exact ⟨by omega, by omega, g3⟩)
              ·
               omega
             ·
              refine ⟨fun h17 => ?_, fun h17 => ?_⟩
              ·
               have wf2 := wr_i64 (i0a + 1)
               refine ⟨?_, ?_⟩
               ·
                have hz := szE_spec n ⟨hc.2.1, hc.2.2⟩
                obtain ⟨g1, g2, g3⟩ := hi0
                have hv := eqV_iff.1 g3
                have c1 := hc.1
                have c2 : chkF (Sy.rows l) = 0 := by omega
                obtain ⟨ho, h8⟩ := chkF_8 c2
                obtain ⟨q, q1, q2⟩ := now_len (Sy.rows l) r p n i0a.toNat
                have hf := fineE_iff.1 (okF_get ho (j := i0a.toNat) (by omega))
                have ht := typ_row4 hL_l (k := i0a.toNat) (by omega)
                have hlo := okR_at c1 (k := i0a.toNat * 4 + 2) (by omega) ht.2.2.1
                have hhi := okR_at c1 (k := i0a.toNat * 4 + 3) (by omega) ht.2.2.2
                have w1 : IntKind.wrap .i64 (n - Go.RowKit.intOf ((Sy.rows l).getD (i0a.toNat * 4 + 1) Go.undef)) = n - Go.RowKit.intOf ((Sy.rows l).getD (i0a.toNat * 4 + 1) Go.undef) := by
                  have := wr_i64 (n - Go.RowKit.intOf ((Sy.rows l).getD (i0a.toNat * 4 + 1) Go.undef))
                  omega
                clear ht hty hL_l
                have e : IntKind.wrap .i64 (i0a + 1) = i0a + 1 := by omega
                rw [e, show (i0a + 1).toNat = i0a.toNat + 1 by omega]
                by_cases hcn : cntF (Sy.rows l) p n i0a.toNat
                · have hcn2 := hcn
                  unfold cntF at hcn2
                  first
                  | (exfalso; omega)
                  | (rw [now_yes hcn]
                     refine ⟨by omega, by omega, eqV_iff.2 ?_⟩
                     rw [hv]
                     simp only [rows_tup, List.toList_toArray, spanF, w1])
                · have hcn2 := hcn
                  unfold cntF at hcn2
                  first
                  | (exfalso; omega)
                  | (rw [now_no hcn]
                     exact ⟨by omega, by omega, g3⟩)
               ·
                omega
              ·
               refine ⟨?_, fun h18 => ?_⟩
               ·
                first
                | exact hc.1
                | exact ⟨hc.2.1, hc.2.2⟩
                | omega
                | (have hz := szE_spec n ⟨hc.2.1, hc.2.2⟩
                   obtain ⟨g1, g2, g3⟩ := hi0
                   have hv := eqV_iff.1 g3
                   have c1 := hc.1
                   have c2 : chkF (Sy.rows l) = 0 := by omega
                   obtain ⟨ho, h8⟩ := chkF_8 c2
                   obtain ⟨q, q1, q2⟩ := now_len (Sy.rows l) r p n i0a.toNat
                   have hf := fineE_iff.1 (okF_get ho (j := i0a.toNat) (by omega))
                   have ht := typ_row4 hL_l (k := i0a.toNat) (by omega)
                   have hlo := okR_at c1 (k := i0a.toNat * 4 + 2) (by omega) ht.2.2.1
                   have hhi := okR_at c1 (k := i0a.toNat * 4 + 3) (by omega) ht.2.2.2
                   have w1 : IntKind.wrap .i64 (n - Go.RowKit.intOf ((Sy.rows l).getD (i0a.toNat * 4 + 1) Go.undef)) = n - Go.RowKit.intOf ((Sy.rows l).getD (i0a.toNat * 4 + 1) Go.undef) := by
                     have := wr_i64 (n - Go.RowKit.intOf ((Sy.rows l).getD (i0a.toNat * 4 + 1) Go.undef))
                     omega
                   clear ht hty hL_l
                   rw [w1]
                   omega)
                | (have hz := szE_spec n ⟨hc.2.1, hc.2.2⟩
                   obtain ⟨g1, g2, g3⟩ := hi0
                   have hv := eqV_iff.1 g3
                   have c1 := hc.1
                   have c2 : chkF (Sy.rows l) = 0 := by omega
                   obtain ⟨ho, h8⟩ := chkF_8 c2
                   obtain ⟨q, q1, q2⟩ := now_len (Sy.rows l) r p n i0a.toNat
                   have hf := fineE_iff.1 (okF_get ho (j := i0a.toNat) (by omega))
                   have ht := typ_row4 hL_l (k := i0a.toNat) (by omega)
                   have hlo := okR_at c1 (k := i0a.toNat * 4 + 2) (by omega) ht.2.2.1
                   have hhi := okR_at c1 (k := i0a.toNat * 4 + 3) (by omega) ht.2.2.2
                   have w1 : IntKind.wrap .i64 (n - Go.RowKit.intOf ((Sy.rows l).getD (i0a.toNat * 4 + 1) Go.undef)) = n - Go.RowKit.intOf ((Sy.rows l).getD (i0a.toNat * 4 + 1) Go.undef) := by
                     have := wr_i64 (n - Go.RowKit.intOf ((Sy.rows l).getD (i0a.toNat * 4 + 1) Go.undef))
                     omega
                   clear ht hty hL_l
                   rw [hv]
                   simp only [rows_tup, List.toList_toArray]
                   omega)
               ·
                refine ⟨?_, fun h19 => ?_⟩
                ·
                 first
                 | exact hc.1
                 | exact ⟨hc.2.1, hc.2.2⟩
                 | omega
                 | (have hz := szE_spec n ⟨hc.2.1, hc.2.2⟩
                    obtain ⟨g1, g2, g3⟩ := hi0
                    have hv := eqV_iff.1 g3
                    have c1 := hc.1
                    have c2 : chkF (Sy.rows l) = 0 := by omega
                    obtain ⟨ho, h8⟩ := chkF_8 c2
                    obtain ⟨q, q1, q2⟩ := now_len (Sy.rows l) r p n i0a.toNat
                    have hf := fineE_iff.1 (okF_get ho (j := i0a.toNat) (by omega))
                    have ht := typ_row4 hL_l (k := i0a.toNat) (by omega)
                    have hlo := okR_at c1 (k := i0a.toNat * 4 + 2) (by omega) ht.2.2.1
                    have hhi := okR_at c1 (k := i0a.toNat * 4 + 3) (by omega) ht.2.2.2
                    have w1 : IntKind.wrap .i64 (n - Go.RowKit.intOf ((Sy.rows l).getD (i0a.toNat * 4 + 1) Go.undef)) = n - Go.RowKit.intOf ((Sy.rows l).getD (i0a.toNat * 4 + 1) Go.undef) := by
                      have := wr_i64 (n - Go.RowKit.intOf ((Sy.rows l).getD (i0a.toNat * 4 + 1) Go.undef))
                      omega
                    clear ht hty hL_l
                    rw [w1]
                    omega)
                 | (have hz := szE_spec n ⟨hc.2.1, hc.2.2⟩
                    obtain ⟨g1, g2, g3⟩ := hi0
                    have hv := eqV_iff.1 g3
                    have c1 := hc.1
                    have c2 : chkF (Sy.rows l) = 0 := by omega
                    obtain ⟨ho, h8⟩ := chkF_8 c2
                    obtain ⟨q, q1, q2⟩ := now_len (Sy.rows l) r p n i0a.toNat
                    have hf := fineE_iff.1 (okF_get ho (j := i0a.toNat) (by omega))
                    have ht := typ_row4 hL_l (k := i0a.toNat) (by omega)
                    have hlo := okR_at c1 (k := i0a.toNat * 4 + 2) (by omega) ht.2.2.1
                    have hhi := okR_at c1 (k := i0a.toNat * 4 + 3) (by omega) ht.2.2.2
                    have w1 : IntKind.wrap .i64 (n - Go.RowKit.intOf ((Sy.rows l).getD (i0a.toNat * 4 + 1) Go.undef)) = n - Go.RowKit.intOf ((Sy.rows l).getD (i0a.toNat * 4 + 1) Go.undef) := by
                      have := wr_i64 (n - Go.RowKit.intOf ((Sy.rows l).getD (i0a.toNat * 4 + 1) Go.undef))
                      omega
                    clear ht hty hL_l
                    rw [hv]
                    simp only [rows_tup, List.toList_toArray]
                    omega)
                ·
                 have wf3 := wr_i64 (i0a + 1)
                 try simp only [hw0]
                 refine ⟨?_, ?_⟩
                 ·
                  have hz := szE_spec n ⟨hc.2.1, hc.2.2⟩
                  obtain ⟨g1, g2, g3⟩ := hi0
                  have hv := eqV_iff.1 g3
                  have c1 := hc.1
                  have c2 : chkF (Sy.rows l) = 0 := by omega
                  obtain ⟨ho, h8⟩ := chkF_8 c2
                  obtain ⟨q, q1, q2⟩ := now_len (Sy.rows l) r p n i0a.toNat
                  have hf := fineE_iff.1 (okF_get ho (j := i0a.toNat) (by omega))
                  have ht := typ_row4 hL_l (k := i0a.toNat) (by omega)
                  have hlo := okR_at c1 (k := i0a.toNat * 4 + 2) (by omega) ht.2.2.1
                  have hhi := okR_at c1 (k := i0a.toNat * 4 + 3) (by omega) ht.2.2.2
                  have w1 : IntKind.wrap .i64 (n - Go.RowKit.intOf ((Sy.rows l).getD (i0a.toNat * 4 + 1) Go.undef)) = n - Go.RowKit.intOf ((Sy.rows l).getD (i0a.toNat * 4 + 1) Go.undef) := by
                    have := wr_i64 (n - Go.RowKit.intOf ((Sy.rows l).getD (i0a.toNat * 4 + 1) Go.undef))
                    omega
                  clear ht hty hL_l
                  have e : IntKind.wrap .i64 (i0a + 1) = i0a + 1 := by omega
                  rw [e, show (i0a + 1).toNat = i0a.toNat + 1 by omega]
                  by_cases hcn : cntF (Sy.rows l) p n i0a.toNat
                  · have hcn2 := hcn
                    unfold cntF at hcn2
                    first
                    | (exfalso; omega)
                    | (rw [now_yes hcn]
                       refine ⟨by omega, by omega, eqV_iff.2 ?_⟩
                       rw [hv]
                       simp only [rows_tup, List.toList_toArray, spanF, w1])
                  · have hcn2 := hcn
                    unfold cntF at hcn2
                    first
                    | (exfalso; omega)
                    | (rw [now_no hcn]
                       exact ⟨by omega, by omega, g3⟩)
                 ·
                  omega
           ·
            refine ⟨fun h20 => ?_, fun h20 => ?_⟩
            ·
             have hz := szE_spec n ⟨hc.2.1, hc.2.2⟩
             by_cases hb : chkF (Sy.rows l) ≠ 0 ∨ wrgF r p n
             · obtain ⟨e1, e2⟩ := bst_bad hb
               unfold wrgF at hb
               first
               | (exfalso; omega)
               | (rw [e1, e2]; done)
               | (rw [e1, e2]; rfl)
             · have hw := now_vo hb
               have hl := vr_le (nowA (Sy.rows l) r p n)
               have hb2 := hb
               unfold wrgF at hb2
               first
               | (exfalso; omega)
               | (obtain ⟨g1, g2, g3⟩ := hi0
                  have hv := eqV_iff.1 g3
                  rw [show i0a.toNat = (Sy.rows l).length / 4 by omega] at hv
                  have hr : Sy.rows i0b = (nowA (Sy.rows l) r p n) := by rw [hv]; simp only [rows_tup, List.toList_toArray]
                  clear hv g3
                  simp only [hr] at *
                  by_cases h2_ : voE (nowA (Sy.rows l) r p n) = 0 ∧ (nowA (Sy.rows l) r p n).length / 2 < 2 * (voR (nowA (Sy.rows l) r p n)).1
                  · obtain ⟨e1, e2⟩ := bst_yes hb h2_
                    skip
                    first
                    | (exfalso; omega)
                    | (rw [e1, e2]; done)
                    | (rw [e1, e2]; rfl)
                  · obtain ⟨e1, e2⟩ := bst_none hb h2_
                    skip
                    first
                    | (exfalso; omega)
                    | (rw [e1, e2]; done)
                    | (rw [e1, e2]; rfl))
            ·
             refine ⟨fun h21 => ?_, fun h21 => ?_⟩
             ·
              have hz := szE_spec n ⟨hc.2.1, hc.2.2⟩
              by_cases hb : chkF (Sy.rows l) ≠ 0 ∨ wrgF r p n
              · obtain ⟨e1, e2⟩ := bst_bad hb
                unfold wrgF at hb
                first
                | (exfalso; omega)
                | (rw [e1, e2]; done)
                | (rw [e1, e2]; rfl)
              · have hw := now_vo hb
                have hl := vr_le (nowA (Sy.rows l) r p n)
                have hb2 := hb
                unfold wrgF at hb2
                first
                | (exfalso; omega)
                | (obtain ⟨g1, g2, g3⟩ := hi0
                   have hv := eqV_iff.1 g3
                   rw [show i0a.toNat = (Sy.rows l).length / 4 by omega] at hv
                   have hr : Sy.rows i0b = (nowA (Sy.rows l) r p n) := by rw [hv]; simp only [rows_tup, List.toList_toArray]
                   clear hv g3
                   simp only [hr] at *
                   by_cases h2_ : voE (nowA (Sy.rows l) r p n) = 0 ∧ (nowA (Sy.rows l) r p n).length / 2 < 2 * (voR (nowA (Sy.rows l) r p n)).1
                   · obtain ⟨e1, e2⟩ := bst_yes hb h2_
                     skip
                     first
                     | (exfalso; omega)
                     | (rw [e1, e2]; done)
                     | (rw [e1, e2]; rfl)
                   · obtain ⟨e1, e2⟩ := bst_none hb h2_
                     skip
                     first
                     | (exfalso; omega)
                     | (rw [e1, e2]; done)
                     | (rw [e1, e2]; rfl))
             ·
              have wf4 := wr_i64 (2 * ((((voR (rows i0b)).1 : Nat) : Int)))
              refine ⟨fun h22 => ?_, fun h22 => ?_⟩
              ·
               have hz := szE_spec n ⟨hc.2.1, hc.2.2⟩
               by_cases hb : chkF (Sy.rows l) ≠ 0 ∨ wrgF r p n
               · obtain ⟨e1, e2⟩ := bst_bad hb
                 unfold wrgF at hb
                 first
                 | (exfalso; omega)
                 | (rw [e1, e2]; done)
                 | (rw [e1, e2]; rfl)
               · have hw := now_vo hb
                 have hl := vr_le (nowA (Sy.rows l) r p n)
                 have hb2 := hb
                 unfold wrgF at hb2
                 first
                 | (exfalso; omega)
                 | (obtain ⟨g1, g2, g3⟩ := hi0
                    have hv := eqV_iff.1 g3
                    rw [show i0a.toNat = (Sy.rows l).length / 4 by omega] at hv
                    have hr : Sy.rows i0b = (nowA (Sy.rows l) r p n) := by rw [hv]; simp only [rows_tup, List.toList_toArray]
                    clear hv g3
                    simp only [hr] at *
                    by_cases h2_ : voE (nowA (Sy.rows l) r p n) = 0 ∧ (nowA (Sy.rows l) r p n).length / 2 < 2 * (voR (nowA (Sy.rows l) r p n)).1
                    · obtain ⟨e1, e2⟩ := bst_yes hb h2_
                      skip
                      first
                      | (exfalso; omega)
                      | (rw [e1, e2]; done)
                      | (rw [e1, e2]; rfl)
                    · obtain ⟨e1, e2⟩ := bst_none hb h2_
                      skip
                      first
                      | (exfalso; omega)
                      | (rw [e1, e2]; done)
                      | (rw [e1, e2]; rfl))
              ·
               have hz := szE_spec n ⟨hc.2.1, hc.2.2⟩
               by_cases hb : chkF (Sy.rows l) ≠ 0 ∨ wrgF r p n
               · obtain ⟨e1, e2⟩ := bst_bad hb
                 unfold wrgF at hb
                 first
                 | (exfalso; omega)
                 | (rw [e1, e2]; done)
                 | (rw [e1, e2]; rfl)
               · have hw := now_vo hb
                 have hl := vr_le (nowA (Sy.rows l) r p n)
                 have hb2 := hb
                 unfold wrgF at hb2
                 first
                 | (exfalso; omega)
                 | (obtain ⟨g1, g2, g3⟩ := hi0
                    have hv := eqV_iff.1 g3
                    rw [show i0a.toNat = (Sy.rows l).length / 4 by omega] at hv
                    have hr : Sy.rows i0b = (nowA (Sy.rows l) r p n) := by rw [hv]; simp only [rows_tup, List.toList_toArray]
                    clear hv g3
                    simp only [hr] at *
                    by_cases h2_ : voE (nowA (Sy.rows l) r p n) = 0 ∧ (nowA (Sy.rows l) r p n).length / 2 < 2 * (voR (nowA (Sy.rows l) r p n)).1
                    · obtain ⟨e1, e2⟩ := bst_yes hb h2_
                      skip
                      first
                      | (exfalso; omega)
                      | (rw [e1, e2]; done)
                      | (rw [e1, e2]; rfl)
                    · obtain ⟨e1, e2⟩ := bst_none hb h2_
                      skip
                      first
                      | (exfalso; omega)
                      | (rw [e1, e2]; done)
                      | (rw [e1, e2]; rfl))
theorem fdg_best : fdc_best.Good Tryd.prog syG (fdE [] [] [] []) := good_of_walk (Γ := ⟨[fac_fck, fac_size, fcc_pres, wbc_vote], syG, [], [], []⟩) (ρ := fdE [] [] [] []) sym best_w rfl (fun _ _ _ _ => (ok_cons (Con.Good.env (Con.Good.up (Con.Good.up (Con.Good.up fag_fck fbup rfl) fcup rfl) fdup rfl) _ _ _ _) (ok_cons (Con.Good.env (Con.Good.up (Con.Good.up (Con.Good.up fag_size fbup rfl) fcup rfl) fdup rfl) _ _ _ _) (ok_cons (Con.Good.env (Con.Good.up fcg_pres fdup rfl) _ _ _ _) (ok_cons (Con.Good.env (Con.Good.up (Con.Good.up (Con.Good.up (Con.Good.up (Con.Good.up (Con.Good.up (Con.Good.up (Con.Good.up wbg_vote wcup rfl) wdup rfl) weup rfl) wfup rfl) faup rfl) fbup rfl) fcup rfl) fdup rfl) _ _ _ _) ok_nil))))) (fun r p n l hc hty => best_h r p n l hc hty)
end Go.Proofs.YtflckmhlobpfiaaDoor
