import Derived.Test.YtflckmhlobpfiaaDoorSycqb
import Derived.Test.YtflckmhlobpfiaaDoorE00qb
/-
  Layer 13 by the second engine: votes.
-/
namespace Go.Proofs.YtflckmhlobpfiaaDoor
open Go.RowKit Go.Extern.Stop Go.Stop Go.Extern Go.Proofs.YtflckmhlobpfiaaDoor.Sy
set_option linter.unusedVariables false
set_option linter.unusedSimpArgs false
/-- how many of the first k have a number -/
def ofN (l : List Value) (n : Int) : Nat → Nat
  | 0 => 0
  | k + 1 => ofN l n k + if Go.RowKit.intOf (l.getD (k * 2) Go.undef) ≤ n ∧ n ≤ Go.RowKit.intOf (l.getD (k * 2 + 1) Go.undef) then 1 else 0
theorem ofN_le (l : List Value) (n : Int) : ∀ k, ofN l n k ≤ k
  | 0 => Nat.le_refl _
  | k + 1 => by have := ofN_le l n k; rw [ofN]; split <;> omega
theorem ofN_yes {l : List Value} {n : Int} {k : Nat} (h : Go.RowKit.intOf (l.getD (k * 2) Go.undef) ≤ n ∧ n ≤ Go.RowKit.intOf (l.getD (k * 2 + 1) Go.undef)) : ofN l n (k + 1) = ofN l n k + 1 := by rw [ofN, if_pos h]
theorem ofN_no {l : List Value} {n : Int} {k : Nat} (h : ¬ (Go.RowKit.intOf (l.getD (k * 2) Go.undef) ≤ n ∧ n ≤ Go.RowKit.intOf (l.getD (k * 2 + 1) Go.undef))) : ofN l n (k + 1) = ofN l n k := by rw [ofN, if_neg h, Nat.add_zero]
/-- the least end of those of the first k that have a number; the number, if none has -/
def arH (l : List Value) (n : Int) : Nat → Int
  | 0 => n
  | k + 1 => if Go.RowKit.intOf (l.getD (k * 2) Go.undef) ≤ n ∧ n ≤ Go.RowKit.intOf (l.getD (k * 2 + 1) Go.undef) then (if ofN l n k = 0 ∨ Go.RowKit.intOf (l.getD (k * 2 + 1) Go.undef) < arH l n k then Go.RowKit.intOf (l.getD (k * 2 + 1) Go.undef) else arH l n k) else arH l n k
theorem arH_no {l : List Value} {n : Int} {k : Nat} (h : ¬ (Go.RowKit.intOf (l.getD (k * 2) Go.undef) ≤ n ∧ n ≤ Go.RowKit.intOf (l.getD (k * 2 + 1) Go.undef))) : arH l n (k + 1) = arH l n k := by rw [arH, if_neg h]
theorem arH_new {l : List Value} {n : Int} {k : Nat} (h : Go.RowKit.intOf (l.getD (k * 2) Go.undef) ≤ n ∧ n ≤ Go.RowKit.intOf (l.getD (k * 2 + 1) Go.undef)) (h2 : ofN l n k = 0 ∨ Go.RowKit.intOf (l.getD (k * 2 + 1) Go.undef) < arH l n k) : arH l n (k + 1) = Go.RowKit.intOf (l.getD (k * 2 + 1) Go.undef) := by rw [arH, if_pos h, if_pos h2]
theorem arH_old {l : List Value} {n : Int} {k : Nat} (h : Go.RowKit.intOf (l.getD (k * 2) Go.undef) ≤ n ∧ n ≤ Go.RowKit.intOf (l.getD (k * 2 + 1) Go.undef)) (h2 : ¬ (ofN l n k = 0 ∨ Go.RowKit.intOf (l.getD (k * 2 + 1) Go.undef) < arH l n k)) : arH l n (k + 1) = arH l n k := by rw [arH, if_pos h, if_neg h2]
/-- the first k may be -/
def preW (l : List Value) : Nat → Bool
  | 0 => true
  | k + 1 => preW l k && decide (Go.RowKit.intOf (l.getD (k * 2) Go.undef) ≤ Go.RowKit.intOf (l.getD (k * 2 + 1) Go.undef))
theorem preW_get {l : List Value} {j : Nat} : ∀ {k : Nat}, preW l k = true → j < k → Go.RowKit.intOf (l.getD (j * 2) Go.undef) ≤ Go.RowKit.intOf (l.getD (j * 2 + 1) Go.undef)
  | 0, _, h => by omega
  | k + 1, hp, h => by
    simp only [preW, Bool.and_eq_true, decide_eq_true_eq] at hp
    rcases Nat.lt_succ_iff_lt_or_eq.1 h with h1 | rfl
    · exact preW_get hp.1 h1
    · exact hp.2
/-- the first that can't be, or -1 -/
def fbW (l : List Value) : Nat → Int
  | 0 => -1
  | k + 1 => if fbW l k = -1 then (if Go.RowKit.intOf (l.getD (k * 2 + 1) Go.undef) < Go.RowKit.intOf (l.getD (k * 2) Go.undef) then (k : Int) else -1) else fbW l k
theorem fb_pre {l : List Value} : ∀ {k : Nat}, preW l k = true → fbW l k = -1
  | 0, _ => rfl
  | k + 1, h => by
    simp only [preW, Bool.and_eq_true, decide_eq_true_eq] at h
    rw [fbW, if_pos (fb_pre h.1), if_neg (by omega)]
theorem fb_at {l : List Value} {k : Nat} (hp : preW l k = true) (hb : Go.RowKit.intOf (l.getD (k * 2 + 1) Go.undef) < Go.RowKit.intOf (l.getD (k * 2) Go.undef)) : ∀ {N : Nat}, k < N → fbW l N = k
  | 0, h => by omega
  | N + 1, h => by
    rcases Nat.lt_succ_iff_lt_or_eq.1 h with h1 | rfl
    · have := fb_at hp hb h1
      rw [fbW, if_neg (by omega), this]
    · rw [fbW, if_pos (fb_pre hp), if_pos hb]
def spE (a b : Int) : Int := if b < a then 1 else 0
theorem errV1 {n : Int} (h : n = 1) : Value.iface 141 (.int .i64 1) = errVal 141 n := by subst h; rfl
theorem errV0 {n : Int} (h : n = 0) : Value.nilIface = errVal 141 n := by subst h; rfl
def wI : Nat → List Value → Int
  | 0, [l, .int _ n, .int _ k] => ((ofN (rows l) n k.toNat : Nat) : Int)
  | 1, [l, .int _ n, .int _ k] => arH (rows l) n k.toNat
  | 2, [l, .int _ k] => fbW (rows l) k.toNat
  | 3, [.int _ a, .int _ b] => spE a b
  | _, _ => 0
def wB : Nat → List Value → Bool
  | 0, [l, .int _ k] => preW (rows l) k.toNat
  | _, _ => false
def wV : Nat → List Value → Value
  | _, _ => Go.undef
abbrev wE (iv : List Int) (bv : List Bool) (vv : List Value) (sv : List ByteArray) : Env := { iv := iv, bv := bv, vv := vv, sv := sv, fi := wI, fb := wB, fv := wV, et := 141 }
theorem wi_of (l : Value) (k1 : IntKind) (n : Int) (k2 : IntKind) (k : Int) : wI 0 [l, .int k1 n, .int k2 k] = ((ofN (rows l) n k.toNat : Nat) : Int) := rfl
theorem wi_arh (l : Value) (k1 : IntKind) (n : Int) (k2 : IntKind) (k : Int) : wI 1 [l, .int k1 n, .int k2 k] = arH (rows l) n k.toNat := rfl
theorem wi_fb (l : Value) (k1 : IntKind) (k : Int) : wI 2 [l, .int k1 k] = fbW (rows l) k.toNat := rfl
theorem wi_se (k1 : IntKind) (a : Int) (k2 : IntKind) (b : Int) : wI 3 [.int k1 a, .int k2 b] = spE a b := rfl
theorem wb_pre (l : Value) (k1 : IntKind) (k : Int) : wB 0 [l, .int k1 k] = preW (rows l) k.toNat := rfl
theorem syso (s : ByteArray) : strOf (.string s) = s := rfl
theorem syse (a b : ByteArray) : strEq (.string a) (.string b) = (a == b) := rfl
theorem syio (k : IntKind) (n : Int) : intOf (.int k n) = n := rfl
theorem sybo (b : Bool) : boolOf (.bool b) = b := rfl
theorem typ_len {r : SK} {v : Value} {n : Nat} (h : typ (.sl r) v) (e : r.wd = n) (e0 : 0 < n) : ((rows v).length / n : Nat) ≤ 140737488355328 ∧ (rows v).length = (rows v).length / n * n := by
  obtain ⟨_, m, h1, h2, _⟩ := h
  rw [e] at h2
  rw [h2, Nat.mul_div_cancel _ e0]
  exact ⟨h1, rfl⟩
theorem sym : Tryd.prog.follows .mixedOrders = true := by kernel_rfl
abbrev syG : Glob := [(0, 0, asHandle)]
def has_tree : Tree :=
 (.br (.b2 .le (.var 0) (.var 2))
 (.ret (.bool (.b2 .le (.var 2) (.var 1))))
 (.ret (.bool (.tt false))))
abbrev wc_has : Con := ⟨59, [(.agg (.cons (.int .i64 (.var 0)) (.cons (.int .i64 (.var 1)) .nil))), (.int .i64 (.var 2))], (.tt true), (.bool (.b2 .and (.b2 .le (.var 0) (.var 2)) (.b2 .le (.var 2) (.var 1)))), ⟨3, 0, 0, 0⟩, none⟩
theorem has_w : walk Tryd.prog 141 ⟨[], syG, [], [], []⟩ [] .v wc_has wc_has.n 3000 = some has_tree := by kernel_rfl
theorem has_h (a : Int) (b : Int) (n : Int) (hc : holds (wE [a, b, n] [] [] []) (.tt true)) (hty : patsTyp (wE [a, b, n] [] [] []) [(.agg (.cons (.int .i64 (.var 0)) (.cons (.int .i64 (.var 1)) .nil))), (.int .i64 (.var 2))]) : has_tree.holds (fun v_ => v_ = denV (wE [a, b, n] [] [] []) b0 (.bool (.b2 .and (.b2 .le (.var 0) (.var 2)) (.b2 .le (.var 2) (.var 1))))) (wE [a, b, n] [] [] []) := by
  simp only [Tree.holds, Sy.holds, AllN, Env.more, wE, List.cons_append, List.nil_append, List.append_nil, denV, denI, denB, denL, I2.den, VOp.den, List.getD_cons_zero, List.getD_cons_succ, Cst.den, syso, syse, syio, sybo, wi_of, wi_arh, wi_fb, wi_se, wb_pre, List.map_nil, List.map_cons, B2.ofInts, B2.denI, B2.denB, if_true, Bool.false_eq_true, if_false, Nat.div_one, Nat.mul_one, Nat.add_zero, holds] at hc
  simp only [patsTyp, patTyp, patTypL, wE, denV, denL, List.getD_cons_zero, List.getD_cons_succ, and_true, true_and] at hty
  unfold has_tree
  simp only [Tree.holds, Sy.holds, AllN, Env.more, wE, List.cons_append, List.nil_append, List.append_nil, denV, denI, denB, denL, I2.den, VOp.den, List.getD_cons_zero, List.getD_cons_succ, Cst.den, syso, syse, syio, sybo, wi_of, wi_arh, wi_fb, wi_se, wb_pre, List.map_nil, List.map_cons, B2.ofInts, B2.denI, B2.denB, if_true, Bool.false_eq_true, if_false, Nat.div_one, Nat.mul_one, Nat.add_zero]
  refine ⟨fun h0 => ?_, fun h0 => ?_⟩
  ·
   all_goals first | omega | rfl | (simp only [Value.tuple.injEq, Value.agg.injEq, Value.int.injEq, Value.bool.injEq, Array.mk.injEq, List.cons.injEq, true_and, and_true]; omega) | (refine congrArg Value.bool (Bool.eq_iff_iff.2 ?_); simp only [beq_iff_eq, decide_eq_true_eq, true_iff, false_iff, Bool.false_eq_true, Bool.not_eq_true', Bool.and_eq_true, Bool.or_eq_true, decide_eq_false_iff_not]; omega)
  ·
   all_goals first | omega | rfl | (simp only [Value.tuple.injEq, Value.agg.injEq, Value.int.injEq, Value.bool.injEq, Array.mk.injEq, List.cons.injEq, true_and, and_true]; omega) | (refine congrArg Value.bool (Bool.eq_iff_iff.2 ?_); simp only [beq_iff_eq, decide_eq_true_eq, true_iff, false_iff, Bool.false_eq_true, Bool.not_eq_true', Bool.and_eq_true, Bool.or_eq_true, decide_eq_false_iff_not]; omega)
theorem wg_has : wc_has.Good Tryd.prog syG (wE [] [] [] []) := good_of_walk (Γ := ⟨[], syG, [], [], []⟩) (ρ := wE [] [] [] []) sym has_w rfl (fun _ _ _ _ => ok_nil) (fun a b n hc hty => has_h a b n hc hty)
def around_tree : Tree :=
 (.loop ⟨3, 0, 0, 0⟩ (.b2 .and (.b2 .le (.lit (0)) (.lit (0))) (.b2 .and (.b2 .le (.lit (0)) (.ofI (.vop (.len 2) (.cons (.opq 0) .nil)))) (.b2 .and (.b2 .eq (.lit (0)) (.iapp 0 (.cons (.opq 0) (.cons (.int .i64 (.var 0)) (.cons (.int .i64 (.lit (0))) .nil))))) (.b2 .eq (.var 0) (.iapp 1 (.cons (.opq 0) (.cons (.int .i64 (.var 0)) (.cons (.int .i64 (.lit (0))) .nil)))))))) (.b2 .and (.b2 .le (.lit (0)) (.var 3)) (.b2 .and (.b2 .le (.var 3) (.ofI (.vop (.len 2) (.cons (.opq 0) .nil)))) (.b2 .and (.b2 .eq (.var 2) (.iapp 0 (.cons (.opq 0) (.cons (.int .i64 (.var 0)) (.cons (.int .i64 (.var 3)) .nil))))) (.b2 .eq (.var 1) (.iapp 1 (.cons (.opq 0) (.cons (.int .i64 (.var 0)) (.cons (.int .i64 (.var 3)) .nil))))))))
 (.br (.b2 .lt (.var 3) (.ofI (.vop (.len 2) (.cons (.opq 0) .nil))))
 (.need (.b2 .and (.b2 .le (.lit (0)) (.var 3)) (.b2 .lt (.var 3) (.ofI (.vop (.len 2) (.cons (.opq 0) .nil)))))
 (.br (.not (.b2 .and (.b2 .le (.ofI (.vop (.sel 2 0) (.cons (.opq 0) (.cons (.int .i64 (.var 3)) .nil)))) (.var 0)) (.b2 .le (.var 0) (.ofI (.vop (.sel 2 1) (.cons (.opq 0) (.cons (.int .i64 (.var 3)) .nil)))))))
 (.back (.b2 .and (.b2 .le (.lit (0)) (.wrap .i64 (.i2 .add (.var 3) (.lit (1))))) (.b2 .and (.b2 .le (.wrap .i64 (.i2 .add (.var 3) (.lit (1)))) (.ofI (.vop (.len 2) (.cons (.opq 0) .nil)))) (.b2 .and (.b2 .eq (.var 2) (.iapp 0 (.cons (.opq 0) (.cons (.int .i64 (.var 0)) (.cons (.int .i64 (.wrap .i64 (.i2 .add (.var 3) (.lit (1))))) .nil))))) (.b2 .eq (.var 1) (.iapp 1 (.cons (.opq 0) (.cons (.int .i64 (.var 0)) (.cons (.int .i64 (.wrap .i64 (.i2 .add (.var 3) (.lit (1))))) .nil)))))))) (.i2 .sub (.ofI (.vop (.len 2) (.cons (.opq 0) .nil))) (.wrap .i64 (.i2 .add (.var 3) (.lit (1))))) (.i2 .sub (.ofI (.vop (.len 2) (.cons (.opq 0) .nil))) (.var 3)))
 (.br (.b2 .eq (.var 2) (.lit (0)))
 (.back (.b2 .and (.b2 .le (.lit (0)) (.wrap .i64 (.i2 .add (.var 3) (.lit (1))))) (.b2 .and (.b2 .le (.wrap .i64 (.i2 .add (.var 3) (.lit (1)))) (.ofI (.vop (.len 2) (.cons (.opq 0) .nil)))) (.b2 .and (.b2 .eq (.wrap .i64 (.i2 .add (.var 2) (.lit (1)))) (.iapp 0 (.cons (.opq 0) (.cons (.int .i64 (.var 0)) (.cons (.int .i64 (.wrap .i64 (.i2 .add (.var 3) (.lit (1))))) .nil))))) (.b2 .eq (.ofI (.vop (.sel 2 1) (.cons (.opq 0) (.cons (.int .i64 (.var 3)) .nil)))) (.iapp 1 (.cons (.opq 0) (.cons (.int .i64 (.var 0)) (.cons (.int .i64 (.wrap .i64 (.i2 .add (.var 3) (.lit (1))))) .nil)))))))) (.i2 .sub (.ofI (.vop (.len 2) (.cons (.opq 0) .nil))) (.wrap .i64 (.i2 .add (.var 3) (.lit (1))))) (.i2 .sub (.ofI (.vop (.len 2) (.cons (.opq 0) .nil))) (.var 3)))
 (.br (.b2 .lt (.ofI (.vop (.sel 2 1) (.cons (.opq 0) (.cons (.int .i64 (.var 3)) .nil)))) (.var 1))
 (.back (.b2 .and (.b2 .le (.lit (0)) (.wrap .i64 (.i2 .add (.var 3) (.lit (1))))) (.b2 .and (.b2 .le (.wrap .i64 (.i2 .add (.var 3) (.lit (1)))) (.ofI (.vop (.len 2) (.cons (.opq 0) .nil)))) (.b2 .and (.b2 .eq (.wrap .i64 (.i2 .add (.var 2) (.lit (1)))) (.iapp 0 (.cons (.opq 0) (.cons (.int .i64 (.var 0)) (.cons (.int .i64 (.wrap .i64 (.i2 .add (.var 3) (.lit (1))))) .nil))))) (.b2 .eq (.ofI (.vop (.sel 2 1) (.cons (.opq 0) (.cons (.int .i64 (.var 3)) .nil)))) (.iapp 1 (.cons (.opq 0) (.cons (.int .i64 (.var 0)) (.cons (.int .i64 (.wrap .i64 (.i2 .add (.var 3) (.lit (1))))) .nil)))))))) (.i2 .sub (.ofI (.vop (.len 2) (.cons (.opq 0) .nil))) (.wrap .i64 (.i2 .add (.var 3) (.lit (1))))) (.i2 .sub (.ofI (.vop (.len 2) (.cons (.opq 0) .nil))) (.var 3)))
 (.back (.b2 .and (.b2 .le (.lit (0)) (.wrap .i64 (.i2 .add (.var 3) (.lit (1))))) (.b2 .and (.b2 .le (.wrap .i64 (.i2 .add (.var 3) (.lit (1)))) (.ofI (.vop (.len 2) (.cons (.opq 0) .nil)))) (.b2 .and (.b2 .eq (.wrap .i64 (.i2 .add (.var 2) (.lit (1)))) (.iapp 0 (.cons (.opq 0) (.cons (.int .i64 (.var 0)) (.cons (.int .i64 (.wrap .i64 (.i2 .add (.var 3) (.lit (1))))) .nil))))) (.b2 .eq (.var 1) (.iapp 1 (.cons (.opq 0) (.cons (.int .i64 (.var 0)) (.cons (.int .i64 (.wrap .i64 (.i2 .add (.var 3) (.lit (1))))) .nil)))))))) (.i2 .sub (.ofI (.vop (.len 2) (.cons (.opq 0) .nil))) (.wrap .i64 (.i2 .add (.var 3) (.lit (1))))) (.i2 .sub (.ofI (.vop (.len 2) (.cons (.opq 0) .nil))) (.var 3)))))))
 (.ret (.tup (.cons (.agg (.cons (.int .i64 (.var 0)) (.cons (.int .i64 (.var 1)) .nil))) (.cons (.int .i64 (.var 2)) .nil))))))
abbrev wc_around : Con := ⟨121, [(.hs .no (.cons (.int .i64) (.cons (.int .i64) .nil)) (.opq 0)), (.int .i64 (.var 0))], (.tt true), (.tup (.cons (.agg (.cons (.int .i64 (.var 0)) (.cons (.int .i64 (.iapp 1 (.cons (.opq 0) (.cons (.int .i64 (.var 0)) (.cons (.int .i64 (.ofI (.vop (.len 2) (.cons (.opq 0) .nil)))) .nil))))) .nil))) (.cons (.int .i64 (.iapp 0 (.cons (.opq 0) (.cons (.int .i64 (.var 0)) (.cons (.int .i64 (.ofI (.vop (.len 2) (.cons (.opq 0) .nil)))) .nil))))) .nil))), ⟨1, 0, 1, 0⟩, none⟩
theorem around_w : walk Tryd.prog 141 ⟨[wc_has], syG, [], [], []⟩ [⟨0, ⟨3, 0, 0, 0⟩, [(6, (.int .i64 (.var 1))), (7, (.int .i64 (.var 2))), (13, (.int .i64 (.var 3)))], none, (.b2 .and (.b2 .le (.lit (0)) (.var 3)) (.b2 .and (.b2 .le (.var 3) (.ofI (.vop (.len 2) (.cons (.opq 0) .nil)))) (.b2 .and (.b2 .eq (.var 2) (.iapp 0 (.cons (.opq 0) (.cons (.int .i64 (.var 0)) (.cons (.int .i64 (.var 3)) .nil))))) (.b2 .eq (.var 1) (.iapp 1 (.cons (.opq 0) (.cons (.int .i64 (.var 0)) (.cons (.int .i64 (.var 3)) .nil)))))))), (.i2 .sub (.ofI (.vop (.len 2) (.cons (.opq 0) .nil))) (.var 3)), 0, []⟩] .v wc_around wc_around.n 3000 = some around_tree := by kernel_rfl
theorem around_h (n : Int) (l : Value) (hc : holds (wE [n] [] [l] []) (.tt true)) (hty : patsTyp (wE [n] [] [l] []) [(.hs .no (.cons (.int .i64) (.cons (.int .i64) .nil)) (.opq 0)), (.int .i64 (.var 0))]) : around_tree.holds (fun v_ => v_ = denV (wE [n] [] [l] []) b0 (.tup (.cons (.agg (.cons (.int .i64 (.var 0)) (.cons (.int .i64 (.iapp 1 (.cons (.opq 0) (.cons (.int .i64 (.var 0)) (.cons (.int .i64 (.ofI (.vop (.len 2) (.cons (.opq 0) .nil)))) .nil))))) .nil))) (.cons (.int .i64 (.iapp 0 (.cons (.opq 0) (.cons (.int .i64 (.var 0)) (.cons (.int .i64 (.ofI (.vop (.len 2) (.cons (.opq 0) .nil)))) .nil))))) .nil)))) (wE [n] [] [l] []) := by
  simp only [Tree.holds, Sy.holds, AllN, Env.more, wE, List.cons_append, List.nil_append, List.append_nil, denV, denI, denB, denL, I2.den, VOp.den, List.getD_cons_zero, List.getD_cons_succ, Cst.den, syso, syse, syio, sybo, wi_of, wi_arh, wi_fb, wi_se, wb_pre, List.map_nil, List.map_cons, B2.ofInts, B2.denI, B2.denB, if_true, Bool.false_eq_true, if_false, Nat.div_one, Nat.mul_one, Nat.add_zero, holds] at hc
  simp only [patsTyp, patTyp, patTypL, wE, denV, denL, List.getD_cons_zero, List.getD_cons_succ, and_true, true_and] at hty
  have hL_l : typ (.sl (.cons (.int .i64) (.cons (.int .i64) .nil))) l := by first | exact hty | exact hty.1 | exact hty.2 | exact hty.1.1 | exact hty.1.2 | exact hty.2.1 | exact hty.2.2 | exact hty.2.2.1 | exact hty.2.2.2
  have hN_l := typ_len (n := 2) hL_l rfl (by omega)
  unfold around_tree
  simp only [Tree.holds, Sy.holds, AllN, Env.more, wE, List.cons_append, List.nil_append, List.append_nil, denV, denI, denB, denL, I2.den, VOp.den, List.getD_cons_zero, List.getD_cons_succ, Cst.den, syso, syse, syio, sybo, wi_of, wi_arh, wi_fb, wi_se, wb_pre, List.map_nil, List.map_cons, B2.ofInts, B2.denI, B2.denB, if_true, Bool.false_eq_true, if_false, Nat.div_one, Nat.mul_one, Nat.add_zero]
  refine ⟨?_, ?_⟩
  ·
   exact ⟨by omega, by omega, rfl, rfl⟩
  ·
   intro i0a i0b i0c hi0
   refine ⟨fun h0 => ?_, fun h0 => ?_⟩
   ·
    refine ⟨?_, fun h1 => ?_⟩
    ·
     omega
    ·
     refine ⟨fun h2 => ?_, fun h2 => ?_⟩
     ·
      have wf0 := wr_i64 (i0c + 1)
      refine ⟨?_, ?_⟩
      ·
       obtain ⟨hi1, hi2, hi3, hi4⟩ := hi0
       have hle := ofN_le (Sy.rows l) n i0c.toNat
       have e : IntKind.wrap .i64 (i0c + 1) = i0c + 1 := by omega
       rw [e, show (i0c + 1).toNat = i0c.toNat + 1 by omega]
       first
       | (rw [ofN_no (by omega), arH_no (by omega)]
          exact ⟨by omega, by omega, by omega, by omega⟩)
       | (rw [ofN_yes ⟨by omega, by omega⟩, arH_new ⟨by omega, by omega⟩ (by omega)]
          exact ⟨by omega, by omega, by omega, by omega⟩)
       | (rw [ofN_yes ⟨by omega, by omega⟩, arH_old ⟨by omega, by omega⟩ (by omega)]
          exact ⟨by omega, by omega, by omega, by omega⟩)
      ·
       omega
     ·
      refine ⟨fun h3 => ?_, fun h3 => ?_⟩
      ·
       have wf1 := wr_i64 (i0c + 1)
       have wf2 := wr_i64 (i0b + 1)
       refine ⟨?_, ?_⟩
       ·
        obtain ⟨hi1, hi2, hi3, hi4⟩ := hi0
        have hle := ofN_le (Sy.rows l) n i0c.toNat
        have e : IntKind.wrap .i64 (i0c + 1) = i0c + 1 := by omega
        rw [e, show (i0c + 1).toNat = i0c.toNat + 1 by omega]
        first
        | (rw [ofN_no (by omega), arH_no (by omega)]
           exact ⟨by omega, by omega, by omega, by omega⟩)
        | (rw [ofN_yes ⟨by omega, by omega⟩, arH_new ⟨by omega, by omega⟩ (by omega)]
           exact ⟨by omega, by omega, by omega, by omega⟩)
        | (rw [ofN_yes ⟨by omega, by omega⟩, arH_old ⟨by omega, by omega⟩ (by omega)]
           exact ⟨by omega, by omega, by omega, by omega⟩)
       ·
        omega
      ·
       refine ⟨fun h4 => ?_, fun h4 => ?_⟩
       ·
        have wf3 := wr_i64 (i0c + 1)
        have wf4 := wr_i64 (i0b + 1)
        refine ⟨?_, ?_⟩
        ·
         obtain ⟨hi1, hi2, hi3, hi4⟩ := hi0
         have hle := ofN_le (Sy.rows l) n i0c.toNat
         have e : IntKind.wrap .i64 (i0c + 1) = i0c + 1 := by omega
         rw [e, show (i0c + 1).toNat = i0c.toNat + 1 by omega]
         first
         | (rw [ofN_no (by omega), arH_no (by omega)]
            exact ⟨by omega, by omega, by omega, by omega⟩)
         | (rw [ofN_yes ⟨by omega, by omega⟩, arH_new ⟨by omega, by omega⟩ (by omega)]
            exact ⟨by omega, by omega, by omega, by omega⟩)
         | (rw [ofN_yes ⟨by omega, by omega⟩, arH_old ⟨by omega, by omega⟩ (by omega)]
            exact ⟨by omega, by omega, by omega, by omega⟩)
        ·
         omega
       ·
        have wf5 := wr_i64 (i0c + 1)
        have wf6 := wr_i64 (i0b + 1)
        refine ⟨?_, ?_⟩
        ·
         obtain ⟨hi1, hi2, hi3, hi4⟩ := hi0
         have hle := ofN_le (Sy.rows l) n i0c.toNat
         have e : IntKind.wrap .i64 (i0c + 1) = i0c + 1 := by omega
         rw [e, show (i0c + 1).toNat = i0c.toNat + 1 by omega]
         first
         | (rw [ofN_no (by omega), arH_no (by omega)]
            exact ⟨by omega, by omega, by omega, by omega⟩)
         | (rw [ofN_yes ⟨by omega, by omega⟩, arH_new ⟨by omega, by omega⟩ (by omega)]
            exact ⟨by omega, by omega, by omega, by omega⟩)
         | (rw [ofN_yes ⟨by omega, by omega⟩, arH_old ⟨by omega, by omega⟩ (by omega)]
            exact ⟨by omega, by omega, by omega, by omega⟩)
        ·
         omega
   ·
    obtain ⟨hi1, hi2, hi3, hi4⟩ := hi0
    rw [Int.toNat_natCast, ← show i0c.toNat = (Sy.rows l).length / 2 by omega, ← hi3, ← hi4]
theorem wg_around : wc_around.Good Tryd.prog syG (wE [] [] [] []) := good_of_walk (Γ := ⟨[wc_has], syG, [], [], []⟩) (ρ := wE [] [] [] []) sym around_w rfl (fun _ _ _ _ => (ok_cons (Con.Good.env wg_has _ _ _ _) ok_nil)) (fun n l hc hty => around_h n l hc hty)
def check_tree : Tree :=
 (.br (.b2 .lt (.var 1) (.var 0))
 (.ret (.iface 141 (.int .i64 (.lit (1)))))
 (.ret (.cst .nilI)))
abbrev wc_check : Con := ⟨120, [(.agg (.cons (.int .i64 (.var 0)) (.cons (.int .i64 (.var 1)) .nil)))], (.tt true), (.err (.iapp 3 (.cons (.int .i64 (.var 0)) (.cons (.int .i64 (.var 1)) .nil)))), ⟨2, 0, 0, 0⟩, none⟩
theorem check_w : walk Tryd.prog 141 ⟨[], syG, [], [], []⟩ [] .v wc_check wc_check.n 3000 = some check_tree := by kernel_rfl
theorem check_h (a : Int) (b : Int) (hc : holds (wE [a, b] [] [] []) (.tt true)) (hty : patsTyp (wE [a, b] [] [] []) [(.agg (.cons (.int .i64 (.var 0)) (.cons (.int .i64 (.var 1)) .nil)))]) : check_tree.holds (fun v_ => v_ = denV (wE [a, b] [] [] []) b0 (.err (.iapp 3 (.cons (.int .i64 (.var 0)) (.cons (.int .i64 (.var 1)) .nil))))) (wE [a, b] [] [] []) := by
  simp only [Tree.holds, Sy.holds, AllN, Env.more, wE, List.cons_append, List.nil_append, List.append_nil, denV, denI, denB, denL, I2.den, VOp.den, List.getD_cons_zero, List.getD_cons_succ, Cst.den, syso, syse, syio, sybo, wi_of, wi_arh, wi_fb, wi_se, wb_pre, List.map_nil, List.map_cons, B2.ofInts, B2.denI, B2.denB, if_true, Bool.false_eq_true, if_false, Nat.div_one, Nat.mul_one, Nat.add_zero, holds] at hc
  simp only [patsTyp, patTyp, patTypL, wE, denV, denL, List.getD_cons_zero, List.getD_cons_succ, and_true, true_and] at hty
  unfold check_tree
  simp only [Tree.holds, Sy.holds, AllN, Env.more, wE, List.cons_append, List.nil_append, List.append_nil, denV, denI, denB, denL, I2.den, VOp.den, List.getD_cons_zero, List.getD_cons_succ, Cst.den, syso, syse, syio, sybo, wi_of, wi_arh, wi_fb, wi_se, wb_pre, List.map_nil, List.map_cons, B2.ofInts, B2.denI, B2.denB, if_true, Bool.false_eq_true, if_false, Nat.div_one, Nat.mul_one, Nat.add_zero]
  refine ⟨fun h0 => ?_, fun h0 => ?_⟩
  ·
   first | exact errV1 (by simp only [spE]; rw [if_pos (by omega)]) | exact errV0 (by simp only [spE]; rw [if_neg (by omega)])
  ·
   first | exact errV1 (by simp only [spE]; rw [if_pos (by omega)]) | exact errV0 (by simp only [spE]; rw [if_neg (by omega)])
theorem wg_check : wc_check.Good Tryd.prog syG (wE [] [] [] []) := good_of_walk (Γ := ⟨[], syG, [], [], []⟩) (ρ := wE [] [] [] []) sym check_w rfl (fun _ _ _ _ => ok_nil) (fun a b hc hty => check_h a b hc hty)
def bad_tree : Tree :=
 (.ret (.bool (.not (.b2 .eq (.iapp 3 (.cons (.int .i64 (.var 0)) (.cons (.int .i64 (.var 1)) .nil))) (.lit (0))))))
abbrev wc_bad : Con := ⟨119, [(.agg (.cons (.int .i64 (.var 0)) (.cons (.int .i64 (.var 1)) .nil)))], (.tt true), (.bool (.b2 .lt (.var 1) (.var 0))), ⟨2, 0, 0, 0⟩, none⟩
theorem bad_w : walk Tryd.prog 141 ⟨[wc_check], syG, [], [], []⟩ [] .v wc_bad wc_bad.n 3000 = some bad_tree := by kernel_rfl
theorem bad_h (a : Int) (b : Int) (hc : holds (wE [a, b] [] [] []) (.tt true)) (hty : patsTyp (wE [a, b] [] [] []) [(.agg (.cons (.int .i64 (.var 0)) (.cons (.int .i64 (.var 1)) .nil)))]) : bad_tree.holds (fun v_ => v_ = denV (wE [a, b] [] [] []) b0 (.bool (.b2 .lt (.var 1) (.var 0)))) (wE [a, b] [] [] []) := by
  simp only [Tree.holds, Sy.holds, AllN, Env.more, wE, List.cons_append, List.nil_append, List.append_nil, denV, denI, denB, denL, I2.den, VOp.den, List.getD_cons_zero, List.getD_cons_succ, Cst.den, syso, syse, syio, sybo, wi_of, wi_arh, wi_fb, wi_se, wb_pre, List.map_nil, List.map_cons, B2.ofInts, B2.denI, B2.denB, if_true, Bool.false_eq_true, if_false, Nat.div_one, Nat.mul_one, Nat.add_zero, holds] at hc
  simp only [patsTyp, patTyp, patTypL, wE, denV, denL, List.getD_cons_zero, List.getD_cons_succ, and_true, true_and] at hty
  unfold bad_tree
  simp only [Tree.holds, Sy.holds, AllN, Env.more, wE, List.cons_append, List.nil_append, List.append_nil, denV, denI, denB, denL, I2.den, VOp.den, List.getD_cons_zero, List.getD_cons_succ, Cst.den, syso, syse, syio, sybo, wi_of, wi_arh, wi_fb, wi_se, wb_pre, List.map_nil, List.map_cons, B2.ofInts, B2.denI, B2.denB, if_true, Bool.false_eq_true, if_false, Nat.div_one, Nat.mul_one, Nat.add_zero]
  refine congrArg Value.bool (Bool.eq_iff_iff.2 ?_)
  by_cases h : b < a <;> simp [spE, h]
theorem wg_bad : wc_bad.Good Tryd.prog syG (wE [] [] [] []) := good_of_walk (Γ := ⟨[wc_check], syG, [], [], []⟩) (ρ := wE [] [] [] []) sym bad_w rfl (fun _ _ _ _ => (ok_cons (Con.Good.env wg_check _ _ _ _) ok_nil)) (fun a b hc hty => bad_h a b hc hty)
def idx_tree : Tree :=
 (.loop ⟨1, 0, 0, 0⟩ (.b2 .and (.b2 .le (.lit (0)) (.lit (0))) (.b2 .and (.b2 .le (.lit (0)) (.ofI (.vop (.len 2) (.cons (.opq 0) .nil)))) (.bapp 0 (.cons (.opq 0) (.cons (.int .i64 (.lit (0))) .nil))))) (.b2 .and (.b2 .le (.lit (0)) (.var 0)) (.b2 .and (.b2 .le (.var 0) (.ofI (.vop (.len 2) (.cons (.opq 0) .nil)))) (.bapp 0 (.cons (.opq 0) (.cons (.int .i64 (.var 0)) .nil)))))
 (.br (.b2 .lt (.var 0) (.ofI (.vop (.len 2) (.cons (.opq 0) .nil))))
 (.need (.b2 .and (.b2 .le (.lit (0)) (.var 0)) (.b2 .lt (.var 0) (.ofI (.vop (.len 2) (.cons (.opq 0) .nil)))))
 (.br (.b2 .lt (.ofI (.vop (.sel 2 1) (.cons (.opq 0) (.cons (.int .i64 (.var 0)) .nil)))) (.ofI (.vop (.sel 2 0) (.cons (.opq 0) (.cons (.int .i64 (.var 0)) .nil)))))
 (.ret (.int .i64 (.var 0)))
 (.back (.b2 .and (.b2 .le (.lit (0)) (.wrap .i64 (.i2 .add (.var 0) (.lit (1))))) (.b2 .and (.b2 .le (.wrap .i64 (.i2 .add (.var 0) (.lit (1)))) (.ofI (.vop (.len 2) (.cons (.opq 0) .nil)))) (.bapp 0 (.cons (.opq 0) (.cons (.int .i64 (.wrap .i64 (.i2 .add (.var 0) (.lit (1))))) .nil))))) (.i2 .sub (.ofI (.vop (.len 2) (.cons (.opq 0) .nil))) (.wrap .i64 (.i2 .add (.var 0) (.lit (1))))) (.i2 .sub (.ofI (.vop (.len 2) (.cons (.opq 0) .nil))) (.var 0)))))
 (.ret (.int .i64 (.lit (-1))))))
abbrev wc_idx : Con := ⟨157, [(.hs .no (.cons (.int .i64) (.cons (.int .i64) .nil)) (.opq 0)), (.cst (.fn 119))], (.tt true), (.int .i64 (.iapp 2 (.cons (.opq 0) (.cons (.int .i64 (.ofI (.vop (.len 2) (.cons (.opq 0) .nil)))) .nil)))), ⟨0, 0, 1, 0⟩, none⟩
theorem idx_w : walk Tryd.prog 141 ⟨[wc_bad], syG, [], [], []⟩ [⟨0, ⟨1, 0, 0, 0⟩, [(8, (.int .i64 (.var 0)))], none, (.b2 .and (.b2 .le (.lit (0)) (.var 0)) (.b2 .and (.b2 .le (.var 0) (.ofI (.vop (.len 2) (.cons (.opq 0) .nil)))) (.bapp 0 (.cons (.opq 0) (.cons (.int .i64 (.var 0)) .nil))))), (.i2 .sub (.ofI (.vop (.len 2) (.cons (.opq 0) .nil))) (.var 0)), 0, []⟩] .v wc_idx wc_idx.n 3000 = some idx_tree := by kernel_rfl
theorem idx_h (l : Value) (hc : holds (wE [] [] [l] []) (.tt true)) (hty : patsTyp (wE [] [] [l] []) [(.hs .no (.cons (.int .i64) (.cons (.int .i64) .nil)) (.opq 0)), (.cst (.fn 119))]) : idx_tree.holds (fun v_ => v_ = denV (wE [] [] [l] []) b0 (.int .i64 (.iapp 2 (.cons (.opq 0) (.cons (.int .i64 (.ofI (.vop (.len 2) (.cons (.opq 0) .nil)))) .nil))))) (wE [] [] [l] []) := by
  simp only [Tree.holds, Sy.holds, AllN, Env.more, wE, List.cons_append, List.nil_append, List.append_nil, denV, denI, denB, denL, I2.den, VOp.den, List.getD_cons_zero, List.getD_cons_succ, Cst.den, syso, syse, syio, sybo, wi_of, wi_arh, wi_fb, wi_se, wb_pre, List.map_nil, List.map_cons, B2.ofInts, B2.denI, B2.denB, if_true, Bool.false_eq_true, if_false, Nat.div_one, Nat.mul_one, Nat.add_zero, holds] at hc
  simp only [patsTyp, patTyp, patTypL, wE, denV, denL, List.getD_cons_zero, List.getD_cons_succ, and_true, true_and] at hty
  have hL_l : typ (.sl (.cons (.int .i64) (.cons (.int .i64) .nil))) l := by first | exact hty | exact hty.1 | exact hty.2 | exact hty.1.1 | exact hty.1.2 | exact hty.2.1 | exact hty.2.2 | exact hty.2.2.1 | exact hty.2.2.2
  have hN_l := typ_len (n := 2) hL_l rfl (by omega)
  unfold idx_tree
  simp only [Tree.holds, Sy.holds, AllN, Env.more, wE, List.cons_append, List.nil_append, List.append_nil, denV, denI, denB, denL, I2.den, VOp.den, List.getD_cons_zero, List.getD_cons_succ, Cst.den, syso, syse, syio, sybo, wi_of, wi_arh, wi_fb, wi_se, wb_pre, List.map_nil, List.map_cons, B2.ofInts, B2.denI, B2.denB, if_true, Bool.false_eq_true, if_false, Nat.div_one, Nat.mul_one, Nat.add_zero]
  refine ⟨?_, ?_⟩
  ·
   exact ⟨by omega, by omega, rfl⟩
  ·
   intro i0a hi0
   refine ⟨fun h0 => ?_, fun h0 => ?_⟩
   ·
    refine ⟨?_, fun h1 => ?_⟩
    ·
     omega
    ·
     refine ⟨fun h2 => ?_, fun h2 => ?_⟩
     ·
      obtain ⟨hi1, hi2, hi3⟩ := hi0
      rw [Int.toNat_natCast]
      first
      | (rw [fb_at hi3 (by omega) (by omega)]
         exact congrArg (Value.int .i64) (by omega))
      | (rw [← show i0a.toNat = (Sy.rows l).length / 2 by omega, fb_pre hi3])
     ·
      have wf0 := wr_i64 (i0a + 1)
      refine ⟨?_, ?_⟩
      ·
       obtain ⟨hi1, hi2, hi3⟩ := hi0
       have e : IntKind.wrap .i64 (i0a + 1) = i0a + 1 := by omega
       rw [e, show (i0a + 1).toNat = i0a.toNat + 1 by omega]
       refine ⟨by omega, by omega, ?_⟩
       simp only [preW, hi3, Bool.true_and, decide_eq_true_eq]
       omega
      ·
       omega
   ·
    obtain ⟨hi1, hi2, hi3⟩ := hi0
    rw [Int.toNat_natCast]
    first
    | (rw [fb_at hi3 (by omega) (by omega)]
       exact congrArg (Value.int .i64) (by omega))
    | (rw [← show i0a.toNat = (Sy.rows l).length / 2 by omega, fb_pre hi3])
theorem wg_idx : wc_idx.Good Tryd.prog syG (wE [] [] [] []) := good_of_walk (Γ := ⟨[wc_bad], syG, [], [], []⟩) (ρ := wE [] [] [] []) sym idx_w rfl (fun _ _ _ _ => (ok_cons (Con.Good.env wg_bad _ _ _ _) ok_nil)) (fun l hc hty => idx_h l hc hty)
def con_tree : Tree :=
 (.ret (.bool (.b2 .le (.lit (0)) (.iapp 2 (.cons (.opq 0) (.cons (.int .i64 (.ofI (.vop (.len 2) (.cons (.opq 0) .nil)))) .nil))))))
abbrev wc_con : Con := ⟨118, [(.hs .no (.cons (.int .i64) (.cons (.int .i64) .nil)) (.opq 0)), (.cst (.fn 119))], (.tt true), (.bool (.not (.b2 .lt (.iapp 2 (.cons (.opq 0) (.cons (.int .i64 (.ofI (.vop (.len 2) (.cons (.opq 0) .nil)))) .nil))) (.lit (0))))), ⟨0, 0, 1, 0⟩, none⟩
theorem con_w : walk Tryd.prog 141 ⟨[wc_idx], syG, [], [], []⟩ [] .v wc_con wc_con.n 3000 = some con_tree := by kernel_rfl
theorem con_h (l : Value) (hc : holds (wE [] [] [l] []) (.tt true)) (hty : patsTyp (wE [] [] [l] []) [(.hs .no (.cons (.int .i64) (.cons (.int .i64) .nil)) (.opq 0)), (.cst (.fn 119))]) : con_tree.holds (fun v_ => v_ = denV (wE [] [] [l] []) b0 (.bool (.not (.b2 .lt (.iapp 2 (.cons (.opq 0) (.cons (.int .i64 (.ofI (.vop (.len 2) (.cons (.opq 0) .nil)))) .nil))) (.lit (0)))))) (wE [] [] [l] []) := by
  simp only [Tree.holds, Sy.holds, AllN, Env.more, wE, List.cons_append, List.nil_append, List.append_nil, denV, denI, denB, denL, I2.den, VOp.den, List.getD_cons_zero, List.getD_cons_succ, Cst.den, syso, syse, syio, sybo, wi_of, wi_arh, wi_fb, wi_se, wb_pre, List.map_nil, List.map_cons, B2.ofInts, B2.denI, B2.denB, if_true, Bool.false_eq_true, if_false, Nat.div_one, Nat.mul_one, Nat.add_zero, holds] at hc
  simp only [patsTyp, patTyp, patTypL, wE, denV, denL, List.getD_cons_zero, List.getD_cons_succ, and_true, true_and] at hty
  have hL_l : typ (.sl (.cons (.int .i64) (.cons (.int .i64) .nil))) l := by first | exact hty | exact hty.1 | exact hty.2 | exact hty.1.1 | exact hty.1.2 | exact hty.2.1 | exact hty.2.2 | exact hty.2.2.1 | exact hty.2.2.2
  have hN_l := typ_len (n := 2) hL_l rfl (by omega)
  unfold con_tree
  simp only [Tree.holds, Sy.holds, AllN, Env.more, wE, List.cons_append, List.nil_append, List.append_nil, denV, denI, denB, denL, I2.den, VOp.den, List.getD_cons_zero, List.getD_cons_succ, Cst.den, syso, syse, syio, sybo, wi_of, wi_arh, wi_fb, wi_se, wb_pre, List.map_nil, List.map_cons, B2.ofInts, B2.denI, B2.denB, if_true, Bool.false_eq_true, if_false, Nat.div_one, Nat.mul_one, Nat.add_zero]
  all_goals first | omega | rfl | (simp only [Value.tuple.injEq, Value.agg.injEq, Value.int.injEq, Value.bool.injEq, Array.mk.injEq, List.cons.injEq, true_and, and_true]; omega) | (refine congrArg Value.bool (Bool.eq_iff_iff.2 ?_); simp only [beq_iff_eq, decide_eq_true_eq, true_iff, false_iff, Bool.false_eq_true, Bool.not_eq_true', Bool.and_eq_true, Bool.or_eq_true, decide_eq_false_iff_not]; omega)
theorem wg_con : wc_con.Good Tryd.prog syG (wE [] [] [] []) := good_of_walk (Γ := ⟨[wc_idx], syG, [], [], []⟩) (ρ := wE [] [] [] []) sym con_w rfl (fun _ _ _ _ => (ok_cons (Con.Good.env wg_idx _ _ _ _) ok_nil)) (fun l hc hty => con_h l hc hty)
end Go.Proofs.YtflckmhlobpfiaaDoor
