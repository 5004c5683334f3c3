import Derived.Test.YtflckmhlobpfiaaDoorSycqa
import Derived.Test.YtflckmhlobpfiaaDoorZ13bqa
/-
  Layer 13 by the second engine: the reference, its parts.
-/
namespace Go.Proofs.YtflckmhlobpfiaaDoor
open Go.RowKit Go.Extern.Stop Go.Stop Go.Extern Go.Proofs.YtflckmhlobpfiaaDoor.Sy
set_option linter.unusedVariables false
set_option linter.unusedSimpArgs false
/-- have the first k just the same of two numbers? -/
def smB (l : List Value) (a b : Int) : Nat → Bool
  | 0 => true
  | k + 1 => smB l a b k && decide ((Go.RowKit.intOf (l.getD (k * 2) Go.undef) ≤ a ∧ a ≤ Go.RowKit.intOf (l.getD (k * 2 + 1) Go.undef)) ↔ (Go.RowKit.intOf (l.getD (k * 2) Go.undef) ≤ b ∧ b ≤ Go.RowKit.intOf (l.getD (k * 2 + 1) Go.undef)))
theorem smB_get {l : List Value} {a b : Int} {j : Nat} : ∀ {k : Nat}, smB l a b k = true → j < k → ((Go.RowKit.intOf (l.getD (j * 2) Go.undef) ≤ a ∧ a ≤ Go.RowKit.intOf (l.getD (j * 2 + 1) Go.undef)) ↔ (Go.RowKit.intOf (l.getD (j * 2) Go.undef) ≤ b ∧ b ≤ Go.RowKit.intOf (l.getD (j * 2 + 1) Go.undef)))
  | 0, _, h => by omega
  | k + 1, hp, h => by
    simp only [smB, Bool.and_eq_true, decide_eq_true_eq] at hp
    rcases Nat.lt_succ_iff_lt_or_eq.1 h with h1 | rfl
    · exact smB_get hp.1 h1
    · exact hp.2
theorem smB_no {l : List Value} {a b : Int} {k j : Nat} (hj : j < k) (h : ¬ ((Go.RowKit.intOf (l.getD (j * 2) Go.undef) ≤ a ∧ a ≤ Go.RowKit.intOf (l.getD (j * 2 + 1) Go.undef)) ↔ (Go.RowKit.intOf (l.getD (j * 2) Go.undef) ≤ b ∧ b ≤ Go.RowKit.intOf (l.getD (j * 2 + 1) Go.undef)))) : smB l a b k = false := Bool.eq_false_iff.2 fun hs => h (smB_get hs hj)
def wcI : Nat → List Value → Int
  | i, l => wbI i l
def wcB : Nat → List Value → Bool
  | 1, [l, .int _ a, .int _ b, .int _ k] => smB (rows l) a b k.toNat
  | i, l => wbB i l
def wcV : Nat → List Value → Value
  | i, l => wbV i l
abbrev wcE (iv : List Int) (bv : List Bool) (vv : List Value) (sv : List ByteArray) : Env := { iv := iv, bv := bv, vv := vv, sv := sv, fi := wcI, fb := wcB, fv := wcV, et := 141 }
theorem wcup : Agree 11 1 0 (wbE [] [] [] []) (wcE [] [] [] []) := ⟨rfl, (by
    intro f hf
    funext l
    show wcI f l = wbI f l
    unfold wcI
    split <;> first | rfl | omega), (by
    intro f hf
    funext l
    show wcB f l = wbB f l
    unfold wcB
    split <;> first | rfl | omega), (by
    intro f hf
    funext l
    show wcV f l = wbV f l
    unfold wcV
    split <;> first | rfl | omega)⟩
theorem wci_of (l : Value) (k1 : IntKind) (n : Int) (k2 : IntKind) (k : Int) : wcI 0 [l, .int k1 n, .int k2 k] = ((ofN (rows l) n k.toNat : Nat) : Int) := rfl
theorem wci_arh (l : Value) (k1 : IntKind) (n : Int) (k2 : IntKind) (k : Int) : wcI 1 [l, .int k1 n, .int k2 k] = arH (rows l) n k.toNat := rfl
theorem wci_fb (l : Value) (k1 : IntKind) (k : Int) : wcI 2 [l, .int k1 k] = fbW (rows l) k.toNat := rfl
theorem wci_se (k1 : IntKind) (a : Int) (k2 : IntKind) (b : Int) : wcI 3 [.int k1 a, .int k2 b] = spE a b := rfl
theorem wci_vm (l : Value) (k1 : IntKind) (k : Int) : wcI 4 [l, .int k1 k] = (((vo (rows l) ((rows l).length / 2) k.toNat).1 : Nat) : Int) := rfl
theorem wci_vl (l : Value) (k1 : IntKind) (k : Int) : wcI 5 [l, .int k1 k] = (vo (rows l) ((rows l).length / 2) k.toNat).2.1 := rfl
theorem wci_vh (l : Value) (k1 : IntKind) (k : Int) : wcI 6 [l, .int k1 k] = (vo (rows l) ((rows l).length / 2) k.toNat).2.2 := rfl
theorem wci_vE (l : Value) : wcI 7 [l] = voE (rows l) := rfl
theorem wci_vM (l : Value) : wcI 8 [l] = (((voR (rows l)).1 : Nat) : Int) := rfl
theorem wci_vL (l : Value) : wcI 9 [l] = (voR (rows l)).2.1 := rfl
theorem wci_vH (l : Value) : wcI 10 [l] = (voR (rows l)).2.2 := rfl
theorem wcb_pre (l : Value) (k1 : IntKind) (k : Int) : wcB 0 [l, .int k1 k] = preW (rows l) k.toNat := rfl
theorem wcb_sm (l : Value) (k1 : IntKind) (a : Int) (k2 : IntKind) (b : Int) (k3 : IntKind) (k : Int) : wcB 1 [l, .int k1 a, .int k2 b, .int k3 k] = smB (rows l) a b k.toNat := rfl
def same_tree : Tree :=
 (.loop ⟨1, 0, 0, 0⟩ (.b2 .and (.b2 .le (.lit (0)) (.lit (0))) (.b2 .and (.b2 .le (.lit (0)) (.ofI (.vop (.len 2) (.cons (.opq 0) .nil)))) (.bapp 1 (.cons (.opq 0) (.cons (.int .i64 (.var 0)) (.cons (.int .i64 (.var 1)) (.cons (.int .i64 (.lit (0))) .nil))))))) (.b2 .and (.b2 .le (.lit (0)) (.var 2)) (.b2 .and (.b2 .le (.var 2) (.ofI (.vop (.len 2) (.cons (.opq 0) .nil)))) (.bapp 1 (.cons (.opq 0) (.cons (.int .i64 (.var 0)) (.cons (.int .i64 (.var 1)) (.cons (.int .i64 (.var 2)) .nil)))))))
 (.br (.b2 .lt (.var 2) (.ofI (.vop (.len 2) (.cons (.opq 0) .nil))))
 (.need (.b2 .and (.b2 .le (.lit (0)) (.var 2)) (.b2 .lt (.var 2) (.ofI (.vop (.len 2) (.cons (.opq 0) .nil)))))
 (.br (.b2 .le (.ofI (.vop (.sel 2 0) (.cons (.opq 0) (.cons (.int .i64 (.var 2)) .nil)))) (.var 0))
 (.need (.b2 .and (.b2 .le (.lit (0)) (.var 2)) (.b2 .lt (.var 2) (.ofI (.vop (.len 2) (.cons (.opq 0) .nil)))))
 (.need (.b2 .and (.b2 .le (.lit (0)) (.var 2)) (.b2 .lt (.var 2) (.ofI (.vop (.len 2) (.cons (.opq 0) .nil)))))
 (.br (.b2 .le (.ofI (.vop (.sel 2 0) (.cons (.opq 0) (.cons (.int .i64 (.var 2)) .nil)))) (.var 1))
 (.need (.b2 .and (.b2 .le (.lit (0)) (.var 2)) (.b2 .lt (.var 2) (.ofI (.vop (.len 2) (.cons (.opq 0) .nil)))))
 (.br (.not (.b2 .beq (.b2 .le (.var 0) (.ofI (.vop (.sel 2 1) (.cons (.opq 0) (.cons (.int .i64 (.var 2)) .nil))))) (.b2 .le (.var 1) (.ofI (.vop (.sel 2 1) (.cons (.opq 0) (.cons (.int .i64 (.var 2)) .nil)))))))
 (.ret (.bool (.tt false)))
 (.back (.b2 .and (.b2 .le (.lit (0)) (.wrap .i64 (.i2 .add (.var 2) (.lit (1))))) (.b2 .and (.b2 .le (.wrap .i64 (.i2 .add (.var 2) (.lit (1)))) (.ofI (.vop (.len 2) (.cons (.opq 0) .nil)))) (.bapp 1 (.cons (.opq 0) (.cons (.int .i64 (.var 0)) (.cons (.int .i64 (.var 1)) (.cons (.int .i64 (.wrap .i64 (.i2 .add (.var 2) (.lit (1))))) .nil))))))) (.i2 .sub (.ofI (.vop (.len 2) (.cons (.opq 0) .nil))) (.wrap .i64 (.i2 .add (.var 2) (.lit (1))))) (.i2 .sub (.ofI (.vop (.len 2) (.cons (.opq 0) .nil))) (.var 2)))))
 (.br (.b2 .le (.var 0) (.ofI (.vop (.sel 2 1) (.cons (.opq 0) (.cons (.int .i64 (.var 2)) .nil)))))
 (.ret (.bool (.tt false)))
 (.back (.b2 .and (.b2 .le (.lit (0)) (.wrap .i64 (.i2 .add (.var 2) (.lit (1))))) (.b2 .and (.b2 .le (.wrap .i64 (.i2 .add (.var 2) (.lit (1)))) (.ofI (.vop (.len 2) (.cons (.opq 0) .nil)))) (.bapp 1 (.cons (.opq 0) (.cons (.int .i64 (.var 0)) (.cons (.int .i64 (.var 1)) (.cons (.int .i64 (.wrap .i64 (.i2 .add (.var 2) (.lit (1))))) .nil))))))) (.i2 .sub (.ofI (.vop (.len 2) (.cons (.opq 0) .nil))) (.wrap .i64 (.i2 .add (.var 2) (.lit (1))))) (.i2 .sub (.ofI (.vop (.len 2) (.cons (.opq 0) .nil))) (.var 2)))))))
 (.need (.b2 .and (.b2 .le (.lit (0)) (.var 2)) (.b2 .lt (.var 2) (.ofI (.vop (.len 2) (.cons (.opq 0) .nil)))))
 (.br (.b2 .le (.ofI (.vop (.sel 2 0) (.cons (.opq 0) (.cons (.int .i64 (.var 2)) .nil)))) (.var 1))
 (.need (.b2 .and (.b2 .le (.lit (0)) (.var 2)) (.b2 .lt (.var 2) (.ofI (.vop (.len 2) (.cons (.opq 0) .nil)))))
 (.br (.b2 .le (.var 1) (.ofI (.vop (.sel 2 1) (.cons (.opq 0) (.cons (.int .i64 (.var 2)) .nil)))))
 (.ret (.bool (.tt false)))
 (.back (.b2 .and (.b2 .le (.lit (0)) (.wrap .i64 (.i2 .add (.var 2) (.lit (1))))) (.b2 .and (.b2 .le (.wrap .i64 (.i2 .add (.var 2) (.lit (1)))) (.ofI (.vop (.len 2) (.cons (.opq 0) .nil)))) (.bapp 1 (.cons (.opq 0) (.cons (.int .i64 (.var 0)) (.cons (.int .i64 (.var 1)) (.cons (.int .i64 (.wrap .i64 (.i2 .add (.var 2) (.lit (1))))) .nil))))))) (.i2 .sub (.ofI (.vop (.len 2) (.cons (.opq 0) .nil))) (.wrap .i64 (.i2 .add (.var 2) (.lit (1))))) (.i2 .sub (.ofI (.vop (.len 2) (.cons (.opq 0) .nil))) (.var 2)))))
 (.back (.b2 .and (.b2 .le (.lit (0)) (.wrap .i64 (.i2 .add (.var 2) (.lit (1))))) (.b2 .and (.b2 .le (.wrap .i64 (.i2 .add (.var 2) (.lit (1)))) (.ofI (.vop (.len 2) (.cons (.opq 0) .nil)))) (.bapp 1 (.cons (.opq 0) (.cons (.int .i64 (.var 0)) (.cons (.int .i64 (.var 1)) (.cons (.int .i64 (.wrap .i64 (.i2 .add (.var 2) (.lit (1))))) .nil))))))) (.i2 .sub (.ofI (.vop (.len 2) (.cons (.opq 0) .nil))) (.wrap .i64 (.i2 .add (.var 2) (.lit (1))))) (.i2 .sub (.ofI (.vop (.len 2) (.cons (.opq 0) .nil))) (.var 2)))))))
 (.ret (.bool (.tt true)))))
abbrev wcc_same : Con := ⟨123, [(.hs .no (.cons (.int .i64) (.cons (.int .i64) .nil)) (.opq 0)), (.int .i64 (.var 0)), (.int .i64 (.var 1))], (.tt true), (.bool (.bapp 1 (.cons (.opq 0) (.cons (.int .i64 (.var 0)) (.cons (.int .i64 (.var 1)) (.cons (.int .i64 (.ofI (.vop (.len 2) (.cons (.opq 0) .nil)))) .nil)))))), ⟨2, 0, 1, 0⟩, none⟩
theorem same_w : walk Tryd.prog 141 ⟨[], syG, [], [], []⟩ [⟨0, ⟨1, 0, 0, 0⟩, [(7, (.int .i64 (.var 2)))], none, (.b2 .and (.b2 .le (.lit (0)) (.var 2)) (.b2 .and (.b2 .le (.var 2) (.ofI (.vop (.len 2) (.cons (.opq 0) .nil)))) (.bapp 1 (.cons (.opq 0) (.cons (.int .i64 (.var 0)) (.cons (.int .i64 (.var 1)) (.cons (.int .i64 (.var 2)) .nil))))))), (.i2 .sub (.ofI (.vop (.len 2) (.cons (.opq 0) .nil))) (.var 2)), 0, []⟩] .v wcc_same wcc_same.n 3000 = some same_tree := by kernel_rfl
theorem same_h (a : Int) (b : Int) (l : Value) (hc : holds (wcE [a, b] [] [l] []) (.tt true)) (hty : patsTyp (wcE [a, b] [] [l] []) [(.hs .no (.cons (.int .i64) (.cons (.int .i64) .nil)) (.opq 0)), (.int .i64 (.var 0)), (.int .i64 (.var 1))]) : same_tree.holds (fun v_ => v_ = denV (wcE [a, b] [] [l] []) b0 (.bool (.bapp 1 (.cons (.opq 0) (.cons (.int .i64 (.var 0)) (.cons (.int .i64 (.var 1)) (.cons (.int .i64 (.ofI (.vop (.len 2) (.cons (.opq 0) .nil)))) .nil))))))) (wcE [a, b] [] [l] []) := by
  simp only [Tree.holds, Sy.holds, AllN, Env.more, wcE, List.cons_append, List.nil_append, List.append_nil, denV, denI, denB, denL, I2.den, VOp.den, List.getD_cons_zero, List.getD_cons_succ, Cst.den, syso, syse, syio, sybo, wci_of, wci_arh, wci_fb, wci_se, wci_vm, wci_vl, wci_vh, wci_vE, wci_vM, wci_vL, wci_vH, wcb_pre, wcb_sm, List.map_nil, List.map_cons, B2.ofInts, B2.denI, B2.denB, if_true, Bool.false_eq_true, if_false, Nat.div_one, Nat.mul_one, Nat.add_zero, holds] at hc
  simp only [patsTyp, patTyp, patTypL, wcE, denV, denL, List.getD_cons_zero, List.getD_cons_succ, and_true, true_and] at hty
  have hL_l : typ (.sl (.cons (.int .i64) (.cons (.int .i64) .nil))) l := by first | exact hty | exact hty.1 | exact hty.2 | exact hty.1.1 | exact hty.1.2 | exact hty.2.1 | exact hty.2.2 | exact hty.2.2.1 | exact hty.2.2.2
  have hN_l := typ_len (n := 2) hL_l rfl (by omega)
  unfold same_tree
  simp only [Tree.holds, Sy.holds, AllN, Env.more, wcE, List.cons_append, List.nil_append, List.append_nil, denV, denI, denB, denL, I2.den, VOp.den, List.getD_cons_zero, List.getD_cons_succ, Cst.den, syso, syse, syio, sybo, wci_of, wci_arh, wci_fb, wci_se, wci_vm, wci_vl, wci_vh, wci_vE, wci_vM, wci_vL, wci_vH, wcb_pre, wcb_sm, List.map_nil, List.map_cons, B2.ofInts, B2.denI, B2.denB, if_true, Bool.false_eq_true, if_false, Nat.div_one, Nat.mul_one, Nat.add_zero]
  refine ⟨?_, ?_⟩
  ·
   exact ⟨by omega, by omega, rfl⟩
  ·
   intro i0a hi0
   refine ⟨fun h0 => ?_, fun h0 => ?_⟩
   ·
    refine ⟨?_, fun h1 => ?_⟩
    ·
     omega
    ·
     refine ⟨fun h2 => ?_, fun h2 => ?_⟩
     ·
      refine ⟨?_, fun h3 => ?_⟩
      ·
       omega
      ·
       refine ⟨?_, fun h4 => ?_⟩
       ·
        omega
       ·
        refine ⟨fun h5 => ?_, fun h5 => ?_⟩
        ·
         refine ⟨?_, fun h6 => ?_⟩
         ·
          omega
         ·
          refine ⟨fun h7 => ?_, fun h7 => ?_⟩
          ·
           obtain ⟨hi1, hi2, hi3⟩ := hi0
           simp only [Int.toNat_natCast]
           first
           | (rw [smB_no (j := i0a.toNat) (by omega) (by omega)])
           | (rw [← show i0a.toNat = (Sy.rows l).length / 2 by omega, hi3])
          ·
           have wf0 := wr_i64 (i0a + 1)
           refine ⟨?_, ?_⟩
           ·
            obtain ⟨hi1, hi2, hi3⟩ := hi0
            have e : IntKind.wrap .i64 (i0a + 1) = i0a + 1 := by omega
            rw [e, show (i0a + 1).toNat = i0a.toNat + 1 by omega]
            refine ⟨by omega, by omega, ?_⟩
            simp only [smB, hi3, Bool.true_and, decide_eq_true_eq]
            omega
           ·
            omega
        ·
         refine ⟨fun h8 => ?_, fun h8 => ?_⟩
         ·
          obtain ⟨hi1, hi2, hi3⟩ := hi0
          simp only [Int.toNat_natCast]
          first
          | (rw [smB_no (j := i0a.toNat) (by omega) (by omega)])
          | (rw [← show i0a.toNat = (Sy.rows l).length / 2 by omega, hi3])
         ·
          have wf1 := wr_i64 (i0a + 1)
          refine ⟨?_, ?_⟩
          ·
           obtain ⟨hi1, hi2, hi3⟩ := hi0
           have e : IntKind.wrap .i64 (i0a + 1) = i0a + 1 := by omega
           rw [e, show (i0a + 1).toNat = i0a.toNat + 1 by omega]
           refine ⟨by omega, by omega, ?_⟩
           simp only [smB, hi3, Bool.true_and, decide_eq_true_eq]
           omega
          ·
           omega
     ·
      refine ⟨?_, fun h9 => ?_⟩
      ·
       omega
      ·
       refine ⟨fun h10 => ?_, fun h10 => ?_⟩
       ·
        refine ⟨?_, fun h11 => ?_⟩
        ·
         omega
        ·
         refine ⟨fun h12 => ?_, fun h12 => ?_⟩
         ·
          obtain ⟨hi1, hi2, hi3⟩ := hi0
          simp only [Int.toNat_natCast]
          first
          | (rw [smB_no (j := i0a.toNat) (by omega) (by omega)])
          | (rw [← show i0a.toNat = (Sy.rows l).length / 2 by omega, hi3])
         ·
          have wf2 := wr_i64 (i0a + 1)
          refine ⟨?_, ?_⟩
          ·
           obtain ⟨hi1, hi2, hi3⟩ := hi0
           have e : IntKind.wrap .i64 (i0a + 1) = i0a + 1 := by omega
           rw [e, show (i0a + 1).toNat = i0a.toNat + 1 by omega]
           refine ⟨by omega, by omega, ?_⟩
           simp only [smB, hi3, Bool.true_and, decide_eq_true_eq]
           omega
          ·
           omega
       ·
        have wf3 := wr_i64 (i0a + 1)
        refine ⟨?_, ?_⟩
        ·
         obtain ⟨hi1, hi2, hi3⟩ := hi0
         have e : IntKind.wrap .i64 (i0a + 1) = i0a + 1 := by omega
         rw [e, show (i0a + 1).toNat = i0a.toNat + 1 by omega]
         refine ⟨by omega, by omega, ?_⟩
         simp only [smB, hi3, Bool.true_and, decide_eq_true_eq]
         omega
        ·
         omega
   ·
    obtain ⟨hi1, hi2, hi3⟩ := hi0
    simp only [Int.toNat_natCast]
    first
    | (rw [smB_no (j := i0a.toNat) (by omega) (by omega)])
    | (rw [← show i0a.toNat = (Sy.rows l).length / 2 by omega, hi3])
theorem wcg_same : wcc_same.Good Tryd.prog syG (wcE [] [] [] []) := good_of_walk (Γ := ⟨[], syG, [], [], []⟩) (ρ := wcE [] [] [] []) sym same_w rfl (fun _ _ _ _ => ok_nil) (fun a b l hc hty => same_h a b l hc hty)
end Go.Proofs.YtflckmhlobpfiaaDoor
