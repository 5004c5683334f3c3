import Derived.Test.YtflckmhlobpfiaaDoorSycqb
import Derived.Test.YtflckmhlobpfiaaDoorZ13qb
/-
  Layer 13 by the second engine: the program votes.
-/
namespace Go.Proofs.YtflckmhlobpfiaaDoor
open Go.RowKit Go.Extern.Stop Go.Stop Go.Extern Go.Proofs.YtflckmhlobpfiaaDoor.Sy
set_option linter.unusedVariables false
set_option linter.unusedSimpArgs false
/-- the best among the first k: how many, from where, up to where -/
def vo (l : List Value) (N : Nat) : Nat → Nat × Int × Int
  | 0 => (0, 0, 0)
  | k + 1 => if (vo l N k).1 < ofN l (Go.RowKit.intOf (l.getD (k * 2) Go.undef)) N ∨ (ofN l (Go.RowKit.intOf (l.getD (k * 2) Go.undef)) N = (vo l N k).1 ∧ Go.RowKit.intOf (l.getD (k * 2) Go.undef) < (vo l N k).2.1) then (ofN l (Go.RowKit.intOf (l.getD (k * 2) Go.undef)) N, Go.RowKit.intOf (l.getD (k * 2) Go.undef), arH l (Go.RowKit.intOf (l.getD (k * 2) Go.undef)) N) else vo l N k
theorem vo_yes {l : List Value} {N k : Nat} (h : (vo l N k).1 < ofN l (Go.RowKit.intOf (l.getD (k * 2) Go.undef)) N ∨ (ofN l (Go.RowKit.intOf (l.getD (k * 2) Go.undef)) N = (vo l N k).1 ∧ Go.RowKit.intOf (l.getD (k * 2) Go.undef) < (vo l N k).2.1)) : vo l N (k + 1) = (ofN l (Go.RowKit.intOf (l.getD (k * 2) Go.undef)) N, Go.RowKit.intOf (l.getD (k * 2) Go.undef), arH l (Go.RowKit.intOf (l.getD (k * 2) Go.undef)) N) := by rw [vo, if_pos h]
theorem vo_no {l : List Value} {N k : Nat} (h : ¬ ((vo l N k).1 < ofN l (Go.RowKit.intOf (l.getD (k * 2) Go.undef)) N ∨ (ofN l (Go.RowKit.intOf (l.getD (k * 2) Go.undef)) N = (vo l N k).1 ∧ Go.RowKit.intOf (l.getD (k * 2) Go.undef) < (vo l N k).2.1))) : vo l N (k + 1) = vo l N k := by rw [vo, if_neg h]
def voE (l : List Value) : Int := if fbW l (l.length / 2) ≠ -1 ∨ 16 < l.length / 2 then 1 else if l.length / 2 = 0 then 6 else 0
def voR (l : List Value) : Nat × Int × Int := if voE l = 0 then vo l (l.length / 2) (l.length / 2) else (0, 0, 0)
theorem fb_ge (l : List Value) : ∀ k, -1 ≤ fbW l k
  | 0 => by simp [fbW]
  | k + 1 => by
    have := fb_ge l k
    rw [fbW]
    split
    · split <;> omega
    · exact this
def wbI : Nat → List Value → Int
  | 4, [l, .int _ k] => (((vo (rows l) ((rows l).length / 2) k.toNat).1 : Nat) : Int)
  | 5, [l, .int _ k] => (vo (rows l) ((rows l).length / 2) k.toNat).2.1
  | 6, [l, .int _ k] => (vo (rows l) ((rows l).length / 2) k.toNat).2.2
  | 7, [l] => voE (rows l)
  | 8, [l] => (((voR (rows l)).1 : Nat) : Int)
  | 9, [l] => (voR (rows l)).2.1
  | 10, [l] => (voR (rows l)).2.2
  | i, l => wI i l
def wbB : Nat → List Value → Bool
  | i, l => wB i l
def wbV : Nat → List Value → Value
  | i, l => wV i l
abbrev wbE (iv : List Int) (bv : List Bool) (vv : List Value) (sv : List ByteArray) : Env := { iv := iv, bv := bv, vv := vv, sv := sv, fi := wbI, fb := wbB, fv := wbV, et := 141 }
theorem wbup : Agree 4 1 0 (wE [] [] [] []) (wbE [] [] [] []) := ⟨rfl, (by
    intro f hf
    funext l
    show wbI f l = wI f l
    unfold wbI
    split <;> first | rfl | omega), (by
    intro f hf
    funext l
    show wbB f l = wB f l
    unfold wbB
    split <;> first | rfl | omega), (by
    intro f hf
    funext l
    show wbV f l = wV f l
    unfold wbV
    split <;> first | rfl | omega)⟩
theorem wbi_of (l : Value) (k1 : IntKind) (n : Int) (k2 : IntKind) (k : Int) : wbI 0 [l, .int k1 n, .int k2 k] = ((ofN (rows l) n k.toNat : Nat) : Int) := rfl
theorem wbi_arh (l : Value) (k1 : IntKind) (n : Int) (k2 : IntKind) (k : Int) : wbI 1 [l, .int k1 n, .int k2 k] = arH (rows l) n k.toNat := rfl
theorem wbi_fb (l : Value) (k1 : IntKind) (k : Int) : wbI 2 [l, .int k1 k] = fbW (rows l) k.toNat := rfl
theorem wbi_se (k1 : IntKind) (a : Int) (k2 : IntKind) (b : Int) : wbI 3 [.int k1 a, .int k2 b] = spE a b := rfl
theorem wbi_vm (l : Value) (k1 : IntKind) (k : Int) : wbI 4 [l, .int k1 k] = (((vo (rows l) ((rows l).length / 2) k.toNat).1 : Nat) : Int) := rfl
theorem wbi_vl (l : Value) (k1 : IntKind) (k : Int) : wbI 5 [l, .int k1 k] = (vo (rows l) ((rows l).length / 2) k.toNat).2.1 := rfl
theorem wbi_vh (l : Value) (k1 : IntKind) (k : Int) : wbI 6 [l, .int k1 k] = (vo (rows l) ((rows l).length / 2) k.toNat).2.2 := rfl
theorem wbi_vE (l : Value) : wbI 7 [l] = voE (rows l) := rfl
theorem wbi_vM (l : Value) : wbI 8 [l] = (((voR (rows l)).1 : Nat) : Int) := rfl
theorem wbi_vL (l : Value) : wbI 9 [l] = (voR (rows l)).2.1 := rfl
theorem wbi_vH (l : Value) : wbI 10 [l] = (voR (rows l)).2.2 := rfl
theorem wbb_pre (l : Value) (k1 : IntKind) (k : Int) : wbB 0 [l, .int k1 k] = preW (rows l) k.toNat := rfl
def vote_tree : Tree :=
 (.br (.not (.b2 .lt (.iapp 2 (.cons (.opq 0) (.cons (.int .i64 (.ofI (.vop (.len 2) (.cons (.opq 0) .nil)))) .nil))) (.lit (0))))
 (.ret (.tup (.cons (.agg (.cons (.int .i64 (.lit (0))) (.cons (.int .i64 (.lit (0))) .nil))) (.cons (.int .i64 (.lit (0))) (.cons (.iface 141 (.int .i64 (.lit (1)))) .nil)))))
 (.br (.b2 .lt (.lit (16)) (.ofI (.vop (.len 2) (.cons (.opq 0) .nil))))
 (.ret (.tup (.cons (.agg (.cons (.int .i64 (.lit (0))) (.cons (.int .i64 (.lit (0))) .nil))) (.cons (.int .i64 (.lit (0))) (.cons (.iface 141 (.int .i64 (.lit (1)))) .nil)))))
 (.br (.b2 .eq (.ofI (.vop (.len 2) (.cons (.opq 0) .nil))) (.lit (0)))
 (.ret (.tup (.cons (.agg (.cons (.int .i64 (.lit (0))) (.cons (.int .i64 (.lit (0))) .nil))) (.cons (.int .i64 (.lit (0))) (.cons (.iface 141 (.int .i64 (.lit (6)))) .nil)))))
 (.loop ⟨4, 0, 0, 0⟩ (.b2 .and (.b2 .le (.lit (0)) (.lit (0))) (.b2 .and (.b2 .le (.lit (0)) (.ofI (.vop (.len 2) (.cons (.opq 0) .nil)))) (.b2 .and (.b2 .eq (.lit (0)) (.iapp 4 (.cons (.opq 0) (.cons (.int .i64 (.lit (0))) .nil)))) (.b2 .and (.b2 .eq (.lit (0)) (.iapp 5 (.cons (.opq 0) (.cons (.int .i64 (.lit (0))) .nil)))) (.b2 .eq (.lit (0)) (.iapp 6 (.cons (.opq 0) (.cons (.int .i64 (.lit (0))) .nil)))))))) (.b2 .and (.b2 .le (.lit (0)) (.var 3)) (.b2 .and (.b2 .le (.var 3) (.ofI (.vop (.len 2) (.cons (.opq 0) .nil)))) (.b2 .and (.b2 .eq (.var 2) (.iapp 4 (.cons (.opq 0) (.cons (.int .i64 (.var 3)) .nil)))) (.b2 .and (.b2 .eq (.var 0) (.iapp 5 (.cons (.opq 0) (.cons (.int .i64 (.var 3)) .nil)))) (.b2 .eq (.var 1) (.iapp 6 (.cons (.opq 0) (.cons (.int .i64 (.var 3)) .nil))))))))
 (.br (.b2 .lt (.var 3) (.ofI (.vop (.len 2) (.cons (.opq 0) .nil))))
 (.need (.b2 .and (.b2 .le (.lit (0)) (.var 3)) (.b2 .lt (.var 3) (.ofI (.vop (.len 2) (.cons (.opq 0) .nil)))))
 (.br (.b2 .lt (.var 2) (.iapp 0 (.cons (.opq 0) (.cons (.int .i64 (.ofI (.vop (.sel 2 0) (.cons (.opq 0) (.cons (.int .i64 (.var 3)) .nil))))) (.cons (.int .i64 (.ofI (.vop (.len 2) (.cons (.opq 0) .nil)))) .nil)))))
 (.back (.b2 .and (.b2 .le (.lit (0)) (.wrap .i64 (.i2 .add (.var 3) (.lit (1))))) (.b2 .and (.b2 .le (.wrap .i64 (.i2 .add (.var 3) (.lit (1)))) (.ofI (.vop (.len 2) (.cons (.opq 0) .nil)))) (.b2 .and (.b2 .eq (.iapp 0 (.cons (.opq 0) (.cons (.int .i64 (.ofI (.vop (.sel 2 0) (.cons (.opq 0) (.cons (.int .i64 (.var 3)) .nil))))) (.cons (.int .i64 (.ofI (.vop (.len 2) (.cons (.opq 0) .nil)))) .nil)))) (.iapp 4 (.cons (.opq 0) (.cons (.int .i64 (.wrap .i64 (.i2 .add (.var 3) (.lit (1))))) .nil)))) (.b2 .and (.b2 .eq (.ofI (.vop (.sel 2 0) (.cons (.opq 0) (.cons (.int .i64 (.var 3)) .nil)))) (.iapp 5 (.cons (.opq 0) (.cons (.int .i64 (.wrap .i64 (.i2 .add (.var 3) (.lit (1))))) .nil)))) (.b2 .eq (.iapp 1 (.cons (.opq 0) (.cons (.int .i64 (.ofI (.vop (.sel 2 0) (.cons (.opq 0) (.cons (.int .i64 (.var 3)) .nil))))) (.cons (.int .i64 (.ofI (.vop (.len 2) (.cons (.opq 0) .nil)))) .nil)))) (.iapp 6 (.cons (.opq 0) (.cons (.int .i64 (.wrap .i64 (.i2 .add (.var 3) (.lit (1))))) .nil)))))))) (.i2 .sub (.ofI (.vop (.len 2) (.cons (.opq 0) .nil))) (.wrap .i64 (.i2 .add (.var 3) (.lit (1))))) (.i2 .sub (.ofI (.vop (.len 2) (.cons (.opq 0) .nil))) (.var 3)))
 (.br (.b2 .eq (.iapp 0 (.cons (.opq 0) (.cons (.int .i64 (.ofI (.vop (.sel 2 0) (.cons (.opq 0) (.cons (.int .i64 (.var 3)) .nil))))) (.cons (.int .i64 (.ofI (.vop (.len 2) (.cons (.opq 0) .nil)))) .nil)))) (.var 2))
 (.br (.b2 .lt (.ofI (.vop (.sel 2 0) (.cons (.opq 0) (.cons (.int .i64 (.var 3)) .nil)))) (.var 0))
 (.back (.b2 .and (.b2 .le (.lit (0)) (.wrap .i64 (.i2 .add (.var 3) (.lit (1))))) (.b2 .and (.b2 .le (.wrap .i64 (.i2 .add (.var 3) (.lit (1)))) (.ofI (.vop (.len 2) (.cons (.opq 0) .nil)))) (.b2 .and (.b2 .eq (.iapp 0 (.cons (.opq 0) (.cons (.int .i64 (.ofI (.vop (.sel 2 0) (.cons (.opq 0) (.cons (.int .i64 (.var 3)) .nil))))) (.cons (.int .i64 (.ofI (.vop (.len 2) (.cons (.opq 0) .nil)))) .nil)))) (.iapp 4 (.cons (.opq 0) (.cons (.int .i64 (.wrap .i64 (.i2 .add (.var 3) (.lit (1))))) .nil)))) (.b2 .and (.b2 .eq (.ofI (.vop (.sel 2 0) (.cons (.opq 0) (.cons (.int .i64 (.var 3)) .nil)))) (.iapp 5 (.cons (.opq 0) (.cons (.int .i64 (.wrap .i64 (.i2 .add (.var 3) (.lit (1))))) .nil)))) (.b2 .eq (.iapp 1 (.cons (.opq 0) (.cons (.int .i64 (.ofI (.vop (.sel 2 0) (.cons (.opq 0) (.cons (.int .i64 (.var 3)) .nil))))) (.cons (.int .i64 (.ofI (.vop (.len 2) (.cons (.opq 0) .nil)))) .nil)))) (.iapp 6 (.cons (.opq 0) (.cons (.int .i64 (.wrap .i64 (.i2 .add (.var 3) (.lit (1))))) .nil)))))))) (.i2 .sub (.ofI (.vop (.len 2) (.cons (.opq 0) .nil))) (.wrap .i64 (.i2 .add (.var 3) (.lit (1))))) (.i2 .sub (.ofI (.vop (.len 2) (.cons (.opq 0) .nil))) (.var 3)))
 (.back (.b2 .and (.b2 .le (.lit (0)) (.wrap .i64 (.i2 .add (.var 3) (.lit (1))))) (.b2 .and (.b2 .le (.wrap .i64 (.i2 .add (.var 3) (.lit (1)))) (.ofI (.vop (.len 2) (.cons (.opq 0) .nil)))) (.b2 .and (.b2 .eq (.var 2) (.iapp 4 (.cons (.opq 0) (.cons (.int .i64 (.wrap .i64 (.i2 .add (.var 3) (.lit (1))))) .nil)))) (.b2 .and (.b2 .eq (.var 0) (.iapp 5 (.cons (.opq 0) (.cons (.int .i64 (.wrap .i64 (.i2 .add (.var 3) (.lit (1))))) .nil)))) (.b2 .eq (.var 1) (.iapp 6 (.cons (.opq 0) (.cons (.int .i64 (.wrap .i64 (.i2 .add (.var 3) (.lit (1))))) .nil)))))))) (.i2 .sub (.ofI (.vop (.len 2) (.cons (.opq 0) .nil))) (.wrap .i64 (.i2 .add (.var 3) (.lit (1))))) (.i2 .sub (.ofI (.vop (.len 2) (.cons (.opq 0) .nil))) (.var 3))))
 (.back (.b2 .and (.b2 .le (.lit (0)) (.wrap .i64 (.i2 .add (.var 3) (.lit (1))))) (.b2 .and (.b2 .le (.wrap .i64 (.i2 .add (.var 3) (.lit (1)))) (.ofI (.vop (.len 2) (.cons (.opq 0) .nil)))) (.b2 .and (.b2 .eq (.var 2) (.iapp 4 (.cons (.opq 0) (.cons (.int .i64 (.wrap .i64 (.i2 .add (.var 3) (.lit (1))))) .nil)))) (.b2 .and (.b2 .eq (.var 0) (.iapp 5 (.cons (.opq 0) (.cons (.int .i64 (.wrap .i64 (.i2 .add (.var 3) (.lit (1))))) .nil)))) (.b2 .eq (.var 1) (.iapp 6 (.cons (.opq 0) (.cons (.int .i64 (.wrap .i64 (.i2 .add (.var 3) (.lit (1))))) .nil)))))))) (.i2 .sub (.ofI (.vop (.len 2) (.cons (.opq 0) .nil))) (.wrap .i64 (.i2 .add (.var 3) (.lit (1))))) (.i2 .sub (.ofI (.vop (.len 2) (.cons (.opq 0) .nil))) (.var 3))))))
 (.ret (.tup (.cons (.agg (.cons (.int .i64 (.var 0)) (.cons (.int .i64 (.var 1)) .nil))) (.cons (.int .i64 (.var 2)) (.cons (.cst .nilI) .nil))))))))))
abbrev wbc_vote : Con := ⟨55, [(.hs .no (.cons (.int .i64) (.cons (.int .i64) .nil)) (.opq 0))], (.tt true), (.tup (.cons (.agg (.cons (.int .i64 (.iapp 9 (.cons (.opq 0) .nil))) (.cons (.int .i64 (.iapp 10 (.cons (.opq 0) .nil))) .nil))) (.cons (.int .i64 (.iapp 8 (.cons (.opq 0) .nil))) (.cons (.err (.iapp 7 (.cons (.opq 0) .nil))) .nil)))), ⟨0, 0, 1, 0⟩, none⟩
theorem vote_w : walk Tryd.prog 141 ⟨[wc_con, wc_around], syG, [], [], []⟩ [⟨0, ⟨4, 0, 0, 0⟩, [(7, (.int .i64 (.var 2))), (30, (.int .i64 (.var 3)))], some [[(.int .i64 (.lit (0))), (.int .i64 (.lit (0)))], [], [(.int .i64 (.var 0)), (.int .i64 (.var 1))]], (.b2 .and (.b2 .le (.lit (0)) (.var 3)) (.b2 .and (.b2 .le (.var 3) (.ofI (.vop (.len 2) (.cons (.opq 0) .nil)))) (.b2 .and (.b2 .eq (.var 2) (.iapp 4 (.cons (.opq 0) (.cons (.int .i64 (.var 3)) .nil)))) (.b2 .and (.b2 .eq (.var 0) (.iapp 5 (.cons (.opq 0) (.cons (.int .i64 (.var 3)) .nil)))) (.b2 .eq (.var 1) (.iapp 6 (.cons (.opq 0) (.cons (.int .i64 (.var 3)) .nil)))))))), (.i2 .sub (.ofI (.vop (.len 2) (.cons (.opq 0) .nil))) (.var 3)), 0, []⟩] .v wbc_vote wbc_vote.n 3000 = some vote_tree := by kernel_rfl
theorem vote_h (l : Value) (hc : holds (wbE [] [] [l] []) (.tt true)) (hty : patsTyp (wbE [] [] [l] []) [(.hs .no (.cons (.int .i64) (.cons (.int .i64) .nil)) (.opq 0))]) : vote_tree.holds (fun v_ => v_ = denV (wbE [] [] [l] []) b0 (.tup (.cons (.agg (.cons (.int .i64 (.iapp 9 (.cons (.opq 0) .nil))) (.cons (.int .i64 (.iapp 10 (.cons (.opq 0) .nil))) .nil))) (.cons (.int .i64 (.iapp 8 (.cons (.opq 0) .nil))) (.cons (.err (.iapp 7 (.cons (.opq 0) .nil))) .nil))))) (wbE [] [] [l] []) := by
  simp only [Tree.holds, Sy.holds, AllN, Env.more, wbE, List.cons_append, List.nil_append, List.append_nil, denV, denI, denB, denL, I2.den, VOp.den, List.getD_cons_zero, List.getD_cons_succ, Cst.den, syso, syse, syio, sybo, wbi_of, wbi_arh, wbi_fb, wbi_se, wbi_vm, wbi_vl, wbi_vh, wbi_vE, wbi_vM, wbi_vL, wbi_vH, wbb_pre, List.map_nil, List.map_cons, B2.ofInts, B2.denI, B2.denB, if_true, Bool.false_eq_true, if_false, Nat.div_one, Nat.mul_one, Nat.add_zero, holds] at hc
  simp only [patsTyp, patTyp, patTypL, wbE, denV, denL, List.getD_cons_zero, List.getD_cons_succ, and_true, true_and] at hty
  have hL_l : typ (.sl (.cons (.int .i64) (.cons (.int .i64) .nil))) l := by first | exact hty | exact hty.1 | exact hty.2 | exact hty.1.1 | exact hty.1.2 | exact hty.2.1 | exact hty.2.2 | exact hty.2.2.1 | exact hty.2.2.2
  have hN_l := typ_len (n := 2) hL_l rfl (by omega)
  unfold vote_tree
  simp only [Tree.holds, Sy.holds, AllN, Env.more, wbE, List.cons_append, List.nil_append, List.append_nil, denV, denI, denB, denL, I2.den, VOp.den, List.getD_cons_zero, List.getD_cons_succ, Cst.den, syso, syse, syio, sybo, wbi_of, wbi_arh, wbi_fb, wbi_se, wbi_vm, wbi_vl, wbi_vh, wbi_vE, wbi_vM, wbi_vL, wbi_vH, wbb_pre, List.map_nil, List.map_cons, B2.ofInts, B2.denI, B2.denB, if_true, Bool.false_eq_true, if_false, Nat.div_one, Nat.mul_one, Nat.add_zero]
  refine ⟨fun h0 => ?_, fun h0 => ?_⟩
  ·
   have hfb := fb_ge (Sy.rows l) ((Sy.rows l).length / 2)
   simp only [Int.toNat_natCast] at *
   first
   | (have hE : voE (Sy.rows l) = 1 := by unfold voE; rw [if_pos (by omega)]
      simp only [voR, hE]
      rfl)
   | (have hE : voE (Sy.rows l) = 6 := by unfold voE; rw [if_neg (by omega), if_pos (by omega)]
      simp only [voR, hE]
      rfl)
   | (obtain ⟨hi1, hi2, hi3, hi4, hi5⟩ := hi0
      have hE : voE (Sy.rows l) = 0 := by unfold voE; rw [if_neg (by omega), if_neg (by omega)]
      rw [show i0d.toNat = (Sy.rows l).length / 2 by omega] at hi3 hi4 hi5
      simp only [voR, hE, if_true, hi3, hi4, hi5]
      rfl)
  ·
   refine ⟨fun h1 => ?_, fun h1 => ?_⟩
   ·
    have hfb := fb_ge (Sy.rows l) ((Sy.rows l).length / 2)
    simp only [Int.toNat_natCast] at *
    first
    | (have hE : voE (Sy.rows l) = 1 := by unfold voE; rw [if_pos (by omega)]
       simp only [voR, hE]
       rfl)
    | (have hE : voE (Sy.rows l) = 6 := by unfold voE; rw [if_neg (by omega), if_pos (by omega)]
       simp only [voR, hE]
       rfl)
    | (obtain ⟨hi1, hi2, hi3, hi4, hi5⟩ := hi0
       have hE : voE (Sy.rows l) = 0 := by unfold voE; rw [if_neg (by omega), if_neg (by omega)]
       rw [show i0d.toNat = (Sy.rows l).length / 2 by omega] at hi3 hi4 hi5
       simp only [voR, hE, if_true, hi3, hi4, hi5]
       rfl)
   ·
    refine ⟨fun h2 => ?_, fun h2 => ?_⟩
    ·
     have hfb := fb_ge (Sy.rows l) ((Sy.rows l).length / 2)
     simp only [Int.toNat_natCast] at *
     first
     | (have hE : voE (Sy.rows l) = 1 := by unfold voE; rw [if_pos (by omega)]
        simp only [voR, hE]
        rfl)
     | (have hE : voE (Sy.rows l) = 6 := by unfold voE; rw [if_neg (by omega), if_pos (by omega)]
        simp only [voR, hE]
        rfl)
     | (obtain ⟨hi1, hi2, hi3, hi4, hi5⟩ := hi0
        have hE : voE (Sy.rows l) = 0 := by unfold voE; rw [if_neg (by omega), if_neg (by omega)]
        rw [show i0d.toNat = (Sy.rows l).length / 2 by omega] at hi3 hi4 hi5
        simp only [voR, hE, if_true, hi3, hi4, hi5]
        rfl)
    ·
     refine ⟨?_, ?_⟩
     ·
      exact ⟨by omega, by omega, rfl, rfl, rfl⟩
     ·
      intro i0a i0b i0c i0d hi0
      refine ⟨fun h3 => ?_, fun h3 => ?_⟩
      ·
       refine ⟨?_, fun h4 => ?_⟩
       ·
        omega
       ·
        refine ⟨fun h5 => ?_, fun h5 => ?_⟩
        ·
         have wf0 := wr_i64 (i0d + 1)
         refine ⟨?_, ?_⟩
         ·
          obtain ⟨hi1, hi2, hi3, hi4, hi5⟩ := hi0
          have e : IntKind.wrap .i64 (i0d + 1) = i0d + 1 := by omega
          rw [e, show (i0d + 1).toNat = i0d.toNat + 1 by omega]
          simp only [Int.toNat_natCast] at *
          first
          | (rw [vo_yes (by omega)]
             exact ⟨by omega, by omega, rfl, rfl, rfl⟩)
          | (rw [vo_no (by omega)]
             exact ⟨by omega, by omega, hi3, hi4, hi5⟩)
         ·
          omega
        ·
         refine ⟨fun h6 => ?_, fun h6 => ?_⟩
         ·
          refine ⟨fun h7 => ?_, fun h7 => ?_⟩
          ·
           have wf1 := wr_i64 (i0d + 1)
           refine ⟨?_, ?_⟩
           ·
            obtain ⟨hi1, hi2, hi3, hi4, hi5⟩ := hi0
            have e : IntKind.wrap .i64 (i0d + 1) = i0d + 1 := by omega
            rw [e, show (i0d + 1).toNat = i0d.toNat + 1 by omega]
            simp only [Int.toNat_natCast] at *
            first
            | (rw [vo_yes (by omega)]
               exact ⟨by omega, by omega, rfl, rfl, rfl⟩)
            | (rw [vo_no (by omega)]
               exact ⟨by omega, by omega, hi3, hi4, hi5⟩)
           ·
            omega
          ·
           have wf2 := wr_i64 (i0d + 1)
           refine ⟨?_, ?_⟩
           ·
            obtain ⟨hi1, hi2, hi3, hi4, hi5⟩ := hi0
            have e : IntKind.wrap .i64 (i0d + 1) = i0d + 1 := by omega
            rw [e, show (i0d + 1).toNat = i0d.toNat + 1 by omega]
            simp only [Int.toNat_natCast] at *
            first
            | (rw [vo_yes (by omega)]
               exact ⟨by omega, by omega, rfl, rfl, rfl⟩)
            | (rw [vo_no (by omega)]
               exact ⟨by omega, by omega, hi3, hi4, hi5⟩)
           ·
            omega
         ·
          have wf3 := wr_i64 (i0d + 1)
          refine ⟨?_, ?_⟩
          ·
           obtain ⟨hi1, hi2, hi3, hi4, hi5⟩ := hi0
           have e : IntKind.wrap .i64 (i0d + 1) = i0d + 1 := by omega
           rw [e, show (i0d + 1).toNat = i0d.toNat + 1 by omega]
           simp only [Int.toNat_natCast] at *
           first
           | (rw [vo_yes (by omega)]
              exact ⟨by omega, by omega, rfl, rfl, rfl⟩)
           | (rw [vo_no (by omega)]
              exact ⟨by omega, by omega, hi3, hi4, hi5⟩)
          ·
           omega
      ·
       have hfb := fb_ge (Sy.rows l) ((Sy.rows l).length / 2)
       simp only [Int.toNat_natCast] at *
       first
       | (have hE : voE (Sy.rows l) = 1 := by unfold voE; rw [if_pos (by omega)]
          simp only [voR, hE]
          rfl)
       | (have hE : voE (Sy.rows l) = 6 := by unfold voE; rw [if_neg (by omega), if_pos (by omega)]
          simp only [voR, hE]
          rfl)
       | (obtain ⟨hi1, hi2, hi3, hi4, hi5⟩ := hi0
          have hE : voE (Sy.rows l) = 0 := by unfold voE; rw [if_neg (by omega), if_neg (by omega)]
          rw [show i0d.toNat = (Sy.rows l).length / 2 by omega] at hi3 hi4 hi5
          simp only [voR, hE, if_true, hi3, hi4, hi5]
          rfl)
theorem wbg_vote : wbc_vote.Good Tryd.prog syG (wbE [] [] [] []) := good_of_walk (Γ := ⟨[wc_con, wc_around], syG, [], [], []⟩) (ρ := wbE [] [] [] []) sym vote_w rfl (fun _ _ _ _ => (ok_cons (Con.Good.env (Con.Good.up wg_con wbup rfl) _ _ _ _) (ok_cons (Con.Good.env (Con.Good.up wg_around wbup rfl) _ _ _ _) ok_nil))) (fun l hc hty => vote_h l hc hty)
end Go.Proofs.YtflckmhlobpfiaaDoor
