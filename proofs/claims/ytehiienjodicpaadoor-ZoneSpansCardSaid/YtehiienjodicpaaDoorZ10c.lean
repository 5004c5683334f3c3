/-
  Layer 10 by the second engine: the reference, and what is too big to be looked at.
-/
import Derived.Test.YtehiienjodicpaaDoorSyc
import Derived.Test.YtehiienjodicpaaDoorZ10b
namespace Go.Proofs.YtehiienjodicpaaDoor
open Go.RowKit Go.Extern.Stop Go.Stop Go.Extern Go.Proofs.YtehiienjodicpaaDoor.Sy
set_option linter.unusedVariables false
set_option linter.unusedSimpArgs false
theorem ba_beq {a b : ByteArray} : (a == b) = true ↔ a = b := by
  cases a with | mk a => cases b with | mk b =>
  rw [ByteArray.mk.injEq, ← beq_iff_eq (a := a)]
  rfl
def cntN (l : List Value) (d : Int) (n : Nat) : Nat := (List.range n).countP fun i => !decide (d < Go.RowKit.intOf (l.getD (i * 3) Go.undef))
theorem cntN_succ (l : List Value) (d : Int) (n : Nat) : cntN l d (n + 1) = cntN l d n + if d < Go.RowKit.intOf (l.getD (n * 3) Go.undef) then 0 else 1 := by
  unfold cntN
  rw [List.range_succ, List.countP_append]
  simp only [List.countP_cons, List.countP_nil, Bool.not_eq_true', decide_eq_false_iff_not, Nat.zero_add]
  by_cases h : d < Go.RowKit.intOf (l.getD (n * 3) Go.undef)
  · rw [if_pos h, if_neg (by simpa using h)]
  · rw [if_neg h, if_pos (by simpa using h)]
theorem cntN_low {l : List Value} {d : Int} {N : Nat} (ho : okR l N = true) : ∀ {n : Nat}, n < N → Go.RowKit.intOf (l.getD (n * 3) Go.undef) ≤ d → cntN l d n = n
  | 0, _, _ => rfl
  | n + 1, hn, h => by
    have h2 := at_mono ho (a := n) (b := n + 1) (by omega) hn
    rw [cntN_succ, cntN_low ho (n := n) (by omega) (by omega), if_neg (by omega)]
theorem cntN_high {l : List Value} {d : Int} {N k : Nat} (ho : okR l N = true) (hk : d < Go.RowKit.intOf (l.getD (k * 3) Go.undef)) : ∀ {n : Nat}, k ≤ n → n ≤ N → cntN l d n = cntN l d k
  | 0, h, _ => by rw [show k = 0 by omega]
  | n + 1, h, hn => by
    rcases Nat.lt_or_ge n k with h1 | h1
    · rw [show k = n + 1 by omega]
    · have h2 := at_mono ho (a := k) (b := n) h1 (by omega)
      rw [cntN_succ, cntN_high ho hk (n := n) h1 (by omega), if_pos (by omega)]
      rfl
theorem srch_cnt (l : List Value) (d : Int) : srchN l d = cntN l d (l.length / 3) := rfl
/-- the last rule up to a second, from 1 on; 0 without one -/
def refK (l : List Value) (d : Int) : Nat → Nat
  | 0 => 0
  | n + 1 => if Go.RowKit.intOf (l.getD (n * 3) Go.undef) ≤ d then n + 1 else refK l d n
theorem refK_cnt {l : List Value} {d : Int} {N : Nat} (ho : okR l N = true) : ∀ {n : Nat}, n ≤ N → refK l d n = cntN l d n
  | 0, _ => rfl
  | n + 1, h => by
    rw [refK, cntN_succ]
    by_cases hd : Go.RowKit.intOf (l.getD (n * 3) Go.undef) ≤ d
    · rw [if_pos hd, cntN_low ho (n := n) (by omega) hd, if_neg (by omega)]
    · rw [if_neg hd, if_pos (by omega), refK_cnt ho (n := n) (by omega)]
      rfl
def roI (f : Int) (l : List Value) (d : Int) (n : Nat) : Int := if refK l d n = 0 then f else Go.RowKit.intOf (l.getD ((refK l d n - 1) * 3 + 1) Go.undef)
def rnS (s : ByteArray) (l : List Value) (d : Int) (n : Nat) : ByteArray := if refK l d n = 0 then s else strOf (l.getD ((refK l d n - 1) * 3 + 2) Go.undef)
theorem ro_yes {f : Int} {l : List Value} {d : Int} {n : Nat} (h : Go.RowKit.intOf (l.getD (n * 3) Go.undef) ≤ d) : roI f l d (n + 1) = Go.RowKit.intOf (l.getD (n * 3 + 1) Go.undef) := by simp only [roI, refK, if_pos h, Nat.succ_ne_zero, if_false, Nat.add_sub_cancel]
theorem ro_no {f : Int} {l : List Value} {d : Int} {n : Nat} (h : ¬ Go.RowKit.intOf (l.getD (n * 3) Go.undef) ≤ d) : roI f l d (n + 1) = roI f l d n := by simp only [roI, refK, if_neg h]
theorem rn_yes {s : ByteArray} {l : List Value} {d : Int} {n : Nat} (h : Go.RowKit.intOf (l.getD (n * 3) Go.undef) ≤ d) : rnS s l d (n + 1) = strOf (l.getD (n * 3 + 2) Go.undef) := by simp only [rnS, refK, if_pos h, Nat.succ_ne_zero, if_false, Nat.add_sub_cancel]
theorem rn_no {s : ByteArray} {l : List Value} {d : Int} {n : Nat} (h : ¬ Go.RowKit.intOf (l.getD (n * 3) Go.undef) ≤ d) : rnS s l d (n + 1) = rnS s l d n := by simp only [rnS, refK, if_neg h]
def shN (l : List Value) (n : Nat) : Bool := (List.range n).all fun k => decide ((strOf (l.getD (k * 3 + 2) Go.undef)).size ≤ 200)
theorem shN_succ (l : List Value) (n : Nat) : shN l (n + 1) = (shN l n && decide ((strOf (l.getD (n * 3 + 2) Go.undef)).size ≤ 200)) := by
  unfold shN; rw [List.range_succ, List.all_append]; simp
theorem shN_get {l : List Value} {n k : Nat} (h : shN l n = true) (hk : k < n) : (strOf (l.getD (k * 3 + 2) Go.undef)).size ≤ 200 := by
  have := List.all_eq_true.1 h k (List.mem_range.2 hk)
  simpa using this
def bigB (s : ByteArray) (l : List Value) : Bool := !(shN l (min (l.length / 3) 60)) || decide (60 < l.length / 3) || decide (200 < s.size)
theorem big_no {s : ByteArray} {l : List Value} (h : bigB s l = false) : s.size ≤ 200 ∧ l.length / 3 ≤ 60 ∧ shortR l = true := by
  simp only [bigB, Bool.or_eq_false_iff, Bool.not_eq_false', decide_eq_false_iff_not] at h
  obtain ⟨⟨h1, h2⟩, h3⟩ := h
  rw [show min (l.length / 3) 60 = l.length / 3 by omega] at h1
  exact ⟨by omega, by omega, h1⟩
def zc_I : Nat → List Value → Int
  | 7, [l, .int _ d, .int _ n] => ((cntN (rows l) d n.toNat : Nat) : Int)
  | 8, [.int _ f, l, .int _ d, .int _ n] => roI f (rows l) d n.toNat
  | i, l => zbI i l
def zc_B : Nat → List Value → Bool
  | 6, [l, .int _ n] => shN (rows l) n.toNat
  | 7, [.string s, l] => bigB s (rows l)
  | i, l => zbB i l
def zc_V : Nat → List Value → Value
  | 1, [.string s, l, .int _ d, .int _ n] => .string (rnS s (rows l) d n.toNat)
  | i, l => zbV i l
abbrev zc_E (iv : List Int) (bv : List Bool) (vv : List Value) (sv : List ByteArray) : Env := { iv := iv, bv := bv, vv := vv, sv := sv, fi := zc_I, fb := zc_B, fv := zc_V, et := 108 }
theorem zc_up : Agree 7 6 1 (zbE [] [] [] []) (zc_E [] [] [] []) := ⟨rfl, (by
    intro f hf
    funext l
    show zc_I f l = zbI f l
    unfold zc_I
    split <;> first | rfl | omega), (by
    intro f hf
    funext l
    show zc_B f l = zbB f l
    unfold zc_B
    split <;> first | rfl | omega), (by
    intro f hf
    funext l
    show zc_V f l = zbV f l
    unfold zc_V
    split <;> first | rfl | omega)⟩
theorem zc_i_ixl (l : Value) : zc_I 0 [l] = ixL (intsV l) := rfl
theorem zc_i_lst (l : Value) (k1 : IntKind) (n : Int) : zc_I 1 [l, .int k1 n] = leastR (rows l) n.toNat := rfl
theorem zc_i_chk (s : ByteArray) (k1 : IntKind) (f : Int) (l : Value) : zc_I 2 [.string s, .int k1 f, l] = chkI s f (rows l) := rfl
theorem zc_i_srch (l : Value) (k1 : IntKind) (d : Int) : zc_I 3 [l, .int k1 d] = ((srchN (rows l) d : Nat) : Int) := rfl
theorem zc_i_ato (s : ByteArray) (k1 : IntKind) (f : Int) (l : Value) (k2 : IntKind) (d : Int) : zc_I 4 [.string s, .int k1 f, l, .int k2 d] = atO s f (rows l) d := rfl
theorem zc_i_nxt (s : ByteArray) (k1 : IntKind) (f : Int) (l : Value) (k2 : IntKind) (d : Int) : zc_I 5 [.string s, .int k1 f, l, .int k2 d] = nxtI s f (rows l) d := rfl
theorem zc_i_nxe (s : ByteArray) (k1 : IntKind) (f : Int) (l : Value) (k2 : IntKind) (d : Int) : zc_I 6 [.string s, .int k1 f, l, .int k2 d] = nxtE s f (rows l) d := rfl
theorem zc_i_cn (l : Value) (k1 : IntKind) (d : Int) (k2 : IntKind) (n : Int) : zc_I 7 [l, .int k1 d, .int k2 n] = ((cntN (rows l) d n.toNat : Nat) : Int) := rfl
theorem zc_i_ro (k1 : IntKind) (f : Int) (l : Value) (k2 : IntKind) (d : Int) (k3 : IntKind) (n : Int) : zc_I 8 [.int k1 f, l, .int k2 d, .int k3 n] = roI f (rows l) d n.toNat := rfl
theorem zc_b_let (k1 : IntKind) (c : Int) : zc_B 0 [.int k1 c] = letC c := rfl
theorem zc_b_rok (l : Value) (k1 : IntKind) (n : Int) : zc_B 1 [l, .int k1 n] = okR (rows l) n.toNat := rfl
theorem zc_b_zon (s : ByteArray) (k1 : IntKind) (f : Int) (l : Value) : zc_B 2 [.string s, .int k1 f, l] = zoneB s f (rows l) := rfl
theorem zc_b_shr (l : Value) : zc_B 3 [l] = shortR (rows l) := rfl
theorem zc_b_pre (l : Value) (k1 : IntKind) (n : Int) : zc_B 4 [l, .int k1 n] = preL (intsV l) n.toNat := rfl
theorem zc_b_nm (s : ByteArray) : zc_B 5 [.string s] = nameB s := rfl
theorem zc_b_shn (l : Value) (k1 : IntKind) (n : Int) : zc_B 6 [l, .int k1 n] = shN (rows l) n.toNat := rfl
theorem zc_b_big (s : ByteArray) (l : Value) : zc_B 7 [.string s, l] = bigB s (rows l) := rfl
theorem zc_v_atn (s : ByteArray) (k1 : IntKind) (f : Int) (l : Value) (k2 : IntKind) (d : Int) : zc_V 0 [.string s, .int k1 f, l, .int k2 d] = .string (atN s f (rows l) d) := rfl
theorem zc_v_rn (s : ByteArray) (l : Value) (k1 : IntKind) (d : Int) (k2 : IntKind) (n : Int) : zc_V 1 [.string s, l, .int k1 d, .int k2 n] = .string (rnS s (rows l) d n.toNat) := rfl
def rat_tree : Tree :=
 (.loop ⟨2, 0, 0, 1⟩ (.b2 .and (.b2 .le (.lit (0)) (.lit (0))) (.b2 .and (.b2 .le (.lit (0)) (.ofI (.vop (.len 3) (.cons (.opq 0) .nil)))) (.b2 .and (.b2 .eq (.var 0) (.iapp 8 (.cons (.int .i64 (.var 0)) (.cons (.opq 0) (.cons (.int .i64 (.var 1)) (.cons (.int .i64 (.lit (0))) .nil)))))) (.veq (.str 0) (.sapp 1 (.cons (.str 0) (.cons (.opq 0) (.cons (.int .i64 (.var 1)) (.cons (.int .i64 (.lit (0))) .nil))))))))) (.b2 .and (.b2 .le (.lit (0)) (.var 3)) (.b2 .and (.b2 .le (.var 3) (.ofI (.vop (.len 3) (.cons (.opq 0) .nil)))) (.b2 .and (.b2 .eq (.var 2) (.iapp 8 (.cons (.int .i64 (.var 0)) (.cons (.opq 0) (.cons (.int .i64 (.var 1)) (.cons (.int .i64 (.var 3)) .nil)))))) (.veq (.str 1) (.sapp 1 (.cons (.str 0) (.cons (.opq 0) (.cons (.int .i64 (.var 1)) (.cons (.int .i64 (.var 3)) .nil)))))))))
 (.br (.b2 .lt (.var 3) (.ofI (.vop (.len 3) (.cons (.opq 0) .nil))))
 (.need (.b2 .and (.b2 .le (.lit (0)) (.var 3)) (.b2 .lt (.var 3) (.ofI (.vop (.len 3) (.cons (.opq 0) .nil)))))
 (.br (.b2 .le (.ofI (.vop (.sel 3 0) (.cons (.opq 0) (.cons (.int .i64 (.var 3)) .nil)))) (.var 1))
 (.need (.b2 .and (.b2 .le (.lit (0)) (.var 3)) (.b2 .lt (.var 3) (.ofI (.vop (.len 3) (.cons (.opq 0) .nil)))))
 (.need (.b2 .and (.b2 .le (.lit (0)) (.var 3)) (.b2 .lt (.var 3) (.ofI (.vop (.len 3) (.cons (.opq 0) .nil)))))
 (.back (.b2 .and (.b2 .le (.lit (0)) (.wrap .i64 (.i2 .add (.var 3) (.lit (1))))) (.b2 .and (.b2 .le (.wrap .i64 (.i2 .add (.var 3) (.lit (1)))) (.ofI (.vop (.len 3) (.cons (.opq 0) .nil)))) (.b2 .and (.b2 .eq (.ofI (.vop (.sel 3 1) (.cons (.opq 0) (.cons (.int .i64 (.var 3)) .nil)))) (.iapp 8 (.cons (.int .i64 (.var 0)) (.cons (.opq 0) (.cons (.int .i64 (.var 1)) (.cons (.int .i64 (.wrap .i64 (.i2 .add (.var 3) (.lit (1))))) .nil)))))) (.veq (.vop (.ssel 3 2) (.cons (.opq 0) (.cons (.int .i64 (.var 3)) .nil))) (.sapp 1 (.cons (.str 0) (.cons (.opq 0) (.cons (.int .i64 (.var 1)) (.cons (.int .i64 (.wrap .i64 (.i2 .add (.var 3) (.lit (1))))) .nil))))))))) (.i2 .sub (.ofI (.vop (.len 3) (.cons (.opq 0) .nil))) (.wrap .i64 (.i2 .add (.var 3) (.lit (1))))) (.i2 .sub (.ofI (.vop (.len 3) (.cons (.opq 0) .nil))) (.var 3)))))
 (.back (.b2 .and (.b2 .le (.lit (0)) (.wrap .i64 (.i2 .add (.var 3) (.lit (1))))) (.b2 .and (.b2 .le (.wrap .i64 (.i2 .add (.var 3) (.lit (1)))) (.ofI (.vop (.len 3) (.cons (.opq 0) .nil)))) (.b2 .and (.b2 .eq (.var 2) (.iapp 8 (.cons (.int .i64 (.var 0)) (.cons (.opq 0) (.cons (.int .i64 (.var 1)) (.cons (.int .i64 (.wrap .i64 (.i2 .add (.var 3) (.lit (1))))) .nil)))))) (.veq (.str 1) (.sapp 1 (.cons (.str 0) (.cons (.opq 0) (.cons (.int .i64 (.var 1)) (.cons (.int .i64 (.wrap .i64 (.i2 .add (.var 3) (.lit (1))))) .nil))))))))) (.i2 .sub (.ofI (.vop (.len 3) (.cons (.opq 0) .nil))) (.wrap .i64 (.i2 .add (.var 3) (.lit (1))))) (.i2 .sub (.ofI (.vop (.len 3) (.cons (.opq 0) .nil))) (.var 3)))))
 (.ret (.tup (.cons (.int .i64 (.var 2)) (.cons (.str 1) .nil))))))
abbrev zc_c_rat : Con := ⟨42, [(.agg (.cons (.str 0) (.cons (.int .i64 (.var 0)) (.cons (.hs .no (.cons (.int .i64) (.cons (.int .i64) (.cons .str .nil))) (.opq 0)) .nil)))), (.int .i64 (.var 1))], (.bapp 2 (.cons (.str 0) (.cons (.int .i64 (.var 0)) (.cons (.opq 0) .nil)))), (.tup (.cons (.int .i64 (.iapp 4 (.cons (.str 0) (.cons (.int .i64 (.var 0)) (.cons (.opq 0) (.cons (.int .i64 (.var 1)) .nil)))))) (.cons (.sapp 0 (.cons (.str 0) (.cons (.int .i64 (.var 0)) (.cons (.opq 0) (.cons (.int .i64 (.var 1)) .nil))))) .nil))), ⟨2, 0, 1, 1⟩, none⟩
theorem rat_w : walk Tryd.prog 108 ⟨[], syG⟩ [⟨0, ⟨2, 0, 0, 1⟩, [(6, (.int .i64 (.var 2))), (7, (.str 1)), (8, (.int .i64 (.var 3)))], none, (.b2 .and (.b2 .le (.lit (0)) (.var 3)) (.b2 .and (.b2 .le (.var 3) (.ofI (.vop (.len 3) (.cons (.opq 0) .nil)))) (.b2 .and (.b2 .eq (.var 2) (.iapp 8 (.cons (.int .i64 (.var 0)) (.cons (.opq 0) (.cons (.int .i64 (.var 1)) (.cons (.int .i64 (.var 3)) .nil)))))) (.veq (.str 1) (.sapp 1 (.cons (.str 0) (.cons (.opq 0) (.cons (.int .i64 (.var 1)) (.cons (.int .i64 (.var 3)) .nil))))))))), (.i2 .sub (.ofI (.vop (.len 3) (.cons (.opq 0) .nil))) (.var 3)), 0, []⟩] .v zc_c_rat zc_c_rat.n 3000 = some rat_tree := by kernel_rfl
theorem rat_h (fst : Int) (sec : Int) (l : Value) (nm : ByteArray) (hc : holds (zc_E [fst, sec] [] [l] [nm]) (.bapp 2 (.cons (.str 0) (.cons (.int .i64 (.var 0)) (.cons (.opq 0) .nil))))) (hty : patsTyp (zc_E [fst, sec] [] [l] [nm]) [(.agg (.cons (.str 0) (.cons (.int .i64 (.var 0)) (.cons (.hs .no (.cons (.int .i64) (.cons (.int .i64) (.cons .str .nil))) (.opq 0)) .nil)))), (.int .i64 (.var 1))]) : rat_tree.holds (fun d => d = denV (zc_E [fst, sec] [] [l] [nm]) b0 (.tup (.cons (.int .i64 (.iapp 4 (.cons (.str 0) (.cons (.int .i64 (.var 0)) (.cons (.opq 0) (.cons (.int .i64 (.var 1)) .nil)))))) (.cons (.sapp 0 (.cons (.str 0) (.cons (.int .i64 (.var 0)) (.cons (.opq 0) (.cons (.int .i64 (.var 1)) .nil))))) .nil)))) (zc_E [fst, sec] [] [l] [nm]) := by
  simp only [Tree.holds, Sy.holds, AllN, Env.more, zc_E, List.cons_append, List.nil_append, List.append_nil, denV, denI, denB, denL, I2.den, VOp.den, List.getD_cons_zero, List.getD_cons_succ, Cst.den, syso, syse, syio, sybo, zc_i_ixl, zc_i_lst, zc_i_chk, zc_i_srch, zc_i_ato, zc_i_nxt, zc_i_nxe, zc_i_cn, zc_i_ro, zc_b_let, zc_b_rok, zc_b_zon, zc_b_shr, zc_b_pre, zc_b_nm, zc_b_shn, zc_b_big, zc_v_atn, zc_v_rn, List.map_nil, List.map_cons, B2.ofInts, B2.denI, B2.denB, if_true, Bool.false_eq_true, if_false, Nat.div_one, Nat.mul_one, Nat.add_zero, holds] at hc
  simp only [patsTyp, patTyp, patTypL, zc_E, denV, denL, List.getD_cons_zero, List.getD_cons_succ, and_true, true_and] at hty
  have hL_l : typ (.sl (.cons (.int .i64) (.cons (.int .i64) (.cons .str .nil)))) l := by first | exact hty | exact hty.1 | exact hty.2 | exact hty.1.1 | exact hty.1.2 | exact hty.2.1 | exact hty.2.2 | exact hty.2.2.1 | exact hty.2.2.2
  have hN_l := typ_len (n := 3) hL_l rfl (by omega)
  unfold rat_tree
  simp only [Tree.holds, Sy.holds, AllN, Env.more, zc_E, List.cons_append, List.nil_append, List.append_nil, denV, denI, denB, denL, I2.den, VOp.den, List.getD_cons_zero, List.getD_cons_succ, Cst.den, syso, syse, syio, sybo, zc_i_ixl, zc_i_lst, zc_i_chk, zc_i_srch, zc_i_ato, zc_i_nxt, zc_i_nxe, zc_i_cn, zc_i_ro, zc_b_let, zc_b_rok, zc_b_zon, zc_b_shr, zc_b_pre, zc_b_nm, zc_b_shn, zc_b_big, zc_v_atn, zc_v_rn, List.map_nil, List.map_cons, B2.ofInts, B2.denI, B2.denB, if_true, Bool.false_eq_true, if_false, Nat.div_one, Nat.mul_one, Nat.add_zero]
  refine ⟨?_, ?_⟩
  ·
    exact ⟨by omega, by omega, rfl, ba_beq.2 rfl⟩
  ·
    intro i0a i0b i0c hi0
    refine ⟨fun h0 => ?_, fun h0 => ?_⟩
    ·
      refine ⟨?_, fun h1 => ?_⟩
      ·
        omega
      ·
        refine ⟨fun h2 => ?_, fun h2 => ?_⟩
        ·
          refine ⟨?_, fun h3 => ?_⟩
          ·
            omega
          ·
            refine ⟨?_, fun h4 => ?_⟩
            ·
              omega
            ·
              have wf0 := wr_i64 (i0b + 1)
              refine ⟨?_, ?_⟩
              ·
                obtain ⟨hi1, hi2, hi3, hi4⟩ := hi0
                have e : IntKind.wrap .i64 (i0b + 1) = i0b + 1 := by omega
                rw [e, show (i0b + 1).toNat = i0b.toNat + 1 by omega]
                first
                | (rw [ro_no (by omega), rn_no (by omega)]
                   exact ⟨by omega, by omega, hi3, hi4⟩)
                | (rw [ro_yes (by omega), rn_yes (by omega)]
                   exact ⟨by omega, by omega, rfl, ba_beq.2 rfl⟩)
              ·
                omega
        ·
          have wf1 := wr_i64 (i0b + 1)
          refine ⟨?_, ?_⟩
          ·
            obtain ⟨hi1, hi2, hi3, hi4⟩ := hi0
            have e : IntKind.wrap .i64 (i0b + 1) = i0b + 1 := by omega
            rw [e, show (i0b + 1).toNat = i0b.toNat + 1 by omega]
            first
            | (rw [ro_no (by omega), rn_no (by omega)]
               exact ⟨by omega, by omega, hi3, hi4⟩)
            | (rw [ro_yes (by omega), rn_yes (by omega)]
               exact ⟨by omega, by omega, rfl, ba_beq.2 rfl⟩)
          ·
            omega
    ·
      have hz := (zone_iff _ _ _).1 hc
      obtain ⟨hi1, hi2, hi3, hi4⟩ := hi0
      have e : i0b.toNat = (Sy.rows l).length / 3 := by omega
      have hk := refK_cnt (d := sec) hz.2.2.2 (Nat.le_refl _)
      rw [← srch_cnt] at hk
      rw [ba_beq] at hi4
      rw [hi3, hi4, e]
      simp only [roI, rnS, atO, atN, hk, if_pos hc]
theorem zc_g_rat : zc_c_rat.Good Tryd.prog syG (zc_E [] [] [] []) := good_of_walk (Γ := ⟨[], syG⟩) (ρ := zc_E [] [] [] []) sym rat_w rfl (fun _ _ _ _ => ok_nil) (fun fst sec l nm hc hty => rat_h fst sec l nm hc hty)
def rnx_tree : Tree :=
 (.loop ⟨1, 0, 0, 0⟩ (.b2 .and (.b2 .le (.lit (0)) (.lit (0))) (.b2 .and (.b2 .le (.lit (0)) (.ofI (.vop (.len 3) (.cons (.opq 0) .nil)))) (.b2 .eq (.iapp 7 (.cons (.opq 0) (.cons (.int .i64 (.var 1)) (.cons (.int .i64 (.lit (0))) .nil)))) (.lit (0))))) (.b2 .and (.b2 .le (.lit (0)) (.var 2)) (.b2 .and (.b2 .le (.var 2) (.ofI (.vop (.len 3) (.cons (.opq 0) .nil)))) (.b2 .eq (.iapp 7 (.cons (.opq 0) (.cons (.int .i64 (.var 1)) (.cons (.int .i64 (.var 2)) .nil)))) (.var 2))))
 (.br (.b2 .lt (.var 2) (.ofI (.vop (.len 3) (.cons (.opq 0) .nil))))
 (.need (.b2 .and (.b2 .le (.lit (0)) (.var 2)) (.b2 .lt (.var 2) (.ofI (.vop (.len 3) (.cons (.opq 0) .nil)))))
 (.br (.b2 .lt (.var 1) (.ofI (.vop (.sel 3 0) (.cons (.opq 0) (.cons (.int .i64 (.var 2)) .nil)))))
 (.need (.b2 .and (.b2 .le (.lit (0)) (.var 2)) (.b2 .lt (.var 2) (.ofI (.vop (.len 3) (.cons (.opq 0) .nil)))))
 (.ret (.tup (.cons (.int .i64 (.ofI (.vop (.sel 3 0) (.cons (.opq 0) (.cons (.int .i64 (.var 2)) .nil))))) (.cons (.int .i64 (.lit (0))) .nil)))))
 (.back (.b2 .and (.b2 .le (.lit (0)) (.wrap .i64 (.i2 .add (.var 2) (.lit (1))))) (.b2 .and (.b2 .le (.wrap .i64 (.i2 .add (.var 2) (.lit (1)))) (.ofI (.vop (.len 3) (.cons (.opq 0) .nil)))) (.b2 .eq (.iapp 7 (.cons (.opq 0) (.cons (.int .i64 (.var 1)) (.cons (.int .i64 (.wrap .i64 (.i2 .add (.var 2) (.lit (1))))) .nil)))) (.wrap .i64 (.i2 .add (.var 2) (.lit (1))))))) (.i2 .sub (.ofI (.vop (.len 3) (.cons (.opq 0) .nil))) (.wrap .i64 (.i2 .add (.var 2) (.lit (1))))) (.i2 .sub (.ofI (.vop (.len 3) (.cons (.opq 0) .nil))) (.var 2)))))
 (.ret (.tup (.cons (.int .i64 (.lit (0))) (.cons (.int .i64 (.lit (6))) .nil))))))
abbrev zc_c_rnx : Con := ⟨43, [(.agg (.cons (.str 0) (.cons (.int .i64 (.var 0)) (.cons (.hs .no (.cons (.int .i64) (.cons (.int .i64) (.cons .str .nil))) (.opq 0)) .nil)))), (.int .i64 (.var 1))], (.bapp 2 (.cons (.str 0) (.cons (.int .i64 (.var 0)) (.cons (.opq 0) .nil)))), (.tup (.cons (.int .i64 (.iapp 5 (.cons (.str 0) (.cons (.int .i64 (.var 0)) (.cons (.opq 0) (.cons (.int .i64 (.var 1)) .nil)))))) (.cons (.int .i64 (.iapp 6 (.cons (.str 0) (.cons (.int .i64 (.var 0)) (.cons (.opq 0) (.cons (.int .i64 (.var 1)) .nil)))))) .nil))), ⟨2, 0, 1, 1⟩, none⟩
theorem rnx_w : walk Tryd.prog 108 ⟨[], syG⟩ [⟨0, ⟨1, 0, 0, 0⟩, [(6, (.int .i64 (.var 2)))], none, (.b2 .and (.b2 .le (.lit (0)) (.var 2)) (.b2 .and (.b2 .le (.var 2) (.ofI (.vop (.len 3) (.cons (.opq 0) .nil)))) (.b2 .eq (.iapp 7 (.cons (.opq 0) (.cons (.int .i64 (.var 1)) (.cons (.int .i64 (.var 2)) .nil)))) (.var 2)))), (.i2 .sub (.ofI (.vop (.len 3) (.cons (.opq 0) .nil))) (.var 2)), 0, []⟩] .v zc_c_rnx zc_c_rnx.n 3000 = some rnx_tree := by kernel_rfl
theorem rnx_h (fst : Int) (sec : Int) (l : Value) (nm : ByteArray) (hc : holds (zc_E [fst, sec] [] [l] [nm]) (.bapp 2 (.cons (.str 0) (.cons (.int .i64 (.var 0)) (.cons (.opq 0) .nil))))) (hty : patsTyp (zc_E [fst, sec] [] [l] [nm]) [(.agg (.cons (.str 0) (.cons (.int .i64 (.var 0)) (.cons (.hs .no (.cons (.int .i64) (.cons (.int .i64) (.cons .str .nil))) (.opq 0)) .nil)))), (.int .i64 (.var 1))]) : rnx_tree.holds (fun d => d = denV (zc_E [fst, sec] [] [l] [nm]) b0 (.tup (.cons (.int .i64 (.iapp 5 (.cons (.str 0) (.cons (.int .i64 (.var 0)) (.cons (.opq 0) (.cons (.int .i64 (.var 1)) .nil)))))) (.cons (.int .i64 (.iapp 6 (.cons (.str 0) (.cons (.int .i64 (.var 0)) (.cons (.opq 0) (.cons (.int .i64 (.var 1)) .nil)))))) .nil)))) (zc_E [fst, sec] [] [l] [nm]) := by
  simp only [Tree.holds, Sy.holds, AllN, Env.more, zc_E, List.cons_append, List.nil_append, List.append_nil, denV, denI, denB, denL, I2.den, VOp.den, List.getD_cons_zero, List.getD_cons_succ, Cst.den, syso, syse, syio, sybo, zc_i_ixl, zc_i_lst, zc_i_chk, zc_i_srch, zc_i_ato, zc_i_nxt, zc_i_nxe, zc_i_cn, zc_i_ro, zc_b_let, zc_b_rok, zc_b_zon, zc_b_shr, zc_b_pre, zc_b_nm, zc_b_shn, zc_b_big, zc_v_atn, zc_v_rn, List.map_nil, List.map_cons, B2.ofInts, B2.denI, B2.denB, if_true, Bool.false_eq_true, if_false, Nat.div_one, Nat.mul_one, Nat.add_zero, holds] at hc
  simp only [patsTyp, patTyp, patTypL, zc_E, denV, denL, List.getD_cons_zero, List.getD_cons_succ, and_true, true_and] at hty
  have hL_l : typ (.sl (.cons (.int .i64) (.cons (.int .i64) (.cons .str .nil)))) l := by first | exact hty | exact hty.1 | exact hty.2 | exact hty.1.1 | exact hty.1.2 | exact hty.2.1 | exact hty.2.2 | exact hty.2.2.1 | exact hty.2.2.2
  have hN_l := typ_len (n := 3) hL_l rfl (by omega)
  unfold rnx_tree
  simp only [Tree.holds, Sy.holds, AllN, Env.more, zc_E, List.cons_append, List.nil_append, List.append_nil, denV, denI, denB, denL, I2.den, VOp.den, List.getD_cons_zero, List.getD_cons_succ, Cst.den, syso, syse, syio, sybo, zc_i_ixl, zc_i_lst, zc_i_chk, zc_i_srch, zc_i_ato, zc_i_nxt, zc_i_nxe, zc_i_cn, zc_i_ro, zc_b_let, zc_b_rok, zc_b_zon, zc_b_shr, zc_b_pre, zc_b_nm, zc_b_shn, zc_b_big, zc_v_atn, zc_v_rn, List.map_nil, List.map_cons, B2.ofInts, B2.denI, B2.denB, if_true, Bool.false_eq_true, if_false, Nat.div_one, Nat.mul_one, Nat.add_zero]
  refine ⟨?_, ?_⟩
  ·
    exact ⟨by omega, by omega, rfl⟩
  ·
    intro i0a hi0
    refine ⟨fun h0 => ?_, fun h0 => ?_⟩
    ·
      refine ⟨?_, fun h1 => ?_⟩
      ·
        omega
      ·
        refine ⟨fun h2 => ?_, fun h2 => ?_⟩
        ·
          refine ⟨?_, fun h3 => ?_⟩
          ·
            omega
          ·
            have hz := (zone_iff _ _ _).1 hc
            obtain ⟨hi1, hi2, hi3⟩ := hi0
            first
            | (have hk := cntN_high (k := i0a.toNat) hz.2.2.2 (by omega) (n := (Sy.rows l).length / 3) (by omega) (Nat.le_refl _)
               rw [← srch_cnt] at hk
               have e0 : srchN (Sy.rows l) sec = i0a.toNat := by omega
               have e1 : ¬ srchN (Sy.rows l) sec = (Sy.rows l).length / 3 := by omega
               simp only [nxtI, nxtE, if_pos hc, if_neg e1]
               rw [e0])
            | (have e : i0a.toNat = (Sy.rows l).length / 3 := by omega
               rw [e] at hi3
               have e1 : srchN (Sy.rows l) sec = (Sy.rows l).length / 3 := by rw [srch_cnt]; omega
               simp only [nxtI, nxtE, if_pos hc, if_pos e1])
        ·
          have wf0 := wr_i64 (i0a + 1)
          refine ⟨?_, ?_⟩
          ·
            obtain ⟨hi1, hi2, hi3⟩ := hi0
            have e : IntKind.wrap .i64 (i0a + 1) = i0a + 1 := by omega
            rw [e, show (i0a + 1).toNat = i0a.toNat + 1 by omega, cntN_succ, if_neg (by omega)]
            exact ⟨by omega, by omega, by omega⟩
          ·
            omega
    ·
      have hz := (zone_iff _ _ _).1 hc
      obtain ⟨hi1, hi2, hi3⟩ := hi0
      first
      | (have hk := cntN_high (k := i0a.toNat) hz.2.2.2 (by omega) (n := (Sy.rows l).length / 3) (by omega) (Nat.le_refl _)
         rw [← srch_cnt] at hk
         have e0 : srchN (Sy.rows l) sec = i0a.toNat := by omega
         have e1 : ¬ srchN (Sy.rows l) sec = (Sy.rows l).length / 3 := by omega
         simp only [nxtI, nxtE, if_pos hc, if_neg e1]
         rw [e0])
      | (have e : i0a.toNat = (Sy.rows l).length / 3 := by omega
         rw [e] at hi3
         have e1 : srchN (Sy.rows l) sec = (Sy.rows l).length / 3 := by rw [srch_cnt]; omega
         simp only [nxtI, nxtE, if_pos hc, if_pos e1])
theorem zc_g_rnx : zc_c_rnx.Good Tryd.prog syG (zc_E [] [] [] []) := good_of_walk (Γ := ⟨[], syG⟩) (ρ := zc_E [] [] [] []) sym rnx_w rfl (fun _ _ _ _ => ok_nil) (fun fst sec l nm hc hty => rnx_h fst sec l nm hc hty)
def lbig_tree : Tree :=
 (.loop ⟨1, 0, 0, 0⟩ (.b2 .and (.b2 .le (.lit (0)) (.lit (0))) (.b2 .and (.b2 .le (.lit (0)) (.ofI (.vop (.len 3) (.cons (.opq 0) .nil)))) (.b2 .and (.b2 .le (.lit (0)) (.lit (60))) (.bapp 6 (.cons (.opq 0) (.cons (.int .i64 (.lit (0))) .nil)))))) (.b2 .and (.b2 .le (.lit (0)) (.var 1)) (.b2 .and (.b2 .le (.var 1) (.ofI (.vop (.len 3) (.cons (.opq 0) .nil)))) (.b2 .and (.b2 .le (.var 1) (.lit (60))) (.bapp 6 (.cons (.opq 0) (.cons (.int .i64 (.var 1)) .nil))))))
 (.br (.b2 .lt (.var 1) (.ofI (.vop (.len 3) (.cons (.opq 0) .nil))))
 (.br (.b2 .lt (.var 1) (.lit (60)))
 (.need (.b2 .and (.b2 .le (.lit (0)) (.var 1)) (.b2 .lt (.var 1) (.ofI (.vop (.len 3) (.cons (.opq 0) .nil)))))
 (.br (.b2 .lt (.lit (200)) (.blen (.vop (.ssel 3 2) (.cons (.opq 0) (.cons (.int .i64 (.var 1)) .nil)))))
 (.ret (.bool (.tt true)))
 (.back (.b2 .and (.b2 .le (.lit (0)) (.wrap .i64 (.i2 .add (.var 1) (.lit (1))))) (.b2 .and (.b2 .le (.wrap .i64 (.i2 .add (.var 1) (.lit (1)))) (.ofI (.vop (.len 3) (.cons (.opq 0) .nil)))) (.b2 .and (.b2 .le (.wrap .i64 (.i2 .add (.var 1) (.lit (1)))) (.lit (60))) (.bapp 6 (.cons (.opq 0) (.cons (.int .i64 (.wrap .i64 (.i2 .add (.var 1) (.lit (1))))) .nil)))))) (.i2 .sub (.ofI (.vop (.len 3) (.cons (.opq 0) .nil))) (.wrap .i64 (.i2 .add (.var 1) (.lit (1))))) (.i2 .sub (.ofI (.vop (.len 3) (.cons (.opq 0) .nil))) (.var 1)))))
 (.br (.b2 .lt (.lit (60)) (.ofI (.vop (.len 3) (.cons (.opq 0) .nil))))
 (.ret (.bool (.tt true)))
 (.ret (.bool (.b2 .lt (.lit (200)) (.blen (.str 0)))))))
 (.br (.b2 .lt (.lit (60)) (.ofI (.vop (.len 3) (.cons (.opq 0) .nil))))
 (.ret (.bool (.tt true)))
 (.ret (.bool (.b2 .lt (.lit (200)) (.blen (.str 0))))))))
abbrev zc_c_lbig : Con := ⟨33, [(.agg (.cons (.str 0) (.cons (.int .i64 (.var 0)) (.cons (.hs .no (.cons (.int .i64) (.cons (.int .i64) (.cons .str .nil))) (.opq 0)) .nil))))], (.tt true), (.bool (.bapp 7 (.cons (.str 0) (.cons (.opq 0) .nil)))), ⟨1, 0, 1, 1⟩, none⟩
theorem lbig_w : walk Tryd.prog 108 ⟨[], syG⟩ [⟨0, ⟨1, 0, 0, 0⟩, [(3, (.int .i64 (.var 1)))], none, (.b2 .and (.b2 .le (.lit (0)) (.var 1)) (.b2 .and (.b2 .le (.var 1) (.ofI (.vop (.len 3) (.cons (.opq 0) .nil)))) (.b2 .and (.b2 .le (.var 1) (.lit (60))) (.bapp 6 (.cons (.opq 0) (.cons (.int .i64 (.var 1)) .nil)))))), (.i2 .sub (.ofI (.vop (.len 3) (.cons (.opq 0) .nil))) (.var 1)), 0, []⟩] .v zc_c_lbig zc_c_lbig.n 3000 = some lbig_tree := by kernel_rfl
theorem lbig_h (fst : Int) (l : Value) (nm : ByteArray) (hc : holds (zc_E [fst] [] [l] [nm]) (.tt true)) (hty : patsTyp (zc_E [fst] [] [l] [nm]) [(.agg (.cons (.str 0) (.cons (.int .i64 (.var 0)) (.cons (.hs .no (.cons (.int .i64) (.cons (.int .i64) (.cons .str .nil))) (.opq 0)) .nil))))]) : lbig_tree.holds (fun d => d = denV (zc_E [fst] [] [l] [nm]) b0 (.bool (.bapp 7 (.cons (.str 0) (.cons (.opq 0) .nil))))) (zc_E [fst] [] [l] [nm]) := by
  simp only [Tree.holds, Sy.holds, AllN, Env.more, zc_E, List.cons_append, List.nil_append, List.append_nil, denV, denI, denB, denL, I2.den, VOp.den, List.getD_cons_zero, List.getD_cons_succ, Cst.den, syso, syse, syio, sybo, zc_i_ixl, zc_i_lst, zc_i_chk, zc_i_srch, zc_i_ato, zc_i_nxt, zc_i_nxe, zc_i_cn, zc_i_ro, zc_b_let, zc_b_rok, zc_b_zon, zc_b_shr, zc_b_pre, zc_b_nm, zc_b_shn, zc_b_big, zc_v_atn, zc_v_rn, List.map_nil, List.map_cons, B2.ofInts, B2.denI, B2.denB, if_true, Bool.false_eq_true, if_false, Nat.div_one, Nat.mul_one, Nat.add_zero, holds] at hc
  simp only [patsTyp, patTyp, patTypL, zc_E, denV, denL, List.getD_cons_zero, List.getD_cons_succ, and_true, true_and] at hty
  have hL_l : typ (.sl (.cons (.int .i64) (.cons (.int .i64) (.cons .str .nil)))) l := by first | exact hty | exact hty.1 | exact hty.2 | exact hty.1.1 | exact hty.1.2 | exact hty.2.1 | exact hty.2.2 | exact hty.2.2.1 | exact hty.2.2.2
  have hN_l := typ_len (n := 3) hL_l rfl (by omega)
  unfold lbig_tree
  simp only [Tree.holds, Sy.holds, AllN, Env.more, zc_E, List.cons_append, List.nil_append, List.append_nil, denV, denI, denB, denL, I2.den, VOp.den, List.getD_cons_zero, List.getD_cons_succ, Cst.den, syso, syse, syio, sybo, zc_i_ixl, zc_i_lst, zc_i_chk, zc_i_srch, zc_i_ato, zc_i_nxt, zc_i_nxe, zc_i_cn, zc_i_ro, zc_b_let, zc_b_rok, zc_b_zon, zc_b_shr, zc_b_pre, zc_b_nm, zc_b_shn, zc_b_big, zc_v_atn, zc_v_rn, List.map_nil, List.map_cons, B2.ofInts, B2.denI, B2.denB, if_true, Bool.false_eq_true, if_false, Nat.div_one, Nat.mul_one, Nat.add_zero]
  refine ⟨?_, ?_⟩
  ·
    exact ⟨by omega, by omega, by omega, rfl⟩
  ·
    intro i0a hi0
    refine ⟨fun h0 => ?_, fun h0 => ?_⟩
    ·
      refine ⟨fun h1 => ?_, fun h1 => ?_⟩
      ·
        refine ⟨?_, fun h2 => ?_⟩
        ·
          omega
        ·
          refine ⟨fun h3 => ?_, fun h3 => ?_⟩
          ·
            obtain ⟨hi1, hi2, hi3, hi4⟩ := hi0
            first
            | (have hm : shN (Sy.rows l) (min ((Sy.rows l).length / 3) 60) = false := Bool.eq_false_iff.2 fun h => by
                 have := shN_get h (k := i0a.toNat) (by omega)
                 omega
               simp only [bigB, hm, Bool.not_false, Bool.true_or]
               done)
            | (have hm : shN (Sy.rows l) (min ((Sy.rows l).length / 3) 60) = true := by
                 rw [show min ((Sy.rows l).length / 3) 60 = i0a.toNat by omega]
                 exact hi4
               refine congrArg Value.bool (Bool.eq_iff_iff.2 ?_)
               simp only [bigB, hm, Bool.not_true, Bool.false_or, Bool.or_eq_true, decide_eq_true_eq, true_iff]
               omega)
          ·
            have wf0 := wr_i64 (i0a + 1)
            refine ⟨?_, ?_⟩
            ·
              obtain ⟨hi1, hi2, hi3, hi4⟩ := hi0
              have e : IntKind.wrap .i64 (i0a + 1) = i0a + 1 := by omega
              rw [e, show (i0a + 1).toNat = i0a.toNat + 1 by omega, shN_succ, hi4]
              exact ⟨by omega, by omega, by omega, by simp only [Bool.true_and, decide_eq_true_eq]; omega⟩
            ·
              omega
      ·
        refine ⟨fun h4 => ?_, fun h4 => ?_⟩
        ·
          obtain ⟨hi1, hi2, hi3, hi4⟩ := hi0
          first
          | (have hm : shN (Sy.rows l) (min ((Sy.rows l).length / 3) 60) = false := Bool.eq_false_iff.2 fun h => by
               have := shN_get h (k := i0a.toNat) (by omega)
               omega
             simp only [bigB, hm, Bool.not_false, Bool.true_or]
             done)
          | (have hm : shN (Sy.rows l) (min ((Sy.rows l).length / 3) 60) = true := by
               rw [show min ((Sy.rows l).length / 3) 60 = i0a.toNat by omega]
               exact hi4
             refine congrArg Value.bool (Bool.eq_iff_iff.2 ?_)
             simp only [bigB, hm, Bool.not_true, Bool.false_or, Bool.or_eq_true, decide_eq_true_eq, true_iff]
             omega)
        ·
          obtain ⟨hi1, hi2, hi3, hi4⟩ := hi0
          first
          | (have hm : shN (Sy.rows l) (min ((Sy.rows l).length / 3) 60) = false := Bool.eq_false_iff.2 fun h => by
               have := shN_get h (k := i0a.toNat) (by omega)
               omega
             simp only [bigB, hm, Bool.not_false, Bool.true_or]
             done)
          | (have hm : shN (Sy.rows l) (min ((Sy.rows l).length / 3) 60) = true := by
               rw [show min ((Sy.rows l).length / 3) 60 = i0a.toNat by omega]
               exact hi4
             refine congrArg Value.bool (Bool.eq_iff_iff.2 ?_)
             simp only [bigB, hm, Bool.not_true, Bool.false_or, Bool.or_eq_true, decide_eq_true_eq, true_iff]
             omega)
    ·
      refine ⟨fun h5 => ?_, fun h5 => ?_⟩
      ·
        obtain ⟨hi1, hi2, hi3, hi4⟩ := hi0
        first
        | (have hm : shN (Sy.rows l) (min ((Sy.rows l).length / 3) 60) = false := Bool.eq_false_iff.2 fun h => by
             have := shN_get h (k := i0a.toNat) (by omega)
             omega
           simp only [bigB, hm, Bool.not_false, Bool.true_or]
           done)
        | (have hm : shN (Sy.rows l) (min ((Sy.rows l).length / 3) 60) = true := by
             rw [show min ((Sy.rows l).length / 3) 60 = i0a.toNat by omega]
             exact hi4
           refine congrArg Value.bool (Bool.eq_iff_iff.2 ?_)
           simp only [bigB, hm, Bool.not_true, Bool.false_or, Bool.or_eq_true, decide_eq_true_eq, true_iff]
           omega)
      ·
        obtain ⟨hi1, hi2, hi3, hi4⟩ := hi0
        first
        | (have hm : shN (Sy.rows l) (min ((Sy.rows l).length / 3) 60) = false := Bool.eq_false_iff.2 fun h => by
             have := shN_get h (k := i0a.toNat) (by omega)
             omega
           simp only [bigB, hm, Bool.not_false, Bool.true_or]
           done)
        | (have hm : shN (Sy.rows l) (min ((Sy.rows l).length / 3) 60) = true := by
             rw [show min ((Sy.rows l).length / 3) 60 = i0a.toNat by omega]
             exact hi4
           refine congrArg Value.bool (Bool.eq_iff_iff.2 ?_)
           simp only [bigB, hm, Bool.not_true, Bool.false_or, Bool.or_eq_true, decide_eq_true_eq, true_iff]
           omega)
theorem zc_g_lbig : zc_c_lbig.Good Tryd.prog syG (zc_E [] [] [] []) := good_of_walk (Γ := ⟨[], syG⟩) (ρ := zc_E [] [] [] []) sym lbig_w rfl (fun _ _ _ _ => ok_nil) (fun fst l nm hc hty => lbig_h fst l nm hc hty)
end Go.Proofs.YtehiienjodicpaaDoor
