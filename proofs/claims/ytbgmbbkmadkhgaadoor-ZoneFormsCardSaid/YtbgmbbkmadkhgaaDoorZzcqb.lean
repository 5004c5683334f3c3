/-
  Layer 10 behind the blobs: the reference.
-/
import Derived.Test.YtbgmbbkmadkhgaaDoorSycqb
import Derived.Test.YtbgmbbkmadkhgaaDoorZzbqb
namespace Go.Proofs.YtbgmbbkmadkhgaaDoor
open Go.RowKit Go.Extern.Stop Go.Stop Go.Extern Go.Proofs.YtbgmbbkmadkhgaaDoor.Sy
set_option linter.unusedVariables false
set_option linter.unusedSimpArgs false
theorem ba_beq {a b : ByteArray} : (a == b) = true ↔ a = b := by
  cases a with | mk a => cases b with | mk b =>
  rw [ByteArray.mk.injEq, ← beq_iff_eq (a := a)]
  rfl
def cntN (l : List Value) (d : Int) (n : Nat) : Nat := (List.range n).countP fun i => !decide (d < Go.RowKit.intOf (l.getD (i * 3) Go.undef))
def refK (l : List Value) (d : Int) : Nat → Nat
  | 0 => 0
  | n + 1 => if Go.RowKit.intOf (l.getD (n * 3) Go.undef) ≤ d then n + 1 else refK l d n
def roI (f : Int) (l : List Value) (d : Int) (n : Nat) : Int := if refK l d n = 0 then f else Go.RowKit.intOf (l.getD ((refK l d n - 1) * 3 + 1) Go.undef)
def rnS (s : ByteArray) (l : List Value) (d : Int) (n : Nat) : ByteArray := if refK l d n = 0 then s else strOf (l.getD ((refK l d n - 1) * 3 + 2) Go.undef)
def shN (l : List Value) (n : Nat) : Bool := (List.range n).all fun k => decide ((strOf (l.getD (k * 3 + 2) Go.undef)).size ≤ 200)
theorem shN_succ (l : List Value) (n : Nat) : shN l (n + 1) = (shN l n && decide ((strOf (l.getD (n * 3 + 2) Go.undef)).size ≤ 200)) := by
  unfold shN; rw [List.range_succ, List.all_append]; simp
theorem shN_get {l : List Value} {n k : Nat} (h : shN l n = true) (hk : k < n) : (strOf (l.getD (k * 3 + 2) Go.undef)).size ≤ 200 := by
  have := List.all_eq_true.1 h k (List.mem_range.2 hk)
  simpa using this
def bigB (s : ByteArray) (l : List Value) : Bool := !(shN l (min (l.length / 3) 60)) || decide (60 < l.length / 3) || decide (200 < s.size)
theorem big_no {s : ByteArray} {l : List Value} (h : bigB s l = false) : s.size ≤ 200 ∧ l.length / 3 ≤ 60 ∧ shortR l = true := by
  simp only [bigB, Bool.or_eq_false_iff, Bool.not_eq_false', decide_eq_false_iff_not] at h
  obtain ⟨⟨h1, h2⟩, h3⟩ := h
  rw [show min (l.length / 3) 60 = l.length / 3 by omega] at h1
  exact ⟨by omega, by omega, List.all_eq_true.2 fun k hk => decide_eq_true (Nat.le_trans (shN_get h1 (List.mem_range.1 hk)) (by decide))⟩
noncomputable def zzcI : Nat → List Value → Int
  | 17, [l, .int _ d, .int _ n] => ((cntN (rows l) d n.toNat : Nat) : Int)
  | 18, [.int _ f, l, .int _ d, .int _ n] => roI f (rows l) d n.toNat
  | i, l => zzbI i l
noncomputable def zzcB : Nat → List Value → Bool
  | 10, [l, .int _ n] => shN (rows l) n.toNat
  | 11, [.string s, l] => bigB s (rows l)
  | i, l => zzbB i l
noncomputable def zzcV : Nat → List Value → Value
  | 13, [.string s, l, .int _ d, .int _ n] => .string (rnS s (rows l) d n.toNat)
  | i, l => zzbV i l
noncomputable abbrev zzcE (iv : List Int) (bv : List Bool) (vv : List Value) (sv : List ByteArray) : Env := { iv := iv, bv := bv, vv := vv, sv := sv, fi := zzcI, fb := zzcB, fv := zzcV, et := 203 }
set_option maxHeartbeats 8000000 in
theorem zzcup : Agree 17 10 13 (zzbE [] [] [] []) (zzcE [] [] [] []) := ⟨rfl, (by
    intro f hf
    funext l
    show zzcI f l = zzbI f l
    unfold zzcI
    split <;> first | rfl | omega), (by
    intro f hf
    funext l
    show zzcB f l = zzbB f l
    unfold zzcB
    split <;> first | rfl | omega), (by
    intro f hf
    funext l
    show zzcV f l = zzbV f l
    unfold zzcV
    split <;> first | rfl | omega)⟩
theorem zzcb_shn (l : Value) (k1 : IntKind) (n : Int) : zzcB 10 [l, .int k1 n] = shN (rows l) n.toNat := rfl
theorem zzcb_big (s : ByteArray) (l : Value) : zzcB 11 [.string s, l] = bigB s (rows l) := rfl
def lbig_tree : Tree :=
 (.loop ⟨1, 0, 0, 0⟩ (an_ (le_ (.lit 0) (.lit 0)) (an_ (le_ (.lit 0) (.ofI (.vop (.len 3) (.cons o0_ .nil)))) (an_ (le_ (.lit 0) (.lit 60)) (.bapp 10 (.cons o0_ (.cons (.int .i64 (.lit 0)) .nil)))))) (an_ (le_ (.lit 0) v1_) (an_ (le_ v1_ (.ofI (.vop (.len 3) (.cons o0_ .nil)))) (an_ (le_ v1_ (.lit 60)) (.bapp 10 (.cons o0_ (.cons z1_ .nil))))))
 (.br (lt_ v1_ (.ofI (.vop (.len 3) (.cons o0_ .nil))))
 (.br (lt_ v1_ (.lit 60))
 (.need (an_ (le_ (.lit 0) v1_) (lt_ v1_ (.ofI (.vop (.len 3) (.cons o0_ .nil)))))
 (.br (lt_ (.lit 200) (.blen (.vop (.ssel 3 2) (.cons o0_ (.cons z1_ .nil)))))
 (.ret (.bool (.tt true)))
 (.back (an_ (le_ (.lit 0) (wr_ (ad_ v1_ (.lit 1)))) (an_ (le_ (wr_ (ad_ v1_ (.lit 1))) (.ofI (.vop (.len 3) (.cons o0_ .nil)))) (an_ (le_ (wr_ (ad_ v1_ (.lit 1))) (.lit 60)) (.bapp 10 (.cons o0_ (.cons (.int .i64 (wr_ (ad_ v1_ (.lit 1)))) .nil)))))) (sb_ (.ofI (.vop (.len 3) (.cons o0_ .nil))) (wr_ (ad_ v1_ (.lit 1)))) (sb_ (.ofI (.vop (.len 3) (.cons o0_ .nil))) v1_))))
 (.br (lt_ (.lit 60) (.ofI (.vop (.len 3) (.cons o0_ .nil))))
 (.ret (.bool (.tt true)))
 (.ret (.bool (lt_ (.lit 200) (.blen (.str 0)))))))
 (.br (lt_ (.lit 60) (.ofI (.vop (.len 3) (.cons o0_ .nil))))
 (.ret (.bool (.tt true)))
 (.ret (.bool (lt_ (.lit 200) (.blen (.str 0))))))))
abbrev zzcc_lbig : Con := ⟨40, [(.agg (.cons (.str 0) (.cons z0_ (.cons (.hs .no (.cons (.int .i64) (.cons (.int .i64) (.cons .str .nil))) o0_) .nil))))], (.tt true), (.bool (.bapp 11 (.cons (.str 0) (.cons o0_ .nil)))), ⟨1, 0, 1, 1⟩, none⟩
theorem lbig_w : walk Tryd.prog 203 ⟨[], syG, [], [], []⟩ [⟨0, ⟨1, 0, 0, 0⟩, [(3, z1_)], none, (an_ (le_ (.lit 0) v1_) (an_ (le_ v1_ (.ofI (.vop (.len 3) (.cons o0_ .nil)))) (an_ (le_ v1_ (.lit 60)) (.bapp 10 (.cons o0_ (.cons z1_ .nil)))))), (sb_ (.ofI (.vop (.len 3) (.cons o0_ .nil))) v1_), 0, []⟩] .v zzcc_lbig zzcc_lbig.n 3000 = some lbig_tree := by kernel_rfl
theorem lbig_h (fst : Int) (l : Value) (nm : ByteArray) (hc : holds (zzcE [fst] [] [l] [nm]) (.tt true)) (hty : patsTyp (zzcE [fst] [] [l] [nm]) [(.agg (.cons (.str 0) (.cons z0_ (.cons (.hs .no (.cons (.int .i64) (.cons (.int .i64) (.cons .str .nil))) o0_) .nil))))]) : lbig_tree.holds (fun v_ => v_ = denV (zzcE [fst] [] [l] [nm]) b0 (.bool (.bapp 11 (.cons (.str 0) (.cons o0_ .nil))))) (zzcE [fst] [] [l] [nm]) := by
  simp only [Tree.holds, Sy.holds, AllN, Env.more, zzcE, List.cons_append, List.nil_append, List.append_nil, denV, denI, denB, denL, I2.den, VOp.den, List.getD_cons_zero, List.getD_cons_succ, Cst.den, syso, syse, syio, sybo, List.map_nil, List.map_cons, B2.ofInts, B2.denI, B2.denB, if_true, Bool.false_eq_true, if_false, Nat.div_one, Nat.mul_one, Nat.add_zero, holds] at hc
  simp only [patsTyp, patTyp, patTypL, zzcE, denV, denL, List.getD_cons_zero, List.getD_cons_succ, and_true, true_and] at hty
  have hL_l : typ (.sl (.cons (.int .i64) (.cons (.int .i64) (.cons .str .nil)))) l := by first | exact hty | exact hty.1 | exact hty.2 | exact hty.1.1 | exact hty.1.2 | exact hty.2.1 | exact hty.2.2 | exact hty.2.2.1 | exact hty.2.2.2
  have hN_l := typ_len (n := 3) hL_l rfl (by omega)
  unfold lbig_tree
  simp only [Tree.holds, Sy.holds, AllN, Env.more, zzcE, List.cons_append, List.nil_append, List.append_nil, denV, denI, denB, denL, I2.den, VOp.den, List.getD_cons_zero, List.getD_cons_succ, Cst.den, syso, syse, syio, sybo, zzcb_shn, zzcb_big, List.map_nil, List.map_cons, B2.ofInts, B2.denI, B2.denB, if_true, Bool.false_eq_true, if_false, Nat.div_one, Nat.mul_one, Nat.add_zero]
  refine ⟨?_, ?_⟩
  ·
   exact ⟨by omega, by omega, by omega, rfl⟩
  ·
   intro i0a hi0
   refine ⟨fun h0 => ?_, fun h0 => ?_⟩
   ·
    refine ⟨fun h1 => ?_, fun h1 => ?_⟩
    ·
     refine ⟨?_, fun h2 => ?_⟩
     ·
      omega
     ·
      refine ⟨fun h3 => ?_, fun h3 => ?_⟩
      ·
       obtain ⟨hi1, hi2, hi3, hi4⟩ := hi0
       first
       | (have hm : shN (Sy.rows l) (min ((Sy.rows l).length / 3) 60) = false := Bool.eq_false_iff.2 fun h => by
            have := shN_get h (k := i0a.toNat) (by omega)
            omega
          simp only [bigB, hm, Bool.not_false, Bool.true_or]
          done)
       | (have hm : shN (Sy.rows l) (min ((Sy.rows l).length / 3) 60) = true := by
            rw [show min ((Sy.rows l).length / 3) 60 = i0a.toNat by omega]
            exact hi4
          refine congrArg Value.bool (Bool.eq_iff_iff.2 ?_)
          simp only [bigB, hm, Bool.not_true, Bool.false_or, Bool.or_eq_true, decide_eq_true_eq, true_iff]
          omega)
      ·
       have wf0 := wr_i64 (i0a + 1)
       refine ⟨?_, ?_⟩
       ·
        obtain ⟨hi1, hi2, hi3, hi4⟩ := hi0
        have e : IntKind.wrap .i64 (i0a + 1) = i0a + 1 := by omega
        rw [e, show (i0a + 1).toNat = i0a.toNat + 1 by omega, shN_succ, hi4]
        exact ⟨by omega, by omega, by omega, by simp only [Bool.true_and, decide_eq_true_eq]; omega⟩
       ·
        omega
    ·
     refine ⟨fun h4 => ?_, fun h4 => ?_⟩
     ·
      obtain ⟨hi1, hi2, hi3, hi4⟩ := hi0
      first
      | (have hm : shN (Sy.rows l) (min ((Sy.rows l).length / 3) 60) = false := Bool.eq_false_iff.2 fun h => by
           have := shN_get h (k := i0a.toNat) (by omega)
           omega
         simp only [bigB, hm, Bool.not_false, Bool.true_or]
         done)
      | (have hm : shN (Sy.rows l) (min ((Sy.rows l).length / 3) 60) = true := by
           rw [show min ((Sy.rows l).length / 3) 60 = i0a.toNat by omega]
           exact hi4
         refine congrArg Value.bool (Bool.eq_iff_iff.2 ?_)
         simp only [bigB, hm, Bool.not_true, Bool.false_or, Bool.or_eq_true, decide_eq_true_eq, true_iff]
         omega)
     ·
      obtain ⟨hi1, hi2, hi3, hi4⟩ := hi0
      first
      | (have hm : shN (Sy.rows l) (min ((Sy.rows l).length / 3) 60) = false := Bool.eq_false_iff.2 fun h => by
           have := shN_get h (k := i0a.toNat) (by omega)
           omega
         simp only [bigB, hm, Bool.not_false, Bool.true_or]
         done)
      | (have hm : shN (Sy.rows l) (min ((Sy.rows l).length / 3) 60) = true := by
           rw [show min ((Sy.rows l).length / 3) 60 = i0a.toNat by omega]
           exact hi4
         refine congrArg Value.bool (Bool.eq_iff_iff.2 ?_)
         simp only [bigB, hm, Bool.not_true, Bool.false_or, Bool.or_eq_true, decide_eq_true_eq, true_iff]
         omega)
   ·
    refine ⟨fun h5 => ?_, fun h5 => ?_⟩
    ·
     obtain ⟨hi1, hi2, hi3, hi4⟩ := hi0
     first
     | (have hm : shN (Sy.rows l) (min ((Sy.rows l).length / 3) 60) = false := Bool.eq_false_iff.2 fun h => by
          have := shN_get h (k := i0a.toNat) (by omega)
          omega
        simp only [bigB, hm, Bool.not_false, Bool.true_or]
        done)
     | (have hm : shN (Sy.rows l) (min ((Sy.rows l).length / 3) 60) = true := by
          rw [show min ((Sy.rows l).length / 3) 60 = i0a.toNat by omega]
          exact hi4
        refine congrArg Value.bool (Bool.eq_iff_iff.2 ?_)
        simp only [bigB, hm, Bool.not_true, Bool.false_or, Bool.or_eq_true, decide_eq_true_eq, true_iff]
        omega)
    ·
     obtain ⟨hi1, hi2, hi3, hi4⟩ := hi0
     first
     | (have hm : shN (Sy.rows l) (min ((Sy.rows l).length / 3) 60) = false := Bool.eq_false_iff.2 fun h => by
          have := shN_get h (k := i0a.toNat) (by omega)
          omega
        simp only [bigB, hm, Bool.not_false, Bool.true_or]
        done)
     | (have hm : shN (Sy.rows l) (min ((Sy.rows l).length / 3) 60) = true := by
          rw [show min ((Sy.rows l).length / 3) 60 = i0a.toNat by omega]
          exact hi4
        refine congrArg Value.bool (Bool.eq_iff_iff.2 ?_)
        simp only [bigB, hm, Bool.not_true, Bool.false_or, Bool.or_eq_true, decide_eq_true_eq, true_iff]
        omega)
theorem zzcg_lbig : zzcc_lbig.Good Tryd.prog syG (zzcE [] [] [] []) := good_of_walk (Γ := ⟨[], syG, [], [], []⟩) (ρ := zzcE [] [] [] []) sym lbig_w rfl (fun _ _ _ _ => ok_nil) (fun fst l nm hc hty => lbig_h fst l nm hc hty)
end Go.Proofs.YtbgmbbkmadkhgaaDoor
