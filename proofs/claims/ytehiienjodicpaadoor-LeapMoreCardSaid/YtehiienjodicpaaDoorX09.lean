/-
  Layer 9 by symbolic walks: the program and the reference of leap seconds.
-/
import Derived.Test.YtehiienjodicpaaDoorSx
import Derived.Test.YtehiienjodicpaaDoorE01
import Derived.Test.YtehiienjodicpaaDoorM09
namespace Go.Proofs.YtehiienjodicpaaDoor
open Go.RowKit Go.Extern.Stop Go.Stop Go.Extern Go.Proofs.YtehiienjodicpaaDoor.Sx
set_option linter.unusedVariables false
set_option linter.unusedSimpArgs false
def x9I : Nat → List Value → Int
  | 0, [.int _ b, .int _ t, l] => mayI b t (intsOf l)
  | 1, [l, .int _ d, .int _ n] => (cntL (intsOf l) d n.toNat : Int)
  | 2, [l, .int _ d] => (ctL (intsOf l) d : Int)
  | 3, [l, .int _ n] => leastL (intsOf l) n.toNat
  | 4, [.int _ b, .int _ t, l, .int _ d] => wrongI b t (intsOf l) d
  | 5, [.int _ b, l, .int _ d] => secL b (intsOf l) d
  | _, _ => 0
def x9B : Nat → List Value → Bool
  | 0, [l, .int _ t, .int _ n] => okL (intsOf l) t n.toNat
  | 1, [.int _ b, .int _ t, l] => mayL b t (intsOf l)
  | _, _ => false
def x9V : Nat → List Value → Value
  | _, _ => Go.undef
abbrev x9E (iv : List Int) (bv : List Bool) (vv : List Value) (sv : List ByteArray) (sls : Nat → Slc) : Env := { sls := sls, iv := iv, bv := bv, vv := vv, sv := sv, fi := x9I, fb := x9B, fv := x9V, et := 108 }
theorem x9m : Tryd.prog.follows .mixedOrders = true := by kernel_rfl
def lahead_tree : Tree :=
 (.loop ⟨2, 0, 0, 0⟩ (.b2 .and (.b2 .and (.b2 .le (.lit (0)) (.lit (0))) (.b2 .le (.lit (0)) (.slen 0))) (.b2 .eq (.var 0) (.i2 .add (.var 0) (.iapp 1 (.cons (.slv 0) (.cons (.int .i64 (.var 2)) (.cons (.int .i64 (.lit (0))) .nil))))))) (.b2 .and (.b2 .and (.b2 .le (.lit (0)) (.var 4)) (.b2 .le (.var 4) (.slen 0))) (.b2 .eq (.var 3) (.i2 .add (.var 0) (.iapp 1 (.cons (.slv 0) (.cons (.int .i64 (.var 2)) (.cons (.int .i64 (.var 4)) .nil)))))))
 (.br (.b2 .lt (.var 4) (.slen 0))
 (.need (.b2 .and (.b2 .le (.lit (0)) (.var 4)) (.b2 .lt (.var 4) (.slen 0)))
 (.need (.b2 .and (.b2 .le (.lit (0)) (.var 4)) (.b2 .lt (.var 4) (.slen 0)))
 (.br (.b2 .lt (.sel 0 (.var 4) 0) (.var 2))
 (.back (.b2 .and (.b2 .and (.b2 .le (.lit (0)) (.wrap .i64 (.i2 .add (.var 4) (.lit (1))))) (.b2 .le (.wrap .i64 (.i2 .add (.var 4) (.lit (1)))) (.slen 0))) (.b2 .eq (.wrap .i64 (.i2 .add (.var 3) (.lit (1)))) (.i2 .add (.var 0) (.iapp 1 (.cons (.slv 0) (.cons (.int .i64 (.var 2)) (.cons (.int .i64 (.wrap .i64 (.i2 .add (.var 4) (.lit (1))))) .nil))))))) (.i2 .sub (.slen 0) (.wrap .i64 (.i2 .add (.var 4) (.lit (1))))) (.i2 .sub (.slen 0) (.var 4)))
 (.back (.b2 .and (.b2 .and (.b2 .le (.lit (0)) (.wrap .i64 (.i2 .add (.var 4) (.lit (1))))) (.b2 .le (.wrap .i64 (.i2 .add (.var 4) (.lit (1)))) (.slen 0))) (.b2 .eq (.var 3) (.i2 .add (.var 0) (.iapp 1 (.cons (.slv 0) (.cons (.int .i64 (.var 2)) (.cons (.int .i64 (.wrap .i64 (.i2 .add (.var 4) (.lit (1))))) .nil))))))) (.i2 .sub (.slen 0) (.wrap .i64 (.i2 .add (.var 4) (.lit (1))))) (.i2 .sub (.slen 0) (.var 4))))))
 (.ret (.int .i64 (.var 3)))))
theorem lahead_w : walk Tryd.prog 108 ⟨[], [[.int .i64]]⟩ [⟨0, ⟨2, 0, 0, 0⟩, [(5, (.int .i64 (.var 3))), (13, (.int .i64 (.var 4)))], none, (.b2 .and (.b2 .and (.b2 .le (.lit (0)) (.var 4)) (.b2 .le (.var 4) (.slen 0))) (.b2 .eq (.var 3) (.i2 .add (.var 0) (.iapp 1 (.cons (.slv 0) (.cons (.int .i64 (.var 2)) (.cons (.int .i64 (.var 4)) .nil))))))), (.i2 .sub (.slen 0) (.var 4))⟩] 61 [(.agg (.cons (.int .i64 (.var 0)) (.cons (.int .i64 (.var 1)) (.cons (.sl 0) .nil)))), (.int .i64 (.var 2))] ⟨3, 0, 0, 0⟩ 2000 = some lahead_tree := by kernel_rfl
theorem lahead_h (b : Int) (t : Int) (l : Slc) (d : Int) (e0 : l.esz = 1) (hb0 : 0 ≤ b) (hb1 : b ≤ 100) (hl : l.len ≤ 32) : lahead_tree.holds (fun v => v = .int .i64 (b + (ctL (intsOf l.all) d : Int))) (x9E [b, t, d] [] [] [] (slsOf [l])) := by
  unfold lahead_tree
  simp only [AllN, Env.more, x9E, List.cons_append, List.nil_append, List.append_nil, Tree.holds, Sx.holds, denV, denI, denB, denL, I2.den, x9I, x9B, x9V, List.getD_cons_zero, List.getD_cons_succ, Cst.den, slsOf_zero, slsOf_one, B2.ofInts, B2.denI, B2.denB, if_true, Bool.false_eq_true, if_false]
  refine ⟨?_, ?_⟩
  ·
    exact ⟨⟨by omega, by omega⟩, by simp [cntL_zero]⟩
  ·
    intro i0a i0b hi0
    have wf0 := wr_i64 (i0b + 1)
    have wf1 := wr_i64 (i0a + 1)
    refine ⟨fun h0 => ?_, fun h0 => ?_⟩
    ·
      refine ⟨?_, fun h1 => ?_⟩
      ·
        omega
      ·
        refine ⟨?_, fun h2 => ?_⟩
        ·
          omega
        ·
          refine ⟨fun h3 => ?_, fun h3 => ?_⟩
          ·
            refine ⟨?_, ?_⟩
            ·
              have hw : IntKind.wrap .i64 (i0b + 1) = i0b + 1 := by omega
              have hc := cntL_succ (day := d) (ints_at l e0 (i := i0b.toNat) (by omega))
              have hle := cntL_le (intsOf l.all) d i0b.toNat
              have hv : IntKind.wrap .i64 (i0a + 1) = i0a + 1 := by omega
              rw [hw, toNat_succ (by omega), hc]
              first | rw [if_pos h3] | rw [if_neg h3]
              exact ⟨⟨by omega, by omega⟩, by omega⟩
            ·
              omega
          ·
            refine ⟨?_, ?_⟩
            ·
              have hw : IntKind.wrap .i64 (i0b + 1) = i0b + 1 := by omega
              have hc := cntL_succ (day := d) (ints_at l e0 (i := i0b.toNat) (by omega))
              have hle := cntL_le (intsOf l.all) d i0b.toNat
              have hv : IntKind.wrap .i64 (i0a + 1) = i0a + 1 := by omega
              rw [hw, toNat_succ (by omega), hc]
              first | rw [if_pos h3] | rw [if_neg h3]
              exact ⟨⟨by omega, by omega⟩, by omega⟩
            ·
              omega
    ·
      have hn : i0b.toNat = l.len := by omega
      rw [hn, ← ints_len l e0, cntL_all] at hi0
      simp only [Value.int.injEq, true_and]
      omega
theorem lahead (b : Int) (t : Int) (l : Slc) (d : Int) (e0 : l.esz = 1) (hb0 : 0 ≤ b) (hb1 : b ≤ 100) (hl : l.len ≤ 32) (w : World) (hs0 : SlOk w l [.int .i64]) : Calls Tryd.prog 61 #[.agg #[.int .i64 b, .int .i64 t, l.val], .int .i64 d] w fun e w' => e = .returned (.int .i64 (b + (ctL (intsOf l.all) d : Int))) ∧ Below w.heap.size w w' := by
  have h := calls_by (n := ⟨3, 0, 0, 0⟩) (x9E [b, t, d] [] [] [] (slsOf [l])) (vs := [.agg #[.int .i64 b, .int .i64 t, l.val], .int .i64 d]) (W := w) x9m lahead_w rfl ⟨rfl, rfl, rfl, rfl⟩ ⟨good_nil, (slsOk_cons hs0 slsOk_nil)⟩ (lahead_h b t l d e0 hb0 hb1 hl) rfl
  exact calls_eq h
abbrev x9c_ahead : Con := ⟨61, [(.agg (.cons (.int .i64 (.var 0)) (.cons (.int .i64 (.var 1)) (.cons (.sl 0) .nil)))), (.int .i64 (.var 2))], (.b2 .and (.b2 .le (.lit (0)) (.var 0)) (.b2 .and (.b2 .le (.var 0) (.lit (100))) (.b2 .le (.slen 0) (.lit (32))))), (.int .i64 (.i2 .add (.var 0) (.iapp 2 (.cons (.slv 0) (.cons (.int .i64 (.var 2)) .nil))))), [[.int .i64]]⟩
theorem x9g_ahead (iv : List Int) (bv : List Bool) (vv : List Value) (sv : List ByteArray) (sls : Nat → Slc) (W : World) : x9c_ahead.Good Tryd.prog (x9E iv bv vv sv sls) W := by
  intro iv bv vv sv sls β hc w hb hsl
  have hs0 := hsl 0 _ rfl
  exact lahead (iv.getD 0 0) (iv.getD 1 0) (sls 0) (iv.getD 2 0) hs0.1.symm hc.1 hc.2.1 (by have := hc.2.2; simp only [Sx.holds, denI] at this; omega) w hs0
theorem errV1 {n : Int} (h : n = 1) : Value.iface 108 (.int .i64 1) = errVal 108 n := by subst h; rfl
theorem errV0 {n : Int} (h : n = 0) : Value.nilIface = errVal 108 n := by subst h; rfl
theorem errV2 {n : Int} (h : n = 2) : Value.iface 108 (.int .i64 2) = errVal 108 n := by subst h; rfl
theorem errV10 {n : Int} (h : n = 10) : Value.iface 108 (.int .i64 10) = errVal 108 n := by subst h; rfl
theorem mayL_not {base last : Int} {l : List Int} (h : base < 0 ∨ 100 < base ∨ last < -50000 ∨ 50000 < last ∨ 32 < l.length) : mayL base last l = false := by
  cases hm : mayL base last l with
  | false => rfl
  | true => have := mayL_spec hm; omega
theorem mayL_bad {base last : Int} {l : List Int} {j : Nat} (hj : j < l.length) (h : okJ l last j = false) : mayL base last l = false := by
  cases hm : mayL base last l with
  | false => rfl
  | true =>
    simp only [mayL, Bool.and_eq_true] at hm
    rw [okL_get hm.2 hj] at h
    cases h
theorem mayL_yes {base last : Int} {l : List Int} (h0 : 0 ≤ base) (h1 : base ≤ 100) (h2 : -50000 ≤ last) (h3 : last ≤ 50000) (h4 : l.length ≤ 32) (h5 : okL l last l.length = true) : mayL base last l = true := by
  simp only [mayL, Bool.and_eq_true, decide_eq_true_eq]
  exact ⟨⟨⟨⟨⟨h0, h1⟩, h2⟩, h3⟩, h4⟩, h5⟩
theorem mayI_no {base last : Int} {l : List Int} (h : mayL base last l = false) : mayI base last l = 1 := by unfold mayI; rw [h]; rfl
theorem mayI_yes {base last : Int} {l : List Int} (h : mayL base last l = true) : mayI base last l = 0 := by unfold mayI; rw [h]; rfl
def lcheck_tree : Tree :=
 (.br (.b2 .lt (.var 0) (.lit (0)))
 (.ret (.iface 108 (.int .i64 (.lit (1)))))
 (.br (.b2 .lt (.lit (100)) (.var 0))
 (.ret (.iface 108 (.int .i64 (.lit (1)))))
 (.br (.b2 .lt (.var 1) (.lit (-50000)))
 (.ret (.iface 108 (.int .i64 (.lit (1)))))
 (.br (.b2 .lt (.lit (50000)) (.var 1))
 (.ret (.iface 108 (.int .i64 (.lit (1)))))
 (.br (.b2 .lt (.lit (32)) (.slen 0))
 (.ret (.iface 108 (.int .i64 (.lit (1)))))
 (.loop ⟨2, 0, 0, 0⟩ (.b2 .and (.b2 .and (.b2 .le (.lit (0)) (.lit (0))) (.b2 .le (.lit (0)) (.slen 0))) (.b2 .and (.bapp 0 (.cons (.slv 0) (.cons (.int .i64 (.var 1)) (.cons (.int .i64 (.lit (0))) .nil)))) (.b2 .eq (.lit (-50000)) (.iapp 3 (.cons (.slv 0) (.cons (.int .i64 (.lit (0))) .nil)))))) (.b2 .and (.b2 .and (.b2 .le (.lit (0)) (.var 3)) (.b2 .le (.var 3) (.slen 0))) (.b2 .and (.bapp 0 (.cons (.slv 0) (.cons (.int .i64 (.var 1)) (.cons (.int .i64 (.var 3)) .nil)))) (.b2 .eq (.var 2) (.iapp 3 (.cons (.slv 0) (.cons (.int .i64 (.var 3)) .nil))))))
 (.br (.b2 .lt (.var 3) (.slen 0))
 (.need (.b2 .and (.b2 .le (.lit (0)) (.var 3)) (.b2 .lt (.var 3) (.slen 0)))
 (.need (.b2 .and (.b2 .le (.lit (0)) (.var 3)) (.b2 .lt (.var 3) (.slen 0)))
 (.br (.b2 .lt (.sel 0 (.var 3) 0) (.var 2))
 (.ret (.iface 108 (.int .i64 (.lit (1)))))
 (.br (.b2 .le (.var 1) (.sel 0 (.var 3) 0))
 (.ret (.iface 108 (.int .i64 (.lit (1)))))
 (.back (.b2 .and (.b2 .and (.b2 .le (.lit (0)) (.wrap .i64 (.i2 .add (.var 3) (.lit (1))))) (.b2 .le (.wrap .i64 (.i2 .add (.var 3) (.lit (1)))) (.slen 0))) (.b2 .and (.bapp 0 (.cons (.slv 0) (.cons (.int .i64 (.var 1)) (.cons (.int .i64 (.wrap .i64 (.i2 .add (.var 3) (.lit (1))))) .nil)))) (.b2 .eq (.wrap .i64 (.i2 .add (.sel 0 (.var 3) 0) (.lit (1)))) (.iapp 3 (.cons (.slv 0) (.cons (.int .i64 (.wrap .i64 (.i2 .add (.var 3) (.lit (1))))) .nil)))))) (.i2 .sub (.slen 0) (.wrap .i64 (.i2 .add (.var 3) (.lit (1))))) (.i2 .sub (.slen 0) (.var 3)))))))
 (.ret (.cst .nilI)))))))))
theorem lcheck_w : walk Tryd.prog 108 ⟨[], [[.int .i64]]⟩ [⟨0, ⟨2, 0, 0, 0⟩, [(3, (.int .i64 (.var 2))), (34, (.int .i64 (.var 3)))], none, (.b2 .and (.b2 .and (.b2 .le (.lit (0)) (.var 3)) (.b2 .le (.var 3) (.slen 0))) (.b2 .and (.bapp 0 (.cons (.slv 0) (.cons (.int .i64 (.var 1)) (.cons (.int .i64 (.var 3)) .nil)))) (.b2 .eq (.var 2) (.iapp 3 (.cons (.slv 0) (.cons (.int .i64 (.var 3)) .nil)))))), (.i2 .sub (.slen 0) (.var 3))⟩] 20 [(.agg (.cons (.int .i64 (.var 0)) (.cons (.int .i64 (.var 1)) (.cons (.sl 0) .nil))))] ⟨2, 0, 0, 0⟩ 2000 = some lcheck_tree := by kernel_rfl
theorem lcheck_h (b : Int) (t : Int) (l : Slc) (e0 : l.esz = 1) : lcheck_tree.holds (fun v => v = errVal 108 (mayI b t (intsOf l.all))) (x9E [b, t] [] [] [] (slsOf [l])) := by
  unfold lcheck_tree
  simp only [AllN, Env.more, x9E, List.cons_append, List.nil_append, List.append_nil, Tree.holds, Sx.holds, denV, denI, denB, denL, I2.den, x9I, x9B, x9V, List.getD_cons_zero, List.getD_cons_succ, Cst.den, slsOf_zero, slsOf_one, B2.ofInts, B2.denI, B2.denB, if_true, Bool.false_eq_true, if_false]
  have hlen := ints_len l e0
  refine ⟨fun h0 => ?_, fun h0 => ?_⟩
  ·
    first
      | exact errV1 (mayI_no (mayL_not (by omega)))
      | (refine errV0 (mayI_yes (mayL_yes (by omega) (by omega) (by omega) (by omega) (by omega) ?_)); rw [show (intsOf l.all).length = i0b.toNat by omega]; exact hok)
      | (refine errV1 (mayI_no (mayL_bad (j := i0b.toNat) (by omega) ?_)); have hg := getD_of (d := (0 : Int)) (ints_at l e0 (i := i0b.toNat) (by omega)); simp only [okJ, hg, ← hle, Bool.and_eq_false_iff, decide_eq_false_iff_not]; omega)
  ·
    refine ⟨fun h1 => ?_, fun h1 => ?_⟩
    ·
      first
        | exact errV1 (mayI_no (mayL_not (by omega)))
        | (refine errV0 (mayI_yes (mayL_yes (by omega) (by omega) (by omega) (by omega) (by omega) ?_)); rw [show (intsOf l.all).length = i0b.toNat by omega]; exact hok)
        | (refine errV1 (mayI_no (mayL_bad (j := i0b.toNat) (by omega) ?_)); have hg := getD_of (d := (0 : Int)) (ints_at l e0 (i := i0b.toNat) (by omega)); simp only [okJ, hg, ← hle, Bool.and_eq_false_iff, decide_eq_false_iff_not]; omega)
    ·
      refine ⟨fun h2 => ?_, fun h2 => ?_⟩
      ·
        first
          | exact errV1 (mayI_no (mayL_not (by omega)))
          | (refine errV0 (mayI_yes (mayL_yes (by omega) (by omega) (by omega) (by omega) (by omega) ?_)); rw [show (intsOf l.all).length = i0b.toNat by omega]; exact hok)
          | (refine errV1 (mayI_no (mayL_bad (j := i0b.toNat) (by omega) ?_)); have hg := getD_of (d := (0 : Int)) (ints_at l e0 (i := i0b.toNat) (by omega)); simp only [okJ, hg, ← hle, Bool.and_eq_false_iff, decide_eq_false_iff_not]; omega)
      ·
        refine ⟨fun h3 => ?_, fun h3 => ?_⟩
        ·
          first
            | exact errV1 (mayI_no (mayL_not (by omega)))
            | (refine errV0 (mayI_yes (mayL_yes (by omega) (by omega) (by omega) (by omega) (by omega) ?_)); rw [show (intsOf l.all).length = i0b.toNat by omega]; exact hok)
            | (refine errV1 (mayI_no (mayL_bad (j := i0b.toNat) (by omega) ?_)); have hg := getD_of (d := (0 : Int)) (ints_at l e0 (i := i0b.toNat) (by omega)); simp only [okJ, hg, ← hle, Bool.and_eq_false_iff, decide_eq_false_iff_not]; omega)
        ·
          refine ⟨fun h4 => ?_, fun h4 => ?_⟩
          ·
            first
              | exact errV1 (mayI_no (mayL_not (by omega)))
              | (refine errV0 (mayI_yes (mayL_yes (by omega) (by omega) (by omega) (by omega) (by omega) ?_)); rw [show (intsOf l.all).length = i0b.toNat by omega]; exact hok)
              | (refine errV1 (mayI_no (mayL_bad (j := i0b.toNat) (by omega) ?_)); have hg := getD_of (d := (0 : Int)) (ints_at l e0 (i := i0b.toNat) (by omega)); simp only [okJ, hg, ← hle, Bool.and_eq_false_iff, decide_eq_false_iff_not]; omega)
          ·
            refine ⟨?_, ?_⟩
            ·
              exact ⟨⟨by omega, by omega⟩, rfl, rfl⟩
            ·
              intro i0a i0b hi0
              obtain ⟨⟨hr0, hr1⟩, hok, hle⟩ := hi0
              have wf0 := wr_i64 (i0b + 1)
              have wf1 := wr_i64 ((intOf (l.cont (Int.toNat i0b) 0)) + 1)
              refine ⟨fun h5 => ?_, fun h5 => ?_⟩
              ·
                refine ⟨?_, fun h6 => ?_⟩
                ·
                  omega
                ·
                  refine ⟨?_, fun h7 => ?_⟩
                  ·
                    omega
                  ·
                    refine ⟨fun h8 => ?_, fun h8 => ?_⟩
                    ·
                      first
                        | exact errV1 (mayI_no (mayL_not (by omega)))
                        | (refine errV0 (mayI_yes (mayL_yes (by omega) (by omega) (by omega) (by omega) (by omega) ?_)); rw [show (intsOf l.all).length = i0b.toNat by omega]; exact hok)
                        | (refine errV1 (mayI_no (mayL_bad (j := i0b.toNat) (by omega) ?_)); have hg := getD_of (d := (0 : Int)) (ints_at l e0 (i := i0b.toNat) (by omega)); simp only [okJ, hg, ← hle, Bool.and_eq_false_iff, decide_eq_false_iff_not]; omega)
                    ·
                      refine ⟨fun h9 => ?_, fun h9 => ?_⟩
                      ·
                        first
                          | exact errV1 (mayI_no (mayL_not (by omega)))
                          | (refine errV0 (mayI_yes (mayL_yes (by omega) (by omega) (by omega) (by omega) (by omega) ?_)); rw [show (intsOf l.all).length = i0b.toNat by omega]; exact hok)
                          | (refine errV1 (mayI_no (mayL_bad (j := i0b.toNat) (by omega) ?_)); have hg := getD_of (d := (0 : Int)) (ints_at l e0 (i := i0b.toNat) (by omega)); simp only [okJ, hg, ← hle, Bool.and_eq_false_iff, decide_eq_false_iff_not]; omega)
                      ·
                        refine ⟨?_, ?_⟩
                        ·
                          have hw : IntKind.wrap .i64 (i0b + 1) = i0b + 1 := by omega
                          have hg := getD_of (d := (0 : Int)) (ints_at l e0 (i := i0b.toNat) (by omega))
                          have e1 : leastL (intsOf l.all) (i0b.toNat + 1) = intOf (l.cont i0b.toNat 0) + 1 := by rw [← hg]; simp [leastL]
                          rw [hw, toNat_succ (by omega), okL_succ, hok, e1]
                          simp only [okJ, hg, ← hle, Bool.true_and, Bool.and_eq_true, decide_eq_true_eq]
                          have hge : -50000 ≤ i0a := by
                            rw [hle]
                            unfold leastL
                            split
                            · omega
                            · have := okL_ge hok (i0b.toNat - 1) (by omega); omega
                          refine ⟨⟨by omega, by omega⟩, ⟨by omega, by omega⟩, by omega⟩
                        ·
                          omega
              ·
                first
                  | exact errV1 (mayI_no (mayL_not (by omega)))
                  | (refine errV0 (mayI_yes (mayL_yes (by omega) (by omega) (by omega) (by omega) (by omega) ?_)); rw [show (intsOf l.all).length = i0b.toNat by omega]; exact hok)
                  | (refine errV1 (mayI_no (mayL_bad (j := i0b.toNat) (by omega) ?_)); have hg := getD_of (d := (0 : Int)) (ints_at l e0 (i := i0b.toNat) (by omega)); simp only [okJ, hg, ← hle, Bool.and_eq_false_iff, decide_eq_false_iff_not]; omega)
theorem lcheck (b : Int) (t : Int) (l : Slc) (e0 : l.esz = 1) (w : World) (hs0 : SlOk w l [.int .i64]) : Calls Tryd.prog 20 #[.agg #[.int .i64 b, .int .i64 t, l.val]] w fun e w' => e = .returned (errVal 108 (mayI b t (intsOf l.all))) ∧ Below w.heap.size w w' := by
  have h := calls_by (n := ⟨2, 0, 0, 0⟩) (x9E [b, t] [] [] [] (slsOf [l])) (vs := [.agg #[.int .i64 b, .int .i64 t, l.val]]) (W := w) x9m lcheck_w rfl ⟨rfl, rfl, rfl, rfl⟩ ⟨good_nil, (slsOk_cons hs0 slsOk_nil)⟩ (lcheck_h b t l e0) rfl
  exact calls_eq h
abbrev x9c_check : Con := ⟨20, [(.agg (.cons (.int .i64 (.var 0)) (.cons (.int .i64 (.var 1)) (.cons (.sl 0) .nil))))], (.tt true), (.err (.iapp 0 (.cons (.int .i64 (.var 0)) (.cons (.int .i64 (.var 1)) (.cons (.slv 0) .nil))))), [[.int .i64]]⟩
theorem x9g_check (iv : List Int) (bv : List Bool) (vv : List Value) (sv : List ByteArray) (sls : Nat → Slc) (W : World) : x9c_check.Good Tryd.prog (x9E iv bv vv sv sls) W := by
  intro iv bv vv sv sls β hc w hb hsl
  have hs0 := hsl 0 _ rfl
  exact lcheck (iv.getD 0 0) (iv.getD 1 0) (sls 0) hs0.1.symm w hs0
def rmay_tree : Tree :=
 (.loop ⟨1, 0, 0, 0⟩ (.b2 .and (.b2 .and (.b2 .le (.lit (0)) (.lit (0))) (.b2 .le (.lit (0)) (.slen 0))) (.bapp 0 (.cons (.slv 0) (.cons (.int .i64 (.var 1)) (.cons (.int .i64 (.lit (0))) .nil))))) (.b2 .and (.b2 .and (.b2 .le (.lit (0)) (.var 2)) (.b2 .le (.var 2) (.slen 0))) (.bapp 0 (.cons (.slv 0) (.cons (.int .i64 (.var 1)) (.cons (.int .i64 (.var 2)) .nil)))))
 (.br (.b2 .lt (.var 2) (.slen 0))
 (.need (.b2 .and (.b2 .le (.lit (0)) (.var 2)) (.b2 .lt (.var 2) (.slen 0)))
 (.need (.b2 .and (.b2 .le (.lit (0)) (.var 2)) (.b2 .lt (.var 2) (.slen 0)))
 (.br (.b2 .lt (.sel 0 (.var 2) 0) (.lit (-50000)))
 (.ret (.bool (.tt false)))
 (.need (.b2 .and (.b2 .le (.lit (0)) (.var 2)) (.b2 .lt (.var 2) (.slen 0)))
 (.need (.b2 .and (.b2 .le (.lit (0)) (.var 2)) (.b2 .lt (.var 2) (.slen 0)))
 (.br (.b2 .le (.var 1) (.sel 0 (.var 2) 0))
 (.ret (.bool (.tt false)))
 (.br (.b2 .lt (.lit (0)) (.var 2))
 (.need (.b2 .and (.b2 .le (.lit (0)) (.var 2)) (.b2 .lt (.var 2) (.slen 0)))
 (.need (.b2 .and (.b2 .le (.lit (0)) (.var 2)) (.b2 .lt (.var 2) (.slen 0)))
 (.need (.b2 .and (.b2 .le (.lit (0)) (.wrap .i64 (.i2 .sub (.var 2) (.lit (1))))) (.b2 .lt (.wrap .i64 (.i2 .sub (.var 2) (.lit (1)))) (.slen 0)))
 (.need (.b2 .and (.b2 .le (.lit (0)) (.wrap .i64 (.i2 .sub (.var 2) (.lit (1))))) (.b2 .lt (.wrap .i64 (.i2 .sub (.var 2) (.lit (1)))) (.slen 0)))
 (.br (.b2 .le (.sel 0 (.var 2) 0) (.sel 0 (.wrap .i64 (.i2 .sub (.var 2) (.lit (1)))) 0))
 (.ret (.bool (.tt false)))
 (.back (.b2 .and (.b2 .and (.b2 .le (.lit (0)) (.wrap .i64 (.i2 .add (.var 2) (.lit (1))))) (.b2 .le (.wrap .i64 (.i2 .add (.var 2) (.lit (1)))) (.slen 0))) (.bapp 0 (.cons (.slv 0) (.cons (.int .i64 (.var 1)) (.cons (.int .i64 (.wrap .i64 (.i2 .add (.var 2) (.lit (1))))) .nil))))) (.i2 .sub (.slen 0) (.wrap .i64 (.i2 .add (.var 2) (.lit (1))))) (.i2 .sub (.slen 0) (.var 2))))))))
 (.back (.b2 .and (.b2 .and (.b2 .le (.lit (0)) (.wrap .i64 (.i2 .add (.var 2) (.lit (1))))) (.b2 .le (.wrap .i64 (.i2 .add (.var 2) (.lit (1)))) (.slen 0))) (.bapp 0 (.cons (.slv 0) (.cons (.int .i64 (.var 1)) (.cons (.int .i64 (.wrap .i64 (.i2 .add (.var 2) (.lit (1))))) .nil))))) (.i2 .sub (.slen 0) (.wrap .i64 (.i2 .add (.var 2) (.lit (1))))) (.i2 .sub (.slen 0) (.var 2))))))))))
 (.br (.b2 .le (.lit (0)) (.var 0))
 (.br (.b2 .le (.var 0) (.lit (100)))
 (.br (.b2 .le (.lit (-50000)) (.var 1))
 (.br (.b2 .le (.var 1) (.lit (50000)))
 (.ret (.bool (.b2 .le (.slen 0) (.lit (32)))))
 (.ret (.bool (.tt false))))
 (.ret (.bool (.tt false))))
 (.ret (.bool (.tt false))))
 (.ret (.bool (.tt false))))))
theorem rmay_w : walk Tryd.prog 108 ⟨[], [[.int .i64]]⟩ [⟨0, ⟨1, 0, 0, 0⟩, [(3, (.int .i64 (.var 2)))], none, (.b2 .and (.b2 .and (.b2 .le (.lit (0)) (.var 2)) (.b2 .le (.var 2) (.slen 0))) (.bapp 0 (.cons (.slv 0) (.cons (.int .i64 (.var 1)) (.cons (.int .i64 (.var 2)) .nil))))), (.i2 .sub (.slen 0) (.var 2))⟩] 21 [(.agg (.cons (.int .i64 (.var 0)) (.cons (.int .i64 (.var 1)) (.cons (.sl 0) .nil))))] ⟨2, 0, 0, 0⟩ 2000 = some rmay_tree := by kernel_rfl
theorem rmay_h (b : Int) (t : Int) (l : Slc) (e0 : l.esz = 1) (hl : l.len ≤ 9223372036854775807) : rmay_tree.holds (fun v => v = .bool (mayL b t (intsOf l.all))) (x9E [b, t] [] [] [] (slsOf [l])) := by
  unfold rmay_tree
  simp only [AllN, Env.more, x9E, List.cons_append, List.nil_append, List.append_nil, Tree.holds, Sx.holds, denV, denI, denB, denL, I2.den, x9I, x9B, x9V, List.getD_cons_zero, List.getD_cons_succ, Cst.den, slsOf_zero, slsOf_one, B2.ofInts, B2.denI, B2.denB, if_true, Bool.false_eq_true, if_false]
  have hlen := ints_len l e0
  refine ⟨?_, ?_⟩
  ·
    exact ⟨⟨by omega, by omega⟩, rfl⟩
  ·
    intro i0a hi0
    obtain ⟨⟨hr0, hr1⟩, hok⟩ := hi0
    have wf0 := wr_i64 (i0a - 1)
    have wf1 := wr_i64 (i0a + 1)
    refine ⟨fun h0 => ?_, fun h0 => ?_⟩
    ·
      refine ⟨?_, fun h1 => ?_⟩
      ·
        omega
      ·
        refine ⟨?_, fun h2 => ?_⟩
        ·
          omega
        ·
          refine ⟨fun h3 => ?_, fun h3 => ?_⟩
          ·
            by_cases hlt : i0a < (l.len : Int)
            · have hg := getD_of (d := (0 : Int)) (ints_at l e0 (i := i0a.toNat) (by omega))
              have hp : 0 < i0a → (intsOf l.all).getD (i0a.toNat - 1) 0 = intOf (l.cont (i0a.toNat - 1) 0) := fun h => getD_of (d := (0 : Int)) (ints_at l e0 (i := i0a.toNat - 1) (by omega))
              have hq : 0 < i0a → IntKind.wrap .i64 (i0a - 1) = i0a - 1 := fun h => by omega
              have hz : (i0a - 1).toNat = i0a.toNat - 1 := by omega
              have hls : leastL (intsOf l.all) i0a.toNat = if i0a.toNat = 0 then -50000 else (intsOf l.all).getD (i0a.toNat - 1) 0 + 1 := rfl
              have hpv : 0 < i0a → -50000 ≤ (intsOf l.all).getD (i0a.toNat - 1) 0 := fun h => (okL_ge hok (i0a.toNat - 1) (by omega)).1
              first
              | (exfalso; omega)
              | (refine congrArg Value.bool (mayL_bad (j := i0a.toNat) (by omega) ?_).symm
                 simp only [okJ, hg, Bool.and_eq_false_iff, decide_eq_false_iff_not]
                 by_cases h0a : 0 < i0a
                 · have k1 := hp h0a; have k2 := hq h0a; have k3 := hpv h0a
                   rw [if_neg (by omega)] at hls
                   first | omega | (rw [k2, hz] at h12; omega)
                 · rw [if_pos (by omega)] at hls; omega)
            · have hfull : okL (intsOf l.all) t (intsOf l.all).length = true := by rw [show (intsOf l.all).length = i0a.toNat by omega]; exact hok
              refine congrArg Value.bool ?_
              first
                | exact (mayL_not (by omega)).symm
                | (by_cases hc : l.len ≤ 32
                   · rw [mayL_yes (by omega) (by omega) (by omega) (by omega) (by omega) hfull]; simp; omega
                   · rw [mayL_not (by omega)]; simp; omega)
          ·
            refine ⟨?_, fun h4 => ?_⟩
            ·
              omega
            ·
              refine ⟨?_, fun h5 => ?_⟩
              ·
                omega
              ·
                refine ⟨fun h6 => ?_, fun h6 => ?_⟩
                ·
                  by_cases hlt : i0a < (l.len : Int)
                  · have hg := getD_of (d := (0 : Int)) (ints_at l e0 (i := i0a.toNat) (by omega))
                    have hp : 0 < i0a → (intsOf l.all).getD (i0a.toNat - 1) 0 = intOf (l.cont (i0a.toNat - 1) 0) := fun h => getD_of (d := (0 : Int)) (ints_at l e0 (i := i0a.toNat - 1) (by omega))
                    have hq : 0 < i0a → IntKind.wrap .i64 (i0a - 1) = i0a - 1 := fun h => by omega
                    have hz : (i0a - 1).toNat = i0a.toNat - 1 := by omega
                    have hls : leastL (intsOf l.all) i0a.toNat = if i0a.toNat = 0 then -50000 else (intsOf l.all).getD (i0a.toNat - 1) 0 + 1 := rfl
                    have hpv : 0 < i0a → -50000 ≤ (intsOf l.all).getD (i0a.toNat - 1) 0 := fun h => (okL_ge hok (i0a.toNat - 1) (by omega)).1
                    first
                    | (exfalso; omega)
                    | (refine congrArg Value.bool (mayL_bad (j := i0a.toNat) (by omega) ?_).symm
                       simp only [okJ, hg, Bool.and_eq_false_iff, decide_eq_false_iff_not]
                       by_cases h0a : 0 < i0a
                       · have k1 := hp h0a; have k2 := hq h0a; have k3 := hpv h0a
                         rw [if_neg (by omega)] at hls
                         first | omega | (rw [k2, hz] at h12; omega)
                       · rw [if_pos (by omega)] at hls; omega)
                  · have hfull : okL (intsOf l.all) t (intsOf l.all).length = true := by rw [show (intsOf l.all).length = i0a.toNat by omega]; exact hok
                    refine congrArg Value.bool ?_
                    first
                      | exact (mayL_not (by omega)).symm
                      | (by_cases hc : l.len ≤ 32
                         · rw [mayL_yes (by omega) (by omega) (by omega) (by omega) (by omega) hfull]; simp; omega
                         · rw [mayL_not (by omega)]; simp; omega)
                ·
                  refine ⟨fun h7 => ?_, fun h7 => ?_⟩
                  ·
                    refine ⟨?_, fun h8 => ?_⟩
                    ·
                      omega
                    ·
                      refine ⟨?_, fun h9 => ?_⟩
                      ·
                        omega
                      ·
                        refine ⟨?_, fun h10 => ?_⟩
                        ·
                          omega
                        ·
                          refine ⟨?_, fun h11 => ?_⟩
                          ·
                            omega
                          ·
                            refine ⟨fun h12 => ?_, fun h12 => ?_⟩
                            ·
                              by_cases hlt : i0a < (l.len : Int)
                              · have hg := getD_of (d := (0 : Int)) (ints_at l e0 (i := i0a.toNat) (by omega))
                                have hp : 0 < i0a → (intsOf l.all).getD (i0a.toNat - 1) 0 = intOf (l.cont (i0a.toNat - 1) 0) := fun h => getD_of (d := (0 : Int)) (ints_at l e0 (i := i0a.toNat - 1) (by omega))
                                have hq : 0 < i0a → IntKind.wrap .i64 (i0a - 1) = i0a - 1 := fun h => by omega
                                have hz : (i0a - 1).toNat = i0a.toNat - 1 := by omega
                                have hls : leastL (intsOf l.all) i0a.toNat = if i0a.toNat = 0 then -50000 else (intsOf l.all).getD (i0a.toNat - 1) 0 + 1 := rfl
                                have hpv : 0 < i0a → -50000 ≤ (intsOf l.all).getD (i0a.toNat - 1) 0 := fun h => (okL_ge hok (i0a.toNat - 1) (by omega)).1
                                first
                                | (exfalso; omega)
                                | (refine congrArg Value.bool (mayL_bad (j := i0a.toNat) (by omega) ?_).symm
                                   simp only [okJ, hg, Bool.and_eq_false_iff, decide_eq_false_iff_not]
                                   by_cases h0a : 0 < i0a
                                   · have k1 := hp h0a; have k2 := hq h0a; have k3 := hpv h0a
                                     rw [if_neg (by omega)] at hls
                                     first | omega | (rw [k2, hz] at h12; omega)
                                   · rw [if_pos (by omega)] at hls; omega)
                              · have hfull : okL (intsOf l.all) t (intsOf l.all).length = true := by rw [show (intsOf l.all).length = i0a.toNat by omega]; exact hok
                                refine congrArg Value.bool ?_
                                first
                                  | exact (mayL_not (by omega)).symm
                                  | (by_cases hc : l.len ≤ 32
                                     · rw [mayL_yes (by omega) (by omega) (by omega) (by omega) (by omega) hfull]; simp; omega
                                     · rw [mayL_not (by omega)]; simp; omega)
                            ·
                              refine ⟨?_, ?_⟩
                              ·
                                have hw : IntKind.wrap .i64 (i0a + 1) = i0a + 1 := by omega
                                have hg := getD_of (d := (0 : Int)) (ints_at l e0 (i := i0a.toNat) (by omega))
                                have hp : 0 < i0a → (intsOf l.all).getD (i0a.toNat - 1) 0 = intOf (l.cont (i0a.toNat - 1) 0) := fun h => getD_of (d := (0 : Int)) (ints_at l e0 (i := i0a.toNat - 1) (by omega))
                                have hq : 0 < i0a → IntKind.wrap .i64 (i0a - 1) = i0a - 1 := fun h => by omega
                                have hz : (i0a - 1).toNat = i0a.toNat - 1 := by omega
                                have hls : leastL (intsOf l.all) i0a.toNat = if i0a.toNat = 0 then -50000 else (intsOf l.all).getD (i0a.toNat - 1) 0 + 1 := rfl
                                have hpv : 0 < i0a → -50000 ≤ (intsOf l.all).getD (i0a.toNat - 1) 0 := fun h => (okL_ge hok (i0a.toNat - 1) (by omega)).1
                                refine ⟨⟨by omega, by omega⟩, ?_⟩
                                rw [hw, toNat_succ (by omega), okL_succ, hok]
                                simp only [okJ, hg, Bool.true_and, Bool.and_eq_true, decide_eq_true_eq]
                                by_cases h0a : 0 < i0a
                                · have k1 := hp h0a; have k2 := hq h0a; have k3 := hpv h0a
                                  first
                                    | (exfalso; omega)
                                    | (rw [k2, hz] at h12; rw [if_neg (by omega)] at hls; omega)
                                · rw [if_pos (by omega)] at hls; omega
                              ·
                                omega
                  ·
                    refine ⟨?_, ?_⟩
                    ·
                      have hw : IntKind.wrap .i64 (i0a + 1) = i0a + 1 := by omega
                      have hg := getD_of (d := (0 : Int)) (ints_at l e0 (i := i0a.toNat) (by omega))
                      have hp : 0 < i0a → (intsOf l.all).getD (i0a.toNat - 1) 0 = intOf (l.cont (i0a.toNat - 1) 0) := fun h => getD_of (d := (0 : Int)) (ints_at l e0 (i := i0a.toNat - 1) (by omega))
                      have hq : 0 < i0a → IntKind.wrap .i64 (i0a - 1) = i0a - 1 := fun h => by omega
                      have hz : (i0a - 1).toNat = i0a.toNat - 1 := by omega
                      have hls : leastL (intsOf l.all) i0a.toNat = if i0a.toNat = 0 then -50000 else (intsOf l.all).getD (i0a.toNat - 1) 0 + 1 := rfl
                      have hpv : 0 < i0a → -50000 ≤ (intsOf l.all).getD (i0a.toNat - 1) 0 := fun h => (okL_ge hok (i0a.toNat - 1) (by omega)).1
                      refine ⟨⟨by omega, by omega⟩, ?_⟩
                      rw [hw, toNat_succ (by omega), okL_succ, hok]
                      simp only [okJ, hg, Bool.true_and, Bool.and_eq_true, decide_eq_true_eq]
                      by_cases h0a : 0 < i0a
                      · have k1 := hp h0a; have k2 := hq h0a; have k3 := hpv h0a
                        first
                          | (exfalso; omega)
                          | (rw [k2, hz] at h12; rw [if_neg (by omega)] at hls; omega)
                      · rw [if_pos (by omega)] at hls; omega
                    ·
                      omega
    ·
      refine ⟨fun h13 => ?_, fun h13 => ?_⟩
      ·
        refine ⟨fun h14 => ?_, fun h14 => ?_⟩
        ·
          refine ⟨fun h15 => ?_, fun h15 => ?_⟩
          ·
            refine ⟨fun h16 => ?_, fun h16 => ?_⟩
            ·
              by_cases hlt : i0a < (l.len : Int)
              · have hg := getD_of (d := (0 : Int)) (ints_at l e0 (i := i0a.toNat) (by omega))
                have hp : 0 < i0a → (intsOf l.all).getD (i0a.toNat - 1) 0 = intOf (l.cont (i0a.toNat - 1) 0) := fun h => getD_of (d := (0 : Int)) (ints_at l e0 (i := i0a.toNat - 1) (by omega))
                have hq : 0 < i0a → IntKind.wrap .i64 (i0a - 1) = i0a - 1 := fun h => by omega
                have hz : (i0a - 1).toNat = i0a.toNat - 1 := by omega
                have hls : leastL (intsOf l.all) i0a.toNat = if i0a.toNat = 0 then -50000 else (intsOf l.all).getD (i0a.toNat - 1) 0 + 1 := rfl
                have hpv : 0 < i0a → -50000 ≤ (intsOf l.all).getD (i0a.toNat - 1) 0 := fun h => (okL_ge hok (i0a.toNat - 1) (by omega)).1
                first
                | (exfalso; omega)
                | (refine congrArg Value.bool (mayL_bad (j := i0a.toNat) (by omega) ?_).symm
                   simp only [okJ, hg, Bool.and_eq_false_iff, decide_eq_false_iff_not]
                   by_cases h0a : 0 < i0a
                   · have k1 := hp h0a; have k2 := hq h0a; have k3 := hpv h0a
                     rw [if_neg (by omega)] at hls
                     first | omega | (rw [k2, hz] at h12; omega)
                   · rw [if_pos (by omega)] at hls; omega)
              · have hfull : okL (intsOf l.all) t (intsOf l.all).length = true := by rw [show (intsOf l.all).length = i0a.toNat by omega]; exact hok
                refine congrArg Value.bool ?_
                first
                  | exact (mayL_not (by omega)).symm
                  | (by_cases hc : l.len ≤ 32
                     · rw [mayL_yes (by omega) (by omega) (by omega) (by omega) (by omega) hfull]; simp; omega
                     · rw [mayL_not (by omega)]; simp; omega)
            ·
              by_cases hlt : i0a < (l.len : Int)
              · have hg := getD_of (d := (0 : Int)) (ints_at l e0 (i := i0a.toNat) (by omega))
                have hp : 0 < i0a → (intsOf l.all).getD (i0a.toNat - 1) 0 = intOf (l.cont (i0a.toNat - 1) 0) := fun h => getD_of (d := (0 : Int)) (ints_at l e0 (i := i0a.toNat - 1) (by omega))
                have hq : 0 < i0a → IntKind.wrap .i64 (i0a - 1) = i0a - 1 := fun h => by omega
                have hz : (i0a - 1).toNat = i0a.toNat - 1 := by omega
                have hls : leastL (intsOf l.all) i0a.toNat = if i0a.toNat = 0 then -50000 else (intsOf l.all).getD (i0a.toNat - 1) 0 + 1 := rfl
                have hpv : 0 < i0a → -50000 ≤ (intsOf l.all).getD (i0a.toNat - 1) 0 := fun h => (okL_ge hok (i0a.toNat - 1) (by omega)).1
                first
                | (exfalso; omega)
                | (refine congrArg Value.bool (mayL_bad (j := i0a.toNat) (by omega) ?_).symm
                   simp only [okJ, hg, Bool.and_eq_false_iff, decide_eq_false_iff_not]
                   by_cases h0a : 0 < i0a
                   · have k1 := hp h0a; have k2 := hq h0a; have k3 := hpv h0a
                     rw [if_neg (by omega)] at hls
                     first | omega | (rw [k2, hz] at h12; omega)
                   · rw [if_pos (by omega)] at hls; omega)
              · have hfull : okL (intsOf l.all) t (intsOf l.all).length = true := by rw [show (intsOf l.all).length = i0a.toNat by omega]; exact hok
                refine congrArg Value.bool ?_
                first
                  | exact (mayL_not (by omega)).symm
                  | (by_cases hc : l.len ≤ 32
                     · rw [mayL_yes (by omega) (by omega) (by omega) (by omega) (by omega) hfull]; simp; omega
                     · rw [mayL_not (by omega)]; simp; omega)
          ·
            by_cases hlt : i0a < (l.len : Int)
            · have hg := getD_of (d := (0 : Int)) (ints_at l e0 (i := i0a.toNat) (by omega))
              have hp : 0 < i0a → (intsOf l.all).getD (i0a.toNat - 1) 0 = intOf (l.cont (i0a.toNat - 1) 0) := fun h => getD_of (d := (0 : Int)) (ints_at l e0 (i := i0a.toNat - 1) (by omega))
              have hq : 0 < i0a → IntKind.wrap .i64 (i0a - 1) = i0a - 1 := fun h => by omega
              have hz : (i0a - 1).toNat = i0a.toNat - 1 := by omega
              have hls : leastL (intsOf l.all) i0a.toNat = if i0a.toNat = 0 then -50000 else (intsOf l.all).getD (i0a.toNat - 1) 0 + 1 := rfl
              have hpv : 0 < i0a → -50000 ≤ (intsOf l.all).getD (i0a.toNat - 1) 0 := fun h => (okL_ge hok (i0a.toNat - 1) (by omega)).1
              first
              | (exfalso; omega)
              | (refine congrArg Value.bool (mayL_bad (j := i0a.toNat) (by omega) ?_).symm
                 simp only [okJ, hg, Bool.and_eq_false_iff, decide_eq_false_iff_not]
                 by_cases h0a : 0 < i0a
                 · have k1 := hp h0a; have k2 := hq h0a; have k3 := hpv h0a
                   rw [if_neg (by omega)] at hls
                   first | omega | (rw [k2, hz] at h12; omega)
                 · rw [if_pos (by omega)] at hls; omega)
            · have hfull : okL (intsOf l.all) t (intsOf l.all).length = true := by rw [show (intsOf l.all).length = i0a.toNat by omega]; exact hok
              refine congrArg Value.bool ?_
              first
                | exact (mayL_not (by omega)).symm
                | (by_cases hc : l.len ≤ 32
                   · rw [mayL_yes (by omega) (by omega) (by omega) (by omega) (by omega) hfull]; simp; omega
                   · rw [mayL_not (by omega)]; simp; omega)
        ·
          by_cases hlt : i0a < (l.len : Int)
          · have hg := getD_of (d := (0 : Int)) (ints_at l e0 (i := i0a.toNat) (by omega))
            have hp : 0 < i0a → (intsOf l.all).getD (i0a.toNat - 1) 0 = intOf (l.cont (i0a.toNat - 1) 0) := fun h => getD_of (d := (0 : Int)) (ints_at l e0 (i := i0a.toNat - 1) (by omega))
            have hq : 0 < i0a → IntKind.wrap .i64 (i0a - 1) = i0a - 1 := fun h => by omega
            have hz : (i0a - 1).toNat = i0a.toNat - 1 := by omega
            have hls : leastL (intsOf l.all) i0a.toNat = if i0a.toNat = 0 then -50000 else (intsOf l.all).getD (i0a.toNat - 1) 0 + 1 := rfl
            have hpv : 0 < i0a → -50000 ≤ (intsOf l.all).getD (i0a.toNat - 1) 0 := fun h => (okL_ge hok (i0a.toNat - 1) (by omega)).1
            first
            | (exfalso; omega)
            | (refine congrArg Value.bool (mayL_bad (j := i0a.toNat) (by omega) ?_).symm
               simp only [okJ, hg, Bool.and_eq_false_iff, decide_eq_false_iff_not]
               by_cases h0a : 0 < i0a
               · have k1 := hp h0a; have k2 := hq h0a; have k3 := hpv h0a
                 rw [if_neg (by omega)] at hls
                 first | omega | (rw [k2, hz] at h12; omega)
               · rw [if_pos (by omega)] at hls; omega)
          · have hfull : okL (intsOf l.all) t (intsOf l.all).length = true := by rw [show (intsOf l.all).length = i0a.toNat by omega]; exact hok
            refine congrArg Value.bool ?_
            first
              | exact (mayL_not (by omega)).symm
              | (by_cases hc : l.len ≤ 32
                 · rw [mayL_yes (by omega) (by omega) (by omega) (by omega) (by omega) hfull]; simp; omega
                 · rw [mayL_not (by omega)]; simp; omega)
      ·
        by_cases hlt : i0a < (l.len : Int)
        · have hg := getD_of (d := (0 : Int)) (ints_at l e0 (i := i0a.toNat) (by omega))
          have hp : 0 < i0a → (intsOf l.all).getD (i0a.toNat - 1) 0 = intOf (l.cont (i0a.toNat - 1) 0) := fun h => getD_of (d := (0 : Int)) (ints_at l e0 (i := i0a.toNat - 1) (by omega))
          have hq : 0 < i0a → IntKind.wrap .i64 (i0a - 1) = i0a - 1 := fun h => by omega
          have hz : (i0a - 1).toNat = i0a.toNat - 1 := by omega
          have hls : leastL (intsOf l.all) i0a.toNat = if i0a.toNat = 0 then -50000 else (intsOf l.all).getD (i0a.toNat - 1) 0 + 1 := rfl
          have hpv : 0 < i0a → -50000 ≤ (intsOf l.all).getD (i0a.toNat - 1) 0 := fun h => (okL_ge hok (i0a.toNat - 1) (by omega)).1
          first
          | (exfalso; omega)
          | (refine congrArg Value.bool (mayL_bad (j := i0a.toNat) (by omega) ?_).symm
             simp only [okJ, hg, Bool.and_eq_false_iff, decide_eq_false_iff_not]
             by_cases h0a : 0 < i0a
             · have k1 := hp h0a; have k2 := hq h0a; have k3 := hpv h0a
               rw [if_neg (by omega)] at hls
               first | omega | (rw [k2, hz] at h12; omega)
             · rw [if_pos (by omega)] at hls; omega)
        · have hfull : okL (intsOf l.all) t (intsOf l.all).length = true := by rw [show (intsOf l.all).length = i0a.toNat by omega]; exact hok
          refine congrArg Value.bool ?_
          first
            | exact (mayL_not (by omega)).symm
            | (by_cases hc : l.len ≤ 32
               · rw [mayL_yes (by omega) (by omega) (by omega) (by omega) (by omega) hfull]; simp; omega
               · rw [mayL_not (by omega)]; simp; omega)
theorem rmay (b : Int) (t : Int) (l : Slc) (e0 : l.esz = 1) (hl : l.len ≤ 9223372036854775807) (w : World) (hs0 : SlOk w l [.int .i64]) : Calls Tryd.prog 21 #[.agg #[.int .i64 b, .int .i64 t, l.val]] w fun e w' => e = .returned (.bool (mayL b t (intsOf l.all))) ∧ Below w.heap.size w w' := by
  have h := calls_by (n := ⟨2, 0, 0, 0⟩) (x9E [b, t] [] [] [] (slsOf [l])) (vs := [.agg #[.int .i64 b, .int .i64 t, l.val]]) (W := w) x9m rmay_w rfl ⟨rfl, rfl, rfl, rfl⟩ ⟨good_nil, (slsOk_cons hs0 slsOk_nil)⟩ (rmay_h b t l e0 hl) rfl
  exact calls_eq h
abbrev x9c_rmay : Con := ⟨21, [(.agg (.cons (.int .i64 (.var 0)) (.cons (.int .i64 (.var 1)) (.cons (.sl 0) .nil))))], (.b2 .le (.slen 0) (.lit (9223372036854775807))), (.bool (.bapp 1 (.cons (.int .i64 (.var 0)) (.cons (.int .i64 (.var 1)) (.cons (.slv 0) .nil))))), [[.int .i64]]⟩
theorem x9g_rmay (iv : List Int) (bv : List Bool) (vv : List Value) (sv : List ByteArray) (sls : Nat → Slc) (W : World) : x9c_rmay.Good Tryd.prog (x9E iv bv vv sv sls) W := by
  intro iv bv vv sv sls β hc w hb hsl
  have hs0 := hsl 0 _ rfl
  exact rmay (iv.getD 0 0) (iv.getD 1 0) (sls 0) hs0.1.symm (by have := hc; simp only [Sx.holds, denI] at this; omega) w hs0
def rsecond_tree : Tree :=
 (.loop ⟨2, 0, 0, 0⟩ (.b2 .and (.b2 .and (.b2 .le (.lit (0)) (.lit (0))) (.b2 .le (.lit (0)) (.slen 0))) (.b2 .eq (.wrap .i64 (.i2 .add (.wrap .i64 (.i2 .mul (.lit (86400)) (.var 2))) (.var 0))) (.i2 .add (.i2 .add (.i2 .mul (.lit (86400)) (.var 2)) (.var 0)) (.iapp 1 (.cons (.slv 0) (.cons (.int .i64 (.var 2)) (.cons (.int .i64 (.lit (0))) .nil))))))) (.b2 .and (.b2 .and (.b2 .le (.lit (0)) (.var 4)) (.b2 .le (.var 4) (.slen 0))) (.b2 .eq (.var 3) (.i2 .add (.i2 .add (.i2 .mul (.lit (86400)) (.var 2)) (.var 0)) (.iapp 1 (.cons (.slv 0) (.cons (.int .i64 (.var 2)) (.cons (.int .i64 (.var 4)) .nil)))))))
 (.br (.b2 .lt (.var 4) (.slen 0))
 (.need (.b2 .and (.b2 .le (.lit (0)) (.var 4)) (.b2 .lt (.var 4) (.slen 0)))
 (.need (.b2 .and (.b2 .le (.lit (0)) (.var 4)) (.b2 .lt (.var 4) (.slen 0)))
 (.br (.b2 .lt (.sel 0 (.var 4) 0) (.var 2))
 (.back (.b2 .and (.b2 .and (.b2 .le (.lit (0)) (.wrap .i64 (.i2 .add (.var 4) (.lit (1))))) (.b2 .le (.wrap .i64 (.i2 .add (.var 4) (.lit (1)))) (.slen 0))) (.b2 .eq (.wrap .i64 (.i2 .add (.var 3) (.lit (1)))) (.i2 .add (.i2 .add (.i2 .mul (.lit (86400)) (.var 2)) (.var 0)) (.iapp 1 (.cons (.slv 0) (.cons (.int .i64 (.var 2)) (.cons (.int .i64 (.wrap .i64 (.i2 .add (.var 4) (.lit (1))))) .nil))))))) (.i2 .sub (.slen 0) (.wrap .i64 (.i2 .add (.var 4) (.lit (1))))) (.i2 .sub (.slen 0) (.var 4)))
 (.back (.b2 .and (.b2 .and (.b2 .le (.lit (0)) (.wrap .i64 (.i2 .add (.var 4) (.lit (1))))) (.b2 .le (.wrap .i64 (.i2 .add (.var 4) (.lit (1)))) (.slen 0))) (.b2 .eq (.var 3) (.i2 .add (.i2 .add (.i2 .mul (.lit (86400)) (.var 2)) (.var 0)) (.iapp 1 (.cons (.slv 0) (.cons (.int .i64 (.var 2)) (.cons (.int .i64 (.wrap .i64 (.i2 .add (.var 4) (.lit (1))))) .nil))))))) (.i2 .sub (.slen 0) (.wrap .i64 (.i2 .add (.var 4) (.lit (1))))) (.i2 .sub (.slen 0) (.var 4))))))
 (.ret (.int .i64 (.var 3)))))
theorem rsecond_w : walk Tryd.prog 108 ⟨[], [[.int .i64]]⟩ [⟨0, ⟨2, 0, 0, 0⟩, [(5, (.int .i64 (.var 3))), (6, (.int .i64 (.var 4)))], none, (.b2 .and (.b2 .and (.b2 .le (.lit (0)) (.var 4)) (.b2 .le (.var 4) (.slen 0))) (.b2 .eq (.var 3) (.i2 .add (.i2 .add (.i2 .mul (.lit (86400)) (.var 2)) (.var 0)) (.iapp 1 (.cons (.slv 0) (.cons (.int .i64 (.var 2)) (.cons (.int .i64 (.var 4)) .nil))))))), (.i2 .sub (.slen 0) (.var 4))⟩] 24 [(.agg (.cons (.int .i64 (.var 0)) (.cons (.int .i64 (.var 1)) (.cons (.sl 0) .nil)))), (.int .i64 (.var 2))] ⟨3, 0, 0, 0⟩ 2000 = some rsecond_tree := by kernel_rfl
theorem rsecond_h (b : Int) (t : Int) (l : Slc) (d : Int) (e0 : l.esz = 1) (hb0 : 0 ≤ b) (hb1 : b ≤ 100) (hl : l.len ≤ 32) (hd0 : -100000 ≤ d) (hd1 : d ≤ 100000) : rsecond_tree.holds (fun v => v = .int .i64 (secL b (intsOf l.all) d)) (x9E [b, t, d] [] [] [] (slsOf [l])) := by
  unfold rsecond_tree
  simp only [AllN, Env.more, x9E, List.cons_append, List.nil_append, List.append_nil, Tree.holds, Sx.holds, denV, denI, denB, denL, I2.den, x9I, x9B, x9V, List.getD_cons_zero, List.getD_cons_succ, Cst.den, slsOf_zero, slsOf_one, B2.ofInts, B2.denI, B2.denB, if_true, Bool.false_eq_true, if_false]
  have wf0 := wr_i64 (86400 * d)
  have wf1 := wr_i64 ((IntKind.wrap .i64 (86400 * d)) + b)
  refine ⟨?_, ?_⟩
  ·
    refine ⟨⟨by omega, by omega⟩, ?_⟩
    simp only [Int.toNat_zero, cntL_zero]
    omega
  ·
    intro i0a i0b hi0
    have wf2 := wr_i64 (i0b + 1)
    have wf3 := wr_i64 (i0a + 1)
    refine ⟨fun h0 => ?_, fun h0 => ?_⟩
    ·
      refine ⟨?_, fun h1 => ?_⟩
      ·
        omega
      ·
        refine ⟨?_, fun h2 => ?_⟩
        ·
          omega
        ·
          refine ⟨fun h3 => ?_, fun h3 => ?_⟩
          ·
            refine ⟨?_, ?_⟩
            ·
              have hw : IntKind.wrap .i64 (i0b + 1) = i0b + 1 := by omega
              have hc := cntL_succ (day := d) (ints_at l e0 (i := i0b.toNat) (by omega))
              have hle := cntL_le (intsOf l.all) d i0b.toNat
              have hv : IntKind.wrap .i64 (i0a + 1) = i0a + 1 := by omega
              rw [hw, toNat_succ (by omega), hc]
              first | rw [if_pos h3] | rw [if_neg h3]
              exact ⟨⟨by omega, by omega⟩, by omega⟩
            ·
              omega
          ·
            refine ⟨?_, ?_⟩
            ·
              have hw : IntKind.wrap .i64 (i0b + 1) = i0b + 1 := by omega
              have hc := cntL_succ (day := d) (ints_at l e0 (i := i0b.toNat) (by omega))
              have hle := cntL_le (intsOf l.all) d i0b.toNat
              have hv : IntKind.wrap .i64 (i0a + 1) = i0a + 1 := by omega
              rw [hw, toNat_succ (by omega), hc]
              first | rw [if_pos h3] | rw [if_neg h3]
              exact ⟨⟨by omega, by omega⟩, by omega⟩
            ·
              omega
    ·
      have hn : i0b.toNat = l.len := by omega
      rw [hn, ← ints_len l e0, cntL_all] at hi0
      simp only [Value.int.injEq, true_and, secL]
      omega
theorem rsecond (b : Int) (t : Int) (l : Slc) (d : Int) (e0 : l.esz = 1) (hb0 : 0 ≤ b) (hb1 : b ≤ 100) (hl : l.len ≤ 32) (hd0 : -100000 ≤ d) (hd1 : d ≤ 100000) (w : World) (hs0 : SlOk w l [.int .i64]) : Calls Tryd.prog 24 #[.agg #[.int .i64 b, .int .i64 t, l.val], .int .i64 d] w fun e w' => e = .returned (.int .i64 (secL b (intsOf l.all) d)) ∧ Below w.heap.size w w' := by
  have h := calls_by (n := ⟨3, 0, 0, 0⟩) (x9E [b, t, d] [] [] [] (slsOf [l])) (vs := [.agg #[.int .i64 b, .int .i64 t, l.val], .int .i64 d]) (W := w) x9m rsecond_w rfl ⟨rfl, rfl, rfl, rfl⟩ ⟨good_nil, (slsOk_cons hs0 slsOk_nil)⟩ (rsecond_h b t l d e0 hb0 hb1 hl hd0 hd1) rfl
  exact calls_eq h
end Go.Proofs.YtehiienjodicpaaDoor
