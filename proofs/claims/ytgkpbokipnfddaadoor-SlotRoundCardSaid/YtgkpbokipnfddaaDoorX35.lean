/-
  Layer 35 by symbolic walks.
-/
import Derived.Test.YtgkpbokipnfddaaDoorSx
import Derived.Test.YtgkpbokipnfddaaDoorE01
import Derived.Test.YtgkpbokipnfddaaDoorM35
import Derived.Test.YtgkpbokipnfddaaDoorNum
namespace Go.Proofs.YtgkpbokipnfddaaDoor
open Go.RowKit Go.Extern.Stop Go.Stop Go.Extern Go.Proofs.YtgkpbokipnfddaaDoor.Sx
set_option linter.unusedVariables false
set_option linter.unusedSimpArgs false
theorem errR1 {n : Int} (h : n = 1) : Value.iface 111 (.int .i64 1) = errVal 111 n := by subst h; rfl
theorem errR0 {n : Int} (h : n = 0) : Value.nilIface = errVal 111 n := by subst h; rfl
theorem errR6 {n : Int} (h : n = 6) : Value.iface 111 (.int .i64 6) = errVal 111 n := by subst h; rfl
theorem str_at (s : Slc) (h : s.esz = 1) {i : Int} (h0 : 0 ≤ i) (h1 : i < s.len) : nameAt (strsOf s.all) i.toNat = strOf (s.cont i.toNat 0) := getD_of (strs_at s h (i := i.toNat) (by omega))
def x35I : Nat → List Value → Int
  | 0, [l] => firstN (longAt (strsOf l)) (strsOf l).length
  | 1, [.int _ s, l] => mayRI s (strsOf l)
  | 2, [.int _ s, l, .int _ d] => plE s (strsOf l) d
  | 3, [.int _ s, l, .int _ d] => plS s (strsOf l) d
  | 4, [.int _ s, l, .int _ d] => plG s (strsOf l) d
  | 5, [.int _ s, l, .int _ d] => lfV s (strsOf l) d
  | 6, [.int _ s, l, .int _ d, .string n] => nxE s (strsOf l) d n
  | 7, [.int _ s, l, .int _ d, .string n] => nxV s (strsOf l) d n
  | 8, [.int _ s, l, .string n] => shV s (strsOf l) n
  | 9, [l, .string n, .int _ k] => (cntM (strsOf l) n k.toNat : Int)
  | 10, [.int _ a, .int _ b] => dqE a b
  | 11, [.int _ a, .int _ b] => dmE a b
  | 12, [.int _ b] => deE b
  | _, _ => 0
def x35B : Nat → List Value → Bool
  | 0, [l, .int _ n] => noneB (longAt (strsOf l)) n.toNat
  | 1, [l, .int _ p, .string n, .int _ k] => noneB (matchAt (strsOf l) p.toNat n) k.toNat
  | _, _ => false
def x35V : Nat → List Value → Value
  | 0, [.int _ s, l, .int _ d] => .string (whoS s (strsOf l) d)
  | _, _ => Go.undef
abbrev x35E (iv : List Int) (bv : List Bool) (vv : List Value) (sv : List ByteArray) (sls : Nat → Slc) : Env := { sls := sls, iv := iv, bv := bv, vv := vv, sv := sv, fi := x35I, fb := x35B, fv := x35V, et := 111 }
theorem x35so (s : ByteArray) : strOf (.string s) = s := rfl
theorem x35se (a b : ByteArray) : strEq (.string a) (.string b) = (a == b) := rfl
theorem x35m : Tryd.prog.follows .mixedOrders = true := by kernel_rfl
def clos_tree : Tree :=
 (.ret (.bool (.b2 .lt (.lit (12)) (.blen (.str 0)))))
theorem clos_w : walk Tryd.prog 111 ⟨[], []⟩ [] 79 [(.str 0)] ⟨0, 0, 0, 1⟩ 2000 = some clos_tree := by kernel_rfl
theorem clos_h (n : ByteArray)  : clos_tree.holds (fun v => v = .bool (decide (12 < n.size))) (x35E [] [] [] [n] (slsOf [])) := by
  unfold clos_tree
  simp only [Tree.holds, Sx.holds, denV, denI, denB, denL, I2.den, x35I, x35B, x35V, List.getD_cons_zero, List.getD_cons_succ, Cst.den, slsOf_zero, slsOf_one, x35so, x35se, List.map_nil, List.map_cons, B2.ofInts, B2.denI, B2.denB, if_true, Bool.false_eq_true, if_false]
  simp only [Value.bool.injEq]; rw [Bool.eq_iff_iff]; simp only [decide_eq_true_eq]; omega
theorem clos (n : ByteArray)  (w : World) : Calls Tryd.prog 79 #[.string n] w fun e w' => e = .returned (.bool (decide (12 < n.size))) ∧ Below w.heap.size w w' := by
  have h := calls_by (n := ⟨0, 0, 0, 1⟩) (x35E [] [] [] [n] (slsOf [])) (vs := [.string n]) (W := w) x35m clos_w rfl ⟨rfl, rfl, rfl, rfl⟩ ⟨good_nil, slsOk_nil⟩ (clos_h n ) rfl
  exact calls_eq h
theorem clos_i (n : ByteArray) (w : World) : Calls Tryd.prog 79 #[.string n] w fun e w' => e = .returned (.bool (decide ((12 : Int) < ((n.size : Nat) : Int)))) ∧ Below w.heap.size w w' := by
  have h := clos n w
  have e : decide (12 < n.size) = decide ((12 : Int) < ((n.size : Nat) : Int)) := by rw [decide_eq_decide]; omega
  rw [e] at h
  exact h
abbrev x35c_clos : Con := ⟨79, [(.str 0)], (.tt true), (.bool (.b2 .lt (.lit (12)) (.blen (.str 0)))), []⟩
theorem x35g_clos (iv : List Int) (bv : List Bool) (vv : List Value) (sv : List ByteArray) (sls : Nat → Slc) (W : World) : x35c_clos.Good Tryd.prog (x35E iv bv vv sv sls) W := by
  intro iv bv vv sv sls β hc w hb hsl
  exact clos_i (sv.getD 0 ByteArray.empty) w
def indexf_tree : Tree :=
 (.loop ⟨1, 0, 0, 0⟩ (.b2 .and (.b2 .and (.b2 .le (.lit (0)) (.lit (0))) (.b2 .le (.lit (0)) (.slen 0))) (.bapp 0 (.cons (.slv 0) (.cons (.int .i64 (.lit (0))) .nil)))) (.b2 .and (.b2 .and (.b2 .le (.lit (0)) (.var 0)) (.b2 .le (.var 0) (.slen 0))) (.bapp 0 (.cons (.slv 0) (.cons (.int .i64 (.var 0)) .nil))))
 (.br (.b2 .lt (.var 0) (.slen 0))
 (.need (.b2 .and (.b2 .le (.lit (0)) (.var 0)) (.b2 .lt (.var 0) (.slen 0)))
 (.need (.b2 .and (.b2 .le (.lit (0)) (.var 0)) (.b2 .lt (.var 0) (.slen 0)))
 (.br (.b2 .lt (.lit (12)) (.blen (.ssel 0 (.var 0) 0)))
 (.ret (.int .i64 (.var 0)))
 (.back (.b2 .and (.b2 .and (.b2 .le (.lit (0)) (.wrap .i64 (.i2 .add (.var 0) (.lit (1))))) (.b2 .le (.wrap .i64 (.i2 .add (.var 0) (.lit (1)))) (.slen 0))) (.bapp 0 (.cons (.slv 0) (.cons (.int .i64 (.wrap .i64 (.i2 .add (.var 0) (.lit (1))))) .nil)))) (.i2 .sub (.slen 0) (.wrap .i64 (.i2 .add (.var 0) (.lit (1))))) (.i2 .sub (.slen 0) (.var 0))))))
 (.ret (.int .i64 (.lit (-1))))))
theorem indexf_w : walk Tryd.prog 111 ⟨[x35c_clos], [[.str]]⟩ [⟨0, ⟨1, 0, 0, 0⟩, [(8, (.int .i64 (.var 0)))], none, (.b2 .and (.b2 .and (.b2 .le (.lit (0)) (.var 0)) (.b2 .le (.var 0) (.slen 0))) (.bapp 0 (.cons (.slv 0) (.cons (.int .i64 (.var 0)) .nil)))), (.i2 .sub (.slen 0) (.var 0))⟩] 93 [(.sl 0), (.cst (.fn 79))] ⟨0, 0, 0, 0⟩ 2000 = some indexf_tree := by kernel_rfl
theorem indexf_h (l : Slc) (e0 : l.esz = 1) (hl : l.len ≤ 9223372036854775807) : indexf_tree.holds (fun v => v = .int .i64 (firstN (longAt (strsOf l.all)) (strsOf l.all).length)) (x35E [] [] [] [] (slsOf [l])) := by
  unfold indexf_tree
  simp only [AllN, Env.more, x35E, List.cons_append, List.nil_append, List.append_nil, Tree.holds, Sx.holds, denV, denI, denB, denL, I2.den, x35I, x35B, x35V, List.getD_cons_zero, List.getD_cons_succ, Cst.den, slsOf_zero, slsOf_one, x35so, x35se, List.map_nil, List.map_cons, B2.ofInts, B2.denI, B2.denB, if_true, Bool.false_eq_true, if_false]
  have hlen := strs_len l e0
  refine ⟨?_, ?_⟩
  ·
    exact ⟨⟨by omega, by omega⟩, rfl⟩
  ·
    intro i0a hi0
    obtain ⟨⟨r0, r1⟩, r2⟩ := hi0
    have wf0 := wr_i64 (i0a + 1)
    refine ⟨fun h0 => ?_, fun h0 => ?_⟩
    ·
      refine ⟨?_, fun h1 => ?_⟩
      ·
        omega
      ·
        refine ⟨?_, fun h2 => ?_⟩
        ·
          omega
        ·
          refine ⟨fun h3 => ?_, fun h3 => ?_⟩
          ·
            by_cases hlt : i0a < (l.len : Int)
            · have hn := str_at l e0 (i := i0a) r0 hlt
              have hp : longAt (strsOf l.all) i0a.toNat = true := by unfold longAt; rw [hn]; simp only [decide_eq_true_eq]; omega
              rw [firstN_at r2 (by omega) hp]
              simp only [Value.int.injEq, true_and]
              omega
            · first | (exfalso; omega) | rw [firstN_none (by rw [show (strsOf l.all).length = i0a.toNat by omega]; exact r2)]
          ·
            refine ⟨?_, ?_⟩
            ·
              have hw : IntKind.wrap .i64 (i0a + 1) = i0a + 1 := by omega
              have hn := str_at l e0 (i := i0a) r0 (by omega)
              have hp : longAt (strsOf l.all) i0a.toNat = false := by unfold longAt; rw [hn]; simp only [decide_eq_false_iff_not]; omega
              refine ⟨⟨by omega, by omega⟩, ?_⟩
              rw [hw, toNat_succ r0, noneB_succ, r2, hp]
              rfl
            ·
              omega
    ·
      by_cases hlt : i0a < (l.len : Int)
      · have hn := str_at l e0 (i := i0a) r0 hlt
        have hp : longAt (strsOf l.all) i0a.toNat = true := by unfold longAt; rw [hn]; simp only [decide_eq_true_eq]; omega
        rw [firstN_at r2 (by omega) hp]
        simp only [Value.int.injEq, true_and]
        omega
      · first | (exfalso; omega) | rw [firstN_none (by rw [show (strsOf l.all).length = i0a.toNat by omega]; exact r2)]
theorem indexf (l : Slc) (e0 : l.esz = 1) (hl : l.len ≤ 9223372036854775807) (w : World) (hs0 : SlOk w l [.str]) : Calls Tryd.prog 93 #[l.val, .func (.func 79) #[] #[]] w fun e w' => e = .returned (.int .i64 (firstN (longAt (strsOf l.all)) (strsOf l.all).length)) ∧ Below w.heap.size w w' := by
  have h := calls_by (n := ⟨0, 0, 0, 0⟩) (x35E [] [] [] [] (slsOf [l])) (vs := [l.val, .func (.func 79) #[] #[]]) (W := w) x35m indexf_w rfl ⟨rfl, rfl, rfl, rfl⟩ ⟨(good_cons (x35g_clos _ _ _ _ _ _) good_nil), (slsOk_cons hs0 slsOk_nil)⟩ (indexf_h l e0 hl) rfl
  exact calls_eq h
abbrev x35c_indexf : Con := ⟨93, [(.sl 0), (.cst (.fn 79))], (.b2 .le (.slen 0) (.lit (9223372036854775807))), (.int .i64 (.iapp 0 (.cons (.slv 0) .nil))), [[.str]]⟩
theorem x35g_indexf (iv : List Int) (bv : List Bool) (vv : List Value) (sv : List ByteArray) (sls : Nat → Slc) (W : World) : x35c_indexf.Good Tryd.prog (x35E iv bv vv sv sls) W := by
  intro iv bv vv sv sls β hc w hb hsl
  have hs0 := hsl 0 _ rfl
  exact indexf (sls 0) hs0.1.symm (by simp only [Sx.holds, denI] at hc; omega) w hs0
def contf_tree : Tree :=
 (.need (.b2 .le (.slen 0) (.lit (9223372036854775807)))
 (.ret (.bool (.b2 .le (.lit (0)) (.iapp 0 (.cons (.slv 0) .nil))))))
theorem contf_w : walk Tryd.prog 111 ⟨[x35c_indexf], [[.str]]⟩ [] 78 [(.sl 0), (.cst (.fn 79))] ⟨0, 0, 0, 0⟩ 2000 = some contf_tree := by kernel_rfl
theorem contf_h (l : Slc) (e0 : l.esz = 1) (hl : l.len ≤ 9223372036854775807) : contf_tree.holds (fun v => v = .bool (decide (0 ≤ firstN (longAt (strsOf l.all)) (strsOf l.all).length))) (x35E [] [] [] [] (slsOf [l])) := by
  unfold contf_tree
  simp only [Tree.holds, Sx.holds, denV, denI, denB, denL, I2.den, x35I, x35B, x35V, List.getD_cons_zero, List.getD_cons_succ, Cst.den, slsOf_zero, slsOf_one, x35so, x35se, List.map_nil, List.map_cons, B2.ofInts, B2.denI, B2.denB, if_true, Bool.false_eq_true, if_false]
  refine ⟨?_, fun h0 => ?_⟩
  ·
    omega
  ·
    first | rfl | (simp only [Value.bool.injEq]; done) | (simp only [Value.bool.injEq]; rw [Bool.eq_iff_iff]; simp only [decide_eq_true_eq])
theorem contf (l : Slc) (e0 : l.esz = 1) (hl : l.len ≤ 9223372036854775807) (w : World) (hs0 : SlOk w l [.str]) : Calls Tryd.prog 78 #[l.val, .func (.func 79) #[] #[]] w fun e w' => e = .returned (.bool (decide (0 ≤ firstN (longAt (strsOf l.all)) (strsOf l.all).length))) ∧ Below w.heap.size w w' := by
  have h := calls_by (n := ⟨0, 0, 0, 0⟩) (x35E [] [] [] [] (slsOf [l])) (vs := [l.val, .func (.func 79) #[] #[]]) (W := w) x35m contf_w rfl ⟨rfl, rfl, rfl, rfl⟩ ⟨(good_cons (x35g_indexf _ _ _ _ _ _) good_nil), (slsOk_cons hs0 slsOk_nil)⟩ (contf_h l e0 hl) rfl
  exact calls_eq h
abbrev x35c_contf : Con := ⟨78, [(.sl 0), (.cst (.fn 79))], (.b2 .le (.slen 0) (.lit (9223372036854775807))), (.bool (.b2 .le (.lit (0)) (.iapp 0 (.cons (.slv 0) .nil)))), [[.str]]⟩
theorem x35g_contf (iv : List Int) (bv : List Bool) (vv : List Value) (sv : List ByteArray) (sls : Nat → Slc) (W : World) : x35c_contf.Good Tryd.prog (x35E iv bv vv sv sls) W := by
  intro iv bv vv sv sls β hc w hb hsl
  have hs0 := hsl 0 _ rfl
  exact contf (sls 0) hs0.1.symm (by simp only [Sx.holds, denI] at hc; omega) w hs0
def scheck_tree : Tree :=
 (.need (.b2 .le (.slen 0) (.lit (9223372036854775807)))
 (.br (.b2 .le (.lit (0)) (.iapp 0 (.cons (.slv 0) .nil)))
 (.ret (.iface 111 (.int .i64 (.lit (1)))))
 (.br (.b2 .lt (.var 0) (.lit (1)))
 (.ret (.iface 111 (.int .i64 (.lit (1)))))
 (.br (.b2 .lt (.lit (1073741824)) (.var 0))
 (.ret (.iface 111 (.int .i64 (.lit (1)))))
 (.br (.b2 .lt (.slen 0) (.lit (1)))
 (.ret (.iface 111 (.int .i64 (.lit (1)))))
 (.br (.b2 .lt (.lit (16)) (.slen 0))
 (.ret (.iface 111 (.int .i64 (.lit (1)))))
 (.ret (.cst .nilI))))))))
theorem scheck_w : walk Tryd.prog 111 ⟨[x35c_contf], [[.str]]⟩ [] 54 [(.agg (.cons (.int .i64 (.var 0)) (.cons (.sl 0) .nil)))] ⟨1, 0, 0, 0⟩ 2000 = some scheck_tree := by kernel_rfl
theorem scheck_h (t : Int) (l : Slc) (e0 : l.esz = 1) (hl : l.len ≤ 9223372036854775807) : scheck_tree.holds (fun v => v = errVal 111 (mayRI t (strsOf l.all))) (x35E [t] [] [] [] (slsOf [l])) := by
  unfold scheck_tree
  simp only [Tree.holds, Sx.holds, denV, denI, denB, denL, I2.den, x35I, x35B, x35V, List.getD_cons_zero, List.getD_cons_succ, Cst.den, slsOf_zero, slsOf_one, x35so, x35se, List.map_nil, List.map_cons, B2.ofInts, B2.denI, B2.denB, if_true, Bool.false_eq_true, if_false]
  have hlen := strs_len l e0
  have f1 := mayRI_spec t (strsOf l.all)
  refine ⟨?_, fun h0 => ?_⟩
  ·
    omega
  ·
    refine ⟨fun h1 => ?_, fun h1 => ?_⟩
    ·
      first | exact errR1 (by omega) | exact errR0 (by omega) | exact errR6 (by omega) | (exfalso; omega) | (refine congrArg (errVal _) ?_; omega)
    ·
      refine ⟨fun h2 => ?_, fun h2 => ?_⟩
      ·
        first | exact errR1 (by omega) | exact errR0 (by omega) | exact errR6 (by omega) | (exfalso; omega) | (refine congrArg (errVal _) ?_; omega)
      ·
        refine ⟨fun h3 => ?_, fun h3 => ?_⟩
        ·
          first | exact errR1 (by omega) | exact errR0 (by omega) | exact errR6 (by omega) | (exfalso; omega) | (refine congrArg (errVal _) ?_; omega)
        ·
          refine ⟨fun h4 => ?_, fun h4 => ?_⟩
          ·
            first | exact errR1 (by omega) | exact errR0 (by omega) | exact errR6 (by omega) | (exfalso; omega) | (refine congrArg (errVal _) ?_; omega)
          ·
            refine ⟨fun h5 => ?_, fun h5 => ?_⟩
            ·
              first | exact errR1 (by omega) | exact errR0 (by omega) | exact errR6 (by omega) | (exfalso; omega) | (refine congrArg (errVal _) ?_; omega)
            ·
              first | exact errR1 (by omega) | exact errR0 (by omega) | exact errR6 (by omega) | (exfalso; omega) | (refine congrArg (errVal _) ?_; omega)
theorem scheck (t : Int) (l : Slc) (e0 : l.esz = 1) (hl : l.len ≤ 9223372036854775807) (w : World) (hs0 : SlOk w l [.str]) : Calls Tryd.prog 54 #[.agg #[.int .i64 t, l.val]] w fun e w' => e = .returned (errVal 111 (mayRI t (strsOf l.all))) ∧ Below w.heap.size w w' := by
  have h := calls_by (n := ⟨1, 0, 0, 0⟩) (x35E [t] [] [] [] (slsOf [l])) (vs := [.agg #[.int .i64 t, l.val]]) (W := w) x35m scheck_w rfl ⟨rfl, rfl, rfl, rfl⟩ ⟨(good_cons (x35g_contf _ _ _ _ _ _) good_nil), (slsOk_cons hs0 slsOk_nil)⟩ (scheck_h t l e0 hl) rfl
  exact calls_eq h
abbrev x35c_scheck : Con := ⟨54, [(.agg (.cons (.int .i64 (.var 0)) (.cons (.sl 0) .nil)))], (.b2 .le (.slen 0) (.lit (9223372036854775807))), (.err (.iapp 1 (.cons (.int .i64 (.var 0)) (.cons (.slv 0) .nil)))), [[.str]]⟩
theorem x35g_scheck (iv : List Int) (bv : List Bool) (vv : List Value) (sv : List ByteArray) (sls : Nat → Slc) (W : World) : x35c_scheck.Good Tryd.prog (x35E iv bv vv sv sls) W := by
  intro iv bv vv sv sls β hc w hb hsl
  have hs0 := hsl 0 _ rfl
  exact scheck (iv.getD 0 0) (sls 0) hs0.1.symm (by simp only [Sx.holds, denI] at hc; omega) w hs0
abbrev x35c_div : Con := ⟨72, [(.int .i64 (.var 0)), (.int .i64 (.var 1))], (.b2 .and (.b2 .and (.b2 .le (.lit (-9223372036854775808)) (.var 0)) (.b2 .le (.var 0) (.lit (9223372036854775807)))) (.b2 .and (.b2 .le (.lit (-9223372036854775808)) (.var 1)) (.b2 .le (.var 1) (.lit (9223372036854775807))))), (.tup (.cons (.int .i64 (.iapp 10 (.cons (.int .i64 (.var 0)) (.cons (.int .i64 (.var 1)) .nil)))) (.cons (.int .i64 (.iapp 11 (.cons (.int .i64 (.var 0)) (.cons (.int .i64 (.var 1)) .nil)))) (.cons (.err (.iapp 12 (.cons (.int .i64 (.var 1)) .nil))) .nil)))), []⟩
theorem x35g_div (iv : List Int) (bv : List Bool) (vv : List Value) (sv : List ByteArray) (sls : Nat → Slc) (W : World) : x35c_div.Good Tryd.prog (x35E iv bv vv sv sls) W := by
  intro iv bv vv sv sls β hc w hb hsl
  exact ediv (iv.getD 0 0) (iv.getD 1 0) hc.1 hc.2 w
def splace_tree : Tree :=
 (.need (.b2 .le (.slen 0) (.lit (9223372036854775807)))
 (.br (.not (.b2 .eq (.iapp 1 (.cons (.int .i64 (.var 0)) (.cons (.slv 0) .nil))) (.lit (0))))
 (.ret (.tup (.cons (.int .i64 (.lit (0))) (.cons (.int .i64 (.lit (0))) (.cons (.iface 111 (.int .i64 (.lit (1)))) .nil)))))
 (.br (.b2 .lt (.var 1) (.lit (0)))
 (.ret (.tup (.cons (.int .i64 (.lit (0))) (.cons (.int .i64 (.lit (0))) (.cons (.iface 111 (.int .i64 (.lit (1)))) .nil)))))
 (.br (.b2 .lt (.lit (1152921504606846976)) (.var 1))
 (.ret (.tup (.cons (.int .i64 (.lit (0))) (.cons (.int .i64 (.lit (0))) (.cons (.iface 111 (.int .i64 (.lit (1)))) .nil)))))
 (.need (.b2 .and (.b2 .and (.b2 .le (.lit (-9223372036854775808)) (.var 1)) (.b2 .le (.var 1) (.lit (9223372036854775807)))) (.b2 .and (.b2 .le (.lit (-9223372036854775808)) (.var 0)) (.b2 .le (.var 0) (.lit (9223372036854775807)))))
 (.br (.not (.b2 .eq (.iapp 12 (.cons (.int .i64 (.var 0)) .nil)) (.lit (0))))
 (.ret (.tup (.cons (.int .i64 (.lit (0))) (.cons (.int .i64 (.lit (0))) (.cons (.err (.iapp 12 (.cons (.int .i64 (.var 0)) .nil))) .nil)))))
 (.need (.not (.b2 .eq (.slen 0) (.lit (0))))
 (.ret (.tup (.cons (.int .i64 (.i2 .rem (.iapp 10 (.cons (.int .i64 (.var 1)) (.cons (.int .i64 (.var 0)) .nil))) (.slen 0))) (.cons (.int .i64 (.iapp 11 (.cons (.int .i64 (.var 1)) (.cons (.int .i64 (.var 0)) .nil)))) (.cons (.cst .nilI) .nil))))))))))))
theorem splace_w : walk Tryd.prog 111 ⟨[x35c_scheck, x35c_div], [[.str]]⟩ [] 76 [(.agg (.cons (.int .i64 (.var 0)) (.cons (.sl 0) .nil))), (.int .i64 (.var 1))] ⟨2, 0, 0, 0⟩ 2000 = some splace_tree := by kernel_rfl
theorem splace_h (t : Int) (l : Slc) (d : Int) (e0 : l.esz = 1) (hl : l.len ≤ 9223372036854775807) (hd : InR d) : splace_tree.holds (fun v => v = .tuple #[.int .i64 (plS t (strsOf l.all) d), .int .i64 (plG t (strsOf l.all) d), errVal 111 (plE t (strsOf l.all) d)]) (x35E [t, d] [] [] [] (slsOf [l])) := by
  unfold splace_tree
  simp only [Tree.holds, Sx.holds, denV, denI, denB, denL, I2.den, x35I, x35B, x35V, List.getD_cons_zero, List.getD_cons_succ, Cst.den, slsOf_zero, slsOf_one, x35so, x35se, List.map_nil, List.map_cons, B2.ofInts, B2.denI, B2.denB, if_true, Bool.false_eq_true, if_false]
  have hlen := strs_len l e0
  have f1 := plE_spec t (strsOf l.all) d
  have f2 := dE_spec d t
  refine ⟨?_, fun h0 => ?_⟩
  ·
    omega
  ·
    refine ⟨fun h1 => ?_, fun h1 => ?_⟩
    ·
      first
      | (exfalso; omega)
      | (simp only [Value.tuple.injEq, Value.agg.injEq, Value.int.injEq, Value.bool.injEq, Array.mk.injEq, List.cons.injEq, true_and, and_true]; exact ⟨by omega, by omega, by first | exact errR1 (by omega) | exact errR0 (by omega) | exact errR6 (by omega) | (exfalso; omega) | (refine congrArg (errVal _) ?_; omega)⟩)
      | (have ht := Int.tmod_eq_emod_of_nonneg (a := dqE d t) (b := (l.len : Int)) (by omega)
         rw [ht, show dqE d t = d / t by omega, show dmE d t = d % t by omega, ← hlen]
         simp only [Value.tuple.injEq, Value.agg.injEq, Value.int.injEq, Value.bool.injEq, Array.mk.injEq, List.cons.injEq, true_and, and_true]
         exact ⟨by omega, by omega, by first | exact errR1 (by omega) | exact errR0 (by omega) | exact errR6 (by omega) | (exfalso; omega) | (refine congrArg (errVal _) ?_; omega)⟩)
    ·
      refine ⟨fun h2 => ?_, fun h2 => ?_⟩
      ·
        first
        | (exfalso; omega)
        | (simp only [Value.tuple.injEq, Value.agg.injEq, Value.int.injEq, Value.bool.injEq, Array.mk.injEq, List.cons.injEq, true_and, and_true]; exact ⟨by omega, by omega, by first | exact errR1 (by omega) | exact errR0 (by omega) | exact errR6 (by omega) | (exfalso; omega) | (refine congrArg (errVal _) ?_; omega)⟩)
        | (have ht := Int.tmod_eq_emod_of_nonneg (a := dqE d t) (b := (l.len : Int)) (by omega)
           rw [ht, show dqE d t = d / t by omega, show dmE d t = d % t by omega, ← hlen]
           simp only [Value.tuple.injEq, Value.agg.injEq, Value.int.injEq, Value.bool.injEq, Array.mk.injEq, List.cons.injEq, true_and, and_true]
           exact ⟨by omega, by omega, by first | exact errR1 (by omega) | exact errR0 (by omega) | exact errR6 (by omega) | (exfalso; omega) | (refine congrArg (errVal _) ?_; omega)⟩)
      ·
        refine ⟨fun h3 => ?_, fun h3 => ?_⟩
        ·
          first
          | (exfalso; omega)
          | (simp only [Value.tuple.injEq, Value.agg.injEq, Value.int.injEq, Value.bool.injEq, Array.mk.injEq, List.cons.injEq, true_and, and_true]; exact ⟨by omega, by omega, by first | exact errR1 (by omega) | exact errR0 (by omega) | exact errR6 (by omega) | (exfalso; omega) | (refine congrArg (errVal _) ?_; omega)⟩)
          | (have ht := Int.tmod_eq_emod_of_nonneg (a := dqE d t) (b := (l.len : Int)) (by omega)
             rw [ht, show dqE d t = d / t by omega, show dmE d t = d % t by omega, ← hlen]
             simp only [Value.tuple.injEq, Value.agg.injEq, Value.int.injEq, Value.bool.injEq, Array.mk.injEq, List.cons.injEq, true_and, and_true]
             exact ⟨by omega, by omega, by first | exact errR1 (by omega) | exact errR0 (by omega) | exact errR6 (by omega) | (exfalso; omega) | (refine congrArg (errVal _) ?_; omega)⟩)
        ·
          refine ⟨?_, fun h4 => ?_⟩
          ·
            omega
          ·
            refine ⟨fun h5 => ?_, fun h5 => ?_⟩
            ·
              first
              | (exfalso; omega)
              | (simp only [Value.tuple.injEq, Value.agg.injEq, Value.int.injEq, Value.bool.injEq, Array.mk.injEq, List.cons.injEq, true_and, and_true]; exact ⟨by omega, by omega, by first | exact errR1 (by omega) | exact errR0 (by omega) | exact errR6 (by omega) | (exfalso; omega) | (refine congrArg (errVal _) ?_; omega)⟩)
              | (have ht := Int.tmod_eq_emod_of_nonneg (a := dqE d t) (b := (l.len : Int)) (by omega)
                 rw [ht, show dqE d t = d / t by omega, show dmE d t = d % t by omega, ← hlen]
                 simp only [Value.tuple.injEq, Value.agg.injEq, Value.int.injEq, Value.bool.injEq, Array.mk.injEq, List.cons.injEq, true_and, and_true]
                 exact ⟨by omega, by omega, by first | exact errR1 (by omega) | exact errR0 (by omega) | exact errR6 (by omega) | (exfalso; omega) | (refine congrArg (errVal _) ?_; omega)⟩)
            ·
              refine ⟨?_, fun h6 => ?_⟩
              ·
                omega
              ·
                first
                | (exfalso; omega)
                | (simp only [Value.tuple.injEq, Value.agg.injEq, Value.int.injEq, Value.bool.injEq, Array.mk.injEq, List.cons.injEq, true_and, and_true]; exact ⟨by omega, by omega, by first | exact errR1 (by omega) | exact errR0 (by omega) | exact errR6 (by omega) | (exfalso; omega) | (refine congrArg (errVal _) ?_; omega)⟩)
                | (have ht := Int.tmod_eq_emod_of_nonneg (a := dqE d t) (b := (l.len : Int)) (by omega)
                   rw [ht, show dqE d t = d / t by omega, show dmE d t = d % t by omega, ← hlen]
                   simp only [Value.tuple.injEq, Value.agg.injEq, Value.int.injEq, Value.bool.injEq, Array.mk.injEq, List.cons.injEq, true_and, and_true]
                   exact ⟨by omega, by omega, by first | exact errR1 (by omega) | exact errR0 (by omega) | exact errR6 (by omega) | (exfalso; omega) | (refine congrArg (errVal _) ?_; omega)⟩)
theorem splace (t : Int) (l : Slc) (d : Int) (e0 : l.esz = 1) (hl : l.len ≤ 9223372036854775807) (hd : InR d) (w : World) (hs0 : SlOk w l [.str]) : Calls Tryd.prog 76 #[.agg #[.int .i64 t, l.val], .int .i64 d] w fun e w' => e = .returned (.tuple #[.int .i64 (plS t (strsOf l.all) d), .int .i64 (plG t (strsOf l.all) d), errVal 111 (plE t (strsOf l.all) d)]) ∧ Below w.heap.size w w' := by
  have h := calls_by (n := ⟨2, 0, 0, 0⟩) (x35E [t, d] [] [] [] (slsOf [l])) (vs := [.agg #[.int .i64 t, l.val], .int .i64 d]) (W := w) x35m splace_w rfl ⟨rfl, rfl, rfl, rfl⟩ ⟨(good_cons (x35g_scheck _ _ _ _ _ _) (good_cons (x35g_div _ _ _ _ _ _) good_nil)), (slsOk_cons hs0 slsOk_nil)⟩ (splace_h t l d e0 hl hd) rfl
  exact calls_eq h
abbrev x35c_splace : Con := ⟨76, [(.agg (.cons (.int .i64 (.var 0)) (.cons (.sl 0) .nil))), (.int .i64 (.var 1))], (.b2 .and (.b2 .le (.slen 0) (.lit (9223372036854775807))) (.b2 .and (.b2 .le (.lit (-9223372036854775808)) (.var 1)) (.b2 .le (.var 1) (.lit (9223372036854775807))))), (.tup (.cons (.int .i64 (.iapp 3 (.cons (.int .i64 (.var 0)) (.cons (.slv 0) (.cons (.int .i64 (.var 1)) .nil))))) (.cons (.int .i64 (.iapp 4 (.cons (.int .i64 (.var 0)) (.cons (.slv 0) (.cons (.int .i64 (.var 1)) .nil))))) (.cons (.err (.iapp 2 (.cons (.int .i64 (.var 0)) (.cons (.slv 0) (.cons (.int .i64 (.var 1)) .nil))))) .nil)))), [[.str]]⟩
theorem x35g_splace (iv : List Int) (bv : List Bool) (vv : List Value) (sv : List ByteArray) (sls : Nat → Slc) (W : World) : x35c_splace.Good Tryd.prog (x35E iv bv vv sv sls) W := by
  intro iv bv vv sv sls β hc w hb hsl
  have hs0 := hsl 0 _ rfl
  exact splace (iv.getD 0 0) (sls 0) (iv.getD 1 0) hs0.1.symm (by simp only [Sx.holds, denI] at hc; omega) hc.2 w hs0
def swho_tree : Tree :=
 (.need (.b2 .and (.b2 .le (.slen 0) (.lit (9223372036854775807))) (.b2 .and (.b2 .le (.lit (-9223372036854775808)) (.var 1)) (.b2 .le (.var 1) (.lit (9223372036854775807)))))
 (.br (.not (.b2 .eq (.iapp 2 (.cons (.int .i64 (.var 0)) (.cons (.slv 0) (.cons (.int .i64 (.var 1)) .nil)))) (.lit (0))))
 (.ret (.tup (.cons (.cst (.strc [])) (.cons (.err (.iapp 2 (.cons (.int .i64 (.var 0)) (.cons (.slv 0) (.cons (.int .i64 (.var 1)) .nil))))) .nil))))
 (.need (.b2 .and (.b2 .le (.lit (0)) (.iapp 3 (.cons (.int .i64 (.var 0)) (.cons (.slv 0) (.cons (.int .i64 (.var 1)) .nil))))) (.b2 .lt (.iapp 3 (.cons (.int .i64 (.var 0)) (.cons (.slv 0) (.cons (.int .i64 (.var 1)) .nil)))) (.slen 0)))
 (.need (.b2 .and (.b2 .le (.lit (0)) (.iapp 3 (.cons (.int .i64 (.var 0)) (.cons (.slv 0) (.cons (.int .i64 (.var 1)) .nil))))) (.b2 .lt (.iapp 3 (.cons (.int .i64 (.var 0)) (.cons (.slv 0) (.cons (.int .i64 (.var 1)) .nil)))) (.slen 0)))
 (.ret (.tup (.cons (.ssel 0 (.iapp 3 (.cons (.int .i64 (.var 0)) (.cons (.slv 0) (.cons (.int .i64 (.var 1)) .nil)))) 0) (.cons (.cst .nilI) .nil))))))))
theorem swho_w : walk Tryd.prog 111 ⟨[x35c_splace], [[.str]]⟩ [] 45 [(.agg (.cons (.int .i64 (.var 0)) (.cons (.sl 0) .nil))), (.int .i64 (.var 1))] ⟨2, 0, 0, 0⟩ 2000 = some swho_tree := by kernel_rfl
theorem swho_h (t : Int) (l : Slc) (d : Int) (e0 : l.esz = 1) (hl : l.len ≤ 9223372036854775807) (hd : InR d) : swho_tree.holds (fun v => v = .tuple #[.string (whoS t (strsOf l.all) d), errVal 111 (plE t (strsOf l.all) d)]) (x35E [t, d] [] [] [] (slsOf [l])) := by
  unfold swho_tree
  simp only [Tree.holds, Sx.holds, denV, denI, denB, denL, I2.den, x35I, x35B, x35V, List.getD_cons_zero, List.getD_cons_succ, Cst.den, slsOf_zero, slsOf_one, x35so, x35se, List.map_nil, List.map_cons, B2.ofInts, B2.denI, B2.denB, if_true, Bool.false_eq_true, if_false]
  have hlen := strs_len l e0
  have f1 := plE_spec t (strsOf l.all) d
  refine ⟨?_, fun h0 => ?_⟩
  ·
    omega
  ·
    refine ⟨fun h1 => ?_, fun h1 => ?_⟩
    ·
      by_cases hz : plE t (strsOf l.all) d = 0
      · have hn := str_at l e0 (i := plS t (strsOf l.all) d) (by omega) (by omega)
        first
        | (exfalso; omega)
        | (simp only [whoS, hz, if_true, hn]; exact congrArg (fun x => Value.tuple #[_, x]) (errR0 rfl))
      · first
        | (exfalso; omega)
        | (simp only [whoS, hz, if_false]; rfl)
    ·
      refine ⟨?_, fun h2 => ?_⟩
      ·
        omega
      ·
        refine ⟨?_, fun h3 => ?_⟩
        ·
          omega
        ·
          by_cases hz : plE t (strsOf l.all) d = 0
          · have hn := str_at l e0 (i := plS t (strsOf l.all) d) (by omega) (by omega)
            first
            | (exfalso; omega)
            | (simp only [whoS, hz, if_true, hn]; exact congrArg (fun x => Value.tuple #[_, x]) (errR0 rfl))
          · first
            | (exfalso; omega)
            | (simp only [whoS, hz, if_false]; rfl)
theorem swho (t : Int) (l : Slc) (d : Int) (e0 : l.esz = 1) (hl : l.len ≤ 9223372036854775807) (hd : InR d) (w : World) (hs0 : SlOk w l [.str]) : Calls Tryd.prog 45 #[.agg #[.int .i64 t, l.val], .int .i64 d] w fun e w' => e = .returned (.tuple #[.string (whoS t (strsOf l.all) d), errVal 111 (plE t (strsOf l.all) d)]) ∧ Below w.heap.size w w' := by
  have h := calls_by (n := ⟨2, 0, 0, 0⟩) (x35E [t, d] [] [] [] (slsOf [l])) (vs := [.agg #[.int .i64 t, l.val], .int .i64 d]) (W := w) x35m swho_w rfl ⟨rfl, rfl, rfl, rfl⟩ ⟨(good_cons (x35g_splace _ _ _ _ _ _) good_nil), (slsOk_cons hs0 slsOk_nil)⟩ (swho_h t l d e0 hl hd) rfl
  exact calls_eq h
abbrev x35c_swho : Con := ⟨45, [(.agg (.cons (.int .i64 (.var 0)) (.cons (.sl 0) .nil))), (.int .i64 (.var 1))], (.b2 .and (.b2 .le (.slen 0) (.lit (9223372036854775807))) (.b2 .and (.b2 .le (.lit (-9223372036854775808)) (.var 1)) (.b2 .le (.var 1) (.lit (9223372036854775807))))), (.tup (.cons (.sapp 0 (.cons (.int .i64 (.var 0)) (.cons (.slv 0) (.cons (.int .i64 (.var 1)) .nil)))) (.cons (.err (.iapp 2 (.cons (.int .i64 (.var 0)) (.cons (.slv 0) (.cons (.int .i64 (.var 1)) .nil))))) .nil))), [[.str]]⟩
theorem x35g_swho (iv : List Int) (bv : List Bool) (vv : List Value) (sv : List ByteArray) (sls : Nat → Slc) (W : World) : x35c_swho.Good Tryd.prog (x35E iv bv vv sv sls) W := by
  intro iv bv vv sv sls β hc w hb hsl
  have hs0 := hsl 0 _ rfl
  exact swho (iv.getD 0 0) (sls 0) (iv.getD 1 0) hs0.1.symm (by simp only [Sx.holds, denI] at hc; omega) hc.2 w hs0
def sleft_tree : Tree :=
 (.need (.b2 .and (.b2 .le (.slen 0) (.lit (9223372036854775807))) (.b2 .and (.b2 .le (.lit (-9223372036854775808)) (.var 1)) (.b2 .le (.var 1) (.lit (9223372036854775807)))))
 (.br (.not (.b2 .eq (.iapp 2 (.cons (.int .i64 (.var 0)) (.cons (.slv 0) (.cons (.int .i64 (.var 1)) .nil)))) (.lit (0))))
 (.ret (.tup (.cons (.int .i64 (.lit (0))) (.cons (.err (.iapp 2 (.cons (.int .i64 (.var 0)) (.cons (.slv 0) (.cons (.int .i64 (.var 1)) .nil))))) .nil))))
 (.ret (.tup (.cons (.int .i64 (.wrap .i64 (.i2 .sub (.var 0) (.iapp 4 (.cons (.int .i64 (.var 0)) (.cons (.slv 0) (.cons (.int .i64 (.var 1)) .nil))))))) (.cons (.cst .nilI) .nil))))))
theorem sleft_w : walk Tryd.prog 111 ⟨[x35c_splace], [[.str]]⟩ [] 47 [(.agg (.cons (.int .i64 (.var 0)) (.cons (.sl 0) .nil))), (.int .i64 (.var 1))] ⟨2, 0, 0, 0⟩ 2000 = some sleft_tree := by kernel_rfl
theorem sleft_h (t : Int) (l : Slc) (d : Int) (e0 : l.esz = 1) (hl : l.len ≤ 9223372036854775807) (hd : InR d) : sleft_tree.holds (fun v => v = .tuple #[.int .i64 (lfV t (strsOf l.all) d), errVal 111 (plE t (strsOf l.all) d)]) (x35E [t, d] [] [] [] (slsOf [l])) := by
  unfold sleft_tree
  simp only [Tree.holds, Sx.holds, denV, denI, denB, denL, I2.den, x35I, x35B, x35V, List.getD_cons_zero, List.getD_cons_succ, Cst.den, slsOf_zero, slsOf_one, x35so, x35se, List.map_nil, List.map_cons, B2.ofInts, B2.denI, B2.denB, if_true, Bool.false_eq_true, if_false]
  have hlen := strs_len l e0
  have f1 := plE_spec t (strsOf l.all) d
  refine ⟨?_, fun h0 => ?_⟩
  ·
    omega
  ·
    refine ⟨fun h1 => ?_, fun h1 => ?_⟩
    ·
      first
      | (exfalso; omega)
      | (simp only [Value.tuple.injEq, Value.agg.injEq, Value.int.injEq, Value.bool.injEq, Array.mk.injEq, List.cons.injEq, true_and, and_true]; first | omega | exact ⟨by omega, by first | exact errR1 (by omega) | exact errR0 (by omega) | exact errR6 (by omega) | (exfalso; omega) | (refine congrArg (errVal _) ?_; omega)⟩)
    ·
      have wf0 := wr_i64 (t - (plG t (strsOf l.all) d))
      first
      | (exfalso; omega)
      | (simp only [Value.tuple.injEq, Value.agg.injEq, Value.int.injEq, Value.bool.injEq, Array.mk.injEq, List.cons.injEq, true_and, and_true]; first | omega | exact ⟨by omega, by first | exact errR1 (by omega) | exact errR0 (by omega) | exact errR6 (by omega) | (exfalso; omega) | (refine congrArg (errVal _) ?_; omega)⟩)
theorem sleft (t : Int) (l : Slc) (d : Int) (e0 : l.esz = 1) (hl : l.len ≤ 9223372036854775807) (hd : InR d) (w : World) (hs0 : SlOk w l [.str]) : Calls Tryd.prog 47 #[.agg #[.int .i64 t, l.val], .int .i64 d] w fun e w' => e = .returned (.tuple #[.int .i64 (lfV t (strsOf l.all) d), errVal 111 (plE t (strsOf l.all) d)]) ∧ Below w.heap.size w w' := by
  have h := calls_by (n := ⟨2, 0, 0, 0⟩) (x35E [t, d] [] [] [] (slsOf [l])) (vs := [.agg #[.int .i64 t, l.val], .int .i64 d]) (W := w) x35m sleft_w rfl ⟨rfl, rfl, rfl, rfl⟩ ⟨(good_cons (x35g_splace _ _ _ _ _ _) good_nil), (slsOk_cons hs0 slsOk_nil)⟩ (sleft_h t l d e0 hl hd) rfl
  exact calls_eq h
abbrev x35c_sleft : Con := ⟨47, [(.agg (.cons (.int .i64 (.var 0)) (.cons (.sl 0) .nil))), (.int .i64 (.var 1))], (.b2 .and (.b2 .le (.slen 0) (.lit (9223372036854775807))) (.b2 .and (.b2 .le (.lit (-9223372036854775808)) (.var 1)) (.b2 .le (.var 1) (.lit (9223372036854775807))))), (.tup (.cons (.int .i64 (.iapp 5 (.cons (.int .i64 (.var 0)) (.cons (.slv 0) (.cons (.int .i64 (.var 1)) .nil))))) (.cons (.err (.iapp 2 (.cons (.int .i64 (.var 0)) (.cons (.slv 0) (.cons (.int .i64 (.var 1)) .nil))))) .nil))), [[.str]]⟩
theorem x35g_sleft (iv : List Int) (bv : List Bool) (vv : List Value) (sv : List ByteArray) (sls : Nat → Slc) (W : World) : x35c_sleft.Good Tryd.prog (x35E iv bv vv sv sls) W := by
  intro iv bv vv sv sls β hc w hb hsl
  have hs0 := hsl 0 _ rfl
  exact sleft (iv.getD 0 0) (sls 0) (iv.getD 1 0) hs0.1.symm (by simp only [Sx.holds, denI] at hc; omega) hc.2 w hs0
def snext_tree : Tree :=
 (.need (.b2 .and (.b2 .le (.slen 0) (.lit (9223372036854775807))) (.b2 .and (.b2 .le (.lit (-9223372036854775808)) (.var 1)) (.b2 .le (.var 1) (.lit (9223372036854775807)))))
 (.br (.not (.b2 .eq (.iapp 2 (.cons (.int .i64 (.var 0)) (.cons (.slv 0) (.cons (.int .i64 (.var 1)) .nil)))) (.lit (0))))
 (.ret (.tup (.cons (.int .i64 (.lit (0))) (.cons (.err (.iapp 2 (.cons (.int .i64 (.var 0)) (.cons (.slv 0) (.cons (.int .i64 (.var 1)) .nil))))) .nil))))
 (.br (.veq (.str 0) (.cst (.strc [])))
 (.ret (.tup (.cons (.int .i64 (.lit (0))) (.cons (.iface 111 (.int .i64 (.lit (6)))) .nil))))
 (.loop ⟨1, 0, 0, 0⟩ (.b2 .and (.b2 .le (.lit (0)) (.lit (0))) (.b2 .and (.b2 .le (.lit (0)) (.slen 0)) (.bapp 1 (.cons (.slv 0) (.cons (.int .i64 (.iapp 3 (.cons (.int .i64 (.var 0)) (.cons (.slv 0) (.cons (.int .i64 (.var 1)) .nil))))) (.cons (.str 0) (.cons (.int .i64 (.lit (0))) .nil))))))) (.b2 .and (.b2 .le (.lit (0)) (.var 2)) (.b2 .and (.b2 .le (.var 2) (.slen 0)) (.bapp 1 (.cons (.slv 0) (.cons (.int .i64 (.iapp 3 (.cons (.int .i64 (.var 0)) (.cons (.slv 0) (.cons (.int .i64 (.var 1)) .nil))))) (.cons (.str 0) (.cons (.int .i64 (.var 2)) .nil)))))))
 (.br (.b2 .lt (.var 2) (.slen 0))
 (.need (.not (.b2 .eq (.slen 0) (.lit (0))))
 (.need (.b2 .and (.b2 .le (.lit (0)) (.i2 .rem (.wrap .i64 (.i2 .add (.iapp 3 (.cons (.int .i64 (.var 0)) (.cons (.slv 0) (.cons (.int .i64 (.var 1)) .nil)))) (.var 2))) (.slen 0))) (.b2 .lt (.i2 .rem (.wrap .i64 (.i2 .add (.iapp 3 (.cons (.int .i64 (.var 0)) (.cons (.slv 0) (.cons (.int .i64 (.var 1)) .nil)))) (.var 2))) (.slen 0)) (.slen 0)))
 (.need (.b2 .and (.b2 .le (.lit (0)) (.i2 .rem (.wrap .i64 (.i2 .add (.iapp 3 (.cons (.int .i64 (.var 0)) (.cons (.slv 0) (.cons (.int .i64 (.var 1)) .nil)))) (.var 2))) (.slen 0))) (.b2 .lt (.i2 .rem (.wrap .i64 (.i2 .add (.iapp 3 (.cons (.int .i64 (.var 0)) (.cons (.slv 0) (.cons (.int .i64 (.var 1)) .nil)))) (.var 2))) (.slen 0)) (.slen 0)))
 (.br (.veq (.ssel 0 (.i2 .rem (.wrap .i64 (.i2 .add (.iapp 3 (.cons (.int .i64 (.var 0)) (.cons (.slv 0) (.cons (.int .i64 (.var 1)) .nil)))) (.var 2))) (.slen 0)) 0) (.str 0))
 (.ret (.tup (.cons (.int .i64 (.i2 .max (.var 1) (.wrap .i64 (.i2 .add (.wrap .i64 (.i2 .sub (.var 1) (.iapp 4 (.cons (.int .i64 (.var 0)) (.cons (.slv 0) (.cons (.int .i64 (.var 1)) .nil)))))) (.wrap .i64 (.i2 .mul (.var 2) (.var 0))))))) (.cons (.cst .nilI) .nil))))
 (.back (.b2 .and (.b2 .le (.lit (0)) (.wrap .i64 (.i2 .add (.var 2) (.lit (1))))) (.b2 .and (.b2 .le (.wrap .i64 (.i2 .add (.var 2) (.lit (1)))) (.slen 0)) (.bapp 1 (.cons (.slv 0) (.cons (.int .i64 (.iapp 3 (.cons (.int .i64 (.var 0)) (.cons (.slv 0) (.cons (.int .i64 (.var 1)) .nil))))) (.cons (.str 0) (.cons (.int .i64 (.wrap .i64 (.i2 .add (.var 2) (.lit (1))))) .nil))))))) (.i2 .sub (.slen 0) (.wrap .i64 (.i2 .add (.var 2) (.lit (1))))) (.i2 .sub (.slen 0) (.var 2)))))))
 (.ret (.tup (.cons (.int .i64 (.lit (0))) (.cons (.iface 111 (.int .i64 (.lit (6)))) .nil)))))))))
theorem snext_w : walk Tryd.prog 111 ⟨[x35c_splace], [[.str]]⟩ [⟨0, ⟨1, 0, 0, 0⟩, [(28, (.int .i64 (.var 2)))], none, (.b2 .and (.b2 .le (.lit (0)) (.var 2)) (.b2 .and (.b2 .le (.var 2) (.slen 0)) (.bapp 1 (.cons (.slv 0) (.cons (.int .i64 (.iapp 3 (.cons (.int .i64 (.var 0)) (.cons (.slv 0) (.cons (.int .i64 (.var 1)) .nil))))) (.cons (.str 0) (.cons (.int .i64 (.var 2)) .nil))))))), (.i2 .sub (.slen 0) (.var 2))⟩] 49 [(.agg (.cons (.int .i64 (.var 0)) (.cons (.sl 0) .nil))), (.str 0), (.int .i64 (.var 1))] ⟨2, 0, 0, 1⟩ 2000 = some snext_tree := by kernel_rfl
theorem snext_h (t : Int) (l : Slc) (n : ByteArray) (d : Int) (e0 : l.esz = 1) (hl : l.len ≤ 9223372036854775807) (hd : InR d) : snext_tree.holds (fun v => v = .tuple #[.int .i64 (nxV t (strsOf l.all) d n), errVal 111 (nxE t (strsOf l.all) d n)]) (x35E [t, d] [] [] [n] (slsOf [l])) := by
  unfold snext_tree
  simp only [AllN, Env.more, x35E, List.cons_append, List.nil_append, List.append_nil, Tree.holds, Sx.holds, denV, denI, denB, denL, I2.den, x35I, x35B, x35V, List.getD_cons_zero, List.getD_cons_succ, Cst.den, slsOf_zero, slsOf_one, x35so, x35se, List.map_nil, List.map_cons, B2.ofInts, B2.denI, B2.denB, if_true, Bool.false_eq_true, if_false]
  have hlen := strs_len l e0
  have f1 := plE_spec t (strsOf l.all) d
  refine ⟨?_, fun h0 => ?_⟩
  ·
    first | omega | (rw [k2]; omega)
  ·
    refine ⟨fun h1 => ?_, fun h1 => ?_⟩
    ·
      cases he : (n == (⟨#[]⟩ : ByteArray))
      · have g := nx_spec t (strsOf l.all) d n he
        first
        | (exfalso; simp_all; done)
        | (exfalso; omega)
        | (simp only [Value.tuple.injEq, Value.agg.injEq, Value.int.injEq, Value.bool.injEq, Array.mk.injEq, List.cons.injEq, true_and, and_true]; first | omega | exact ⟨by omega, by first | exact errR1 (by omega) | exact errR0 (by omega) | exact errR6 (by omega) | (exfalso; omega) | (refine congrArg (errVal _) ?_; omega)⟩)
      · have g := nx_emp t (strsOf l.all) d n he
        first
        | (exfalso; simp_all; done)
        | (exfalso; omega)
        | (simp only [Value.tuple.injEq, Value.agg.injEq, Value.int.injEq, Value.bool.injEq, Array.mk.injEq, List.cons.injEq, true_and, and_true]; first | omega | exact ⟨by omega, by first | exact errR1 (by omega) | exact errR0 (by omega) | exact errR6 (by omega) | (exfalso; omega) | (refine congrArg (errVal _) ?_; omega)⟩)
    ·
      refine ⟨fun h2 => ?_, fun h2 => ?_⟩
      ·
        cases he : (n == (⟨#[]⟩ : ByteArray))
        · have g := nx_spec t (strsOf l.all) d n he
          first
          | (exfalso; simp_all; done)
          | (exfalso; omega)
          | (simp only [Value.tuple.injEq, Value.agg.injEq, Value.int.injEq, Value.bool.injEq, Array.mk.injEq, List.cons.injEq, true_and, and_true]; first | omega | exact ⟨by omega, by first | exact errR1 (by omega) | exact errR0 (by omega) | exact errR6 (by omega) | (exfalso; omega) | (refine congrArg (errVal _) ?_; omega)⟩)
        · have g := nx_emp t (strsOf l.all) d n he
          first
          | (exfalso; simp_all; done)
          | (exfalso; omega)
          | (simp only [Value.tuple.injEq, Value.agg.injEq, Value.int.injEq, Value.bool.injEq, Array.mk.injEq, List.cons.injEq, true_and, and_true]; first | omega | exact ⟨by omega, by first | exact errR1 (by omega) | exact errR0 (by omega) | exact errR6 (by omega) | (exfalso; omega) | (refine congrArg (errVal _) ?_; omega)⟩)
      ·
        refine ⟨?_, ?_⟩
        ·
          exact ⟨by omega, by omega, rfl⟩
        ·
          intro i0a hi0
          obtain ⟨r0, r1, r2⟩ := hi0
          have k1 : IntKind.wrap .i64 (plS t (strsOf l.all) d + i0a) = plS t (strsOf l.all) d + i0a := IntWalk.i64_in _ (by omega)
          have k2 := Int.tmod_eq_emod_of_nonneg (a := plS t (strsOf l.all) d + i0a) (b := (l.len : Int)) (by omega)
          have k3 : 0 ≤ (plS t (strsOf l.all) d + i0a) % (l.len : Int) ∧ (plS t (strsOf l.all) d + i0a) % (l.len : Int) < l.len := ⟨Int.emod_nonneg _ (by omega), Int.emod_lt_of_pos _ (by omega)⟩
          simp only [k1, k2]
          have kn := str_at l e0 (i := (plS t (strsOf l.all) d + i0a) % (l.len : Int)) k3.1 k3.2
          have km := match_at (l := strsOf l.all) (sl := plS t (strsOf l.all) d) (name := n) (i := i0a) (j := (plS t (strsOf l.all) d + i0a) % (l.len : Int)) (by omega) (by omega) r0 (by rw [hlen])
          rw [kn] at km
          refine ⟨fun h3 => ?_, fun h3 => ?_⟩
          ·
            refine ⟨?_, fun h4 => ?_⟩
            ·
              first | omega | (rw [k2]; omega)
            ·
              have wf0 := wr_i64 ((plS t (strsOf l.all) d) + i0a)
              refine ⟨?_, fun h5 => ?_⟩
              ·
                first | omega | (rw [k2]; omega)
              ·
                refine ⟨?_, fun h6 => ?_⟩
                ·
                  first | omega | (rw [k2]; omega)
                ·
                  try simp only [hw0]
                  refine ⟨fun h7 => ?_, fun h7 => ?_⟩
                  ·
                    have wf1 := wr_i64 (d - (plG t (strsOf l.all) d))
                    have wf2 := wr_i64 (i0a * t)
                    have wf3 := wr_i64 ((IntKind.wrap .i64 (d - (plG t (strsOf l.all) d))) + (IntKind.wrap .i64 (i0a * t)))
                    have he : (n == (⟨#[]⟩ : ByteArray)) = false := by cases hx : (n == (⟨#[]⟩ : ByteArray)) <;> simp_all
                    have g := nx_spec t (strsOf l.all) d n he
                    by_cases hlt : i0a < (l.len : Int)
                    · first
                      | (exfalso; omega)
                      | (have hp : matchAt (strsOf l.all) (plS t (strsOf l.all) d).toNat n i0a.toNat = true := by first | (rw [km]; assumption) | (rw [km, ← k2]; assumption)
                         have hF : nxF t (strsOf l.all) d n = i0a := by unfold nxF; rw [firstN_at r2 (by omega) hp]; omega
                         have hb1 : 0 ≤ i0a * t := Int.mul_nonneg r0 (by omega)
                         have hb2 : i0a * t ≤ 16 * t := Int.mul_le_mul_of_nonneg_right (by omega) (by omega)
                         rw [hF] at g
                         have w1 : IntKind.wrap .i64 (i0a * t) = i0a * t := IntWalk.i64_in _ (by omega)
                         have w2 : IntKind.wrap .i64 (d - plG t (strsOf l.all) d) = d - d % t := by rw [show plG t (strsOf l.all) d = d % t by omega]; exact IntWalk.i64_in _ (by omega)
                         have w3 : IntKind.wrap .i64 (d - d % t + i0a * t) = d - d % t + i0a * t := IntWalk.i64_in _ (by omega)
                         rw [w1, w2, w3]
                         simp only [Value.tuple.injEq, Value.agg.injEq, Value.int.injEq, Value.bool.injEq, Array.mk.injEq, List.cons.injEq, true_and, and_true]
                         refine ⟨?_, by first | exact errR1 (by omega) | exact errR0 (by omega) | exact errR6 (by omega) | (exfalso; omega) | (refine congrArg (errVal _) ?_; omega)⟩
                         split <;> omega)
                    · have hF : nxF t (strsOf l.all) d n = -1 := by unfold nxF; rw [firstN_none]; rw [show (strsOf l.all).length = i0a.toNat by omega]; exact r2
                      rw [hF] at g
                      simp only [Value.tuple.injEq, Value.agg.injEq, Value.int.injEq, Value.bool.injEq, Array.mk.injEq, List.cons.injEq, true_and, and_true]
                      exact ⟨by omega, by first | exact errR1 (by omega) | exact errR0 (by omega) | exact errR6 (by omega) | (exfalso; omega) | (refine congrArg (errVal _) ?_; omega)⟩
                  ·
                    have wf4 := wr_i64 (i0a + 1)
                    refine ⟨?_, ?_⟩
                    ·
                      have hw : IntKind.wrap .i64 (i0a + 1) = i0a + 1 := IntWalk.i64_in _ (by omega)
                      refine ⟨by omega, by omega, ?_⟩
                      rw [hw, toNat_succ r0, noneB_succ, r2, km, ← k2]
                      simp_all
                    ·
                      omega
          ·
            have he : (n == (⟨#[]⟩ : ByteArray)) = false := by cases hx : (n == (⟨#[]⟩ : ByteArray)) <;> simp_all
            have g := nx_spec t (strsOf l.all) d n he
            by_cases hlt : i0a < (l.len : Int)
            · first
              | (exfalso; omega)
              | (have hp : matchAt (strsOf l.all) (plS t (strsOf l.all) d).toNat n i0a.toNat = true := by first | (rw [km]; assumption) | (rw [km, ← k2]; assumption)
                 have hF : nxF t (strsOf l.all) d n = i0a := by unfold nxF; rw [firstN_at r2 (by omega) hp]; omega
                 have hb1 : 0 ≤ i0a * t := Int.mul_nonneg r0 (by omega)
                 have hb2 : i0a * t ≤ 16 * t := Int.mul_le_mul_of_nonneg_right (by omega) (by omega)
                 rw [hF] at g
                 have w1 : IntKind.wrap .i64 (i0a * t) = i0a * t := IntWalk.i64_in _ (by omega)
                 have w2 : IntKind.wrap .i64 (d - plG t (strsOf l.all) d) = d - d % t := by rw [show plG t (strsOf l.all) d = d % t by omega]; exact IntWalk.i64_in _ (by omega)
                 have w3 : IntKind.wrap .i64 (d - d % t + i0a * t) = d - d % t + i0a * t := IntWalk.i64_in _ (by omega)
                 rw [w1, w2, w3]
                 simp only [Value.tuple.injEq, Value.agg.injEq, Value.int.injEq, Value.bool.injEq, Array.mk.injEq, List.cons.injEq, true_and, and_true]
                 refine ⟨?_, by first | exact errR1 (by omega) | exact errR0 (by omega) | exact errR6 (by omega) | (exfalso; omega) | (refine congrArg (errVal _) ?_; omega)⟩
                 split <;> omega)
            · have hF : nxF t (strsOf l.all) d n = -1 := by unfold nxF; rw [firstN_none]; rw [show (strsOf l.all).length = i0a.toNat by omega]; exact r2
              rw [hF] at g
              simp only [Value.tuple.injEq, Value.agg.injEq, Value.int.injEq, Value.bool.injEq, Array.mk.injEq, List.cons.injEq, true_and, and_true]
              exact ⟨by omega, by first | exact errR1 (by omega) | exact errR0 (by omega) | exact errR6 (by omega) | (exfalso; omega) | (refine congrArg (errVal _) ?_; omega)⟩
theorem snext (t : Int) (l : Slc) (n : ByteArray) (d : Int) (e0 : l.esz = 1) (hl : l.len ≤ 9223372036854775807) (hd : InR d) (w : World) (hs0 : SlOk w l [.str]) : Calls Tryd.prog 49 #[.agg #[.int .i64 t, l.val], .string n, .int .i64 d] w fun e w' => e = .returned (.tuple #[.int .i64 (nxV t (strsOf l.all) d n), errVal 111 (nxE t (strsOf l.all) d n)]) ∧ Below w.heap.size w w' := by
  have h := calls_by (n := ⟨2, 0, 0, 1⟩) (x35E [t, d] [] [] [n] (slsOf [l])) (vs := [.agg #[.int .i64 t, l.val], .string n, .int .i64 d]) (W := w) x35m snext_w rfl ⟨rfl, rfl, rfl, rfl⟩ ⟨(good_cons (x35g_splace _ _ _ _ _ _) good_nil), (slsOk_cons hs0 slsOk_nil)⟩ (snext_h t l n d e0 hl hd) rfl
  exact calls_eq h
def sshare_tree : Tree :=
 (.br (.veq (.str 0) (.cst (.strc [])))
 (.ret (.int .i64 (.lit (0))))
 (.need (.b2 .le (.slen 0) (.lit (9223372036854775807)))
 (.br (.not (.b2 .eq (.iapp 1 (.cons (.int .i64 (.var 0)) (.cons (.slv 0) .nil))) (.lit (0))))
 (.ret (.int .i64 (.lit (0))))
 (.loop ⟨2, 0, 0, 0⟩ (.b2 .and (.b2 .le (.lit (0)) (.lit (0))) (.b2 .and (.b2 .le (.lit (0)) (.slen 0)) (.b2 .eq (.lit (0)) (.iapp 9 (.cons (.slv 0) (.cons (.str 0) (.cons (.int .i64 (.lit (0))) .nil))))))) (.b2 .and (.b2 .le (.lit (0)) (.var 2)) (.b2 .and (.b2 .le (.var 2) (.slen 0)) (.b2 .eq (.var 1) (.iapp 9 (.cons (.slv 0) (.cons (.str 0) (.cons (.int .i64 (.var 2)) .nil)))))))
 (.br (.b2 .lt (.var 2) (.slen 0))
 (.need (.b2 .and (.b2 .le (.lit (0)) (.var 2)) (.b2 .lt (.var 2) (.slen 0)))
 (.need (.b2 .and (.b2 .le (.lit (0)) (.var 2)) (.b2 .lt (.var 2) (.slen 0)))
 (.br (.veq (.ssel 0 (.var 2) 0) (.str 0))
 (.back (.b2 .and (.b2 .le (.lit (0)) (.wrap .i64 (.i2 .add (.var 2) (.lit (1))))) (.b2 .and (.b2 .le (.wrap .i64 (.i2 .add (.var 2) (.lit (1)))) (.slen 0)) (.b2 .eq (.wrap .i64 (.i2 .add (.var 1) (.lit (1)))) (.iapp 9 (.cons (.slv 0) (.cons (.str 0) (.cons (.int .i64 (.wrap .i64 (.i2 .add (.var 2) (.lit (1))))) .nil))))))) (.i2 .sub (.slen 0) (.wrap .i64 (.i2 .add (.var 2) (.lit (1))))) (.i2 .sub (.slen 0) (.var 2)))
 (.back (.b2 .and (.b2 .le (.lit (0)) (.wrap .i64 (.i2 .add (.var 2) (.lit (1))))) (.b2 .and (.b2 .le (.wrap .i64 (.i2 .add (.var 2) (.lit (1)))) (.slen 0)) (.b2 .eq (.var 1) (.iapp 9 (.cons (.slv 0) (.cons (.str 0) (.cons (.int .i64 (.wrap .i64 (.i2 .add (.var 2) (.lit (1))))) .nil))))))) (.i2 .sub (.slen 0) (.wrap .i64 (.i2 .add (.var 2) (.lit (1))))) (.i2 .sub (.slen 0) (.var 2))))))
 (.ret (.int .i64 (.wrap .i64 (.i2 .mul (.var 1) (.var 0))))))))))
theorem sshare_w : walk Tryd.prog 111 ⟨[x35c_scheck], [[.str]]⟩ [⟨0, ⟨2, 0, 0, 0⟩, [(5, (.int .i64 (.var 1))), (18, (.int .i64 (.var 2)))], none, (.b2 .and (.b2 .le (.lit (0)) (.var 2)) (.b2 .and (.b2 .le (.var 2) (.slen 0)) (.b2 .eq (.var 1) (.iapp 9 (.cons (.slv 0) (.cons (.str 0) (.cons (.int .i64 (.var 2)) .nil))))))), (.i2 .sub (.slen 0) (.var 2))⟩] 53 [(.agg (.cons (.int .i64 (.var 0)) (.cons (.sl 0) .nil))), (.str 0)] ⟨1, 0, 0, 1⟩ 2000 = some sshare_tree := by kernel_rfl
theorem sshare_h (t : Int) (l : Slc) (n : ByteArray) (e0 : l.esz = 1) (hl : l.len ≤ 9223372036854775807) : sshare_tree.holds (fun v => v = .int .i64 (shV t (strsOf l.all) n)) (x35E [t] [] [] [n] (slsOf [l])) := by
  unfold sshare_tree
  simp only [AllN, Env.more, x35E, List.cons_append, List.nil_append, List.append_nil, Tree.holds, Sx.holds, denV, denI, denB, denL, I2.den, x35I, x35B, x35V, List.getD_cons_zero, List.getD_cons_succ, Cst.den, slsOf_zero, slsOf_one, x35so, x35se, List.map_nil, List.map_cons, B2.ofInts, B2.denI, B2.denB, if_true, Bool.false_eq_true, if_false]
  have hlen := strs_len l e0
  have f1 := mayRI_spec t (strsOf l.all)
  refine ⟨fun h0 => ?_, fun h0 => ?_⟩
  ·
    simp only [Value.int.injEq, true_and]
    first
    | (rw [shV, if_pos h0]; done)
    | (rw [shV, if_neg h0, if_neg (by omega)]; done)
  ·
    refine ⟨?_, fun h1 => ?_⟩
    ·
      omega
    ·
      refine ⟨fun h2 => ?_, fun h2 => ?_⟩
      ·
        simp only [Value.int.injEq, true_and]
        first
        | (rw [shV, if_pos h0]; done)
        | (rw [shV, if_neg h0, if_neg (by omega)]; done)
      ·
        refine ⟨?_, ?_⟩
        ·
          exact ⟨by omega, by omega, rfl⟩
        ·
          intro i0a i0b hi0
          obtain ⟨r0, r1, r2⟩ := hi0
          refine ⟨fun h3 => ?_, fun h3 => ?_⟩
          ·
            refine ⟨?_, fun h4 => ?_⟩
            ·
              omega
            ·
              refine ⟨?_, fun h5 => ?_⟩
              ·
                omega
              ·
                refine ⟨fun h6 => ?_, fun h6 => ?_⟩
                ·
                  have wf0 := wr_i64 (i0b + 1)
                  have wf1 := wr_i64 (i0a + 1)
                  refine ⟨?_, ?_⟩
                  ·
                    have hc := cntM_succ (name := n) (strs_at l e0 (i := i0b.toNat) (by omega))
                    have hle := cntM_le (strsOf l.all) n i0b.toNat
                    have hw : IntKind.wrap .i64 (i0b + 1) = i0b + 1 := IntWalk.i64_in _ (by omega)
                    have hv : IntKind.wrap .i64 (i0a + 1) = i0a + 1 := IntWalk.i64_in _ (by omega)
                    rw [hw, toNat_succ r0, hc]
                    first | rw [if_pos h6] | rw [if_neg h6]
                    exact ⟨by omega, by omega, by omega⟩
                  ·
                    omega
                ·
                  have wf2 := wr_i64 (i0b + 1)
                  refine ⟨?_, ?_⟩
                  ·
                    have hc := cntM_succ (name := n) (strs_at l e0 (i := i0b.toNat) (by omega))
                    have hle := cntM_le (strsOf l.all) n i0b.toNat
                    have hw : IntKind.wrap .i64 (i0b + 1) = i0b + 1 := IntWalk.i64_in _ (by omega)
                    have hv : IntKind.wrap .i64 (i0a + 1) = i0a + 1 := IntWalk.i64_in _ (by omega)
                    rw [hw, toNat_succ r0, hc]
                    first | rw [if_pos h6] | rw [if_neg h6]
                    exact ⟨by omega, by omega, by omega⟩
                  ·
                    omega
          ·
            have wf3 := wr_i64 (i0a * t)
            have hn : i0b.toNat = (strsOf l.all).length := by omega
            rw [hn] at r2
            have hle := cntM_le (strsOf l.all) n (strsOf l.all).length
            have hb1 : 0 ≤ i0a * t := Int.mul_nonneg (by omega) (by omega)
            have hb2 : i0a * t ≤ 16 * t := Int.mul_le_mul_of_nonneg_right (by omega) (by omega)
            have w1 : IntKind.wrap .i64 (i0a * t) = i0a * t := IntWalk.i64_in _ (by omega)
            rw [w1, shV, if_neg h0, if_pos (by omega), r2]
theorem sshare (t : Int) (l : Slc) (n : ByteArray) (e0 : l.esz = 1) (hl : l.len ≤ 9223372036854775807) (w : World) (hs0 : SlOk w l [.str]) : Calls Tryd.prog 53 #[.agg #[.int .i64 t, l.val], .string n] w fun e w' => e = .returned (.int .i64 (shV t (strsOf l.all) n)) ∧ Below w.heap.size w w' := by
  have h := calls_by (n := ⟨1, 0, 0, 1⟩) (x35E [t] [] [] [n] (slsOf [l])) (vs := [.agg #[.int .i64 t, l.val], .string n]) (W := w) x35m sshare_w rfl ⟨rfl, rfl, rfl, rfl⟩ ⟨(good_cons (x35g_scheck _ _ _ _ _ _) good_nil), (slsOk_cons hs0 slsOk_nil)⟩ (sshare_h t l n e0 hl) rfl
  exact calls_eq h
abbrev x35c_snext : Con := ⟨49, [(.agg (.cons (.int .i64 (.var 0)) (.cons (.sl 0) .nil))), (.str 0), (.int .i64 (.var 1))], (.b2 .and (.b2 .le (.slen 0) (.lit (9223372036854775807))) (.b2 .and (.b2 .le (.lit (-9223372036854775808)) (.var 1)) (.b2 .le (.var 1) (.lit (9223372036854775807))))), (.tup (.cons (.int .i64 (.iapp 7 (.cons (.int .i64 (.var 0)) (.cons (.slv 0) (.cons (.int .i64 (.var 1)) (.cons (.str 0) .nil)))))) (.cons (.err (.iapp 6 (.cons (.int .i64 (.var 0)) (.cons (.slv 0) (.cons (.int .i64 (.var 1)) (.cons (.str 0) .nil)))))) .nil))), [[.str]]⟩
theorem x35g_snext (iv : List Int) (bv : List Bool) (vv : List Value) (sv : List ByteArray) (sls : Nat → Slc) (W : World) : x35c_snext.Good Tryd.prog (x35E iv bv vv sv sls) W := by
  intro iv bv vv sv sls β hc w hb hsl
  have hs0 := hsl 0 _ rfl
  exact snext (iv.getD 0 0) (sls 0) (sv.getD 0 ByteArray.empty) (iv.getD 1 0) hs0.1.symm (by simp only [Sx.holds, denI] at hc; omega) hc.2 w hs0
abbrev x35c_sshare : Con := ⟨53, [(.agg (.cons (.int .i64 (.var 0)) (.cons (.sl 0) .nil))), (.str 0)], (.b2 .le (.slen 0) (.lit (9223372036854775807))), (.int .i64 (.iapp 8 (.cons (.int .i64 (.var 0)) (.cons (.slv 0) (.cons (.str 0) .nil))))), [[.str]]⟩
theorem x35g_sshare (iv : List Int) (bv : List Bool) (vv : List Value) (sv : List ByteArray) (sls : Nat → Slc) (W : World) : x35c_sshare.Good Tryd.prog (x35E iv bv vv sv sls) W := by
  intro iv bv vv sv sls β hc w hb hsl
  have hs0 := hsl 0 _ rfl
  exact sshare (iv.getD 0 0) (sls 0) (sv.getD 0 ByteArray.empty) hs0.1.symm (by simp only [Sx.holds, denI] at hc; omega) w hs0
def rmay35_tree : Tree :=
 (.loop ⟨1, 0, 0, 0⟩ (.b2 .and (.b2 .le (.lit (0)) (.lit (0))) (.b2 .and (.b2 .le (.lit (0)) (.slen 0)) (.bapp 0 (.cons (.slv 0) (.cons (.int .i64 (.lit (0))) .nil))))) (.b2 .and (.b2 .le (.lit (0)) (.var 1)) (.b2 .and (.b2 .le (.var 1) (.slen 0)) (.bapp 0 (.cons (.slv 0) (.cons (.int .i64 (.var 1)) .nil)))))
 (.br (.b2 .lt (.var 1) (.slen 0))
 (.need (.b2 .and (.b2 .le (.lit (0)) (.var 1)) (.b2 .lt (.var 1) (.slen 0)))
 (.need (.b2 .and (.b2 .le (.lit (0)) (.var 1)) (.b2 .lt (.var 1) (.slen 0)))
 (.br (.b2 .lt (.lit (12)) (.blen (.ssel 0 (.var 1) 0)))
 (.ret (.bool (.tt false)))
 (.back (.b2 .and (.b2 .le (.lit (0)) (.wrap .i64 (.i2 .add (.var 1) (.lit (1))))) (.b2 .and (.b2 .le (.wrap .i64 (.i2 .add (.var 1) (.lit (1)))) (.slen 0)) (.bapp 0 (.cons (.slv 0) (.cons (.int .i64 (.wrap .i64 (.i2 .add (.var 1) (.lit (1))))) .nil))))) (.i2 .sub (.slen 0) (.wrap .i64 (.i2 .add (.var 1) (.lit (1))))) (.i2 .sub (.slen 0) (.var 1))))))
 (.br (.b2 .le (.lit (1)) (.var 0))
 (.br (.b2 .le (.var 0) (.lit (1073741824)))
 (.br (.b2 .le (.lit (1)) (.slen 0))
 (.ret (.bool (.b2 .le (.slen 0) (.lit (16)))))
 (.ret (.bool (.tt false))))
 (.ret (.bool (.tt false))))
 (.ret (.bool (.tt false))))))
theorem rmay35_w : walk Tryd.prog 111 ⟨[], [[.str]]⟩ [⟨0, ⟨1, 0, 0, 0⟩, [(3, (.int .i64 (.var 1)))], none, (.b2 .and (.b2 .le (.lit (0)) (.var 1)) (.b2 .and (.b2 .le (.var 1) (.slen 0)) (.bapp 0 (.cons (.slv 0) (.cons (.int .i64 (.var 1)) .nil))))), (.i2 .sub (.slen 0) (.var 1))⟩] 51 [(.agg (.cons (.int .i64 (.var 0)) (.cons (.sl 0) .nil)))] ⟨1, 0, 0, 0⟩ 2000 = some rmay35_tree := by kernel_rfl
theorem rmay35_h (t : Int) (l : Slc) (e0 : l.esz = 1) (hl : l.len ≤ 9223372036854775807) : rmay35_tree.holds (fun v => v = .bool (mayR t (strsOf l.all))) (x35E [t] [] [] [] (slsOf [l])) := by
  unfold rmay35_tree
  simp only [AllN, Env.more, x35E, List.cons_append, List.nil_append, List.append_nil, Tree.holds, Sx.holds, denV, denI, denB, denL, I2.den, x35I, x35B, x35V, List.getD_cons_zero, List.getD_cons_succ, Cst.den, slsOf_zero, slsOf_one, x35so, x35se, List.map_nil, List.map_cons, B2.ofInts, B2.denI, B2.denB, if_true, Bool.false_eq_true, if_false]
  have hlen := strs_len l e0
  have f1 := mayRI_spec t (strsOf l.all)
  refine ⟨?_, ?_⟩
  ·
    exact ⟨by omega, by omega, rfl⟩
  ·
    intro i0a hi0
    obtain ⟨r0, r1, r2⟩ := hi0
    refine ⟨fun h0 => ?_, fun h0 => ?_⟩
    ·
      refine ⟨?_, fun h1 => ?_⟩
      ·
        omega
      ·
        refine ⟨?_, fun h2 => ?_⟩
        ·
          omega
        ·
          refine ⟨fun h3 => ?_, fun h3 => ?_⟩
          ·
            rw [mayR_B]
            refine congrArg Value.bool ?_
            by_cases hlt : i0a < (l.len : Int)
            · first
              | (exfalso; omega)
              | (have hn := str_at l e0 (i := i0a) r0 hlt
                 have hp : longAt (strsOf l.all) i0a.toNat = true := by unfold longAt; rw [hn]; simp only [decide_eq_true_eq]; omega
                 have hF := firstN_at (n := (strsOf l.all).length) r2 (by omega) hp
                 rw [show mayRI t (strsOf l.all) = 1 by omega]; rfl)
            · have hF : firstN (longAt (strsOf l.all)) (strsOf l.all).length = -1 := firstN_none (by rw [show (strsOf l.all).length = i0a.toNat by omega]; exact r2)
              first
              | (exfalso; omega)
              | (rw [show mayRI t (strsOf l.all) = 1 by omega]; first | rfl | (rw [decide_eq_false (by omega)]; rfl))
              | (by_cases h16 : l.len ≤ 16
                 · rw [show mayRI t (strsOf l.all) = 0 by omega, decide_eq_true (by omega)]; rfl
                 · rw [show mayRI t (strsOf l.all) = 1 by omega, decide_eq_false (by omega)]; rfl)
          ·
            have wf0 := wr_i64 (i0a + 1)
            refine ⟨?_, ?_⟩
            ·
              have hw : IntKind.wrap .i64 (i0a + 1) = i0a + 1 := IntWalk.i64_in _ (by omega)
              have hn := str_at l e0 (i := i0a) r0 (by omega)
              have hp : longAt (strsOf l.all) i0a.toNat = false := by unfold longAt; rw [hn]; simp only [decide_eq_false_iff_not]; omega
              refine ⟨by omega, by omega, ?_⟩
              rw [hw, toNat_succ r0, noneB_succ, r2, hp]
              rfl
            ·
              omega
    ·
      refine ⟨fun h4 => ?_, fun h4 => ?_⟩
      ·
        refine ⟨fun h5 => ?_, fun h5 => ?_⟩
        ·
          refine ⟨fun h6 => ?_, fun h6 => ?_⟩
          ·
            rw [mayR_B]
            refine congrArg Value.bool ?_
            by_cases hlt : i0a < (l.len : Int)
            · first
              | (exfalso; omega)
              | (have hn := str_at l e0 (i := i0a) r0 hlt
                 have hp : longAt (strsOf l.all) i0a.toNat = true := by unfold longAt; rw [hn]; simp only [decide_eq_true_eq]; omega
                 have hF := firstN_at (n := (strsOf l.all).length) r2 (by omega) hp
                 rw [show mayRI t (strsOf l.all) = 1 by omega]; rfl)
            · have hF : firstN (longAt (strsOf l.all)) (strsOf l.all).length = -1 := firstN_none (by rw [show (strsOf l.all).length = i0a.toNat by omega]; exact r2)
              first
              | (exfalso; omega)
              | (rw [show mayRI t (strsOf l.all) = 1 by omega]; first | rfl | (rw [decide_eq_false (by omega)]; rfl))
              | (by_cases h16 : l.len ≤ 16
                 · rw [show mayRI t (strsOf l.all) = 0 by omega, decide_eq_true (by omega)]; rfl
                 · rw [show mayRI t (strsOf l.all) = 1 by omega, decide_eq_false (by omega)]; rfl)
          ·
            rw [mayR_B]
            refine congrArg Value.bool ?_
            by_cases hlt : i0a < (l.len : Int)
            · first
              | (exfalso; omega)
              | (have hn := str_at l e0 (i := i0a) r0 hlt
                 have hp : longAt (strsOf l.all) i0a.toNat = true := by unfold longAt; rw [hn]; simp only [decide_eq_true_eq]; omega
                 have hF := firstN_at (n := (strsOf l.all).length) r2 (by omega) hp
                 rw [show mayRI t (strsOf l.all) = 1 by omega]; rfl)
            · have hF : firstN (longAt (strsOf l.all)) (strsOf l.all).length = -1 := firstN_none (by rw [show (strsOf l.all).length = i0a.toNat by omega]; exact r2)
              first
              | (exfalso; omega)
              | (rw [show mayRI t (strsOf l.all) = 1 by omega]; first | rfl | (rw [decide_eq_false (by omega)]; rfl))
              | (by_cases h16 : l.len ≤ 16
                 · rw [show mayRI t (strsOf l.all) = 0 by omega, decide_eq_true (by omega)]; rfl
                 · rw [show mayRI t (strsOf l.all) = 1 by omega, decide_eq_false (by omega)]; rfl)
        ·
          rw [mayR_B]
          refine congrArg Value.bool ?_
          by_cases hlt : i0a < (l.len : Int)
          · first
            | (exfalso; omega)
            | (have hn := str_at l e0 (i := i0a) r0 hlt
               have hp : longAt (strsOf l.all) i0a.toNat = true := by unfold longAt; rw [hn]; simp only [decide_eq_true_eq]; omega
               have hF := firstN_at (n := (strsOf l.all).length) r2 (by omega) hp
               rw [show mayRI t (strsOf l.all) = 1 by omega]; rfl)
          · have hF : firstN (longAt (strsOf l.all)) (strsOf l.all).length = -1 := firstN_none (by rw [show (strsOf l.all).length = i0a.toNat by omega]; exact r2)
            first
            | (exfalso; omega)
            | (rw [show mayRI t (strsOf l.all) = 1 by omega]; first | rfl | (rw [decide_eq_false (by omega)]; rfl))
            | (by_cases h16 : l.len ≤ 16
               · rw [show mayRI t (strsOf l.all) = 0 by omega, decide_eq_true (by omega)]; rfl
               · rw [show mayRI t (strsOf l.all) = 1 by omega, decide_eq_false (by omega)]; rfl)
      ·
        rw [mayR_B]
        refine congrArg Value.bool ?_
        by_cases hlt : i0a < (l.len : Int)
        · first
          | (exfalso; omega)
          | (have hn := str_at l e0 (i := i0a) r0 hlt
             have hp : longAt (strsOf l.all) i0a.toNat = true := by unfold longAt; rw [hn]; simp only [decide_eq_true_eq]; omega
             have hF := firstN_at (n := (strsOf l.all).length) r2 (by omega) hp
             rw [show mayRI t (strsOf l.all) = 1 by omega]; rfl)
        · have hF : firstN (longAt (strsOf l.all)) (strsOf l.all).length = -1 := firstN_none (by rw [show (strsOf l.all).length = i0a.toNat by omega]; exact r2)
          first
          | (exfalso; omega)
          | (rw [show mayRI t (strsOf l.all) = 1 by omega]; first | rfl | (rw [decide_eq_false (by omega)]; rfl))
          | (by_cases h16 : l.len ≤ 16
             · rw [show mayRI t (strsOf l.all) = 0 by omega, decide_eq_true (by omega)]; rfl
             · rw [show mayRI t (strsOf l.all) = 1 by omega, decide_eq_false (by omega)]; rfl)
theorem rmay35 (t : Int) (l : Slc) (e0 : l.esz = 1) (hl : l.len ≤ 9223372036854775807) (w : World) (hs0 : SlOk w l [.str]) : Calls Tryd.prog 51 #[.agg #[.int .i64 t, l.val]] w fun e w' => e = .returned (.bool (mayR t (strsOf l.all))) ∧ Below w.heap.size w w' := by
  have h := calls_by (n := ⟨1, 0, 0, 0⟩) (x35E [t] [] [] [] (slsOf [l])) (vs := [.agg #[.int .i64 t, l.val]]) (W := w) x35m rmay35_w rfl ⟨rfl, rfl, rfl, rfl⟩ ⟨good_nil, (slsOk_cons hs0 slsOk_nil)⟩ (rmay35_h t l e0 hl) rfl
  exact calls_eq h
abbrev x35c_rmay : Con := ⟨51, [(.agg (.cons (.int .i64 (.var 0)) (.cons (.sl 0) .nil)))], (.b2 .le (.slen 0) (.lit (9223372036854775807))), (.bool (.b2 .eq (.iapp 1 (.cons (.int .i64 (.var 0)) (.cons (.slv 0) .nil))) (.lit (0)))), [[.str]]⟩
theorem x35g_rmay (iv : List Int) (bv : List Bool) (vv : List Value) (sv : List ByteArray) (sls : Nat → Slc) (W : World) : x35c_rmay.Good Tryd.prog (x35E iv bv vv sv sls) W := by
  intro iv bv vv sv sls β hc w hb hsl
  have hs0 := hsl 0 _ rfl
  exact (by have h := rmay35 (iv.getD 0 0) (sls 0) hs0.1.symm (by simp only [Sx.holds, denI] at hc; omega) w hs0; rw [mayR_B] at h; exact h)
def rwrong35_tree : Tree :=
 (.need (.b2 .le (.slen 0) (.lit (9223372036854775807)))
 (.br (.not (.b2 .eq (.iapp 1 (.cons (.int .i64 (.var 0)) (.cons (.slv 0) .nil))) (.lit (0))))
 (.ret (.bool (.tt true)))
 (.br (.b2 .lt (.var 1) (.lit (0)))
 (.ret (.bool (.tt true)))
 (.ret (.bool (.b2 .lt (.lit (1152921504606846976)) (.var 1)))))))
theorem rwrong35_w : walk Tryd.prog 111 ⟨[x35c_rmay], [[.str]]⟩ [] 77 [(.agg (.cons (.int .i64 (.var 0)) (.cons (.sl 0) .nil))), (.int .i64 (.var 1))] ⟨2, 0, 0, 0⟩ 2000 = some rwrong35_tree := by kernel_rfl
theorem rwrong35_h (t : Int) (l : Slc) (d : Int) (e0 : l.esz = 1) (hl : l.len ≤ 9223372036854775807) : rwrong35_tree.holds (fun v => v = .bool (!(plE t (strsOf l.all) d == 0))) (x35E [t, d] [] [] [] (slsOf [l])) := by
  unfold rwrong35_tree
  simp only [Tree.holds, Sx.holds, denV, denI, denB, denL, I2.den, x35I, x35B, x35V, List.getD_cons_zero, List.getD_cons_succ, Cst.den, slsOf_zero, slsOf_one, x35so, x35se, List.map_nil, List.map_cons, B2.ofInts, B2.denI, B2.denB, if_true, Bool.false_eq_true, if_false]
  have hlen := strs_len l e0
  have f1 := plE_spec t (strsOf l.all) d
  refine ⟨?_, fun h0 => ?_⟩
  ·
    omega
  ·
    refine ⟨fun h1 => ?_, fun h1 => ?_⟩
    ·
      first
      | (exfalso; omega)
      | (simp only [Value.bool.injEq]; rw [Bool.eq_iff_iff]; simp only [Bool.not_eq_true', beq_eq_false_iff_ne, decide_eq_true_eq, true_iff, Bool.false_eq_true, false_iff, ne_eq]; omega)
    ·
      refine ⟨fun h2 => ?_, fun h2 => ?_⟩
      ·
        first
        | (exfalso; omega)
        | (simp only [Value.bool.injEq]; rw [Bool.eq_iff_iff]; simp only [Bool.not_eq_true', beq_eq_false_iff_ne, decide_eq_true_eq, true_iff, Bool.false_eq_true, false_iff, ne_eq]; omega)
      ·
        first
        | (exfalso; omega)
        | (simp only [Value.bool.injEq]; rw [Bool.eq_iff_iff]; simp only [Bool.not_eq_true', beq_eq_false_iff_ne, decide_eq_true_eq, true_iff, Bool.false_eq_true, false_iff, ne_eq]; omega)
theorem rwrong35 (t : Int) (l : Slc) (d : Int) (e0 : l.esz = 1) (hl : l.len ≤ 9223372036854775807) (w : World) (hs0 : SlOk w l [.str]) : Calls Tryd.prog 77 #[.agg #[.int .i64 t, l.val], .int .i64 d] w fun e w' => e = .returned (.bool (!(plE t (strsOf l.all) d == 0))) ∧ Below w.heap.size w w' := by
  have h := calls_by (n := ⟨2, 0, 0, 0⟩) (x35E [t, d] [] [] [] (slsOf [l])) (vs := [.agg #[.int .i64 t, l.val], .int .i64 d]) (W := w) x35m rwrong35_w rfl ⟨rfl, rfl, rfl, rfl⟩ ⟨(good_cons (x35g_rmay _ _ _ _ _ _) good_nil), (slsOk_cons hs0 slsOk_nil)⟩ (rwrong35_h t l d e0 hl) rfl
  exact calls_eq h
abbrev x35c_rwrong : Con := ⟨77, [(.agg (.cons (.int .i64 (.var 0)) (.cons (.sl 0) .nil))), (.int .i64 (.var 1))], (.b2 .le (.slen 0) (.lit (9223372036854775807))), (.bool (.not (.b2 .eq (.iapp 2 (.cons (.int .i64 (.var 0)) (.cons (.slv 0) (.cons (.int .i64 (.var 1)) .nil)))) (.lit (0))))), [[.str]]⟩
theorem x35g_rwrong (iv : List Int) (bv : List Bool) (vv : List Value) (sv : List ByteArray) (sls : Nat → Slc) (W : World) : x35c_rwrong.Good Tryd.prog (x35E iv bv vv sv sls) W := by
  intro iv bv vv sv sls β hc w hb hsl
  have hs0 := hsl 0 _ rfl
  exact rwrong35 (iv.getD 0 0) (sls 0) (iv.getD 1 0) hs0.1.symm (by simp only [Sx.holds, denI] at hc; omega) w hs0
def rwho_tree : Tree :=
 (.need (.b2 .le (.slen 0) (.lit (9223372036854775807)))
 (.br (.not (.b2 .eq (.iapp 2 (.cons (.int .i64 (.var 0)) (.cons (.slv 0) (.cons (.int .i64 (.var 1)) .nil)))) (.lit (0))))
 (.ret (.tup (.cons (.cst (.strc [])) (.cons (.int .i64 (.lit (1))) .nil))))
 (.need (.not (.b2 .eq (.wrap .i64 (.i2 .mul (.var 0) (.slen 0))) (.lit (0))))
 (.need (.not (.b2 .eq (.var 0) (.lit (0))))
 (.need (.b2 .and (.b2 .le (.lit (0)) (.wrap .i64 (.i2 .quo (.i2 .rem (.var 1) (.wrap .i64 (.i2 .mul (.var 0) (.slen 0)))) (.var 0)))) (.b2 .lt (.wrap .i64 (.i2 .quo (.i2 .rem (.var 1) (.wrap .i64 (.i2 .mul (.var 0) (.slen 0)))) (.var 0))) (.slen 0)))
 (.need (.b2 .and (.b2 .le (.lit (0)) (.wrap .i64 (.i2 .quo (.i2 .rem (.var 1) (.wrap .i64 (.i2 .mul (.var 0) (.slen 0)))) (.var 0)))) (.b2 .lt (.wrap .i64 (.i2 .quo (.i2 .rem (.var 1) (.wrap .i64 (.i2 .mul (.var 0) (.slen 0)))) (.var 0))) (.slen 0)))
 (.ret (.tup (.cons (.ssel 0 (.wrap .i64 (.i2 .quo (.i2 .rem (.var 1) (.wrap .i64 (.i2 .mul (.var 0) (.slen 0)))) (.var 0))) 0) (.cons (.int .i64 (.lit (0))) .nil))))))))))
theorem rwho_w : walk Tryd.prog 111 ⟨[x35c_rwrong], [[.str]]⟩ [] 46 [(.agg (.cons (.int .i64 (.var 0)) (.cons (.sl 0) .nil))), (.int .i64 (.var 1))] ⟨2, 0, 0, 0⟩ 2000 = some rwho_tree := by kernel_rfl
theorem rwho_h (t : Int) (l : Slc) (d : Int) (e0 : l.esz = 1) (hl : l.len ≤ 9223372036854775807) (hd : InR d) : rwho_tree.holds (fun v => v = .tuple #[.string (whoS t (strsOf l.all) d), .int .i64 (plE t (strsOf l.all) d)]) (x35E [t, d] [] [] [] (slsOf [l])) := by
  unfold rwho_tree
  simp only [Tree.holds, Sx.holds, denV, denI, denB, denL, I2.den, x35I, x35B, x35V, List.getD_cons_zero, List.getD_cons_succ, Cst.den, slsOf_zero, slsOf_one, x35so, x35se, List.map_nil, List.map_cons, B2.ofInts, B2.denI, B2.denB, if_true, Bool.false_eq_true, if_false]
  have hlen := strs_len l e0
  have f1 := plE_spec t (strsOf l.all) d
  by_cases hz : plE t (strsOf l.all) d = 0
  all_goals
    try (have R := rix35 (t := t) (d := d) (n := l.len) (by omega) (by omega) (by omega) (by omega) (by omega) (by omega)
         have S0 : plS t (strsOf l.all) d = (d / t) % (l.len : Int) := by rw [← hlen]; omega
         have W0 : IntKind.wrap .i64 (t - d % t) = t - d % t := IntWalk.i64_in _ (by omega)
         simp only [R.1, R.2.2.1, R.2.2.2, W0, ← S0])
    refine ⟨?_, fun h0 => ?_⟩
    ·
      omega
    ·
      refine ⟨fun h1 => ?_, fun h1 => ?_⟩
      ·
        first
        | (exfalso; omega)
        | (have hn := str_at l e0 (i := plS t (strsOf l.all) d) (by omega) (by omega)
           simp only [whoS, hz, if_true, hn])
        | (simp only [whoS, hz, if_false]; rw [show plE t (strsOf l.all) d = 1 by omega]; rfl)
      ·
        refine ⟨?_, fun h2 => ?_⟩
        ·
          omega
        ·
          refine ⟨?_, fun h3 => ?_⟩
          ·
            omega
          ·
            refine ⟨?_, fun h4 => ?_⟩
            ·
              omega
            ·
              refine ⟨?_, fun h5 => ?_⟩
              ·
                omega
              ·
                try simp only [hw1]
                try simp only [hw0]
                first
                | (exfalso; omega)
                | (have hn := str_at l e0 (i := plS t (strsOf l.all) d) (by omega) (by omega)
                   simp only [whoS, hz, if_true, hn])
                | (simp only [whoS, hz, if_false]; rw [show plE t (strsOf l.all) d = 1 by omega]; rfl)
theorem rwho (t : Int) (l : Slc) (d : Int) (e0 : l.esz = 1) (hl : l.len ≤ 9223372036854775807) (hd : InR d) (w : World) (hs0 : SlOk w l [.str]) : Calls Tryd.prog 46 #[.agg #[.int .i64 t, l.val], .int .i64 d] w fun e w' => e = .returned (.tuple #[.string (whoS t (strsOf l.all) d), .int .i64 (plE t (strsOf l.all) d)]) ∧ Below w.heap.size w w' := by
  have h := calls_by (n := ⟨2, 0, 0, 0⟩) (x35E [t, d] [] [] [] (slsOf [l])) (vs := [.agg #[.int .i64 t, l.val], .int .i64 d]) (W := w) x35m rwho_w rfl ⟨rfl, rfl, rfl, rfl⟩ ⟨(good_cons (x35g_rwrong _ _ _ _ _ _) good_nil), (slsOk_cons hs0 slsOk_nil)⟩ (rwho_h t l d e0 hl hd) rfl
  exact calls_eq h
def rleft_tree : Tree :=
 (.need (.b2 .le (.slen 0) (.lit (9223372036854775807)))
 (.br (.not (.b2 .eq (.iapp 2 (.cons (.int .i64 (.var 0)) (.cons (.slv 0) (.cons (.int .i64 (.var 1)) .nil)))) (.lit (0))))
 (.ret (.tup (.cons (.int .i64 (.lit (0))) (.cons (.int .i64 (.lit (1))) .nil))))
 (.need (.not (.b2 .eq (.var 0) (.lit (0))))
 (.ret (.tup (.cons (.int .i64 (.wrap .i64 (.i2 .sub (.var 0) (.i2 .rem (.var 1) (.var 0))))) (.cons (.int .i64 (.lit (0))) .nil)))))))
theorem rleft_w : walk Tryd.prog 111 ⟨[x35c_rwrong], [[.str]]⟩ [] 48 [(.agg (.cons (.int .i64 (.var 0)) (.cons (.sl 0) .nil))), (.int .i64 (.var 1))] ⟨2, 0, 0, 0⟩ 2000 = some rleft_tree := by kernel_rfl
theorem rleft_h (t : Int) (l : Slc) (d : Int) (e0 : l.esz = 1) (hl : l.len ≤ 9223372036854775807) (hd : InR d) : rleft_tree.holds (fun v => v = .tuple #[.int .i64 (lfV t (strsOf l.all) d), .int .i64 (plE t (strsOf l.all) d)]) (x35E [t, d] [] [] [] (slsOf [l])) := by
  unfold rleft_tree
  simp only [Tree.holds, Sx.holds, denV, denI, denB, denL, I2.den, x35I, x35B, x35V, List.getD_cons_zero, List.getD_cons_succ, Cst.den, slsOf_zero, slsOf_one, x35so, x35se, List.map_nil, List.map_cons, B2.ofInts, B2.denI, B2.denB, if_true, Bool.false_eq_true, if_false]
  have hlen := strs_len l e0
  have f1 := plE_spec t (strsOf l.all) d
  by_cases hz : plE t (strsOf l.all) d = 0
  all_goals
    try (have R := rix35 (t := t) (d := d) (n := l.len) (by omega) (by omega) (by omega) (by omega) (by omega) (by omega)
         have S0 : plS t (strsOf l.all) d = (d / t) % (l.len : Int) := by rw [← hlen]; omega
         have W0 : IntKind.wrap .i64 (t - d % t) = t - d % t := IntWalk.i64_in _ (by omega)
         simp only [R.1, R.2.2.1, R.2.2.2, W0, ← S0])
    refine ⟨?_, fun h0 => ?_⟩
    ·
      omega
    ·
      refine ⟨fun h1 => ?_, fun h1 => ?_⟩
      ·
        first
        | (exfalso; omega)
        | (simp only [Value.tuple.injEq, Value.agg.injEq, Value.int.injEq, Value.bool.injEq, Array.mk.injEq, List.cons.injEq, true_and, and_true]; omega)
      ·
        refine ⟨?_, fun h2 => ?_⟩
        ·
          omega
        ·
          first
          | (exfalso; omega)
          | (simp only [Value.tuple.injEq, Value.agg.injEq, Value.int.injEq, Value.bool.injEq, Array.mk.injEq, List.cons.injEq, true_and, and_true]; omega)
theorem rleft (t : Int) (l : Slc) (d : Int) (e0 : l.esz = 1) (hl : l.len ≤ 9223372036854775807) (hd : InR d) (w : World) (hs0 : SlOk w l [.str]) : Calls Tryd.prog 48 #[.agg #[.int .i64 t, l.val], .int .i64 d] w fun e w' => e = .returned (.tuple #[.int .i64 (lfV t (strsOf l.all) d), .int .i64 (plE t (strsOf l.all) d)]) ∧ Below w.heap.size w w' := by
  have h := calls_by (n := ⟨2, 0, 0, 0⟩) (x35E [t, d] [] [] [] (slsOf [l])) (vs := [.agg #[.int .i64 t, l.val], .int .i64 d]) (W := w) x35m rleft_w rfl ⟨rfl, rfl, rfl, rfl⟩ ⟨(good_cons (x35g_rwrong _ _ _ _ _ _) good_nil), (slsOk_cons hs0 slsOk_nil)⟩ (rleft_h t l d e0 hl hd) rfl
  exact calls_eq h
def rnext_tree : Tree :=
 (.need (.b2 .le (.slen 0) (.lit (9223372036854775807)))
 (.br (.not (.b2 .eq (.iapp 2 (.cons (.int .i64 (.var 0)) (.cons (.slv 0) (.cons (.int .i64 (.var 1)) .nil)))) (.lit (0))))
 (.ret (.tup (.cons (.int .i64 (.lit (0))) (.cons (.int .i64 (.lit (1))) .nil))))
 (.loop ⟨1, 0, 0, 0⟩ (.b2 .and (.b2 .le (.lit (0)) (.lit (0))) (.b2 .and (.b2 .le (.lit (0)) (.i2 .add (.slen 0) (.lit (1)))) (.bapp 1 (.cons (.slv 0) (.cons (.int .i64 (.iapp 3 (.cons (.int .i64 (.var 0)) (.cons (.slv 0) (.cons (.int .i64 (.var 1)) .nil))))) (.cons (.str 0) (.cons (.int .i64 (.lit (0))) .nil))))))) (.b2 .and (.b2 .le (.lit (0)) (.var 2)) (.b2 .and (.b2 .le (.var 2) (.i2 .add (.slen 0) (.lit (1)))) (.bapp 1 (.cons (.slv 0) (.cons (.int .i64 (.iapp 3 (.cons (.int .i64 (.var 0)) (.cons (.slv 0) (.cons (.int .i64 (.var 1)) .nil))))) (.cons (.str 0) (.cons (.int .i64 (.var 2)) .nil)))))))
 (.br (.b2 .le (.var 2) (.slen 0))
 (.br (.not (.veq (.str 0) (.cst (.strc []))))
 (.need (.not (.b2 .eq (.var 0) (.lit (0))))
 (.need (.not (.b2 .eq (.wrap .i64 (.i2 .mul (.var 0) (.slen 0))) (.lit (0))))
 (.need (.not (.b2 .eq (.var 0) (.lit (0))))
 (.need (.b2 .and (.b2 .le (.lit (0)) (.wrap .i64 (.i2 .quo (.i2 .rem (.wrap .i64 (.i2 .add (.wrap .i64 (.i2 .sub (.var 1) (.i2 .rem (.var 1) (.var 0)))) (.wrap .i64 (.i2 .mul (.var 2) (.var 0))))) (.wrap .i64 (.i2 .mul (.var 0) (.slen 0)))) (.var 0)))) (.b2 .lt (.wrap .i64 (.i2 .quo (.i2 .rem (.wrap .i64 (.i2 .add (.wrap .i64 (.i2 .sub (.var 1) (.i2 .rem (.var 1) (.var 0)))) (.wrap .i64 (.i2 .mul (.var 2) (.var 0))))) (.wrap .i64 (.i2 .mul (.var 0) (.slen 0)))) (.var 0))) (.slen 0)))
 (.need (.b2 .and (.b2 .le (.lit (0)) (.wrap .i64 (.i2 .quo (.i2 .rem (.wrap .i64 (.i2 .add (.wrap .i64 (.i2 .sub (.var 1) (.i2 .rem (.var 1) (.var 0)))) (.wrap .i64 (.i2 .mul (.var 2) (.var 0))))) (.wrap .i64 (.i2 .mul (.var 0) (.slen 0)))) (.var 0)))) (.b2 .lt (.wrap .i64 (.i2 .quo (.i2 .rem (.wrap .i64 (.i2 .add (.wrap .i64 (.i2 .sub (.var 1) (.i2 .rem (.var 1) (.var 0)))) (.wrap .i64 (.i2 .mul (.var 2) (.var 0))))) (.wrap .i64 (.i2 .mul (.var 0) (.slen 0)))) (.var 0))) (.slen 0)))
 (.br (.veq (.ssel 0 (.wrap .i64 (.i2 .quo (.i2 .rem (.wrap .i64 (.i2 .add (.wrap .i64 (.i2 .sub (.var 1) (.i2 .rem (.var 1) (.var 0)))) (.wrap .i64 (.i2 .mul (.var 2) (.var 0))))) (.wrap .i64 (.i2 .mul (.var 0) (.slen 0)))) (.var 0))) 0) (.str 0))
 (.br (.b2 .lt (.wrap .i64 (.i2 .add (.wrap .i64 (.i2 .sub (.var 1) (.i2 .rem (.var 1) (.var 0)))) (.wrap .i64 (.i2 .mul (.var 2) (.var 0))))) (.var 1))
 (.ret (.tup (.cons (.int .i64 (.var 1)) (.cons (.int .i64 (.lit (0))) .nil))))
 (.ret (.tup (.cons (.int .i64 (.wrap .i64 (.i2 .add (.wrap .i64 (.i2 .sub (.var 1) (.i2 .rem (.var 1) (.var 0)))) (.wrap .i64 (.i2 .mul (.var 2) (.var 0)))))) (.cons (.int .i64 (.lit (0))) .nil)))))
 (.back (.b2 .and (.b2 .le (.lit (0)) (.wrap .i64 (.i2 .add (.var 2) (.lit (1))))) (.b2 .and (.b2 .le (.wrap .i64 (.i2 .add (.var 2) (.lit (1)))) (.i2 .add (.slen 0) (.lit (1)))) (.bapp 1 (.cons (.slv 0) (.cons (.int .i64 (.iapp 3 (.cons (.int .i64 (.var 0)) (.cons (.slv 0) (.cons (.int .i64 (.var 1)) .nil))))) (.cons (.str 0) (.cons (.int .i64 (.wrap .i64 (.i2 .add (.var 2) (.lit (1))))) .nil))))))) (.i2 .sub (.i2 .add (.slen 0) (.lit (1))) (.wrap .i64 (.i2 .add (.var 2) (.lit (1))))) (.i2 .sub (.i2 .add (.slen 0) (.lit (1))) (.var 2)))))))))
 (.ret (.tup (.cons (.int .i64 (.lit (0))) (.cons (.int .i64 (.lit (6))) .nil)))))
 (.ret (.tup (.cons (.int .i64 (.lit (0))) (.cons (.int .i64 (.lit (6))) .nil))))))))
theorem rnext_w : walk Tryd.prog 111 ⟨[x35c_rwrong], [[.str]]⟩ [⟨0, ⟨1, 0, 0, 0⟩, [(8, (.int .i64 (.var 2)))], none, (.b2 .and (.b2 .le (.lit (0)) (.var 2)) (.b2 .and (.b2 .le (.var 2) (.i2 .add (.slen 0) (.lit (1)))) (.bapp 1 (.cons (.slv 0) (.cons (.int .i64 (.iapp 3 (.cons (.int .i64 (.var 0)) (.cons (.slv 0) (.cons (.int .i64 (.var 1)) .nil))))) (.cons (.str 0) (.cons (.int .i64 (.var 2)) .nil))))))), (.i2 .sub (.i2 .add (.slen 0) (.lit (1))) (.var 2))⟩] 50 [(.agg (.cons (.int .i64 (.var 0)) (.cons (.sl 0) .nil))), (.str 0), (.int .i64 (.var 1))] ⟨2, 0, 0, 1⟩ 2000 = some rnext_tree := by kernel_rfl
set_option maxHeartbeats 2000000 in
theorem rnext_h (t : Int) (l : Slc) (n : ByteArray) (d : Int) (e0 : l.esz = 1) (hl : l.len ≤ 9223372036854775807) (hd : InR d) : rnext_tree.holds (fun v => v = .tuple #[.int .i64 (nxV t (strsOf l.all) d n), .int .i64 (nxE t (strsOf l.all) d n)]) (x35E [t, d] [] [] [n] (slsOf [l])) := by
  unfold rnext_tree
  simp only [AllN, Env.more, x35E, List.cons_append, List.nil_append, List.append_nil, Tree.holds, Sx.holds, denV, denI, denB, denL, I2.den, x35I, x35B, x35V, List.getD_cons_zero, List.getD_cons_succ, Cst.den, slsOf_zero, slsOf_one, x35so, x35se, List.map_nil, List.map_cons, B2.ofInts, B2.denI, B2.denB, if_true, Bool.false_eq_true, if_false]
  have hlen := strs_len l e0
  have f1 := plE_spec t (strsOf l.all) d
  by_cases hz : plE t (strsOf l.all) d = 0
  all_goals
    try (have R := rix35 (t := t) (d := d) (n := l.len) (by omega) (by omega) (by omega) (by omega) (by omega) (by omega)
         have S0 : plS t (strsOf l.all) d = (d / t) % (l.len : Int) := by rw [← hlen]; omega
         have W0 : IntKind.wrap .i64 (t - d % t) = t - d % t := IntWalk.i64_in _ (by omega)
         simp only [R.1, R.2.2.1, R.2.2.2, W0, ← S0])
    refine ⟨?_, fun h0 => ?_⟩
    ·
      first | omega | (have e3 := Int.emod_nonneg (plS t (strsOf l.all) d + i0a) (b := (l.len : Int)) (by omega); have e4 := Int.emod_lt_of_pos (plS t (strsOf l.all) d + i0a) (b := (l.len : Int)) (by omega); exact ⟨e3, e4⟩)
    ·
      refine ⟨fun h1 => ?_, fun h1 => ?_⟩
      ·
        cases he : (n == (⟨#[]⟩ : ByteArray))
        · have g := nx_spec t (strsOf l.all) d n he
          first
          | (exfalso; omega)
          | (simp only [Value.tuple.injEq, Value.agg.injEq, Value.int.injEq, Value.bool.injEq, Array.mk.injEq, List.cons.injEq, true_and, and_true]; omega)
        · have g := nx_emp t (strsOf l.all) d n he
          first
          | (exfalso; omega)
          | (simp only [Value.tuple.injEq, Value.agg.injEq, Value.int.injEq, Value.bool.injEq, Array.mk.injEq, List.cons.injEq, true_and, and_true]; omega)
      ·
        refine ⟨?_, ?_⟩
        ·
          first | (exfalso; omega) | exact ⟨by omega, by omega, rfl⟩
        ·
          intro i0a hi0
          obtain ⟨r0, r1, r2⟩ := hi0
          try (have Q := rnx35 (t := t) (d := d) (i := i0a) (n := l.len) (by omega) (by omega) (by omega) (by omega) (by omega) (by omega) r0 (by omega)
               simp only [Q.1, Q.2.1, Q.2.2.1, Q.2.2.2.1, ← S0])
          have kn : i0a ≤ 17 → plE t (strsOf l.all) d = 0 → nameAt (strsOf l.all) ((plS t (strsOf l.all) d + i0a) % (l.len : Int)).toNat = strOf (l.cont ((plS t (strsOf l.all) d + i0a) % (l.len : Int)).toNat 0) := fun _ _ => str_at l e0 (i := (plS t (strsOf l.all) d + i0a) % (l.len : Int)) (Int.emod_nonneg _ (by omega)) (Int.emod_lt_of_pos _ (by omega))
          have km : plE t (strsOf l.all) d = 0 → matchAt (strsOf l.all) (plS t (strsOf l.all) d).toNat n i0a.toNat = (nameAt (strsOf l.all) ((plS t (strsOf l.all) d + i0a) % (l.len : Int)).toNat == n) := fun _ => match_at (l := strsOf l.all) (sl := plS t (strsOf l.all) d) (name := n) (i := i0a) (j := (plS t (strsOf l.all) d + i0a) % (l.len : Int)) (by omega) (by omega) r0 (by rw [hlen])
          have hw : i0a ≤ 17 → IntKind.wrap .i64 (i0a + 1) = i0a + 1 := fun _ => IntWalk.i64_in _ (by omega)
          refine ⟨fun h2 => ?_, fun h2 => ?_⟩
          ·
            refine ⟨fun h3 => ?_, fun h3 => ?_⟩
            ·
              refine ⟨?_, fun h4 => ?_⟩
              ·
                first | omega | (have e3 := Int.emod_nonneg (plS t (strsOf l.all) d + i0a) (b := (l.len : Int)) (by omega); have e4 := Int.emod_lt_of_pos (plS t (strsOf l.all) d + i0a) (b := (l.len : Int)) (by omega); exact ⟨e3, e4⟩)
              ·
                refine ⟨?_, fun h5 => ?_⟩
                ·
                  first | omega | (have e3 := Int.emod_nonneg (plS t (strsOf l.all) d + i0a) (b := (l.len : Int)) (by omega); have e4 := Int.emod_lt_of_pos (plS t (strsOf l.all) d + i0a) (b := (l.len : Int)) (by omega); exact ⟨e3, e4⟩)
                ·
                  refine ⟨?_, fun h6 => ?_⟩
                  ·
                    first | omega | (have e3 := Int.emod_nonneg (plS t (strsOf l.all) d + i0a) (b := (l.len : Int)) (by omega); have e4 := Int.emod_lt_of_pos (plS t (strsOf l.all) d + i0a) (b := (l.len : Int)) (by omega); exact ⟨e3, e4⟩)
                  ·
                    refine ⟨?_, fun h7 => ?_⟩
                    ·
                      first | omega | (have e3 := Int.emod_nonneg (plS t (strsOf l.all) d + i0a) (b := (l.len : Int)) (by omega); have e4 := Int.emod_lt_of_pos (plS t (strsOf l.all) d + i0a) (b := (l.len : Int)) (by omega); exact ⟨e3, e4⟩)
                    ·
                      refine ⟨?_, fun h8 => ?_⟩
                      ·
                        first | omega | (have e3 := Int.emod_nonneg (plS t (strsOf l.all) d + i0a) (b := (l.len : Int)) (by omega); have e4 := Int.emod_lt_of_pos (plS t (strsOf l.all) d + i0a) (b := (l.len : Int)) (by omega); exact ⟨e3, e4⟩)
                      ·
                        try simp only [hw4]
                        try simp only [hw3]
                        try simp only [hw2]
                        try simp only [hw1]
                        try simp only [hw0]
                        refine ⟨fun h9 => ?_, fun h9 => ?_⟩
                        ·
                          refine ⟨fun h10 => ?_, fun h10 => ?_⟩
                          ·
                            cases he : (n == (⟨#[]⟩ : ByteArray))
                            · have g := nx_spec t (strsOf l.all) d n he
                              first
                              | (exfalso; omega)
                              | (exfalso; simp_all; done)
                              | (have hp : matchAt (strsOf l.all) (plS t (strsOf l.all) d).toNat n i0a.toNat = true := by rw [km hz, kn (by omega) hz]; assumption
                                 by_cases hlt : i0a < (l.len : Int)
                                 · have hF : nxF t (strsOf l.all) d n = i0a := by unfold nxF; rw [firstN_at r2 (by omega) hp]; omega
                                   rw [hF] at g
                                   simp only [Value.tuple.injEq, Value.agg.injEq, Value.int.injEq, Value.bool.injEq, Array.mk.injEq, List.cons.injEq, true_and, and_true]
                                   omega
                                 · exfalso
                                   have h0 := noneB_get r2 (j := 0) (by omega)
                                   rw [show i0a.toNat = (strsOf l.all).length by omega, match_len] at hp
                                   rw [h0] at hp
                                   cases hp)
                              | (have hF : nxF t (strsOf l.all) d n = -1 := by unfold nxF; exact firstN_none (noneB_le r2 (by omega))
                                 rw [hF] at g
                                 simp only [Value.tuple.injEq, Value.agg.injEq, Value.int.injEq, Value.bool.injEq, Array.mk.injEq, List.cons.injEq, true_and, and_true]
                                 omega)
                            · have g := nx_emp t (strsOf l.all) d n he
                              first
                              | (exfalso; omega)
                              | (exfalso; simp_all; done)
                              | (simp only [Value.tuple.injEq, Value.agg.injEq, Value.int.injEq, Value.bool.injEq, Array.mk.injEq, List.cons.injEq, true_and, and_true]; omega)
                          ·
                            cases he : (n == (⟨#[]⟩ : ByteArray))
                            · have g := nx_spec t (strsOf l.all) d n he
                              first
                              | (exfalso; omega)
                              | (exfalso; simp_all; done)
                              | (have hp : matchAt (strsOf l.all) (plS t (strsOf l.all) d).toNat n i0a.toNat = true := by rw [km hz, kn (by omega) hz]; assumption
                                 by_cases hlt : i0a < (l.len : Int)
                                 · have hF : nxF t (strsOf l.all) d n = i0a := by unfold nxF; rw [firstN_at r2 (by omega) hp]; omega
                                   rw [hF] at g
                                   simp only [Value.tuple.injEq, Value.agg.injEq, Value.int.injEq, Value.bool.injEq, Array.mk.injEq, List.cons.injEq, true_and, and_true]
                                   omega
                                 · exfalso
                                   have h0 := noneB_get r2 (j := 0) (by omega)
                                   rw [show i0a.toNat = (strsOf l.all).length by omega, match_len] at hp
                                   rw [h0] at hp
                                   cases hp)
                              | (have hF : nxF t (strsOf l.all) d n = -1 := by unfold nxF; exact firstN_none (noneB_le r2 (by omega))
                                 rw [hF] at g
                                 simp only [Value.tuple.injEq, Value.agg.injEq, Value.int.injEq, Value.bool.injEq, Array.mk.injEq, List.cons.injEq, true_and, and_true]
                                 omega)
                            · have g := nx_emp t (strsOf l.all) d n he
                              first
                              | (exfalso; omega)
                              | (exfalso; simp_all; done)
                              | (simp only [Value.tuple.injEq, Value.agg.injEq, Value.int.injEq, Value.bool.injEq, Array.mk.injEq, List.cons.injEq, true_and, and_true]; omega)
                        ·
                          refine ⟨?_, ?_⟩
                          ·
                            first
                            | (exfalso; omega)
                            | (refine ⟨by rw [hw (by omega)]; omega, by rw [hw (by omega)]; omega, ?_⟩
                               rw [hw (by omega), toNat_succ r0, noneB_succ, r2, km hz, kn (by omega) hz]
                               simp_all)
                          ·
                            first | (exfalso; omega) | (rw [hw (by omega)]; omega)
            ·
              cases he : (n == (⟨#[]⟩ : ByteArray))
              · have g := nx_spec t (strsOf l.all) d n he
                first
                | (exfalso; omega)
                | (exfalso; simp_all; done)
                | (have hp : matchAt (strsOf l.all) (plS t (strsOf l.all) d).toNat n i0a.toNat = true := by rw [km hz, kn (by omega) hz]; assumption
                   by_cases hlt : i0a < (l.len : Int)
                   · have hF : nxF t (strsOf l.all) d n = i0a := by unfold nxF; rw [firstN_at r2 (by omega) hp]; omega
                     rw [hF] at g
                     simp only [Value.tuple.injEq, Value.agg.injEq, Value.int.injEq, Value.bool.injEq, Array.mk.injEq, List.cons.injEq, true_and, and_true]
                     omega
                   · exfalso
                     have h0 := noneB_get r2 (j := 0) (by omega)
                     rw [show i0a.toNat = (strsOf l.all).length by omega, match_len] at hp
                     rw [h0] at hp
                     cases hp)
                | (have hF : nxF t (strsOf l.all) d n = -1 := by unfold nxF; exact firstN_none (noneB_le r2 (by omega))
                   rw [hF] at g
                   simp only [Value.tuple.injEq, Value.agg.injEq, Value.int.injEq, Value.bool.injEq, Array.mk.injEq, List.cons.injEq, true_and, and_true]
                   omega)
              · have g := nx_emp t (strsOf l.all) d n he
                first
                | (exfalso; omega)
                | (exfalso; simp_all; done)
                | (simp only [Value.tuple.injEq, Value.agg.injEq, Value.int.injEq, Value.bool.injEq, Array.mk.injEq, List.cons.injEq, true_and, and_true]; omega)
          ·
            cases he : (n == (⟨#[]⟩ : ByteArray))
            · have g := nx_spec t (strsOf l.all) d n he
              first
              | (exfalso; omega)
              | (exfalso; simp_all; done)
              | (have hp : matchAt (strsOf l.all) (plS t (strsOf l.all) d).toNat n i0a.toNat = true := by rw [km hz, kn (by omega) hz]; assumption
                 by_cases hlt : i0a < (l.len : Int)
                 · have hF : nxF t (strsOf l.all) d n = i0a := by unfold nxF; rw [firstN_at r2 (by omega) hp]; omega
                   rw [hF] at g
                   simp only [Value.tuple.injEq, Value.agg.injEq, Value.int.injEq, Value.bool.injEq, Array.mk.injEq, List.cons.injEq, true_and, and_true]
                   omega
                 · exfalso
                   have h0 := noneB_get r2 (j := 0) (by omega)
                   rw [show i0a.toNat = (strsOf l.all).length by omega, match_len] at hp
                   rw [h0] at hp
                   cases hp)
              | (have hF : nxF t (strsOf l.all) d n = -1 := by unfold nxF; exact firstN_none (noneB_le r2 (by omega))
                 rw [hF] at g
                 simp only [Value.tuple.injEq, Value.agg.injEq, Value.int.injEq, Value.bool.injEq, Array.mk.injEq, List.cons.injEq, true_and, and_true]
                 omega)
            · have g := nx_emp t (strsOf l.all) d n he
              first
              | (exfalso; omega)
              | (exfalso; simp_all; done)
              | (simp only [Value.tuple.injEq, Value.agg.injEq, Value.int.injEq, Value.bool.injEq, Array.mk.injEq, List.cons.injEq, true_and, and_true]; omega)
theorem rnext (t : Int) (l : Slc) (n : ByteArray) (d : Int) (e0 : l.esz = 1) (hl : l.len ≤ 9223372036854775807) (hd : InR d) (w : World) (hs0 : SlOk w l [.str]) : Calls Tryd.prog 50 #[.agg #[.int .i64 t, l.val], .string n, .int .i64 d] w fun e w' => e = .returned (.tuple #[.int .i64 (nxV t (strsOf l.all) d n), .int .i64 (nxE t (strsOf l.all) d n)]) ∧ Below w.heap.size w w' := by
  have h := calls_by (n := ⟨2, 0, 0, 1⟩) (x35E [t, d] [] [] [n] (slsOf [l])) (vs := [.agg #[.int .i64 t, l.val], .string n, .int .i64 d]) (W := w) x35m rnext_w rfl ⟨rfl, rfl, rfl, rfl⟩ ⟨(good_cons (x35g_rwrong _ _ _ _ _ _) good_nil), (slsOk_cons hs0 slsOk_nil)⟩ (rnext_h t l n d e0 hl hd) rfl
  exact calls_eq h
abbrev x35c_rwho : Con := ⟨46, [(.agg (.cons (.int .i64 (.var 0)) (.cons (.sl 0) .nil))), (.int .i64 (.var 1))], (.b2 .and (.b2 .le (.slen 0) (.lit (9223372036854775807))) (.b2 .and (.b2 .le (.lit (-9223372036854775808)) (.var 1)) (.b2 .le (.var 1) (.lit (9223372036854775807))))), (.tup (.cons (.sapp 0 (.cons (.int .i64 (.var 0)) (.cons (.slv 0) (.cons (.int .i64 (.var 1)) .nil)))) (.cons (.int .i64 (.iapp 2 (.cons (.int .i64 (.var 0)) (.cons (.slv 0) (.cons (.int .i64 (.var 1)) .nil))))) .nil))), [[.str]]⟩
theorem x35g_rwho (iv : List Int) (bv : List Bool) (vv : List Value) (sv : List ByteArray) (sls : Nat → Slc) (W : World) : x35c_rwho.Good Tryd.prog (x35E iv bv vv sv sls) W := by
  intro iv bv vv sv sls β hc w hb hsl
  have hs0 := hsl 0 _ rfl
  exact rwho (iv.getD 0 0) (sls 0) (iv.getD 1 0) hs0.1.symm (by simp only [Sx.holds, denI] at hc; omega) hc.2 w hs0
abbrev x35c_rleft : Con := ⟨48, [(.agg (.cons (.int .i64 (.var 0)) (.cons (.sl 0) .nil))), (.int .i64 (.var 1))], (.b2 .and (.b2 .le (.slen 0) (.lit (9223372036854775807))) (.b2 .and (.b2 .le (.lit (-9223372036854775808)) (.var 1)) (.b2 .le (.var 1) (.lit (9223372036854775807))))), (.tup (.cons (.int .i64 (.iapp 5 (.cons (.int .i64 (.var 0)) (.cons (.slv 0) (.cons (.int .i64 (.var 1)) .nil))))) (.cons (.int .i64 (.iapp 2 (.cons (.int .i64 (.var 0)) (.cons (.slv 0) (.cons (.int .i64 (.var 1)) .nil))))) .nil))), [[.str]]⟩
theorem x35g_rleft (iv : List Int) (bv : List Bool) (vv : List Value) (sv : List ByteArray) (sls : Nat → Slc) (W : World) : x35c_rleft.Good Tryd.prog (x35E iv bv vv sv sls) W := by
  intro iv bv vv sv sls β hc w hb hsl
  have hs0 := hsl 0 _ rfl
  exact rleft (iv.getD 0 0) (sls 0) (iv.getD 1 0) hs0.1.symm (by simp only [Sx.holds, denI] at hc; omega) hc.2 w hs0
abbrev x35c_rnext : Con := ⟨50, [(.agg (.cons (.int .i64 (.var 0)) (.cons (.sl 0) .nil))), (.str 0), (.int .i64 (.var 1))], (.b2 .and (.b2 .le (.slen 0) (.lit (9223372036854775807))) (.b2 .and (.b2 .le (.lit (-9223372036854775808)) (.var 1)) (.b2 .le (.var 1) (.lit (9223372036854775807))))), (.tup (.cons (.int .i64 (.iapp 7 (.cons (.int .i64 (.var 0)) (.cons (.slv 0) (.cons (.int .i64 (.var 1)) (.cons (.str 0) .nil)))))) (.cons (.int .i64 (.iapp 6 (.cons (.int .i64 (.var 0)) (.cons (.slv 0) (.cons (.int .i64 (.var 1)) (.cons (.str 0) .nil)))))) .nil))), [[.str]]⟩
theorem x35g_rnext (iv : List Int) (bv : List Bool) (vv : List Value) (sv : List ByteArray) (sls : Nat → Slc) (W : World) : x35c_rnext.Good Tryd.prog (x35E iv bv vv sv sls) W := by
  intro iv bv vv sv sls β hc w hb hsl
  have hs0 := hsl 0 _ rfl
  exact rnext (iv.getD 0 0) (sls 0) (sv.getD 0 ByteArray.empty) (iv.getD 1 0) hs0.1.symm (by simp only [Sx.holds, denI] at hc; omega) hc.2 w hs0
theorem num35_anyx (n : Int) (w : World) (hg : w.cell? ⟨0, 0, none⟩ = some asHandle) : Calls Tryd.prog 52 #[errVal 111 n] w fun e w' => e = .returned (.int .i64 n) ∧ Below w.heap.size w w' := by
  unfold errVal
  split
  · rename_i h; subst h; exact num35_nil _
  · exact num35_err _ _ hg
abbrev x35c_num : Con := ⟨52, [(.err (.var 0))], (.tt true), (.int .i64 (.var 0)), []⟩
theorem x35g_num (iv : List Int) (bv : List Bool) (vv : List Value) (sv : List ByteArray) (sls : Nat → Slc) (W : World) (hg : W.cell? ⟨0, 0, none⟩ = some asHandle) : x35c_num.Good Tryd.prog (x35E iv bv vv sv sls) W := by
  intro iv bv vv sv sls β hc w hb hsl
  have hgw := handle_below hg hb (handle_lt hg)
  exact num35_anyx (iv.getD 0 0) w hgw
def sure35_tree : Tree :=
 (.br (.b2 .eq (.iapp 2 (.cons (.int .i64 (.lit (10))) (.cons (.tup (.cons (.cst (.strc [97])) (.cons (.cst (.strc [98])) .nil))) (.cons (.int .i64 (.lit (15))) .nil)))) (.lit (0)))
 (.br (.b2 .eq (.iapp 6 (.cons (.int .i64 (.lit (10))) (.cons (.tup (.cons (.cst (.strc [97])) (.cons (.cst (.strc [98])) .nil))) (.cons (.int .i64 (.lit (15))) (.cons (.cst (.strc [97])) .nil))))) (.lit (0)))
 (.br (.veq (.sapp 0 (.cons (.int .i64 (.lit (10))) (.cons (.tup (.cons (.cst (.strc [97])) (.cons (.cst (.strc [98])) .nil))) (.cons (.int .i64 (.lit (15))) .nil)))) (.cst (.strc [98])))
 (.br (.b2 .eq (.iapp 5 (.cons (.int .i64 (.lit (10))) (.cons (.tup (.cons (.cst (.strc [97])) (.cons (.cst (.strc [98])) .nil))) (.cons (.int .i64 (.lit (15))) .nil)))) (.lit (5)))
 (.br (.b2 .eq (.iapp 7 (.cons (.int .i64 (.lit (10))) (.cons (.tup (.cons (.cst (.strc [97])) (.cons (.cst (.strc [98])) .nil))) (.cons (.int .i64 (.lit (15))) (.cons (.cst (.strc [97])) .nil))))) (.lit (20)))
 (.br (.b2 .eq (.iapp 6 (.cons (.int .i64 (.lit (10))) (.cons (.tup (.cons (.cst (.strc [97])) (.cons (.cst (.strc [98])) .nil))) (.cons (.int .i64 (.lit (15))) (.cons (.cst (.strc [99])) .nil))))) (.lit (6)))
 (.ret (.bool (.b2 .eq (.iapp 8 (.cons (.int .i64 (.lit (10))) (.cons (.tup (.cons (.cst (.strc [97])) (.cons (.cst (.strc [98])) .nil))) (.cons (.cst (.strc [97])) .nil)))) (.lit (10)))))
 (.ret (.bool (.tt false))))
 (.ret (.bool (.tt false))))
 (.ret (.bool (.tt false))))
 (.ret (.bool (.tt false))))
 (.ret (.bool (.tt false))))
 (.ret (.bool (.tt false))))
theorem sure35_w : walk Tryd.prog 111 ⟨[x35c_swho, x35c_sleft, x35c_snext, x35c_sshare, x35c_num], []⟩ [] 44 [] ⟨0, 0, 0, 0⟩ 2000 = some sure35_tree := by kernel_rfl
theorem sure35_h   : sure35_tree.holds (fun v => v = .bool true) (x35E [] [] [] [] (slsOf [])) := by
  unfold sure35_tree
  simp only [Tree.holds, Sx.holds, denV, denI, denB, denL, I2.den, x35I, x35B, x35V, List.getD_cons_zero, List.getD_cons_succ, Cst.den, slsOf_zero, slsOf_one, x35so, x35se, List.map_nil, List.map_cons, B2.ofInts, B2.denI, B2.denB, if_true, Bool.false_eq_true, if_false]
  have e : strsOf (.tuple #[.string ⟨#[UInt8.ofNat 97]⟩, .string ⟨#[UInt8.ofNat 98]⟩]) = [⟨#[UInt8.ofNat 97]⟩, ⟨#[UInt8.ofNat 98]⟩] := rfl
  simp only [e]
  have q1 : plE 10 [⟨#[UInt8.ofNat 97]⟩, ⟨#[UInt8.ofNat 98]⟩] 15 = 0 := by decide
  have q2 : nxE 10 [⟨#[UInt8.ofNat 97]⟩, ⟨#[UInt8.ofNat 98]⟩] 15 ⟨#[UInt8.ofNat 97]⟩ = 0 := by decide
  have q3 : (whoS 10 [⟨#[UInt8.ofNat 97]⟩, ⟨#[UInt8.ofNat 98]⟩] 15 == ⟨#[UInt8.ofNat 98]⟩) = true := by decide
  have q4 : lfV 10 [⟨#[UInt8.ofNat 97]⟩, ⟨#[UInt8.ofNat 98]⟩] 15 = 5 := by decide
  have q5 : nxV 10 [⟨#[UInt8.ofNat 97]⟩, ⟨#[UInt8.ofNat 98]⟩] 15 ⟨#[UInt8.ofNat 97]⟩ = 20 := by decide
  have q6 : nxE 10 [⟨#[UInt8.ofNat 97]⟩, ⟨#[UInt8.ofNat 98]⟩] 15 ⟨#[UInt8.ofNat 99]⟩ = 6 := by decide
  have q7 : shV 10 [⟨#[UInt8.ofNat 97]⟩, ⟨#[UInt8.ofNat 98]⟩] ⟨#[UInt8.ofNat 97]⟩ = 10 := by decide
  refine ⟨fun h0 => ?_, fun h0 => ?_⟩
  ·
    refine ⟨fun h1 => ?_, fun h1 => ?_⟩
    ·
      refine ⟨fun h2 => ?_, fun h2 => ?_⟩
      ·
        refine ⟨fun h3 => ?_, fun h3 => ?_⟩
        ·
          refine ⟨fun h4 => ?_, fun h4 => ?_⟩
          ·
            refine ⟨fun h5 => ?_, fun h5 => ?_⟩
            ·
              first | (exfalso; omega) | (exfalso; apply h2; exact q3) | (rw [q7]; rfl)
            ·
              first | (exfalso; omega) | (exfalso; apply h2; exact q3) | (rw [q7]; rfl)
          ·
            first | (exfalso; omega) | (exfalso; apply h2; exact q3) | (rw [q7]; rfl)
        ·
          first | (exfalso; omega) | (exfalso; apply h2; exact q3) | (rw [q7]; rfl)
      ·
        first | (exfalso; omega) | (exfalso; apply h2; exact q3) | (rw [q7]; rfl)
    ·
      first | (exfalso; omega) | (exfalso; apply h2; exact q3) | (rw [q7]; rfl)
  ·
    first | (exfalso; omega) | (exfalso; apply h2; exact q3) | (rw [q7]; rfl)
theorem sure35   (w : World) (hg : w.cell? ⟨0, 0, none⟩ = some asHandle) : Calls Tryd.prog 44 #[] w fun e w' => e = .returned (.bool true) ∧ Below w.heap.size w w' := by
  have h := calls_by (n := ⟨0, 0, 0, 0⟩) (x35E [] [] [] [] (slsOf [])) (vs := []) (W := w) x35m sure35_w rfl ⟨rfl, rfl, rfl, rfl⟩ ⟨(good_cons (x35g_swho _ _ _ _ _ _) (good_cons (x35g_sleft _ _ _ _ _ _) (good_cons (x35g_snext _ _ _ _ _ _) (good_cons (x35g_sshare _ _ _ _ _ _) (good_cons (x35g_num _ _ _ _ _ _ hg) good_nil))))), slsOk_nil⟩ (sure35_h  ) rfl
  exact calls_eq h
abbrev x35c_sure : Con := ⟨44, [], (.tt true), (.bool (.tt true)), []⟩
theorem x35g_sure (iv : List Int) (bv : List Bool) (vv : List Value) (sv : List ByteArray) (sls : Nat → Slc) (W : World) (hg : W.cell? ⟨0, 0, none⟩ = some asHandle) : x35c_sure.Good Tryd.prog (x35E iv bv vv sv sls) W := by
  intro iv bv vv sv sls β hc w hb hsl
  have hgw := handle_below hg hb (handle_lt hg)
  exact sure35 w hgw
end Go.Proofs.YtgkpbokipnfddaaDoor
