/-
  Layer 9 by the second engine: tables and moments.
-/
import Derived.Test.YtbjgopehomnpgaaDoorSycqs
import Derived.Test.YtbjgopehomnpgaaDoorN09bqs
import Derived.Test.YtbjgopehomnpgaaDoorSyoqs
namespace Go.Proofs.YtbjgopehomnpgaaDoor
open Go.RowKit Go.Extern.Stop Go.Stop Go.Extern Go.Proofs.YtbjgopehomnpgaaDoor.Sy
set_option linter.unusedVariables false
set_option linter.unusedSimpArgs false
theorem errV1 {n : Int} (h : n = 1) : Value.iface 182 (.int .i64 1) = errVal 182 n := by subst h; rfl
theorem errV0 {n : Int} (h : n = 0) : Value.nilIface = errVal 182 n := by subst h; rfl
theorem errV2 {n : Int} (h : n = 2) : Value.iface 182 (.int .i64 2) = errVal 182 n := by subst h; rfl
theorem errV10 {n : Int} (h : n = 10) : Value.iface 182 (.int .i64 10) = errVal 182 n := by subst h; rfl
theorem mayL_not {base last : Int} {l : List Int} (h : base < 0 ∨ 100 < base ∨ last < -50000 ∨ 50000 < last ∨ 32 < l.length) : mayL base last l = false := by
  cases hm : mayL base last l with
  | false => rfl
  | true => have := mayL_spec hm; omega
theorem mayL_bad {base last : Int} {l : List Int} {j : Nat} (hj : j < l.length) (h : okJ l last j = false) : mayL base last l = false := by
  cases hm : mayL base last l with
  | false => rfl
  | true =>
    simp only [mayL, Bool.and_eq_true] at hm
    rw [okL_get hm.2 hj] at h
    cases h
theorem mayL_yes {base last : Int} {l : List Int} (h0 : 0 ≤ base) (h1 : base ≤ 100) (h2 : -50000 ≤ last) (h3 : last ≤ 50000) (h4 : l.length ≤ 32) (h5 : okL l last l.length = true) : mayL base last l = true := by
  simp only [mayL, Bool.and_eq_true, decide_eq_true_eq]
  exact ⟨⟨⟨⟨⟨h0, h1⟩, h2⟩, h3⟩, h4⟩, h5⟩
theorem mayI_no {base last : Int} {l : List Int} (h : mayL base last l = false) : mayI base last l = 1 := by unfold mayI; rw [h]; rfl
theorem mayI_yes {base last : Int} {l : List Int} (h : mayL base last l = true) : mayI base last l = 0 := by unfold mayI; rw [h]; rfl
theorem gone_q {x : Int} (h0 : 0 ≤ x) (h1 : x ≤ 9223372036854775807) : IntKind.wrap .i64 (Int.tdiv (IntKind.wrap .i64 x) 1000000000) = x / 1000000000 ∧ Int.tmod (IntKind.wrap .i64 x) 1000000000 = x % 1000000000 := by
  rw [show IntKind.wrap .i64 x = x from IntWalk.i64_in x (by omega), Int.tdiv_eq_ediv_of_nonneg h0, Int.tmod_eq_emod_of_nonneg h0]
  exact ⟨IntWalk.i64_in _ (by omega), rfl⟩
noncomputable def y9I : Nat → List Value → Int
  | 0, [.int _ b, .int _ t, l] => mayI b t (intsOf l)
  | 1, [l, .int _ d, .int _ n] => (cntL (intsOf l) d n.toNat : Int)
  | 2, [l, .int _ d] => (ctL (intsOf l) d : Int)
  | 3, [l, .int _ n] => leastL (intsOf l) n.toNat
  | 4, [.int _ b, .int _ t, l, .int _ d] => wrongI b t (intsOf l) d
  | 5, [.int _ b, l, .int _ d] => secL b (intsOf l) d
  | 6, [.int _ b, .int _ t, l, .int _ d] => aheadI b t (intsOf l) d
  | 7, [.int _ b, .int _ t, l, .int _ d] => lenI b t (intsOf l) d
  | 8, [.int _ b, .int _ t, l, .int _ d] => begI b t (intsOf l) d
  | 9, [.int _ b, .int _ t, l, .int _ n] => utcE b t (intsOf l) n
  | 10, [.int _ b, .int _ t, l, .int _ n] => utcD b t (intsOf l) n
  | 11, [.int _ b, .int _ t, l, .int _ n] => utcS b t (intsOf l) n
  | 12, [.int _ b, .int _ t, l, .int _ n] => utcN b t (intsOf l) n
  | 13, [.int _ a] => szE a
  | 14, [.int _ a] => satE a
  | 15, [.int _ a] => svE a
  | 16, [.int _ a] => erE a
  | 17, [.int _ a, .int _ b] => dqE a b
  | 18, [.int _ a, .int _ b] => dmE a b
  | 19, [.int _ b] => deE b
  | _, _ => 0
noncomputable def y9B : Nat → List Value → Bool
  | 0, [l, .int _ t, .int _ n] => okL (intsOf l) t n.toNat
  | 1, [.int _ b, .int _ t, l] => mayL b t (intsOf l)
  | _, _ => false
noncomputable def y9V : Nat → List Value → Value
  | _, _ => Go.undef
noncomputable abbrev y9E (iv : List Int) (bv : List Bool) (vv : List Value) (sv : List ByteArray) : Env := { iv := iv, bv := bv, vv := vv, sv := sv, fi := y9I, fb := y9B, fv := y9V, et := 182 }
theorem y9i_may (k1 : IntKind) (b : Int) (k2 : IntKind) (t : Int) (l : Value) : y9I 0 [.int k1 b, .int k2 t, l] = mayI b t (intsOf l) := rfl
theorem y9i_lcnt (l : Value) (k1 : IntKind) (d : Int) (k2 : IntKind) (n : Int) : y9I 1 [l, .int k1 d, .int k2 n] = (cntL (intsOf l) d n.toNat : Int) := rfl
theorem y9i_lct (l : Value) (k1 : IntKind) (d : Int) : y9I 2 [l, .int k1 d] = (ctL (intsOf l) d : Int) := rfl
theorem y9i_least (l : Value) (k1 : IntKind) (n : Int) : y9I 3 [l, .int k1 n] = leastL (intsOf l) n.toNat := rfl
theorem y9i_wrong (k1 : IntKind) (b : Int) (k2 : IntKind) (t : Int) (l : Value) (k3 : IntKind) (d : Int) : y9I 4 [.int k1 b, .int k2 t, l, .int k3 d] = wrongI b t (intsOf l) d := rfl
theorem y9i_sec (k1 : IntKind) (b : Int) (l : Value) (k2 : IntKind) (d : Int) : y9I 5 [.int k1 b, l, .int k2 d] = secL b (intsOf l) d := rfl
theorem y9i_aheadI (k1 : IntKind) (b : Int) (k2 : IntKind) (t : Int) (l : Value) (k3 : IntKind) (d : Int) : y9I 6 [.int k1 b, .int k2 t, l, .int k3 d] = aheadI b t (intsOf l) d := rfl
theorem y9i_lenI (k1 : IntKind) (b : Int) (k2 : IntKind) (t : Int) (l : Value) (k3 : IntKind) (d : Int) : y9I 7 [.int k1 b, .int k2 t, l, .int k3 d] = lenI b t (intsOf l) d := rfl
theorem y9i_begI (k1 : IntKind) (b : Int) (k2 : IntKind) (t : Int) (l : Value) (k3 : IntKind) (d : Int) : y9I 8 [.int k1 b, .int k2 t, l, .int k3 d] = begI b t (intsOf l) d := rfl
theorem y9i_utcE (k1 : IntKind) (b : Int) (k2 : IntKind) (t : Int) (l : Value) (k3 : IntKind) (n : Int) : y9I 9 [.int k1 b, .int k2 t, l, .int k3 n] = utcE b t (intsOf l) n := rfl
theorem y9i_utcD (k1 : IntKind) (b : Int) (k2 : IntKind) (t : Int) (l : Value) (k3 : IntKind) (n : Int) : y9I 10 [.int k1 b, .int k2 t, l, .int k3 n] = utcD b t (intsOf l) n := rfl
theorem y9i_utcS (k1 : IntKind) (b : Int) (k2 : IntKind) (t : Int) (l : Value) (k3 : IntKind) (n : Int) : y9I 11 [.int k1 b, .int k2 t, l, .int k3 n] = utcS b t (intsOf l) n := rfl
theorem y9i_utcN (k1 : IntKind) (b : Int) (k2 : IntKind) (t : Int) (l : Value) (k3 : IntKind) (n : Int) : y9I 12 [.int k1 b, .int k2 t, l, .int k3 n] = utcN b t (intsOf l) n := rfl
theorem y9i_sz (k1 : IntKind) (a : Int) : y9I 13 [.int k1 a] = szE a := rfl
theorem y9i_sa (k1 : IntKind) (a : Int) : y9I 14 [.int k1 a] = satE a := rfl
theorem y9i_nv (k1 : IntKind) (a : Int) : y9I 15 [.int k1 a] = svE a := rfl
theorem y9i_ne (k1 : IntKind) (a : Int) : y9I 16 [.int k1 a] = erE a := rfl
theorem y9i_dq (k1 : IntKind) (a : Int) (k2 : IntKind) (b : Int) : y9I 17 [.int k1 a, .int k2 b] = dqE a b := rfl
theorem y9i_dm (k1 : IntKind) (a : Int) (k2 : IntKind) (b : Int) : y9I 18 [.int k1 a, .int k2 b] = dmE a b := rfl
theorem y9i_de (k1 : IntKind) (b : Int) : y9I 19 [.int k1 b] = deE b := rfl
theorem y9b_lok (l : Value) (k1 : IntKind) (t : Int) (k2 : IntKind) (n : Int) : y9B 0 [l, .int k1 t, .int k2 n] = okL (intsOf l) t n.toNat := rfl
theorem y9b_mayb (k1 : IntKind) (b : Int) (k2 : IntKind) (t : Int) (l : Value) : y9B 1 [.int k1 b, .int k2 t, l] = mayL b t (intsOf l) := rfl
theorem syso (s : ByteArray) : strOf (.string s) = s := rfl
theorem syse (a b : ByteArray) : strEq (.string a) (.string b) = (a == b) := rfl
theorem syio (k : IntKind) (n : Int) : intOf (.int k n) = n := rfl
theorem sybo (b : Bool) : boolOf (.bool b) = b := rfl
theorem typ_len {r : SK} {v : Value} {n : Nat} (h : typ (.sl r) v) (e : r.wd = n) (e0 : 0 < n) : ((rows v).length / n : Nat) ≤ 140737488355328 ∧ (rows v).length = (rows v).length / n * n := by
  obtain ⟨_, m, h1, h2, _⟩ := h
  rw [e] at h2
  rw [h2, Nat.mul_div_cancel _ e0]
  exact ⟨h1, rfl⟩
theorem sym : Tryd.prog.follows .mixedOrders = true := by kernel_rfl
abbrev syG : Glob := [(0, 0, asHandle)]
def nsub_tree : Tree :=
 (.br (.b2 .lt (.var 1) (.lit (0)))
 (.br (.b2 .lt (.wrap .i64 (.i2 .add (.lit (9223372036854775807)) (.var 1))) (.var 0))
 (.ret (.tup (.cons (.int .i64 (.lit (0))) (.cons (.iface 182 (.int .i64 (.lit (2)))) .nil))))
 (.br (.b2 .lt (.lit (0)) (.var 1))
 (.br (.b2 .lt (.var 0) (.wrap .i64 (.i2 .add (.lit (-9223372036854775808)) (.var 1))))
 (.ret (.tup (.cons (.int .i64 (.lit (0))) (.cons (.iface 182 (.int .i64 (.lit (2)))) .nil))))
 (.ret (.tup (.cons (.int .i64 (.wrap .i64 (.i2 .sub (.var 0) (.var 1)))) (.cons (.cst .nilI) .nil)))))
 (.ret (.tup (.cons (.int .i64 (.wrap .i64 (.i2 .sub (.var 0) (.var 1)))) (.cons (.cst .nilI) .nil))))))
 (.br (.b2 .lt (.lit (0)) (.var 1))
 (.br (.b2 .lt (.var 0) (.wrap .i64 (.i2 .add (.lit (-9223372036854775808)) (.var 1))))
 (.ret (.tup (.cons (.int .i64 (.lit (0))) (.cons (.iface 182 (.int .i64 (.lit (2)))) .nil))))
 (.ret (.tup (.cons (.int .i64 (.wrap .i64 (.i2 .sub (.var 0) (.var 1)))) (.cons (.cst .nilI) .nil)))))
 (.ret (.tup (.cons (.int .i64 (.wrap .i64 (.i2 .sub (.var 0) (.var 1)))) (.cons (.cst .nilI) .nil))))))
abbrev y9c_nsub : Con := ⟨167, [(.int .i64 (.var 0)), (.int .i64 (.var 1))], (.b2 .and (.b2 .and (.b2 .le (.lit (-9223372036854775808)) (.var 0)) (.b2 .le (.var 0) (.lit (9223372036854775807)))) (.b2 .and (.b2 .le (.lit (-9223372036854775808)) (.var 1)) (.b2 .le (.var 1) (.lit (9223372036854775807))))), (.tup (.cons (.int .i64 (.iapp 15 (.cons (.int .i64 (.i2 .sub (.var 0) (.var 1))) .nil))) (.cons (.err (.iapp 16 (.cons (.int .i64 (.i2 .sub (.var 0) (.var 1))) .nil))) .nil))), ⟨2, 0, 0, 0⟩, none⟩
theorem nsub_w : walk Tryd.prog 182 ⟨[], syG, [], [], []⟩ [] .v y9c_nsub y9c_nsub.n 3000 = some nsub_tree := by kernel_rfl
theorem nsub_h (a : Int) (b : Int) (hc : holds (y9E [a, b] [] [] []) (.b2 .and (.b2 .and (.b2 .le (.lit (-9223372036854775808)) (.var 0)) (.b2 .le (.var 0) (.lit (9223372036854775807)))) (.b2 .and (.b2 .le (.lit (-9223372036854775808)) (.var 1)) (.b2 .le (.var 1) (.lit (9223372036854775807)))))) (hty : patsTyp (y9E [a, b] [] [] []) [(.int .i64 (.var 0)), (.int .i64 (.var 1))]) : nsub_tree.holds (fun v_ => v_ = denV (y9E [a, b] [] [] []) b0 (.tup (.cons (.int .i64 (.iapp 15 (.cons (.int .i64 (.i2 .sub (.var 0) (.var 1))) .nil))) (.cons (.err (.iapp 16 (.cons (.int .i64 (.i2 .sub (.var 0) (.var 1))) .nil))) .nil)))) (y9E [a, b] [] [] []) := by
  simp only [Tree.holds, Sy.holds, AllN, Env.more, y9E, List.cons_append, List.nil_append, List.append_nil, denV, denI, denB, denL, I2.den, VOp.den, List.getD_cons_zero, List.getD_cons_succ, Cst.den, syso, syse, syio, sybo, y9i_may, y9i_lcnt, y9i_lct, y9i_least, y9i_wrong, y9i_sec, y9i_aheadI, y9i_lenI, y9i_begI, y9i_utcE, y9i_utcD, y9i_utcS, y9i_utcN, y9i_sz, y9i_sa, y9i_nv, y9i_ne, y9i_dq, y9i_dm, y9i_de, y9b_lok, y9b_mayb, List.map_nil, List.map_cons, B2.ofInts, B2.denI, B2.denB, if_true, Bool.false_eq_true, if_false, Nat.div_one, Nat.mul_one, Nat.add_zero, holds] at hc
  simp only [patsTyp, patTyp, patTypL, y9E, denV, denL, List.getD_cons_zero, List.getD_cons_succ, and_true, true_and] at hty
  unfold nsub_tree
  simp only [Tree.holds, Sy.holds, AllN, Env.more, y9E, List.cons_append, List.nil_append, List.append_nil, denV, denI, denB, denL, I2.den, VOp.den, List.getD_cons_zero, List.getD_cons_succ, Cst.den, syso, syse, syio, sybo, y9i_may, y9i_lcnt, y9i_lct, y9i_least, y9i_wrong, y9i_sec, y9i_aheadI, y9i_lenI, y9i_begI, y9i_utcE, y9i_utcD, y9i_utcS, y9i_utcN, y9i_sz, y9i_sa, y9i_nv, y9i_ne, y9i_dq, y9i_dm, y9i_de, y9b_lok, y9b_mayb, List.map_nil, List.map_cons, B2.ofInts, B2.denI, B2.denB, if_true, Bool.false_eq_true, if_false, Nat.div_one, Nat.mul_one, Nat.add_zero]
  refine ⟨fun h0 => ?_, fun h0 => ?_⟩
  ·
   have wf0 := wr_i64 (9223372036854775807 + b)
   refine ⟨fun h1 => ?_, fun h1 => ?_⟩
   ·
    have hs := svE_spec (a - b)
    by_cases hr : -9223372036854775808 ≤ a - b ∧ a - b ≤ 9223372036854775807
    · have e1 : svE (a - b) = a - b := by omega
      have e2 : erE (a - b) = 0 := by omega
      rw [e1, e2]
      first
      | (exfalso; omega)
      | (rw [show IntKind.wrap .i64 (a - b) = a - b by omega]; rfl)
    · have e1 : svE (a - b) = 0 := by omega
      have e2 : erE (a - b) = 2 := by omega
      rw [e1, e2]
      first
      | (exfalso; omega)
      | rfl
   ·
    refine ⟨fun h2 => ?_, fun h2 => ?_⟩
    ·
     have wf1 := wr_i64 ((-9223372036854775808) + b)
     refine ⟨fun h3 => ?_, fun h3 => ?_⟩
     ·
      have hs := svE_spec (a - b)
      by_cases hr : -9223372036854775808 ≤ a - b ∧ a - b ≤ 9223372036854775807
      · have e1 : svE (a - b) = a - b := by omega
        have e2 : erE (a - b) = 0 := by omega
        rw [e1, e2]
        first
        | (exfalso; omega)
        | (rw [show IntKind.wrap .i64 (a - b) = a - b by omega]; rfl)
      · have e1 : svE (a - b) = 0 := by omega
        have e2 : erE (a - b) = 2 := by omega
        rw [e1, e2]
        first
        | (exfalso; omega)
        | rfl
     ·
      have wf2 := wr_i64 (a - b)
      have hs := svE_spec (a - b)
      by_cases hr : -9223372036854775808 ≤ a - b ∧ a - b ≤ 9223372036854775807
      · have e1 : svE (a - b) = a - b := by omega
        have e2 : erE (a - b) = 0 := by omega
        rw [e1, e2]
        first
        | (exfalso; omega)
        | (rw [show IntKind.wrap .i64 (a - b) = a - b by omega]; rfl)
      · have e1 : svE (a - b) = 0 := by omega
        have e2 : erE (a - b) = 2 := by omega
        rw [e1, e2]
        first
        | (exfalso; omega)
        | rfl
    ·
     have wf3 := wr_i64 (a - b)
     have hs := svE_spec (a - b)
     by_cases hr : -9223372036854775808 ≤ a - b ∧ a - b ≤ 9223372036854775807
     · have e1 : svE (a - b) = a - b := by omega
       have e2 : erE (a - b) = 0 := by omega
       rw [e1, e2]
       first
       | (exfalso; omega)
       | (rw [show IntKind.wrap .i64 (a - b) = a - b by omega]; rfl)
     · have e1 : svE (a - b) = 0 := by omega
       have e2 : erE (a - b) = 2 := by omega
       rw [e1, e2]
       first
       | (exfalso; omega)
       | rfl
  ·
   refine ⟨fun h4 => ?_, fun h4 => ?_⟩
   ·
    have wf4 := wr_i64 ((-9223372036854775808) + b)
    refine ⟨fun h5 => ?_, fun h5 => ?_⟩
    ·
     have hs := svE_spec (a - b)
     by_cases hr : -9223372036854775808 ≤ a - b ∧ a - b ≤ 9223372036854775807
     · have e1 : svE (a - b) = a - b := by omega
       have e2 : erE (a - b) = 0 := by omega
       rw [e1, e2]
       first
       | (exfalso; omega)
       | (rw [show IntKind.wrap .i64 (a - b) = a - b by omega]; rfl)
     · have e1 : svE (a - b) = 0 := by omega
       have e2 : erE (a - b) = 2 := by omega
       rw [e1, e2]
       first
       | (exfalso; omega)
       | rfl
    ·
     have wf5 := wr_i64 (a - b)
     have hs := svE_spec (a - b)
     by_cases hr : -9223372036854775808 ≤ a - b ∧ a - b ≤ 9223372036854775807
     · have e1 : svE (a - b) = a - b := by omega
       have e2 : erE (a - b) = 0 := by omega
       rw [e1, e2]
       first
       | (exfalso; omega)
       | (rw [show IntKind.wrap .i64 (a - b) = a - b by omega]; rfl)
     · have e1 : svE (a - b) = 0 := by omega
       have e2 : erE (a - b) = 2 := by omega
       rw [e1, e2]
       first
       | (exfalso; omega)
       | rfl
   ·
    have wf6 := wr_i64 (a - b)
    have hs := svE_spec (a - b)
    by_cases hr : -9223372036854775808 ≤ a - b ∧ a - b ≤ 9223372036854775807
    · have e1 : svE (a - b) = a - b := by omega
      have e2 : erE (a - b) = 0 := by omega
      rw [e1, e2]
      first
      | (exfalso; omega)
      | (rw [show IntKind.wrap .i64 (a - b) = a - b by omega]; rfl)
    · have e1 : svE (a - b) = 0 := by omega
      have e2 : erE (a - b) = 2 := by omega
      rw [e1, e2]
      first
      | (exfalso; omega)
      | rfl
theorem y9g_nsub : y9c_nsub.Good Tryd.prog syG (y9E [] [] [] []) := good_of_walk (Γ := ⟨[], syG, [], [], []⟩) (ρ := y9E [] [] [] []) sym nsub_w rfl (fun _ _ _ _ => ok_nil) (fun a b hc hty => nsub_h a b hc hty)
def subsat_tree : Tree :=
 (.need (.b2 .and (.b2 .and (.b2 .le (.lit (-9223372036854775808)) (.var 0)) (.b2 .le (.var 0) (.lit (9223372036854775807)))) (.b2 .and (.b2 .le (.lit (-9223372036854775808)) (.var 1)) (.b2 .le (.var 1) (.lit (9223372036854775807)))))
 (.br (.b2 .eq (.iapp 16 (.cons (.int .i64 (.i2 .sub (.var 0) (.var 1))) .nil)) (.lit (0)))
 (.ret (.int .i64 (.iapp 15 (.cons (.int .i64 (.i2 .sub (.var 0) (.var 1))) .nil))))
 (.br (.b2 .lt (.var 1) (.lit (0)))
 (.ret (.int .i64 (.lit (9223372036854775807))))
 (.ret (.int .i64 (.lit (-9223372036854775808)))))))
abbrev y9c_subsat : Con := ⟨198, [(.int .i64 (.var 0)), (.int .i64 (.var 1))], (.b2 .and (.b2 .and (.b2 .le (.lit (-9223372036854775808)) (.var 0)) (.b2 .le (.var 0) (.lit (9223372036854775807)))) (.b2 .and (.b2 .le (.lit (-9223372036854775808)) (.var 1)) (.b2 .le (.var 1) (.lit (9223372036854775807))))), (.int .i64 (.iapp 14 (.cons (.int .i64 (.i2 .sub (.var 0) (.var 1))) .nil))), ⟨2, 0, 0, 0⟩, none⟩
theorem subsat_w : walk Tryd.prog 182 ⟨[y9c_nsub], syG, [], [], []⟩ [] .v y9c_subsat y9c_subsat.n 3000 = some subsat_tree := by kernel_rfl
theorem subsat_h (a : Int) (b : Int) (hc : holds (y9E [a, b] [] [] []) (.b2 .and (.b2 .and (.b2 .le (.lit (-9223372036854775808)) (.var 0)) (.b2 .le (.var 0) (.lit (9223372036854775807)))) (.b2 .and (.b2 .le (.lit (-9223372036854775808)) (.var 1)) (.b2 .le (.var 1) (.lit (9223372036854775807)))))) (hty : patsTyp (y9E [a, b] [] [] []) [(.int .i64 (.var 0)), (.int .i64 (.var 1))]) : subsat_tree.holds (fun v_ => v_ = denV (y9E [a, b] [] [] []) b0 (.int .i64 (.iapp 14 (.cons (.int .i64 (.i2 .sub (.var 0) (.var 1))) .nil)))) (y9E [a, b] [] [] []) := by
  simp only [Tree.holds, Sy.holds, AllN, Env.more, y9E, List.cons_append, List.nil_append, List.append_nil, denV, denI, denB, denL, I2.den, VOp.den, List.getD_cons_zero, List.getD_cons_succ, Cst.den, syso, syse, syio, sybo, y9i_may, y9i_lcnt, y9i_lct, y9i_least, y9i_wrong, y9i_sec, y9i_aheadI, y9i_lenI, y9i_begI, y9i_utcE, y9i_utcD, y9i_utcS, y9i_utcN, y9i_sz, y9i_sa, y9i_nv, y9i_ne, y9i_dq, y9i_dm, y9i_de, y9b_lok, y9b_mayb, List.map_nil, List.map_cons, B2.ofInts, B2.denI, B2.denB, if_true, Bool.false_eq_true, if_false, Nat.div_one, Nat.mul_one, Nat.add_zero, holds] at hc
  simp only [patsTyp, patTyp, patTypL, y9E, denV, denL, List.getD_cons_zero, List.getD_cons_succ, and_true, true_and] at hty
  unfold subsat_tree
  simp only [Tree.holds, Sy.holds, AllN, Env.more, y9E, List.cons_append, List.nil_append, List.append_nil, denV, denI, denB, denL, I2.den, VOp.den, List.getD_cons_zero, List.getD_cons_succ, Cst.den, syso, syse, syio, sybo, y9i_may, y9i_lcnt, y9i_lct, y9i_least, y9i_wrong, y9i_sec, y9i_aheadI, y9i_lenI, y9i_begI, y9i_utcE, y9i_utcD, y9i_utcS, y9i_utcN, y9i_sz, y9i_sa, y9i_nv, y9i_ne, y9i_dq, y9i_dm, y9i_de, y9b_lok, y9b_mayb, List.map_nil, List.map_cons, B2.ofInts, B2.denI, B2.denB, if_true, Bool.false_eq_true, if_false, Nat.div_one, Nat.mul_one, Nat.add_zero]
  refine ⟨?_, fun h0 => ?_⟩
  ·
   omega
  ·
   refine ⟨fun h1 => ?_, fun h1 => ?_⟩
   ·
    have hs := svE_spec (a - b)
    have ht := satE_spec (a - b)
    first
    | (exfalso; omega)
    | (rw [show satE (a - b) = svE (a - b) by omega]; done)
    | (rw [show satE (a - b) = 9223372036854775807 by omega]; done)
    | (rw [show satE (a - b) = -9223372036854775808 by omega]; done)
   ·
    refine ⟨fun h2 => ?_, fun h2 => ?_⟩
    ·
     have hs := svE_spec (a - b)
     have ht := satE_spec (a - b)
     first
     | (exfalso; omega)
     | (rw [show satE (a - b) = svE (a - b) by omega]; done)
     | (rw [show satE (a - b) = 9223372036854775807 by omega]; done)
     | (rw [show satE (a - b) = -9223372036854775808 by omega]; done)
    ·
     have hs := svE_spec (a - b)
     have ht := satE_spec (a - b)
     first
     | (exfalso; omega)
     | (rw [show satE (a - b) = svE (a - b) by omega]; done)
     | (rw [show satE (a - b) = 9223372036854775807 by omega]; done)
     | (rw [show satE (a - b) = -9223372036854775808 by omega]; done)
theorem y9g_subsat : y9c_subsat.Good Tryd.prog syG (y9E [] [] [] []) := good_of_walk (Γ := ⟨[y9c_nsub], syG, [], [], []⟩) (ρ := y9E [] [] [] []) sym subsat_w rfl (fun _ _ _ _ => (ok_cons (Con.Good.env y9g_nsub _ _ _ _) ok_nil)) (fun a b hc hty => subsat_h a b hc hty)
def size_tree : Tree :=
 (.br (.b2 .lt (.var 0) (.lit (0)))
 (.need (.b2 .and (.b2 .le (.lit (-9223372036854775808)) (.var 0)) (.b2 .le (.var 0) (.lit (9223372036854775807))))
 (.ret (.int .i64 (.iapp 14 (.cons (.int .i64 (.i2 .sub (.lit (0)) (.var 0))) .nil)))))
 (.ret (.int .i64 (.var 0))))
abbrev y9c_size : Con := ⟨159, [(.int .i64 (.var 0))], (.b2 .and (.b2 .le (.lit (-9223372036854775808)) (.var 0)) (.b2 .le (.var 0) (.lit (9223372036854775807)))), (.int .i64 (.iapp 13 (.cons (.int .i64 (.var 0)) .nil))), ⟨1, 0, 0, 0⟩, none⟩
theorem size_w : walk Tryd.prog 182 ⟨[y9c_subsat], syG, [], [], []⟩ [] .v y9c_size y9c_size.n 3000 = some size_tree := by kernel_rfl
theorem size_h (a : Int) (hc : holds (y9E [a] [] [] []) (.b2 .and (.b2 .le (.lit (-9223372036854775808)) (.var 0)) (.b2 .le (.var 0) (.lit (9223372036854775807))))) (hty : patsTyp (y9E [a] [] [] []) [(.int .i64 (.var 0))]) : size_tree.holds (fun v_ => v_ = denV (y9E [a] [] [] []) b0 (.int .i64 (.iapp 13 (.cons (.int .i64 (.var 0)) .nil)))) (y9E [a] [] [] []) := by
  simp only [Tree.holds, Sy.holds, AllN, Env.more, y9E, List.cons_append, List.nil_append, List.append_nil, denV, denI, denB, denL, I2.den, VOp.den, List.getD_cons_zero, List.getD_cons_succ, Cst.den, syso, syse, syio, sybo, y9i_may, y9i_lcnt, y9i_lct, y9i_least, y9i_wrong, y9i_sec, y9i_aheadI, y9i_lenI, y9i_begI, y9i_utcE, y9i_utcD, y9i_utcS, y9i_utcN, y9i_sz, y9i_sa, y9i_nv, y9i_ne, y9i_dq, y9i_dm, y9i_de, y9b_lok, y9b_mayb, List.map_nil, List.map_cons, B2.ofInts, B2.denI, B2.denB, if_true, Bool.false_eq_true, if_false, Nat.div_one, Nat.mul_one, Nat.add_zero, holds] at hc
  simp only [patsTyp, patTyp, patTypL, y9E, denV, denL, List.getD_cons_zero, List.getD_cons_succ, and_true, true_and] at hty
  unfold size_tree
  simp only [Tree.holds, Sy.holds, AllN, Env.more, y9E, List.cons_append, List.nil_append, List.append_nil, denV, denI, denB, denL, I2.den, VOp.den, List.getD_cons_zero, List.getD_cons_succ, Cst.den, syso, syse, syio, sybo, y9i_may, y9i_lcnt, y9i_lct, y9i_least, y9i_wrong, y9i_sec, y9i_aheadI, y9i_lenI, y9i_begI, y9i_utcE, y9i_utcD, y9i_utcS, y9i_utcN, y9i_sz, y9i_sa, y9i_nv, y9i_ne, y9i_dq, y9i_dm, y9i_de, y9b_lok, y9b_mayb, List.map_nil, List.map_cons, B2.ofInts, B2.denI, B2.denB, if_true, Bool.false_eq_true, if_false, Nat.div_one, Nat.mul_one, Nat.add_zero]
  refine ⟨fun h0 => ?_, fun h0 => ?_⟩
  ·
   refine ⟨?_, fun h1 => ?_⟩
   ·
    omega
   ·
    have hs := szE_spec a ⟨by omega, by omega⟩
    have ht := satE_spec (0 - a)
    first
    | (exfalso; omega)
    | (rw [show szE a = a by omega]; done)
    | (rw [show szE a = satE (0 - a) by omega]; done)
  ·
   have hs := szE_spec a ⟨by omega, by omega⟩
   have ht := satE_spec (0 - a)
   first
   | (exfalso; omega)
   | (rw [show szE a = a by omega]; done)
   | (rw [show szE a = satE (0 - a) by omega]; done)
theorem y9g_size : y9c_size.Good Tryd.prog syG (y9E [] [] [] []) := good_of_walk (Γ := ⟨[y9c_subsat], syG, [], [], []⟩) (ρ := y9E [] [] [] []) sym size_w rfl (fun _ _ _ _ => (ok_cons (Con.Good.env y9g_subsat _ _ _ _) ok_nil)) (fun a hc hty => size_h a hc hty)
def div_tree : Tree :=
 (.br (.b2 .lt (.var 1) (.lit (1)))
 (.ret (.tup (.cons (.int .i64 (.lit (0))) (.cons (.int .i64 (.lit (0))) (.cons (.iface 182 (.int .i64 (.lit (1)))) .nil)))))
 (.need (.not (.b2 .eq (.var 1) (.lit (0))))
 (.need (.not (.b2 .eq (.var 1) (.lit (0))))
 (.br (.b2 .lt (.i2 .rem (.var 0) (.var 1)) (.lit (0)))
 (.ret (.tup (.cons (.int .i64 (.wrap .i64 (.i2 .sub (.wrap .i64 (.i2 .quo (.var 0) (.var 1))) (.lit (1))))) (.cons (.int .i64 (.wrap .i64 (.i2 .add (.i2 .rem (.var 0) (.var 1)) (.var 1)))) (.cons (.cst .nilI) .nil)))))
 (.ret (.tup (.cons (.int .i64 (.wrap .i64 (.i2 .quo (.var 0) (.var 1)))) (.cons (.int .i64 (.i2 .rem (.var 0) (.var 1))) (.cons (.cst .nilI) .nil)))))))))
abbrev y9c_div : Con := ⟨161, [(.int .i64 (.var 0)), (.int .i64 (.var 1))], (.b2 .and (.b2 .and (.b2 .le (.lit (-9223372036854775808)) (.var 0)) (.b2 .le (.var 0) (.lit (9223372036854775807)))) (.b2 .and (.b2 .le (.lit (-9223372036854775808)) (.var 1)) (.b2 .le (.var 1) (.lit (9223372036854775807))))), (.tup (.cons (.int .i64 (.iapp 17 (.cons (.int .i64 (.var 0)) (.cons (.int .i64 (.var 1)) .nil)))) (.cons (.int .i64 (.iapp 18 (.cons (.int .i64 (.var 0)) (.cons (.int .i64 (.var 1)) .nil)))) (.cons (.err (.iapp 19 (.cons (.int .i64 (.var 1)) .nil))) .nil)))), ⟨2, 0, 0, 0⟩, none⟩
theorem div_w : walk Tryd.prog 182 ⟨[], syG, [], [], []⟩ [] .v y9c_div y9c_div.n 3000 = some div_tree := by kernel_rfl
theorem div_h (a : Int) (b : Int) (hc : holds (y9E [a, b] [] [] []) (.b2 .and (.b2 .and (.b2 .le (.lit (-9223372036854775808)) (.var 0)) (.b2 .le (.var 0) (.lit (9223372036854775807)))) (.b2 .and (.b2 .le (.lit (-9223372036854775808)) (.var 1)) (.b2 .le (.var 1) (.lit (9223372036854775807)))))) (hty : patsTyp (y9E [a, b] [] [] []) [(.int .i64 (.var 0)), (.int .i64 (.var 1))]) : div_tree.holds (fun v_ => v_ = denV (y9E [a, b] [] [] []) b0 (.tup (.cons (.int .i64 (.iapp 17 (.cons (.int .i64 (.var 0)) (.cons (.int .i64 (.var 1)) .nil)))) (.cons (.int .i64 (.iapp 18 (.cons (.int .i64 (.var 0)) (.cons (.int .i64 (.var 1)) .nil)))) (.cons (.err (.iapp 19 (.cons (.int .i64 (.var 1)) .nil))) .nil))))) (y9E [a, b] [] [] []) := by
  simp only [Tree.holds, Sy.holds, AllN, Env.more, y9E, List.cons_append, List.nil_append, List.append_nil, denV, denI, denB, denL, I2.den, VOp.den, List.getD_cons_zero, List.getD_cons_succ, Cst.den, syso, syse, syio, sybo, y9i_may, y9i_lcnt, y9i_lct, y9i_least, y9i_wrong, y9i_sec, y9i_aheadI, y9i_lenI, y9i_begI, y9i_utcE, y9i_utcD, y9i_utcS, y9i_utcN, y9i_sz, y9i_sa, y9i_nv, y9i_ne, y9i_dq, y9i_dm, y9i_de, y9b_lok, y9b_mayb, List.map_nil, List.map_cons, B2.ofInts, B2.denI, B2.denB, if_true, Bool.false_eq_true, if_false, Nat.div_one, Nat.mul_one, Nat.add_zero, holds] at hc
  simp only [patsTyp, patTyp, patTypL, y9E, denV, denL, List.getD_cons_zero, List.getD_cons_succ, and_true, true_and] at hty
  unfold div_tree
  simp only [Tree.holds, Sy.holds, AllN, Env.more, y9E, List.cons_append, List.nil_append, List.append_nil, denV, denI, denB, denL, I2.den, VOp.den, List.getD_cons_zero, List.getD_cons_succ, Cst.den, syso, syse, syio, sybo, y9i_may, y9i_lcnt, y9i_lct, y9i_least, y9i_wrong, y9i_sec, y9i_aheadI, y9i_lenI, y9i_begI, y9i_utcE, y9i_utcD, y9i_utcS, y9i_utcN, y9i_sz, y9i_sa, y9i_nv, y9i_ne, y9i_dq, y9i_dm, y9i_de, y9b_lok, y9b_mayb, List.map_nil, List.map_cons, B2.ofInts, B2.denI, B2.denB, if_true, Bool.false_eq_true, if_false, Nat.div_one, Nat.mul_one, Nat.add_zero]
  refine ⟨fun h0 => ?_, fun h0 => ?_⟩
  ·
   have f1 := dE_spec a b
   have f2 := dm_spec a b ⟨by omega, by omega⟩
   first
   | (exfalso; omega)
   | (simp only [Value.tuple.injEq, Value.agg.injEq, Value.int.injEq, Value.bool.injEq, Array.mk.injEq, List.cons.injEq, true_and, and_true]
      exact ⟨by omega, by omega, by first | exact errV1 (by omega) | exact errV0 (by omega) | exact errV2 (by omega) | exact errV10 (by omega) | (exfalso; omega)⟩)
  ·
   refine ⟨?_, fun h1 => ?_⟩
   ·
    omega
   ·
    refine ⟨?_, fun h2 => ?_⟩
    ·
     omega
    ·
     refine ⟨fun h3 => ?_, fun h3 => ?_⟩
     ·
      have wf0 := wr_i64 (Int.tdiv a b)
      have wf1 := wr_i64 ((IntKind.wrap .i64 (Int.tdiv a b)) - 1)
      have wf2 := wr_i64 ((Int.tmod a b) + b)
      have f1 := dE_spec a b
      have f2 := dm_spec a b ⟨by omega, by omega⟩
      first
      | (exfalso; omega)
      | (simp only [Value.tuple.injEq, Value.agg.injEq, Value.int.injEq, Value.bool.injEq, Array.mk.injEq, List.cons.injEq, true_and, and_true]
         exact ⟨by omega, by omega, by first | exact errV1 (by omega) | exact errV0 (by omega) | exact errV2 (by omega) | exact errV10 (by omega) | (exfalso; omega)⟩)
     ·
      have wf3 := wr_i64 (Int.tdiv a b)
      have f1 := dE_spec a b
      have f2 := dm_spec a b ⟨by omega, by omega⟩
      first
      | (exfalso; omega)
      | (simp only [Value.tuple.injEq, Value.agg.injEq, Value.int.injEq, Value.bool.injEq, Array.mk.injEq, List.cons.injEq, true_and, and_true]
         exact ⟨by omega, by omega, by first | exact errV1 (by omega) | exact errV0 (by omega) | exact errV2 (by omega) | exact errV10 (by omega) | (exfalso; omega)⟩)
theorem y9g_div : y9c_div.Good Tryd.prog syG (y9E [] [] [] []) := good_of_walk (Γ := ⟨[], syG, [], [], []⟩) (ρ := y9E [] [] [] []) sym div_w rfl (fun _ _ _ _ => ok_nil) (fun a b hc hty => div_h a b hc hty)
def ahead_tree : Tree :=
 (.loop ⟨2, 0, 0, 0⟩ (.b2 .and (.b2 .and (.b2 .le (.lit (0)) (.lit (0))) (.b2 .le (.lit (0)) (.ofI (.vop (.len 1) (.cons (.opq 0) .nil))))) (.b2 .eq (.var 0) (.i2 .add (.var 0) (.iapp 1 (.cons (.opq 0) (.cons (.int .i64 (.var 2)) (.cons (.int .i64 (.lit (0))) .nil))))))) (.b2 .and (.b2 .and (.b2 .le (.lit (0)) (.var 4)) (.b2 .le (.var 4) (.ofI (.vop (.len 1) (.cons (.opq 0) .nil))))) (.b2 .eq (.var 3) (.i2 .add (.var 0) (.iapp 1 (.cons (.opq 0) (.cons (.int .i64 (.var 2)) (.cons (.int .i64 (.var 4)) .nil)))))))
 (.br (.b2 .lt (.var 4) (.ofI (.vop (.len 1) (.cons (.opq 0) .nil))))
 (.need (.b2 .and (.b2 .le (.lit (0)) (.var 4)) (.b2 .lt (.var 4) (.ofI (.vop (.len 1) (.cons (.opq 0) .nil)))))
 (.br (.b2 .lt (.ofI (.vop (.sel 1 0) (.cons (.opq 0) (.cons (.int .i64 (.var 4)) .nil)))) (.var 2))
 (.back (.b2 .and (.b2 .and (.b2 .le (.lit (0)) (.wrap .i64 (.i2 .add (.var 4) (.lit (1))))) (.b2 .le (.wrap .i64 (.i2 .add (.var 4) (.lit (1)))) (.ofI (.vop (.len 1) (.cons (.opq 0) .nil))))) (.b2 .eq (.wrap .i64 (.i2 .add (.var 3) (.lit (1)))) (.i2 .add (.var 0) (.iapp 1 (.cons (.opq 0) (.cons (.int .i64 (.var 2)) (.cons (.int .i64 (.wrap .i64 (.i2 .add (.var 4) (.lit (1))))) .nil))))))) (.i2 .sub (.ofI (.vop (.len 1) (.cons (.opq 0) .nil))) (.wrap .i64 (.i2 .add (.var 4) (.lit (1))))) (.i2 .sub (.ofI (.vop (.len 1) (.cons (.opq 0) .nil))) (.var 4)))
 (.back (.b2 .and (.b2 .and (.b2 .le (.lit (0)) (.wrap .i64 (.i2 .add (.var 4) (.lit (1))))) (.b2 .le (.wrap .i64 (.i2 .add (.var 4) (.lit (1)))) (.ofI (.vop (.len 1) (.cons (.opq 0) .nil))))) (.b2 .eq (.var 3) (.i2 .add (.var 0) (.iapp 1 (.cons (.opq 0) (.cons (.int .i64 (.var 2)) (.cons (.int .i64 (.wrap .i64 (.i2 .add (.var 4) (.lit (1))))) .nil))))))) (.i2 .sub (.ofI (.vop (.len 1) (.cons (.opq 0) .nil))) (.wrap .i64 (.i2 .add (.var 4) (.lit (1))))) (.i2 .sub (.ofI (.vop (.len 1) (.cons (.opq 0) .nil))) (.var 4)))))
 (.ret (.int .i64 (.var 3)))))
abbrev y9c_ahead : Con := ⟨163, [(.agg (.cons (.int .i64 (.var 0)) (.cons (.int .i64 (.var 1)) (.cons (.hs .no (.cons (.int .i64) .nil) (.opq 0)) .nil)))), (.int .i64 (.var 2))], (.b2 .and (.b2 .le (.lit (0)) (.var 0)) (.b2 .and (.b2 .le (.var 0) (.lit (100))) (.b2 .le (.ofI (.vop (.len 1) (.cons (.opq 0) .nil))) (.lit (32))))), (.int .i64 (.i2 .add (.var 0) (.iapp 2 (.cons (.opq 0) (.cons (.int .i64 (.var 2)) .nil))))), ⟨3, 0, 1, 0⟩, none⟩
theorem ahead_w : walk Tryd.prog 182 ⟨[], syG, [], [], []⟩ [⟨0, ⟨2, 0, 0, 0⟩, [(5, (.int .i64 (.var 3))), (13, (.int .i64 (.var 4)))], none, (.b2 .and (.b2 .and (.b2 .le (.lit (0)) (.var 4)) (.b2 .le (.var 4) (.ofI (.vop (.len 1) (.cons (.opq 0) .nil))))) (.b2 .eq (.var 3) (.i2 .add (.var 0) (.iapp 1 (.cons (.opq 0) (.cons (.int .i64 (.var 2)) (.cons (.int .i64 (.var 4)) .nil))))))), (.i2 .sub (.ofI (.vop (.len 1) (.cons (.opq 0) .nil))) (.var 4)), 0, []⟩] .v y9c_ahead y9c_ahead.n 3000 = some ahead_tree := by kernel_rfl
theorem ahead_h (b : Int) (t : Int) (d : Int) (l : Value) (hc : holds (y9E [b, t, d] [] [l] []) (.b2 .and (.b2 .le (.lit (0)) (.var 0)) (.b2 .and (.b2 .le (.var 0) (.lit (100))) (.b2 .le (.ofI (.vop (.len 1) (.cons (.opq 0) .nil))) (.lit (32)))))) (hty : patsTyp (y9E [b, t, d] [] [l] []) [(.agg (.cons (.int .i64 (.var 0)) (.cons (.int .i64 (.var 1)) (.cons (.hs .no (.cons (.int .i64) .nil) (.opq 0)) .nil)))), (.int .i64 (.var 2))]) : ahead_tree.holds (fun v_ => v_ = denV (y9E [b, t, d] [] [l] []) b0 (.int .i64 (.i2 .add (.var 0) (.iapp 2 (.cons (.opq 0) (.cons (.int .i64 (.var 2)) .nil)))))) (y9E [b, t, d] [] [l] []) := by
  simp only [Tree.holds, Sy.holds, AllN, Env.more, y9E, List.cons_append, List.nil_append, List.append_nil, denV, denI, denB, denL, I2.den, VOp.den, List.getD_cons_zero, List.getD_cons_succ, Cst.den, syso, syse, syio, sybo, y9i_may, y9i_lcnt, y9i_lct, y9i_least, y9i_wrong, y9i_sec, y9i_aheadI, y9i_lenI, y9i_begI, y9i_utcE, y9i_utcD, y9i_utcS, y9i_utcN, y9i_sz, y9i_sa, y9i_nv, y9i_ne, y9i_dq, y9i_dm, y9i_de, y9b_lok, y9b_mayb, List.map_nil, List.map_cons, B2.ofInts, B2.denI, B2.denB, if_true, Bool.false_eq_true, if_false, Nat.div_one, Nat.mul_one, Nat.add_zero, holds] at hc
  simp only [patsTyp, patTyp, patTypL, y9E, denV, denL, List.getD_cons_zero, List.getD_cons_succ, and_true, true_and] at hty
  have hL_l : typ (.sl (.cons (.int .i64) .nil)) l := by first | exact hty | exact hty.1 | exact hty.2 | exact hty.1.1 | exact hty.1.2 | exact hty.2.1 | exact hty.2.2 | exact hty.2.2.1 | exact hty.2.2.2
  have hN_l := typ_len (n := 1) hL_l rfl (by omega)
  simp only [Nat.div_one, Nat.mul_one] at hN_l
  unfold ahead_tree
  simp only [Tree.holds, Sy.holds, AllN, Env.more, y9E, List.cons_append, List.nil_append, List.append_nil, denV, denI, denB, denL, I2.den, VOp.den, List.getD_cons_zero, List.getD_cons_succ, Cst.den, syso, syse, syio, sybo, y9i_may, y9i_lcnt, y9i_lct, y9i_least, y9i_wrong, y9i_sec, y9i_aheadI, y9i_lenI, y9i_begI, y9i_utcE, y9i_utcD, y9i_utcS, y9i_utcN, y9i_sz, y9i_sa, y9i_nv, y9i_ne, y9i_dq, y9i_dm, y9i_de, y9b_lok, y9b_mayb, List.map_nil, List.map_cons, B2.ofInts, B2.denI, B2.denB, if_true, Bool.false_eq_true, if_false, Nat.div_one, Nat.mul_one, Nat.add_zero]
  refine ⟨?_, ?_⟩
  ·
   exact ⟨⟨by omega, by omega⟩, by simp [cntL_zero]⟩
  ·
   intro i0a i0b hi0
   refine ⟨fun h0 => ?_, fun h0 => ?_⟩
   ·
    refine ⟨?_, fun h1 => ?_⟩
    ·
     omega
    ·
     refine ⟨fun h2 => ?_, fun h2 => ?_⟩
     ·
      have wf0 := wr_i64 (i0b + 1)
      have wf1 := wr_i64 (i0a + 1)
      refine ⟨?_, ?_⟩
      ·
       have hw : IntKind.wrap .i64 (i0b + 1) = i0b + 1 := by omega
       have hc := cntL_succ (day := d) (ints_at l (i := i0b.toNat) (by omega))
       have hle := cntL_le (intsOf l) d i0b.toNat
       have hv := wr_i64 (i0a + 1)
       rw [hw, toNat_succ (by omega), hc]
       first
       | (rw [if_pos h2]
          exact ⟨⟨by omega, by omega⟩, by omega⟩)
       | (rw [if_neg h2]
          exact ⟨⟨by omega, by omega⟩, by omega⟩)
      ·
       omega
     ·
      have wf2 := wr_i64 (i0b + 1)
      refine ⟨?_, ?_⟩
      ·
       have hw : IntKind.wrap .i64 (i0b + 1) = i0b + 1 := by omega
       have hc := cntL_succ (day := d) (ints_at l (i := i0b.toNat) (by omega))
       have hle := cntL_le (intsOf l) d i0b.toNat
       have hv := wr_i64 (i0a + 1)
       rw [hw, toNat_succ (by omega), hc]
       first
       | (rw [if_pos h2]
          exact ⟨⟨by omega, by omega⟩, by omega⟩)
       | (rw [if_neg h2]
          exact ⟨⟨by omega, by omega⟩, by omega⟩)
      ·
       omega
   ·
    have hn : i0b.toNat = (Sy.rows l).length := by omega
    rw [hn, ← ints_len l, cntL_all] at hi0
    simp only [Value.int.injEq, true_and]
    omega
theorem y9g_ahead : y9c_ahead.Good Tryd.prog syG (y9E [] [] [] []) := good_of_walk (Γ := ⟨[], syG, [], [], []⟩) (ρ := y9E [] [] [] []) sym ahead_w rfl (fun _ _ _ _ => ok_nil) (fun b t d l hc hty => ahead_h b t d l hc hty)
def check_tree : Tree :=
 (.br (.b2 .lt (.var 0) (.lit (0)))
 (.ret (.iface 182 (.int .i64 (.lit (1)))))
 (.br (.b2 .lt (.lit (100)) (.var 0))
 (.ret (.iface 182 (.int .i64 (.lit (1)))))
 (.br (.b2 .lt (.var 1) (.lit (-50000)))
 (.ret (.iface 182 (.int .i64 (.lit (1)))))
 (.br (.b2 .lt (.lit (50000)) (.var 1))
 (.ret (.iface 182 (.int .i64 (.lit (1)))))
 (.br (.b2 .lt (.lit (32)) (.ofI (.vop (.len 1) (.cons (.opq 0) .nil))))
 (.ret (.iface 182 (.int .i64 (.lit (1)))))
 (.loop ⟨2, 0, 0, 0⟩ (.b2 .and (.b2 .and (.b2 .le (.lit (0)) (.lit (0))) (.b2 .le (.lit (0)) (.ofI (.vop (.len 1) (.cons (.opq 0) .nil))))) (.b2 .and (.bapp 0 (.cons (.opq 0) (.cons (.int .i64 (.var 1)) (.cons (.int .i64 (.lit (0))) .nil)))) (.b2 .eq (.lit (-50000)) (.iapp 3 (.cons (.opq 0) (.cons (.int .i64 (.lit (0))) .nil)))))) (.b2 .and (.b2 .and (.b2 .le (.lit (0)) (.var 3)) (.b2 .le (.var 3) (.ofI (.vop (.len 1) (.cons (.opq 0) .nil))))) (.b2 .and (.bapp 0 (.cons (.opq 0) (.cons (.int .i64 (.var 1)) (.cons (.int .i64 (.var 3)) .nil)))) (.b2 .eq (.var 2) (.iapp 3 (.cons (.opq 0) (.cons (.int .i64 (.var 3)) .nil))))))
 (.br (.b2 .lt (.var 3) (.ofI (.vop (.len 1) (.cons (.opq 0) .nil))))
 (.need (.b2 .and (.b2 .le (.lit (0)) (.var 3)) (.b2 .lt (.var 3) (.ofI (.vop (.len 1) (.cons (.opq 0) .nil)))))
 (.br (.b2 .lt (.ofI (.vop (.sel 1 0) (.cons (.opq 0) (.cons (.int .i64 (.var 3)) .nil)))) (.var 2))
 (.ret (.iface 182 (.int .i64 (.lit (1)))))
 (.br (.b2 .le (.var 1) (.ofI (.vop (.sel 1 0) (.cons (.opq 0) (.cons (.int .i64 (.var 3)) .nil)))))
 (.ret (.iface 182 (.int .i64 (.lit (1)))))
 (.back (.b2 .and (.b2 .and (.b2 .le (.lit (0)) (.wrap .i64 (.i2 .add (.var 3) (.lit (1))))) (.b2 .le (.wrap .i64 (.i2 .add (.var 3) (.lit (1)))) (.ofI (.vop (.len 1) (.cons (.opq 0) .nil))))) (.b2 .and (.bapp 0 (.cons (.opq 0) (.cons (.int .i64 (.var 1)) (.cons (.int .i64 (.wrap .i64 (.i2 .add (.var 3) (.lit (1))))) .nil)))) (.b2 .eq (.wrap .i64 (.i2 .add (.ofI (.vop (.sel 1 0) (.cons (.opq 0) (.cons (.int .i64 (.var 3)) .nil)))) (.lit (1)))) (.iapp 3 (.cons (.opq 0) (.cons (.int .i64 (.wrap .i64 (.i2 .add (.var 3) (.lit (1))))) .nil)))))) (.i2 .sub (.ofI (.vop (.len 1) (.cons (.opq 0) .nil))) (.wrap .i64 (.i2 .add (.var 3) (.lit (1))))) (.i2 .sub (.ofI (.vop (.len 1) (.cons (.opq 0) .nil))) (.var 3))))))
 (.ret (.cst .nilI)))))))))
abbrev y9c_check : Con := ⟨134, [(.agg (.cons (.int .i64 (.var 0)) (.cons (.int .i64 (.var 1)) (.cons (.hs .no (.cons (.int .i64) .nil) (.opq 0)) .nil))))], (.tt true), (.err (.iapp 0 (.cons (.int .i64 (.var 0)) (.cons (.int .i64 (.var 1)) (.cons (.opq 0) .nil))))), ⟨2, 0, 1, 0⟩, none⟩
theorem check_w : walk Tryd.prog 182 ⟨[], syG, [], [], []⟩ [⟨0, ⟨2, 0, 0, 0⟩, [(3, (.int .i64 (.var 2))), (34, (.int .i64 (.var 3)))], none, (.b2 .and (.b2 .and (.b2 .le (.lit (0)) (.var 3)) (.b2 .le (.var 3) (.ofI (.vop (.len 1) (.cons (.opq 0) .nil))))) (.b2 .and (.bapp 0 (.cons (.opq 0) (.cons (.int .i64 (.var 1)) (.cons (.int .i64 (.var 3)) .nil)))) (.b2 .eq (.var 2) (.iapp 3 (.cons (.opq 0) (.cons (.int .i64 (.var 3)) .nil)))))), (.i2 .sub (.ofI (.vop (.len 1) (.cons (.opq 0) .nil))) (.var 3)), 0, []⟩] .v y9c_check y9c_check.n 3000 = some check_tree := by kernel_rfl
theorem check_h (b : Int) (t : Int) (l : Value) (hc : holds (y9E [b, t] [] [l] []) (.tt true)) (hty : patsTyp (y9E [b, t] [] [l] []) [(.agg (.cons (.int .i64 (.var 0)) (.cons (.int .i64 (.var 1)) (.cons (.hs .no (.cons (.int .i64) .nil) (.opq 0)) .nil))))]) : check_tree.holds (fun v_ => v_ = denV (y9E [b, t] [] [l] []) b0 (.err (.iapp 0 (.cons (.int .i64 (.var 0)) (.cons (.int .i64 (.var 1)) (.cons (.opq 0) .nil)))))) (y9E [b, t] [] [l] []) := by
  simp only [Tree.holds, Sy.holds, AllN, Env.more, y9E, List.cons_append, List.nil_append, List.append_nil, denV, denI, denB, denL, I2.den, VOp.den, List.getD_cons_zero, List.getD_cons_succ, Cst.den, syso, syse, syio, sybo, y9i_may, y9i_lcnt, y9i_lct, y9i_least, y9i_wrong, y9i_sec, y9i_aheadI, y9i_lenI, y9i_begI, y9i_utcE, y9i_utcD, y9i_utcS, y9i_utcN, y9i_sz, y9i_sa, y9i_nv, y9i_ne, y9i_dq, y9i_dm, y9i_de, y9b_lok, y9b_mayb, List.map_nil, List.map_cons, B2.ofInts, B2.denI, B2.denB, if_true, Bool.false_eq_true, if_false, Nat.div_one, Nat.mul_one, Nat.add_zero, holds] at hc
  simp only [patsTyp, patTyp, patTypL, y9E, denV, denL, List.getD_cons_zero, List.getD_cons_succ, and_true, true_and] at hty
  have hL_l : typ (.sl (.cons (.int .i64) .nil)) l := by first | exact hty | exact hty.1 | exact hty.2 | exact hty.1.1 | exact hty.1.2 | exact hty.2.1 | exact hty.2.2 | exact hty.2.2.1 | exact hty.2.2.2
  have hN_l := typ_len (n := 1) hL_l rfl (by omega)
  simp only [Nat.div_one, Nat.mul_one] at hN_l
  unfold check_tree
  simp only [Tree.holds, Sy.holds, AllN, Env.more, y9E, List.cons_append, List.nil_append, List.append_nil, denV, denI, denB, denL, I2.den, VOp.den, List.getD_cons_zero, List.getD_cons_succ, Cst.den, syso, syse, syio, sybo, y9i_may, y9i_lcnt, y9i_lct, y9i_least, y9i_wrong, y9i_sec, y9i_aheadI, y9i_lenI, y9i_begI, y9i_utcE, y9i_utcD, y9i_utcS, y9i_utcN, y9i_sz, y9i_sa, y9i_nv, y9i_ne, y9i_dq, y9i_dm, y9i_de, y9b_lok, y9b_mayb, List.map_nil, List.map_cons, B2.ofInts, B2.denI, B2.denB, if_true, Bool.false_eq_true, if_false, Nat.div_one, Nat.mul_one, Nat.add_zero]
  have hlen := ints_len l
  refine ⟨fun h0 => ?_, fun h0 => ?_⟩
  ·
   first
   | exact errV1 (mayI_no (mayL_not (by omega)))
   | (refine errV0 (mayI_yes (mayL_yes (by omega) (by omega) (by omega) (by omega) (by omega) ?_)); rw [show (intsOf l).length = i0b.toNat by omega]; exact hok)
   | (refine errV1 (mayI_no (mayL_bad (j := i0b.toNat) (by omega) ?_)); have hg := getD_of (d := (0 : Int)) (ints_at l (i := i0b.toNat) (by omega)); simp only [okJ, hg, ← hle, Bool.and_eq_false_iff, decide_eq_false_iff_not]; omega)
  ·
   refine ⟨fun h1 => ?_, fun h1 => ?_⟩
   ·
    first
    | exact errV1 (mayI_no (mayL_not (by omega)))
    | (refine errV0 (mayI_yes (mayL_yes (by omega) (by omega) (by omega) (by omega) (by omega) ?_)); rw [show (intsOf l).length = i0b.toNat by omega]; exact hok)
    | (refine errV1 (mayI_no (mayL_bad (j := i0b.toNat) (by omega) ?_)); have hg := getD_of (d := (0 : Int)) (ints_at l (i := i0b.toNat) (by omega)); simp only [okJ, hg, ← hle, Bool.and_eq_false_iff, decide_eq_false_iff_not]; omega)
   ·
    refine ⟨fun h2 => ?_, fun h2 => ?_⟩
    ·
     first
     | exact errV1 (mayI_no (mayL_not (by omega)))
     | (refine errV0 (mayI_yes (mayL_yes (by omega) (by omega) (by omega) (by omega) (by omega) ?_)); rw [show (intsOf l).length = i0b.toNat by omega]; exact hok)
     | (refine errV1 (mayI_no (mayL_bad (j := i0b.toNat) (by omega) ?_)); have hg := getD_of (d := (0 : Int)) (ints_at l (i := i0b.toNat) (by omega)); simp only [okJ, hg, ← hle, Bool.and_eq_false_iff, decide_eq_false_iff_not]; omega)
    ·
     refine ⟨fun h3 => ?_, fun h3 => ?_⟩
     ·
      first
      | exact errV1 (mayI_no (mayL_not (by omega)))
      | (refine errV0 (mayI_yes (mayL_yes (by omega) (by omega) (by omega) (by omega) (by omega) ?_)); rw [show (intsOf l).length = i0b.toNat by omega]; exact hok)
      | (refine errV1 (mayI_no (mayL_bad (j := i0b.toNat) (by omega) ?_)); have hg := getD_of (d := (0 : Int)) (ints_at l (i := i0b.toNat) (by omega)); simp only [okJ, hg, ← hle, Bool.and_eq_false_iff, decide_eq_false_iff_not]; omega)
     ·
      refine ⟨fun h4 => ?_, fun h4 => ?_⟩
      ·
       first
       | exact errV1 (mayI_no (mayL_not (by omega)))
       | (refine errV0 (mayI_yes (mayL_yes (by omega) (by omega) (by omega) (by omega) (by omega) ?_)); rw [show (intsOf l).length = i0b.toNat by omega]; exact hok)
       | (refine errV1 (mayI_no (mayL_bad (j := i0b.toNat) (by omega) ?_)); have hg := getD_of (d := (0 : Int)) (ints_at l (i := i0b.toNat) (by omega)); simp only [okJ, hg, ← hle, Bool.and_eq_false_iff, decide_eq_false_iff_not]; omega)
      ·
       refine ⟨?_, ?_⟩
       ·
        exact ⟨⟨by omega, by omega⟩, rfl, rfl⟩
       ·
        intro i0a i0b hi0
        obtain ⟨⟨hr0, hr1⟩, hok, hle⟩ := hi0
        refine ⟨fun h5 => ?_, fun h5 => ?_⟩
        ·
         refine ⟨?_, fun h6 => ?_⟩
         ·
          omega
         ·
          refine ⟨fun h7 => ?_, fun h7 => ?_⟩
          ·
           first
           | exact errV1 (mayI_no (mayL_not (by omega)))
           | (refine errV0 (mayI_yes (mayL_yes (by omega) (by omega) (by omega) (by omega) (by omega) ?_)); rw [show (intsOf l).length = i0b.toNat by omega]; exact hok)
           | (refine errV1 (mayI_no (mayL_bad (j := i0b.toNat) (by omega) ?_)); have hg := getD_of (d := (0 : Int)) (ints_at l (i := i0b.toNat) (by omega)); simp only [okJ, hg, ← hle, Bool.and_eq_false_iff, decide_eq_false_iff_not]; omega)
          ·
           refine ⟨fun h8 => ?_, fun h8 => ?_⟩
           ·
            first
            | exact errV1 (mayI_no (mayL_not (by omega)))
            | (refine errV0 (mayI_yes (mayL_yes (by omega) (by omega) (by omega) (by omega) (by omega) ?_)); rw [show (intsOf l).length = i0b.toNat by omega]; exact hok)
            | (refine errV1 (mayI_no (mayL_bad (j := i0b.toNat) (by omega) ?_)); have hg := getD_of (d := (0 : Int)) (ints_at l (i := i0b.toNat) (by omega)); simp only [okJ, hg, ← hle, Bool.and_eq_false_iff, decide_eq_false_iff_not]; omega)
           ·
            have wf0 := wr_i64 (i0b + 1)
            have wf1 := wr_i64 ((Go.RowKit.intOf ((rows l).getD (Int.toNat i0b) Go.undef)) + 1)
            refine ⟨?_, ?_⟩
            ·
             have hw : IntKind.wrap .i64 (i0b + 1) = i0b + 1 := by omega
             have hg := getD_of (d := (0 : Int)) (ints_at l (i := i0b.toNat) (by omega))
             have e1 : leastL (intsOf l) (i0b.toNat + 1) = Go.RowKit.intOf ((Sy.rows l).getD i0b.toNat Go.undef) + 1 := by rw [← hg]; simp [leastL]
             rw [hw, toNat_succ (by omega), okL_succ, hok, e1]
             simp only [okJ, hg, ← hle, Bool.true_and, Bool.and_eq_true, decide_eq_true_eq]
             have hge : -50000 ≤ i0a := by
               rw [hle]
               unfold leastL
               split
               · omega
               · have := okL_ge hok (i0b.toNat - 1) (by omega); omega
             refine ⟨⟨by omega, by omega⟩, ⟨by omega, by omega⟩, by omega⟩
            ·
             omega
        ·
         first
         | exact errV1 (mayI_no (mayL_not (by omega)))
         | (refine errV0 (mayI_yes (mayL_yes (by omega) (by omega) (by omega) (by omega) (by omega) ?_)); rw [show (intsOf l).length = i0b.toNat by omega]; exact hok)
         | (refine errV1 (mayI_no (mayL_bad (j := i0b.toNat) (by omega) ?_)); have hg := getD_of (d := (0 : Int)) (ints_at l (i := i0b.toNat) (by omega)); simp only [okJ, hg, ← hle, Bool.and_eq_false_iff, decide_eq_false_iff_not]; omega)
theorem y9g_check : y9c_check.Good Tryd.prog syG (y9E [] [] [] []) := good_of_walk (Γ := ⟨[], syG, [], [], []⟩) (ρ := y9E [] [] [] []) sym check_w rfl (fun _ _ _ _ => ok_nil) (fun b t l hc hty => check_h b t l hc hty)
def known_tree : Tree :=
 (.br (.not (.b2 .eq (.iapp 0 (.cons (.int .i64 (.var 0)) (.cons (.int .i64 (.var 1)) (.cons (.opq 0) .nil)))) (.lit (0))))
 (.ret (.err (.iapp 0 (.cons (.int .i64 (.var 0)) (.cons (.int .i64 (.var 1)) (.cons (.opq 0) .nil))))))
 (.br (.b2 .lt (.var 2) (.lit (-50000)))
 (.ret (.iface 182 (.int .i64 (.lit (2)))))
 (.br (.b2 .le (.var 1) (.var 2))
 (.ret (.iface 182 (.int .i64 (.lit (10)))))
 (.ret (.cst .nilI)))))
abbrev y9c_known : Con := ⟨162, [(.agg (.cons (.int .i64 (.var 0)) (.cons (.int .i64 (.var 1)) (.cons (.hs .no (.cons (.int .i64) .nil) (.opq 0)) .nil)))), (.int .i64 (.var 2))], (.tt true), (.err (.iapp 4 (.cons (.int .i64 (.var 0)) (.cons (.int .i64 (.var 1)) (.cons (.opq 0) (.cons (.int .i64 (.var 2)) .nil)))))), ⟨3, 0, 1, 0⟩, none⟩
theorem known_w : walk Tryd.prog 182 ⟨[y9c_check], syG, [], [], []⟩ [] .v y9c_known y9c_known.n 3000 = some known_tree := by kernel_rfl
theorem known_h (b : Int) (t : Int) (d : Int) (l : Value) (hc : holds (y9E [b, t, d] [] [l] []) (.tt true)) (hty : patsTyp (y9E [b, t, d] [] [l] []) [(.agg (.cons (.int .i64 (.var 0)) (.cons (.int .i64 (.var 1)) (.cons (.hs .no (.cons (.int .i64) .nil) (.opq 0)) .nil)))), (.int .i64 (.var 2))]) : known_tree.holds (fun v_ => v_ = denV (y9E [b, t, d] [] [l] []) b0 (.err (.iapp 4 (.cons (.int .i64 (.var 0)) (.cons (.int .i64 (.var 1)) (.cons (.opq 0) (.cons (.int .i64 (.var 2)) .nil))))))) (y9E [b, t, d] [] [l] []) := by
  simp only [Tree.holds, Sy.holds, AllN, Env.more, y9E, List.cons_append, List.nil_append, List.append_nil, denV, denI, denB, denL, I2.den, VOp.den, List.getD_cons_zero, List.getD_cons_succ, Cst.den, syso, syse, syio, sybo, y9i_may, y9i_lcnt, y9i_lct, y9i_least, y9i_wrong, y9i_sec, y9i_aheadI, y9i_lenI, y9i_begI, y9i_utcE, y9i_utcD, y9i_utcS, y9i_utcN, y9i_sz, y9i_sa, y9i_nv, y9i_ne, y9i_dq, y9i_dm, y9i_de, y9b_lok, y9b_mayb, List.map_nil, List.map_cons, B2.ofInts, B2.denI, B2.denB, if_true, Bool.false_eq_true, if_false, Nat.div_one, Nat.mul_one, Nat.add_zero, holds] at hc
  simp only [patsTyp, patTyp, patTypL, y9E, denV, denL, List.getD_cons_zero, List.getD_cons_succ, and_true, true_and] at hty
  have hL_l : typ (.sl (.cons (.int .i64) .nil)) l := by first | exact hty | exact hty.1 | exact hty.2 | exact hty.1.1 | exact hty.1.2 | exact hty.2.1 | exact hty.2.2 | exact hty.2.2.1 | exact hty.2.2.2
  have hN_l := typ_len (n := 1) hL_l rfl (by omega)
  simp only [Nat.div_one, Nat.mul_one] at hN_l
  unfold known_tree
  simp only [Tree.holds, Sy.holds, AllN, Env.more, y9E, List.cons_append, List.nil_append, List.append_nil, denV, denI, denB, denL, I2.den, VOp.den, List.getD_cons_zero, List.getD_cons_succ, Cst.den, syso, syse, syio, sybo, y9i_may, y9i_lcnt, y9i_lct, y9i_least, y9i_wrong, y9i_sec, y9i_aheadI, y9i_lenI, y9i_begI, y9i_utcE, y9i_utcD, y9i_utcS, y9i_utcN, y9i_sz, y9i_sa, y9i_nv, y9i_ne, y9i_dq, y9i_dm, y9i_de, y9b_lok, y9b_mayb, List.map_nil, List.map_cons, B2.ofInts, B2.denI, B2.denB, if_true, Bool.false_eq_true, if_false, Nat.div_one, Nat.mul_one, Nat.add_zero]
  have f1 := wrongI_spec b t (intsOf l) d
  have hlen := ints_len l
  refine ⟨fun h0 => ?_, fun h0 => ?_⟩
  ·
   first
   | exact errV1 (by omega) | exact errV0 (by omega) | exact errV2 (by omega) | exact errV10 (by omega) | (exfalso; omega) | (refine congrArg (errVal _) ?_; omega)
  ·
   refine ⟨fun h1 => ?_, fun h1 => ?_⟩
   ·
    first
    | exact errV1 (by omega) | exact errV0 (by omega) | exact errV2 (by omega) | exact errV10 (by omega) | (exfalso; omega) | (refine congrArg (errVal _) ?_; omega)
   ·
    refine ⟨fun h2 => ?_, fun h2 => ?_⟩
    ·
     first
     | exact errV1 (by omega) | exact errV0 (by omega) | exact errV2 (by omega) | exact errV10 (by omega) | (exfalso; omega) | (refine congrArg (errVal _) ?_; omega)
    ·
     first
     | exact errV1 (by omega) | exact errV0 (by omega) | exact errV2 (by omega) | exact errV10 (by omega) | (exfalso; omega) | (refine congrArg (errVal _) ?_; omega)
theorem y9g_known : y9c_known.Good Tryd.prog syG (y9E [] [] [] []) := good_of_walk (Γ := ⟨[y9c_check], syG, [], [], []⟩) (ρ := y9E [] [] [] []) sym known_w rfl (fun _ _ _ _ => (ok_cons (Con.Good.env y9g_check _ _ _ _) ok_nil)) (fun b t d l hc hty => known_h b t d l hc hty)
def begin_tree : Tree :=
 (.need (.b2 .and (.b2 .le (.lit (0)) (.var 0)) (.b2 .and (.b2 .le (.var 0) (.lit (100))) (.b2 .le (.ofI (.vop (.len 1) (.cons (.opq 0) .nil))) (.lit (32)))))
 (.ret (.int .i64 (.wrap .i64 (.i2 .mul (.wrap .i64 (.i2 .add (.wrap .i64 (.i2 .mul (.lit (86400)) (.var 2))) (.i2 .add (.var 0) (.iapp 2 (.cons (.opq 0) (.cons (.int .i64 (.var 2)) .nil)))))) (.lit (1000000000)))))))
abbrev y9c_begin : Con := ⟨160, [(.agg (.cons (.int .i64 (.var 0)) (.cons (.int .i64 (.var 1)) (.cons (.hs .no (.cons (.int .i64) .nil) (.opq 0)) .nil)))), (.int .i64 (.var 2))], (.b2 .and (.b2 .le (.lit (0)) (.var 0)) (.b2 .and (.b2 .le (.var 0) (.lit (100))) (.b2 .and (.b2 .le (.ofI (.vop (.len 1) (.cons (.opq 0) .nil))) (.lit (32))) (.b2 .and (.b2 .le (.lit (-100000)) (.var 2)) (.b2 .le (.var 2) (.lit (100000))))))), (.int .i64 (.i2 .mul (.iapp 5 (.cons (.int .i64 (.var 0)) (.cons (.opq 0) (.cons (.int .i64 (.var 2)) .nil)))) (.lit (1000000000)))), ⟨3, 0, 1, 0⟩, none⟩
theorem begin_w : walk Tryd.prog 182 ⟨[y9c_ahead], syG, [], [], []⟩ [] .v y9c_begin y9c_begin.n 3000 = some begin_tree := by kernel_rfl
theorem begin_h (b : Int) (t : Int) (d : Int) (l : Value) (hc : holds (y9E [b, t, d] [] [l] []) (.b2 .and (.b2 .le (.lit (0)) (.var 0)) (.b2 .and (.b2 .le (.var 0) (.lit (100))) (.b2 .and (.b2 .le (.ofI (.vop (.len 1) (.cons (.opq 0) .nil))) (.lit (32))) (.b2 .and (.b2 .le (.lit (-100000)) (.var 2)) (.b2 .le (.var 2) (.lit (100000)))))))) (hty : patsTyp (y9E [b, t, d] [] [l] []) [(.agg (.cons (.int .i64 (.var 0)) (.cons (.int .i64 (.var 1)) (.cons (.hs .no (.cons (.int .i64) .nil) (.opq 0)) .nil)))), (.int .i64 (.var 2))]) : begin_tree.holds (fun v_ => v_ = denV (y9E [b, t, d] [] [l] []) b0 (.int .i64 (.i2 .mul (.iapp 5 (.cons (.int .i64 (.var 0)) (.cons (.opq 0) (.cons (.int .i64 (.var 2)) .nil)))) (.lit (1000000000))))) (y9E [b, t, d] [] [l] []) := by
  simp only [Tree.holds, Sy.holds, AllN, Env.more, y9E, List.cons_append, List.nil_append, List.append_nil, denV, denI, denB, denL, I2.den, VOp.den, List.getD_cons_zero, List.getD_cons_succ, Cst.den, syso, syse, syio, sybo, y9i_may, y9i_lcnt, y9i_lct, y9i_least, y9i_wrong, y9i_sec, y9i_aheadI, y9i_lenI, y9i_begI, y9i_utcE, y9i_utcD, y9i_utcS, y9i_utcN, y9i_sz, y9i_sa, y9i_nv, y9i_ne, y9i_dq, y9i_dm, y9i_de, y9b_lok, y9b_mayb, List.map_nil, List.map_cons, B2.ofInts, B2.denI, B2.denB, if_true, Bool.false_eq_true, if_false, Nat.div_one, Nat.mul_one, Nat.add_zero, holds] at hc
  simp only [patsTyp, patTyp, patTypL, y9E, denV, denL, List.getD_cons_zero, List.getD_cons_succ, and_true, true_and] at hty
  have hL_l : typ (.sl (.cons (.int .i64) .nil)) l := by first | exact hty | exact hty.1 | exact hty.2 | exact hty.1.1 | exact hty.1.2 | exact hty.2.1 | exact hty.2.2 | exact hty.2.2.1 | exact hty.2.2.2
  have hN_l := typ_len (n := 1) hL_l rfl (by omega)
  simp only [Nat.div_one, Nat.mul_one] at hN_l
  unfold begin_tree
  simp only [Tree.holds, Sy.holds, AllN, Env.more, y9E, List.cons_append, List.nil_append, List.append_nil, denV, denI, denB, denL, I2.den, VOp.den, List.getD_cons_zero, List.getD_cons_succ, Cst.den, syso, syse, syio, sybo, y9i_may, y9i_lcnt, y9i_lct, y9i_least, y9i_wrong, y9i_sec, y9i_aheadI, y9i_lenI, y9i_begI, y9i_utcE, y9i_utcD, y9i_utcS, y9i_utcN, y9i_sz, y9i_sa, y9i_nv, y9i_ne, y9i_dq, y9i_dm, y9i_de, y9b_lok, y9b_mayb, List.map_nil, List.map_cons, B2.ofInts, B2.denI, B2.denB, if_true, Bool.false_eq_true, if_false, Nat.div_one, Nat.mul_one, Nat.add_zero]
  have f1 := secL_spec b (intsOf l) d
  have hlen := ints_len l
  refine ⟨?_, fun h0 => ?_⟩
  ·
   omega
  ·
   have wf0 := wr_i64 (86400 * d)
   have wf1 := wr_i64 ((IntKind.wrap .i64 (86400 * d)) + (b + ((ctL (intsOf l) d : Int))))
   have wf2 := wr_i64 ((IntKind.wrap .i64 ((IntKind.wrap .i64 (86400 * d)) + (b + ((ctL (intsOf l) d : Int))))) * 1000000000)
   simp only [Value.int.injEq, true_and]; omega
theorem y9g_begin : y9c_begin.Good Tryd.prog syG (y9E [] [] [] []) := good_of_walk (Γ := ⟨[y9c_ahead], syG, [], [], []⟩) (ρ := y9E [] [] [] []) sym begin_w rfl (fun _ _ _ _ => (ok_cons (Con.Good.env y9g_ahead _ _ _ _) ok_nil)) (fun b t d l hc hty => begin_h b t d l hc hty)
def LAhead_tree : Tree :=
 (.br (.not (.b2 .eq (.iapp 4 (.cons (.int .i64 (.var 0)) (.cons (.int .i64 (.var 1)) (.cons (.opq 0) (.cons (.int .i64 (.var 2)) .nil))))) (.lit (0))))
 (.ret (.tup (.cons (.int .i64 (.lit (0))) (.cons (.err (.iapp 4 (.cons (.int .i64 (.var 0)) (.cons (.int .i64 (.var 1)) (.cons (.opq 0) (.cons (.int .i64 (.var 2)) .nil)))))) .nil))))
 (.need (.b2 .and (.b2 .le (.lit (0)) (.var 0)) (.b2 .and (.b2 .le (.var 0) (.lit (100))) (.b2 .le (.ofI (.vop (.len 1) (.cons (.opq 0) .nil))) (.lit (32)))))
 (.ret (.tup (.cons (.int .i64 (.i2 .add (.var 0) (.iapp 2 (.cons (.opq 0) (.cons (.int .i64 (.var 2)) .nil))))) (.cons (.cst .nilI) .nil))))))
abbrev y9c_LAhead : Con := ⟨76, [(.agg (.cons (.int .i64 (.var 0)) (.cons (.int .i64 (.var 1)) (.cons (.hs .no (.cons (.int .i64) .nil) (.opq 0)) .nil)))), (.int .i64 (.var 2))], (.tt true), (.tup (.cons (.int .i64 (.iapp 6 (.cons (.int .i64 (.var 0)) (.cons (.int .i64 (.var 1)) (.cons (.opq 0) (.cons (.int .i64 (.var 2)) .nil)))))) (.cons (.err (.iapp 4 (.cons (.int .i64 (.var 0)) (.cons (.int .i64 (.var 1)) (.cons (.opq 0) (.cons (.int .i64 (.var 2)) .nil)))))) .nil))), ⟨3, 0, 1, 0⟩, none⟩
theorem LAhead_w : walk Tryd.prog 182 ⟨[y9c_known, y9c_ahead, y9c_begin], syG, [], [], []⟩ [] .v y9c_LAhead y9c_LAhead.n 3000 = some LAhead_tree := by kernel_rfl
theorem LAhead_h (b : Int) (t : Int) (d : Int) (l : Value) (hc : holds (y9E [b, t, d] [] [l] []) (.tt true)) (hty : patsTyp (y9E [b, t, d] [] [l] []) [(.agg (.cons (.int .i64 (.var 0)) (.cons (.int .i64 (.var 1)) (.cons (.hs .no (.cons (.int .i64) .nil) (.opq 0)) .nil)))), (.int .i64 (.var 2))]) : LAhead_tree.holds (fun v_ => v_ = denV (y9E [b, t, d] [] [l] []) b0 (.tup (.cons (.int .i64 (.iapp 6 (.cons (.int .i64 (.var 0)) (.cons (.int .i64 (.var 1)) (.cons (.opq 0) (.cons (.int .i64 (.var 2)) .nil)))))) (.cons (.err (.iapp 4 (.cons (.int .i64 (.var 0)) (.cons (.int .i64 (.var 1)) (.cons (.opq 0) (.cons (.int .i64 (.var 2)) .nil)))))) .nil)))) (y9E [b, t, d] [] [l] []) := by
  simp only [Tree.holds, Sy.holds, AllN, Env.more, y9E, List.cons_append, List.nil_append, List.append_nil, denV, denI, denB, denL, I2.den, VOp.den, List.getD_cons_zero, List.getD_cons_succ, Cst.den, syso, syse, syio, sybo, y9i_may, y9i_lcnt, y9i_lct, y9i_least, y9i_wrong, y9i_sec, y9i_aheadI, y9i_lenI, y9i_begI, y9i_utcE, y9i_utcD, y9i_utcS, y9i_utcN, y9i_sz, y9i_sa, y9i_nv, y9i_ne, y9i_dq, y9i_dm, y9i_de, y9b_lok, y9b_mayb, List.map_nil, List.map_cons, B2.ofInts, B2.denI, B2.denB, if_true, Bool.false_eq_true, if_false, Nat.div_one, Nat.mul_one, Nat.add_zero, holds] at hc
  simp only [patsTyp, patTyp, patTypL, y9E, denV, denL, List.getD_cons_zero, List.getD_cons_succ, and_true, true_and] at hty
  have hL_l : typ (.sl (.cons (.int .i64) .nil)) l := by first | exact hty | exact hty.1 | exact hty.2 | exact hty.1.1 | exact hty.1.2 | exact hty.2.1 | exact hty.2.2 | exact hty.2.2.1 | exact hty.2.2.2
  have hN_l := typ_len (n := 1) hL_l rfl (by omega)
  simp only [Nat.div_one, Nat.mul_one] at hN_l
  unfold LAhead_tree
  simp only [Tree.holds, Sy.holds, AllN, Env.more, y9E, List.cons_append, List.nil_append, List.append_nil, denV, denI, denB, denL, I2.den, VOp.den, List.getD_cons_zero, List.getD_cons_succ, Cst.den, syso, syse, syio, sybo, y9i_may, y9i_lcnt, y9i_lct, y9i_least, y9i_wrong, y9i_sec, y9i_aheadI, y9i_lenI, y9i_begI, y9i_utcE, y9i_utcD, y9i_utcS, y9i_utcN, y9i_sz, y9i_sa, y9i_nv, y9i_ne, y9i_dq, y9i_dm, y9i_de, y9b_lok, y9b_mayb, List.map_nil, List.map_cons, B2.ofInts, B2.denI, B2.denB, if_true, Bool.false_eq_true, if_false, Nat.div_one, Nat.mul_one, Nat.add_zero]
  have f1 := wrongI_spec b t (intsOf l) d
  have f2 := day_spec b t (intsOf l) d
  have f3 := secL_spec b (intsOf l) d
  have f4 := secL_spec b (intsOf l) (d + 1)
  have hlen := ints_len l
  refine ⟨fun h0 => ?_, fun h0 => ?_⟩
  ·
   first
   | (exfalso; omega)
   | (simp only [Value.tuple.injEq, Value.agg.injEq, Value.int.injEq, Array.mk.injEq, List.cons.injEq, true_and, and_true]; first | omega | (refine ⟨by omega, ?_⟩; (try refine And.intro ?_ ?_); all_goals first | omega | exact errV1 (by omega) | exact errV0 (by omega) | exact errV2 (by omega) | exact errV10 (by omega) | (exfalso; omega) | (refine congrArg (errVal _) ?_; omega)))
  ·
   refine ⟨?_, fun h1 => ?_⟩
   ·
    omega
   ·
    first
    | (exfalso; omega)
    | (simp only [Value.tuple.injEq, Value.agg.injEq, Value.int.injEq, Array.mk.injEq, List.cons.injEq, true_and, and_true]; first | omega | (refine ⟨by omega, ?_⟩; (try refine And.intro ?_ ?_); all_goals first | omega | exact errV1 (by omega) | exact errV0 (by omega) | exact errV2 (by omega) | exact errV10 (by omega) | (exfalso; omega) | (refine congrArg (errVal _) ?_; omega)))
theorem y9g_LAhead : y9c_LAhead.Good Tryd.prog syG (y9E [] [] [] []) := good_of_walk (Γ := ⟨[y9c_known, y9c_ahead, y9c_begin], syG, [], [], []⟩) (ρ := y9E [] [] [] []) sym LAhead_w rfl (fun _ _ _ _ => (ok_cons (Con.Good.env y9g_known _ _ _ _) (ok_cons (Con.Good.env y9g_ahead _ _ _ _) (ok_cons (Con.Good.env y9g_begin _ _ _ _) ok_nil)))) (fun b t d l hc hty => LAhead_h b t d l hc hty)
def LBegin_tree : Tree :=
 (.br (.not (.b2 .eq (.iapp 4 (.cons (.int .i64 (.var 0)) (.cons (.int .i64 (.var 1)) (.cons (.opq 0) (.cons (.int .i64 (.var 2)) .nil))))) (.lit (0))))
 (.ret (.tup (.cons (.int .i64 (.lit (0))) (.cons (.err (.iapp 4 (.cons (.int .i64 (.var 0)) (.cons (.int .i64 (.var 1)) (.cons (.opq 0) (.cons (.int .i64 (.var 2)) .nil)))))) .nil))))
 (.need (.b2 .and (.b2 .le (.lit (0)) (.var 0)) (.b2 .and (.b2 .le (.var 0) (.lit (100))) (.b2 .and (.b2 .le (.ofI (.vop (.len 1) (.cons (.opq 0) .nil))) (.lit (32))) (.b2 .and (.b2 .le (.lit (-100000)) (.var 2)) (.b2 .le (.var 2) (.lit (100000)))))))
 (.ret (.tup (.cons (.int .i64 (.i2 .mul (.iapp 5 (.cons (.int .i64 (.var 0)) (.cons (.opq 0) (.cons (.int .i64 (.var 2)) .nil)))) (.lit (1000000000)))) (.cons (.cst .nilI) .nil))))))
abbrev y9c_LBegin : Con := ⟨132, [(.agg (.cons (.int .i64 (.var 0)) (.cons (.int .i64 (.var 1)) (.cons (.hs .no (.cons (.int .i64) .nil) (.opq 0)) .nil)))), (.int .i64 (.var 2))], (.tt true), (.tup (.cons (.int .i64 (.iapp 8 (.cons (.int .i64 (.var 0)) (.cons (.int .i64 (.var 1)) (.cons (.opq 0) (.cons (.int .i64 (.var 2)) .nil)))))) (.cons (.err (.iapp 4 (.cons (.int .i64 (.var 0)) (.cons (.int .i64 (.var 1)) (.cons (.opq 0) (.cons (.int .i64 (.var 2)) .nil)))))) .nil))), ⟨3, 0, 1, 0⟩, none⟩
theorem LBegin_w : walk Tryd.prog 182 ⟨[y9c_known, y9c_ahead, y9c_begin], syG, [], [], []⟩ [] .v y9c_LBegin y9c_LBegin.n 3000 = some LBegin_tree := by kernel_rfl
theorem LBegin_h (b : Int) (t : Int) (d : Int) (l : Value) (hc : holds (y9E [b, t, d] [] [l] []) (.tt true)) (hty : patsTyp (y9E [b, t, d] [] [l] []) [(.agg (.cons (.int .i64 (.var 0)) (.cons (.int .i64 (.var 1)) (.cons (.hs .no (.cons (.int .i64) .nil) (.opq 0)) .nil)))), (.int .i64 (.var 2))]) : LBegin_tree.holds (fun v_ => v_ = denV (y9E [b, t, d] [] [l] []) b0 (.tup (.cons (.int .i64 (.iapp 8 (.cons (.int .i64 (.var 0)) (.cons (.int .i64 (.var 1)) (.cons (.opq 0) (.cons (.int .i64 (.var 2)) .nil)))))) (.cons (.err (.iapp 4 (.cons (.int .i64 (.var 0)) (.cons (.int .i64 (.var 1)) (.cons (.opq 0) (.cons (.int .i64 (.var 2)) .nil)))))) .nil)))) (y9E [b, t, d] [] [l] []) := by
  simp only [Tree.holds, Sy.holds, AllN, Env.more, y9E, List.cons_append, List.nil_append, List.append_nil, denV, denI, denB, denL, I2.den, VOp.den, List.getD_cons_zero, List.getD_cons_succ, Cst.den, syso, syse, syio, sybo, y9i_may, y9i_lcnt, y9i_lct, y9i_least, y9i_wrong, y9i_sec, y9i_aheadI, y9i_lenI, y9i_begI, y9i_utcE, y9i_utcD, y9i_utcS, y9i_utcN, y9i_sz, y9i_sa, y9i_nv, y9i_ne, y9i_dq, y9i_dm, y9i_de, y9b_lok, y9b_mayb, List.map_nil, List.map_cons, B2.ofInts, B2.denI, B2.denB, if_true, Bool.false_eq_true, if_false, Nat.div_one, Nat.mul_one, Nat.add_zero, holds] at hc
  simp only [patsTyp, patTyp, patTypL, y9E, denV, denL, List.getD_cons_zero, List.getD_cons_succ, and_true, true_and] at hty
  have hL_l : typ (.sl (.cons (.int .i64) .nil)) l := by first | exact hty | exact hty.1 | exact hty.2 | exact hty.1.1 | exact hty.1.2 | exact hty.2.1 | exact hty.2.2 | exact hty.2.2.1 | exact hty.2.2.2
  have hN_l := typ_len (n := 1) hL_l rfl (by omega)
  simp only [Nat.div_one, Nat.mul_one] at hN_l
  unfold LBegin_tree
  simp only [Tree.holds, Sy.holds, AllN, Env.more, y9E, List.cons_append, List.nil_append, List.append_nil, denV, denI, denB, denL, I2.den, VOp.den, List.getD_cons_zero, List.getD_cons_succ, Cst.den, syso, syse, syio, sybo, y9i_may, y9i_lcnt, y9i_lct, y9i_least, y9i_wrong, y9i_sec, y9i_aheadI, y9i_lenI, y9i_begI, y9i_utcE, y9i_utcD, y9i_utcS, y9i_utcN, y9i_sz, y9i_sa, y9i_nv, y9i_ne, y9i_dq, y9i_dm, y9i_de, y9b_lok, y9b_mayb, List.map_nil, List.map_cons, B2.ofInts, B2.denI, B2.denB, if_true, Bool.false_eq_true, if_false, Nat.div_one, Nat.mul_one, Nat.add_zero]
  have f1 := wrongI_spec b t (intsOf l) d
  have f2 := day_spec b t (intsOf l) d
  have f3 := secL_spec b (intsOf l) d
  have f4 := secL_spec b (intsOf l) (d + 1)
  have hlen := ints_len l
  refine ⟨fun h0 => ?_, fun h0 => ?_⟩
  ·
   first
   | (exfalso; omega)
   | (simp only [Value.tuple.injEq, Value.agg.injEq, Value.int.injEq, Array.mk.injEq, List.cons.injEq, true_and, and_true]; first | omega | (refine ⟨by omega, ?_⟩; (try refine And.intro ?_ ?_); all_goals first | omega | exact errV1 (by omega) | exact errV0 (by omega) | exact errV2 (by omega) | exact errV10 (by omega) | (exfalso; omega) | (refine congrArg (errVal _) ?_; omega)))
  ·
   refine ⟨?_, fun h1 => ?_⟩
   ·
    omega
   ·
    first
    | (exfalso; omega)
    | (simp only [Value.tuple.injEq, Value.agg.injEq, Value.int.injEq, Array.mk.injEq, List.cons.injEq, true_and, and_true]; first | omega | (refine ⟨by omega, ?_⟩; (try refine And.intro ?_ ?_); all_goals first | omega | exact errV1 (by omega) | exact errV0 (by omega) | exact errV2 (by omega) | exact errV10 (by omega) | (exfalso; omega) | (refine congrArg (errVal _) ?_; omega)))
theorem y9g_LBegin : y9c_LBegin.Good Tryd.prog syG (y9E [] [] [] []) := good_of_walk (Γ := ⟨[y9c_known, y9c_ahead, y9c_begin], syG, [], [], []⟩) (ρ := y9E [] [] [] []) sym LBegin_w rfl (fun _ _ _ _ => (ok_cons (Con.Good.env y9g_known _ _ _ _) (ok_cons (Con.Good.env y9g_ahead _ _ _ _) (ok_cons (Con.Good.env y9g_begin _ _ _ _) ok_nil)))) (fun b t d l hc hty => LBegin_h b t d l hc hty)
def lutc_tree : Tree :=
 (.br (.not (.b2 .eq (.iapp 0 (.cons (.int .i64 (.var 0)) (.cons (.int .i64 (.var 1)) (.cons (.opq 0) .nil)))) (.lit (0))))
 (.ret (.tup (.cons (.agg (.cons (.int .i64 (.lit (0))) (.cons (.int .i64 (.lit (0))) (.cons (.int .i64 (.lit (0))) .nil)))) (.cons (.err (.iapp 0 (.cons (.int .i64 (.var 0)) (.cons (.int .i64 (.var 1)) (.cons (.opq 0) .nil))))) .nil))))
 (.need (.b2 .and (.b2 .le (.lit (-9223372036854775808)) (.var 2)) (.b2 .le (.var 2) (.lit (9223372036854775807))))
 (.br (.b2 .le (.lit (4611686018427387904)) (.iapp 13 (.cons (.int .i64 (.var 2)) .nil)))
 (.ret (.tup (.cons (.agg (.cons (.int .i64 (.lit (0))) (.cons (.int .i64 (.lit (0))) (.cons (.int .i64 (.lit (0))) .nil)))) (.cons (.iface 182 (.int .i64 (.lit (2)))) .nil))))
 (.need (.b2 .and (.b2 .le (.lit (0)) (.var 0)) (.b2 .and (.b2 .le (.var 0) (.lit (100))) (.b2 .le (.ofI (.vop (.len 1) (.cons (.opq 0) .nil))) (.lit (32)))))
 (.br (.b2 .lt (.var 2) (.i2 .mul (.iapp 5 (.cons (.int .i64 (.var 0)) (.cons (.opq 0) (.cons (.int .i64 (.lit (-50000))) .nil)))) (.lit (1000000000))))
 (.ret (.tup (.cons (.agg (.cons (.int .i64 (.lit (0))) (.cons (.int .i64 (.lit (0))) (.cons (.int .i64 (.lit (0))) .nil)))) (.cons (.iface 182 (.int .i64 (.lit (2)))) .nil))))
 (.need (.b2 .and (.b2 .le (.lit (0)) (.var 0)) (.b2 .and (.b2 .le (.var 0) (.lit (100))) (.b2 .and (.b2 .le (.ofI (.vop (.len 1) (.cons (.opq 0) .nil))) (.lit (32))) (.b2 .and (.b2 .le (.lit (-100000)) (.var 1)) (.b2 .le (.var 1) (.lit (100000)))))))
 (.br (.b2 .le (.i2 .mul (.iapp 5 (.cons (.int .i64 (.var 0)) (.cons (.opq 0) (.cons (.int .i64 (.var 1)) .nil)))) (.lit (1000000000))) (.var 2))
 (.ret (.tup (.cons (.agg (.cons (.int .i64 (.lit (0))) (.cons (.int .i64 (.lit (0))) (.cons (.int .i64 (.lit (0))) .nil)))) (.cons (.iface 182 (.int .i64 (.lit (10)))) .nil))))
 (.need (.b2 .and (.b2 .le (.lit (-9223372036854775808)) (.var 2)) (.b2 .le (.var 2) (.lit (9223372036854775807))))
 (.br (.not (.b2 .eq (.iapp 19 (.cons (.int .i64 (.lit (86400000000000))) .nil)) (.lit (0))))
 (.ret (.tup (.cons (.agg (.cons (.int .i64 (.lit (0))) (.cons (.int .i64 (.lit (0))) (.cons (.int .i64 (.lit (0))) .nil)))) (.cons (.err (.iapp 19 (.cons (.int .i64 (.lit (86400000000000))) .nil))) .nil))))
 (.need (.b2 .and (.b2 .le (.lit (0)) (.var 0)) (.b2 .and (.b2 .le (.var 0) (.lit (100))) (.b2 .and (.b2 .le (.ofI (.vop (.len 1) (.cons (.opq 0) .nil))) (.lit (32))) (.b2 .and (.b2 .le (.lit (-100000)) (.iapp 17 (.cons (.int .i64 (.var 2)) (.cons (.int .i64 (.lit (86400000000000))) .nil)))) (.b2 .le (.iapp 17 (.cons (.int .i64 (.var 2)) (.cons (.int .i64 (.lit (86400000000000))) .nil))) (.lit (100000)))))))
 (.br (.b2 .lt (.var 2) (.i2 .mul (.iapp 5 (.cons (.int .i64 (.var 0)) (.cons (.opq 0) (.cons (.int .i64 (.iapp 17 (.cons (.int .i64 (.var 2)) (.cons (.int .i64 (.lit (86400000000000))) .nil)))) .nil)))) (.lit (1000000000))))
 (.need (.b2 .and (.b2 .le (.lit (0)) (.var 0)) (.b2 .and (.b2 .le (.var 0) (.lit (100))) (.b2 .and (.b2 .le (.ofI (.vop (.len 1) (.cons (.opq 0) .nil))) (.lit (32))) (.b2 .and (.b2 .le (.lit (-100000)) (.wrap .i64 (.i2 .sub (.iapp 17 (.cons (.int .i64 (.var 2)) (.cons (.int .i64 (.lit (86400000000000))) .nil))) (.lit (1))))) (.b2 .le (.wrap .i64 (.i2 .sub (.iapp 17 (.cons (.int .i64 (.var 2)) (.cons (.int .i64 (.lit (86400000000000))) .nil))) (.lit (1)))) (.lit (100000)))))))
 (.ret (.tup (.cons (.agg (.cons (.int .i64 (.wrap .i64 (.i2 .sub (.iapp 17 (.cons (.int .i64 (.var 2)) (.cons (.int .i64 (.lit (86400000000000))) .nil))) (.lit (1))))) (.cons (.int .i64 (.wrap .i64 (.i2 .quo (.wrap .i64 (.i2 .sub (.var 2) (.i2 .mul (.iapp 5 (.cons (.int .i64 (.var 0)) (.cons (.opq 0) (.cons (.int .i64 (.wrap .i64 (.i2 .sub (.iapp 17 (.cons (.int .i64 (.var 2)) (.cons (.int .i64 (.lit (86400000000000))) .nil))) (.lit (1))))) .nil)))) (.lit (1000000000))))) (.lit (1000000000))))) (.cons (.int .i64 (.i2 .rem (.wrap .i64 (.i2 .sub (.var 2) (.i2 .mul (.iapp 5 (.cons (.int .i64 (.var 0)) (.cons (.opq 0) (.cons (.int .i64 (.wrap .i64 (.i2 .sub (.iapp 17 (.cons (.int .i64 (.var 2)) (.cons (.int .i64 (.lit (86400000000000))) .nil))) (.lit (1))))) .nil)))) (.lit (1000000000))))) (.lit (1000000000)))) .nil)))) (.cons (.cst .nilI) .nil)))))
 (.need (.b2 .and (.b2 .le (.lit (0)) (.var 0)) (.b2 .and (.b2 .le (.var 0) (.lit (100))) (.b2 .and (.b2 .le (.ofI (.vop (.len 1) (.cons (.opq 0) .nil))) (.lit (32))) (.b2 .and (.b2 .le (.lit (-100000)) (.iapp 17 (.cons (.int .i64 (.var 2)) (.cons (.int .i64 (.lit (86400000000000))) .nil)))) (.b2 .le (.iapp 17 (.cons (.int .i64 (.var 2)) (.cons (.int .i64 (.lit (86400000000000))) .nil))) (.lit (100000)))))))
 (.ret (.tup (.cons (.agg (.cons (.int .i64 (.iapp 17 (.cons (.int .i64 (.var 2)) (.cons (.int .i64 (.lit (86400000000000))) .nil)))) (.cons (.int .i64 (.wrap .i64 (.i2 .quo (.wrap .i64 (.i2 .sub (.var 2) (.i2 .mul (.iapp 5 (.cons (.int .i64 (.var 0)) (.cons (.opq 0) (.cons (.int .i64 (.iapp 17 (.cons (.int .i64 (.var 2)) (.cons (.int .i64 (.lit (86400000000000))) .nil)))) .nil)))) (.lit (1000000000))))) (.lit (1000000000))))) (.cons (.int .i64 (.i2 .rem (.wrap .i64 (.i2 .sub (.var 2) (.i2 .mul (.iapp 5 (.cons (.int .i64 (.var 0)) (.cons (.opq 0) (.cons (.int .i64 (.iapp 17 (.cons (.int .i64 (.var 2)) (.cons (.int .i64 (.lit (86400000000000))) .nil)))) .nil)))) (.lit (1000000000))))) (.lit (1000000000)))) .nil)))) (.cons (.cst .nilI) .nil))))))))))))))))
abbrev y9c_lutc : Con := ⟨75, [(.agg (.cons (.int .i64 (.var 0)) (.cons (.int .i64 (.var 1)) (.cons (.hs .no (.cons (.int .i64) .nil) (.opq 0)) .nil)))), (.int .i64 (.var 2))], (.b2 .and (.b2 .le (.lit (-9223372036854775808)) (.var 2)) (.b2 .le (.var 2) (.lit (9223372036854775807)))), (.tup (.cons (.agg (.cons (.int .i64 (.iapp 10 (.cons (.int .i64 (.var 0)) (.cons (.int .i64 (.var 1)) (.cons (.opq 0) (.cons (.int .i64 (.var 2)) .nil)))))) (.cons (.int .i64 (.iapp 11 (.cons (.int .i64 (.var 0)) (.cons (.int .i64 (.var 1)) (.cons (.opq 0) (.cons (.int .i64 (.var 2)) .nil)))))) (.cons (.int .i64 (.iapp 12 (.cons (.int .i64 (.var 0)) (.cons (.int .i64 (.var 1)) (.cons (.opq 0) (.cons (.int .i64 (.var 2)) .nil)))))) .nil)))) (.cons (.err (.iapp 9 (.cons (.int .i64 (.var 0)) (.cons (.int .i64 (.var 1)) (.cons (.opq 0) (.cons (.int .i64 (.var 2)) .nil)))))) .nil))), ⟨3, 0, 1, 0⟩, none⟩
theorem lutc_w : walk Tryd.prog 182 ⟨[y9c_check, y9c_size, y9c_begin, y9c_div], syG, [], [], []⟩ [] .v y9c_lutc y9c_lutc.n 3000 = some lutc_tree := by kernel_rfl
set_option maxHeartbeats 4000000 in
theorem lutc_h (b : Int) (t : Int) (n : Int) (l : Value) (hc : holds (y9E [b, t, n] [] [l] []) (.b2 .and (.b2 .le (.lit (-9223372036854775808)) (.var 2)) (.b2 .le (.var 2) (.lit (9223372036854775807))))) (hty : patsTyp (y9E [b, t, n] [] [l] []) [(.agg (.cons (.int .i64 (.var 0)) (.cons (.int .i64 (.var 1)) (.cons (.hs .no (.cons (.int .i64) .nil) (.opq 0)) .nil)))), (.int .i64 (.var 2))]) : lutc_tree.holds (fun v_ => v_ = denV (y9E [b, t, n] [] [l] []) b0 (.tup (.cons (.agg (.cons (.int .i64 (.iapp 10 (.cons (.int .i64 (.var 0)) (.cons (.int .i64 (.var 1)) (.cons (.opq 0) (.cons (.int .i64 (.var 2)) .nil)))))) (.cons (.int .i64 (.iapp 11 (.cons (.int .i64 (.var 0)) (.cons (.int .i64 (.var 1)) (.cons (.opq 0) (.cons (.int .i64 (.var 2)) .nil)))))) (.cons (.int .i64 (.iapp 12 (.cons (.int .i64 (.var 0)) (.cons (.int .i64 (.var 1)) (.cons (.opq 0) (.cons (.int .i64 (.var 2)) .nil)))))) .nil)))) (.cons (.err (.iapp 9 (.cons (.int .i64 (.var 0)) (.cons (.int .i64 (.var 1)) (.cons (.opq 0) (.cons (.int .i64 (.var 2)) .nil)))))) .nil)))) (y9E [b, t, n] [] [l] []) := by
  simp only [Tree.holds, Sy.holds, AllN, Env.more, y9E, List.cons_append, List.nil_append, List.append_nil, denV, denI, denB, denL, I2.den, VOp.den, List.getD_cons_zero, List.getD_cons_succ, Cst.den, syso, syse, syio, sybo, y9i_may, y9i_lcnt, y9i_lct, y9i_least, y9i_wrong, y9i_sec, y9i_aheadI, y9i_lenI, y9i_begI, y9i_utcE, y9i_utcD, y9i_utcS, y9i_utcN, y9i_sz, y9i_sa, y9i_nv, y9i_ne, y9i_dq, y9i_dm, y9i_de, y9b_lok, y9b_mayb, List.map_nil, List.map_cons, B2.ofInts, B2.denI, B2.denB, if_true, Bool.false_eq_true, if_false, Nat.div_one, Nat.mul_one, Nat.add_zero, holds] at hc
  simp only [patsTyp, patTyp, patTypL, y9E, denV, denL, List.getD_cons_zero, List.getD_cons_succ, and_true, true_and] at hty
  have hL_l : typ (.sl (.cons (.int .i64) .nil)) l := by first | exact hty | exact hty.1 | exact hty.2 | exact hty.1.1 | exact hty.1.2 | exact hty.2.1 | exact hty.2.2 | exact hty.2.2.1 | exact hty.2.2.2
  have hN_l := typ_len (n := 1) hL_l rfl (by omega)
  simp only [Nat.div_one, Nat.mul_one] at hN_l
  unfold lutc_tree
  simp only [Tree.holds, Sy.holds, AllN, Env.more, y9E, List.cons_append, List.nil_append, List.append_nil, denV, denI, denB, denL, I2.den, VOp.den, List.getD_cons_zero, List.getD_cons_succ, Cst.den, syso, syse, syio, sybo, y9i_may, y9i_lcnt, y9i_lct, y9i_least, y9i_wrong, y9i_sec, y9i_aheadI, y9i_lenI, y9i_begI, y9i_utcE, y9i_utcD, y9i_utcS, y9i_utcN, y9i_sz, y9i_sa, y9i_nv, y9i_ne, y9i_dq, y9i_dm, y9i_de, y9b_lok, y9b_mayb, List.map_nil, List.map_cons, B2.ofInts, B2.denI, B2.denB, if_true, Bool.false_eq_true, if_false, Nat.div_one, Nat.mul_one, Nat.add_zero]
  have hq : dqE n 86400000000000 = n / 86400000000000 := by unfold dqE; simp
  have hq1 : IntKind.wrap .i64 (dqE n 86400000000000 - 1) = n / 86400000000000 - 1 := by rw [hq]; exact IntWalk.i64_in _ (by omega)
  simp only [hq1]
  have hd : deE 86400000000000 = 0 := by decide
  simp only [hq] at *
  have f1 := utcE_spec b t (intsOf l) n
  have f3 := szE_spec n hc
  have hlen := ints_len l
  have g1 := secL_spec b (intsOf l) (-50000)
  have g2 := secL_spec b (intsOf l) t
  have g3 := secL_spec b (intsOf l) (n / 86400000000000)
  have g4 := secL_spec b (intsOf l) (n / 86400000000000 - 1)
  refine ⟨fun h0 => ?_, fun h0 => ?_⟩
  ·
   try clear wf1 wf2
   have f2 := utc_spec b t (intsOf l) n
   have f4 := utcDay_two b (intsOf l) n
   first
   | (exfalso; omega)
   | (simp only [Value.tuple.injEq, Value.agg.injEq, Value.int.injEq, Value.bool.injEq, Array.mk.injEq, List.cons.injEq, true_and, and_true]; exact ⟨by omega, by first | exact errV1 (by omega) | exact errV0 (by omega) | exact errV2 (by omega) | exact errV10 (by omega) | (exfalso; omega) | (refine congrArg (errVal _) ?_; omega)⟩)
   | (have hD : utcDay b (intsOf l) n = n / 86400000000000 - 1 := (by omega); have gq := gone_q (x := n - secL b (intsOf l) (n / 86400000000000 - 1) * 1000000000) (by omega) (by omega); rw [hD] at f2; rw [gq.1, gq.2]; simp only [Value.tuple.injEq, Value.agg.injEq, Value.int.injEq, Value.bool.injEq, Array.mk.injEq, List.cons.injEq, true_and, and_true]; exact ⟨by omega, errV0 (by omega)⟩)
   | (have hD : utcDay b (intsOf l) n = n / 86400000000000 := (by omega); have gq := gone_q (x := n - secL b (intsOf l) (n / 86400000000000) * 1000000000) (by omega) (by omega); rw [hD] at f2; rw [gq.1, gq.2]; simp only [Value.tuple.injEq, Value.agg.injEq, Value.int.injEq, Value.bool.injEq, Array.mk.injEq, List.cons.injEq, true_and, and_true]; exact ⟨by omega, errV0 (by omega)⟩)
  ·
   refine ⟨?_, fun h1 => ?_⟩
   ·
    omega
   ·
    refine ⟨fun h2 => ?_, fun h2 => ?_⟩
    ·
     try clear wf1 wf2
     have f2 := utc_spec b t (intsOf l) n
     have f4 := utcDay_two b (intsOf l) n
     first
     | (exfalso; omega)
     | (simp only [Value.tuple.injEq, Value.agg.injEq, Value.int.injEq, Value.bool.injEq, Array.mk.injEq, List.cons.injEq, true_and, and_true]; exact ⟨by omega, by first | exact errV1 (by omega) | exact errV0 (by omega) | exact errV2 (by omega) | exact errV10 (by omega) | (exfalso; omega) | (refine congrArg (errVal _) ?_; omega)⟩)
     | (have hD : utcDay b (intsOf l) n = n / 86400000000000 - 1 := (by omega); have gq := gone_q (x := n - secL b (intsOf l) (n / 86400000000000 - 1) * 1000000000) (by omega) (by omega); rw [hD] at f2; rw [gq.1, gq.2]; simp only [Value.tuple.injEq, Value.agg.injEq, Value.int.injEq, Value.bool.injEq, Array.mk.injEq, List.cons.injEq, true_and, and_true]; exact ⟨by omega, errV0 (by omega)⟩)
     | (have hD : utcDay b (intsOf l) n = n / 86400000000000 := (by omega); have gq := gone_q (x := n - secL b (intsOf l) (n / 86400000000000) * 1000000000) (by omega) (by omega); rw [hD] at f2; rw [gq.1, gq.2]; simp only [Value.tuple.injEq, Value.agg.injEq, Value.int.injEq, Value.bool.injEq, Array.mk.injEq, List.cons.injEq, true_and, and_true]; exact ⟨by omega, errV0 (by omega)⟩)
    ·
     refine ⟨?_, fun h3 => ?_⟩
     ·
      omega
     ·
      refine ⟨fun h4 => ?_, fun h4 => ?_⟩
      ·
       try clear wf1 wf2
       have f2 := utc_spec b t (intsOf l) n
       have f4 := utcDay_two b (intsOf l) n
       first
       | (exfalso; omega)
       | (simp only [Value.tuple.injEq, Value.agg.injEq, Value.int.injEq, Value.bool.injEq, Array.mk.injEq, List.cons.injEq, true_and, and_true]; exact ⟨by omega, by first | exact errV1 (by omega) | exact errV0 (by omega) | exact errV2 (by omega) | exact errV10 (by omega) | (exfalso; omega) | (refine congrArg (errVal _) ?_; omega)⟩)
       | (have hD : utcDay b (intsOf l) n = n / 86400000000000 - 1 := (by omega); have gq := gone_q (x := n - secL b (intsOf l) (n / 86400000000000 - 1) * 1000000000) (by omega) (by omega); rw [hD] at f2; rw [gq.1, gq.2]; simp only [Value.tuple.injEq, Value.agg.injEq, Value.int.injEq, Value.bool.injEq, Array.mk.injEq, List.cons.injEq, true_and, and_true]; exact ⟨by omega, errV0 (by omega)⟩)
       | (have hD : utcDay b (intsOf l) n = n / 86400000000000 := (by omega); have gq := gone_q (x := n - secL b (intsOf l) (n / 86400000000000) * 1000000000) (by omega) (by omega); rw [hD] at f2; rw [gq.1, gq.2]; simp only [Value.tuple.injEq, Value.agg.injEq, Value.int.injEq, Value.bool.injEq, Array.mk.injEq, List.cons.injEq, true_and, and_true]; exact ⟨by omega, errV0 (by omega)⟩)
      ·
       refine ⟨?_, fun h5 => ?_⟩
       ·
        omega
       ·
        refine ⟨fun h6 => ?_, fun h6 => ?_⟩
        ·
         try clear wf1 wf2
         have f2 := utc_spec b t (intsOf l) n
         have f4 := utcDay_two b (intsOf l) n
         first
         | (exfalso; omega)
         | (simp only [Value.tuple.injEq, Value.agg.injEq, Value.int.injEq, Value.bool.injEq, Array.mk.injEq, List.cons.injEq, true_and, and_true]; exact ⟨by omega, by first | exact errV1 (by omega) | exact errV0 (by omega) | exact errV2 (by omega) | exact errV10 (by omega) | (exfalso; omega) | (refine congrArg (errVal _) ?_; omega)⟩)
         | (have hD : utcDay b (intsOf l) n = n / 86400000000000 - 1 := (by omega); have gq := gone_q (x := n - secL b (intsOf l) (n / 86400000000000 - 1) * 1000000000) (by omega) (by omega); rw [hD] at f2; rw [gq.1, gq.2]; simp only [Value.tuple.injEq, Value.agg.injEq, Value.int.injEq, Value.bool.injEq, Array.mk.injEq, List.cons.injEq, true_and, and_true]; exact ⟨by omega, errV0 (by omega)⟩)
         | (have hD : utcDay b (intsOf l) n = n / 86400000000000 := (by omega); have gq := gone_q (x := n - secL b (intsOf l) (n / 86400000000000) * 1000000000) (by omega) (by omega); rw [hD] at f2; rw [gq.1, gq.2]; simp only [Value.tuple.injEq, Value.agg.injEq, Value.int.injEq, Value.bool.injEq, Array.mk.injEq, List.cons.injEq, true_and, and_true]; exact ⟨by omega, errV0 (by omega)⟩)
        ·
         refine ⟨?_, fun h7 => ?_⟩
         ·
          omega
         ·
          refine ⟨fun h8 => ?_, fun h8 => ?_⟩
          ·
           try clear wf1 wf2
           have f2 := utc_spec b t (intsOf l) n
           have f4 := utcDay_two b (intsOf l) n
           first
           | (exfalso; omega)
           | (simp only [Value.tuple.injEq, Value.agg.injEq, Value.int.injEq, Value.bool.injEq, Array.mk.injEq, List.cons.injEq, true_and, and_true]; exact ⟨by omega, by first | exact errV1 (by omega) | exact errV0 (by omega) | exact errV2 (by omega) | exact errV10 (by omega) | (exfalso; omega) | (refine congrArg (errVal _) ?_; omega)⟩)
           | (have hD : utcDay b (intsOf l) n = n / 86400000000000 - 1 := (by omega); have gq := gone_q (x := n - secL b (intsOf l) (n / 86400000000000 - 1) * 1000000000) (by omega) (by omega); rw [hD] at f2; rw [gq.1, gq.2]; simp only [Value.tuple.injEq, Value.agg.injEq, Value.int.injEq, Value.bool.injEq, Array.mk.injEq, List.cons.injEq, true_and, and_true]; exact ⟨by omega, errV0 (by omega)⟩)
           | (have hD : utcDay b (intsOf l) n = n / 86400000000000 := (by omega); have gq := gone_q (x := n - secL b (intsOf l) (n / 86400000000000) * 1000000000) (by omega) (by omega); rw [hD] at f2; rw [gq.1, gq.2]; simp only [Value.tuple.injEq, Value.agg.injEq, Value.int.injEq, Value.bool.injEq, Array.mk.injEq, List.cons.injEq, true_and, and_true]; exact ⟨by omega, errV0 (by omega)⟩)
          ·
           refine ⟨?_, fun h9 => ?_⟩
           ·
            omega
           ·
            refine ⟨fun h10 => ?_, fun h10 => ?_⟩
            ·
             refine ⟨?_, fun h11 => ?_⟩
             ·
              omega
             ·
              try simp only [hw0]
              try clear wf1 wf2
              have f2 := utc_spec b t (intsOf l) n
              have f4 := utcDay_two b (intsOf l) n
              first
              | (exfalso; omega)
              | (simp only [Value.tuple.injEq, Value.agg.injEq, Value.int.injEq, Value.bool.injEq, Array.mk.injEq, List.cons.injEq, true_and, and_true]; exact ⟨by omega, by first | exact errV1 (by omega) | exact errV0 (by omega) | exact errV2 (by omega) | exact errV10 (by omega) | (exfalso; omega) | (refine congrArg (errVal _) ?_; omega)⟩)
              | (have hD : utcDay b (intsOf l) n = n / 86400000000000 - 1 := (by omega); have gq := gone_q (x := n - secL b (intsOf l) (n / 86400000000000 - 1) * 1000000000) (by omega) (by omega); rw [hD] at f2; rw [gq.1, gq.2]; simp only [Value.tuple.injEq, Value.agg.injEq, Value.int.injEq, Value.bool.injEq, Array.mk.injEq, List.cons.injEq, true_and, and_true]; exact ⟨by omega, errV0 (by omega)⟩)
              | (have hD : utcDay b (intsOf l) n = n / 86400000000000 := (by omega); have gq := gone_q (x := n - secL b (intsOf l) (n / 86400000000000) * 1000000000) (by omega) (by omega); rw [hD] at f2; rw [gq.1, gq.2]; simp only [Value.tuple.injEq, Value.agg.injEq, Value.int.injEq, Value.bool.injEq, Array.mk.injEq, List.cons.injEq, true_and, and_true]; exact ⟨by omega, errV0 (by omega)⟩)
            ·
             refine ⟨?_, fun h12 => ?_⟩
             ·
              omega
             ·
              try clear wf1 wf2
              have f2 := utc_spec b t (intsOf l) n
              have f4 := utcDay_two b (intsOf l) n
              first
              | (exfalso; omega)
              | (simp only [Value.tuple.injEq, Value.agg.injEq, Value.int.injEq, Value.bool.injEq, Array.mk.injEq, List.cons.injEq, true_and, and_true]; exact ⟨by omega, by first | exact errV1 (by omega) | exact errV0 (by omega) | exact errV2 (by omega) | exact errV10 (by omega) | (exfalso; omega) | (refine congrArg (errVal _) ?_; omega)⟩)
              | (have hD : utcDay b (intsOf l) n = n / 86400000000000 - 1 := (by omega); have gq := gone_q (x := n - secL b (intsOf l) (n / 86400000000000 - 1) * 1000000000) (by omega) (by omega); rw [hD] at f2; rw [gq.1, gq.2]; simp only [Value.tuple.injEq, Value.agg.injEq, Value.int.injEq, Value.bool.injEq, Array.mk.injEq, List.cons.injEq, true_and, and_true]; exact ⟨by omega, errV0 (by omega)⟩)
              | (have hD : utcDay b (intsOf l) n = n / 86400000000000 := (by omega); have gq := gone_q (x := n - secL b (intsOf l) (n / 86400000000000) * 1000000000) (by omega) (by omega); rw [hD] at f2; rw [gq.1, gq.2]; simp only [Value.tuple.injEq, Value.agg.injEq, Value.int.injEq, Value.bool.injEq, Array.mk.injEq, List.cons.injEq, true_and, and_true]; exact ⟨by omega, errV0 (by omega)⟩)
theorem y9g_lutc : y9c_lutc.Good Tryd.prog syG (y9E [] [] [] []) := good_of_walk (Γ := ⟨[y9c_check, y9c_size, y9c_begin, y9c_div], syG, [], [], []⟩) (ρ := y9E [] [] [] []) sym lutc_w rfl (fun _ _ _ _ => (ok_cons (Con.Good.env y9g_check _ _ _ _) (ok_cons (Con.Good.env y9g_size _ _ _ _) (ok_cons (Con.Good.env y9g_begin _ _ _ _) (ok_cons (Con.Good.env y9g_div _ _ _ _) ok_nil))))) (fun b t n l hc hty => lutc_h b t n l hc hty)
end Go.Proofs.YtbjgopehomnpgaaDoor
