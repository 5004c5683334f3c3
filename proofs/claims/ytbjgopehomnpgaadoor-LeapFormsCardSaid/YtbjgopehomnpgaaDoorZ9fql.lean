/-
  Layer 9 by the second engine: tables and moments.
-/
import Derived.Test.YtbjgopehomnpgaaDoorSycql
import Derived.Test.YtbjgopehomnpgaaDoorZ6bql
import Derived.Test.YtbjgopehomnpgaaDoorN09bql
import Derived.Test.YtbjgopehomnpgaaDoorSyoql
namespace Go.Proofs.YtbjgopehomnpgaaDoor
open Go.RowKit Go.Extern.Stop Go.Stop Go.Extern Go.Proofs.YtbjgopehomnpgaaDoor.Sy
set_option linter.unusedVariables false
set_option linter.unusedSimpArgs false
theorem errV1 {n : Int} (h : n = 1) : Value.iface 182 (.int .i64 1) = errVal 182 n := by subst h; rfl
theorem errV0 {n : Int} (h : n = 0) : Value.nilIface = errVal 182 n := by subst h; rfl
theorem errV2 {n : Int} (h : n = 2) : Value.iface 182 (.int .i64 2) = errVal 182 n := by subst h; rfl
theorem errV10 {n : Int} (h : n = 10) : Value.iface 182 (.int .i64 10) = errVal 182 n := by subst h; rfl
theorem mayL_not {base last : Int} {l : List Int} (h : base < 0 ∨ 100 < base ∨ last < -50000 ∨ 50000 < last ∨ 32 < l.length) : mayL base last l = false := by
  cases hm : mayL base last l with
  | false => rfl
  | true => have := mayL_spec hm; omega
theorem mayL_bad {base last : Int} {l : List Int} {j : Nat} (hj : j < l.length) (h : okJ l last j = false) : mayL base last l = false := by
  cases hm : mayL base last l with
  | false => rfl
  | true =>
    simp only [mayL, Bool.and_eq_true] at hm
    rw [okL_get hm.2 hj] at h
    cases h
theorem mayL_yes {base last : Int} {l : List Int} (h0 : 0 ≤ base) (h1 : base ≤ 100) (h2 : -50000 ≤ last) (h3 : last ≤ 50000) (h4 : l.length ≤ 32) (h5 : okL l last l.length = true) : mayL base last l = true := by
  simp only [mayL, Bool.and_eq_true, decide_eq_true_eq]
  exact ⟨⟨⟨⟨⟨h0, h1⟩, h2⟩, h3⟩, h4⟩, h5⟩
theorem mayI_no {base last : Int} {l : List Int} (h : mayL base last l = false) : mayI base last l = 1 := by unfold mayI; rw [h]; rfl
theorem mayI_yes {base last : Int} {l : List Int} (h : mayL base last l = true) : mayI base last l = 0 := by unfold mayI; rw [h]; rfl
theorem gone_q {x : Int} (h0 : 0 ≤ x) (h1 : x ≤ 9223372036854775807) : IntKind.wrap .i64 (Int.tdiv (IntKind.wrap .i64 x) 1000000000) = x / 1000000000 ∧ Int.tmod (IntKind.wrap .i64 x) 1000000000 = x % 1000000000 := by
  rw [show IntKind.wrap .i64 x = x from IntWalk.i64_in x (by omega), Int.tdiv_eq_ediv_of_nonneg h0, Int.tmod_eq_emod_of_nonneg h0]
  exact ⟨IntWalk.i64_in _ (by omega), rfl⟩
noncomputable def yfI : Nat → List Value → Int
  | 10, [.int _ b, .int _ t, l] => mayI b t (intsOf l)
  | 11, [l, .int _ d, .int _ n] => (cntL (intsOf l) d n.toNat : Int)
  | 12, [l, .int _ d] => (ctL (intsOf l) d : Int)
  | 13, [l, .int _ n] => leastL (intsOf l) n.toNat
  | 14, [.int _ b, .int _ t, l, .int _ d] => wrongI b t (intsOf l) d
  | 15, [.int _ b, l, .int _ d] => secL b (intsOf l) d
  | 16, [.int _ b, .int _ t, l, .int _ d] => aheadI b t (intsOf l) d
  | 17, [.int _ b, .int _ t, l, .int _ d] => lenI b t (intsOf l) d
  | 18, [.int _ b, .int _ t, l, .int _ d] => begI b t (intsOf l) d
  | 19, [.int _ b, .int _ t, l, .int _ n] => utcE b t (intsOf l) n
  | 20, [.int _ b, .int _ t, l, .int _ n] => utcD b t (intsOf l) n
  | 21, [.int _ b, .int _ t, l, .int _ n] => utcS b t (intsOf l) n
  | 22, [.int _ b, .int _ t, l, .int _ n] => utcN b t (intsOf l) n
  | 23, [.int _ a] => szE a
  | 24, [.int _ a] => satE a
  | 25, [.int _ a] => svE a
  | 26, [.int _ a] => erE a
  | 27, [.int _ a, .int _ b] => dqE a b
  | 28, [.int _ a, .int _ b] => dmE a b
  | 29, [.int _ b] => deE b
  | i, l => zb6I i l
noncomputable def yfB : Nat → List Value → Bool
  | 3, [l, .int _ t, .int _ n] => okL (intsOf l) t n.toNat
  | 4, [.int _ b, .int _ t, l] => mayL b t (intsOf l)
  | i, l => zb6B i l
noncomputable def yfV : Nat → List Value → Value
  | i, l => zb6V i l
noncomputable abbrev yfE (iv : List Int) (bv : List Bool) (vv : List Value) (sv : List ByteArray) : Env := { iv := iv, bv := bv, vv := vv, sv := sv, fi := yfI, fb := yfB, fv := yfV, et := 182 }
set_option maxHeartbeats 8000000 in
theorem yfup : Agree 10 3 9 (zb6E [] [] [] []) (yfE [] [] [] []) := ⟨rfl, (by
    intro f hf
    funext l
    show yfI f l = zb6I f l
    unfold yfI
    split <;> first | rfl | omega), (by
    intro f hf
    funext l
    show yfB f l = zb6B f l
    unfold yfB
    split <;> first | rfl | omega), (by
    intro f hf
    funext l
    show yfV f l = zb6V f l
    unfold yfV
    split <;> first | rfl | omega)⟩
theorem yfi_may (k1 : IntKind) (b : Int) (k2 : IntKind) (t : Int) (l : Value) : yfI 10 [.int k1 b, .int k2 t, l] = mayI b t (intsOf l) := rfl
theorem yfi_lcnt (l : Value) (k1 : IntKind) (d : Int) (k2 : IntKind) (n : Int) : yfI 11 [l, .int k1 d, .int k2 n] = (cntL (intsOf l) d n.toNat : Int) := rfl
theorem yfi_lct (l : Value) (k1 : IntKind) (d : Int) : yfI 12 [l, .int k1 d] = (ctL (intsOf l) d : Int) := rfl
theorem yfi_least (l : Value) (k1 : IntKind) (n : Int) : yfI 13 [l, .int k1 n] = leastL (intsOf l) n.toNat := rfl
theorem yfi_wrong (k1 : IntKind) (b : Int) (k2 : IntKind) (t : Int) (l : Value) (k3 : IntKind) (d : Int) : yfI 14 [.int k1 b, .int k2 t, l, .int k3 d] = wrongI b t (intsOf l) d := rfl
theorem yfi_sec (k1 : IntKind) (b : Int) (l : Value) (k2 : IntKind) (d : Int) : yfI 15 [.int k1 b, l, .int k2 d] = secL b (intsOf l) d := rfl
theorem yfi_aheadI (k1 : IntKind) (b : Int) (k2 : IntKind) (t : Int) (l : Value) (k3 : IntKind) (d : Int) : yfI 16 [.int k1 b, .int k2 t, l, .int k3 d] = aheadI b t (intsOf l) d := rfl
theorem yfi_lenI (k1 : IntKind) (b : Int) (k2 : IntKind) (t : Int) (l : Value) (k3 : IntKind) (d : Int) : yfI 17 [.int k1 b, .int k2 t, l, .int k3 d] = lenI b t (intsOf l) d := rfl
theorem yfi_begI (k1 : IntKind) (b : Int) (k2 : IntKind) (t : Int) (l : Value) (k3 : IntKind) (d : Int) : yfI 18 [.int k1 b, .int k2 t, l, .int k3 d] = begI b t (intsOf l) d := rfl
theorem yfi_utcE (k1 : IntKind) (b : Int) (k2 : IntKind) (t : Int) (l : Value) (k3 : IntKind) (n : Int) : yfI 19 [.int k1 b, .int k2 t, l, .int k3 n] = utcE b t (intsOf l) n := rfl
theorem yfi_utcD (k1 : IntKind) (b : Int) (k2 : IntKind) (t : Int) (l : Value) (k3 : IntKind) (n : Int) : yfI 20 [.int k1 b, .int k2 t, l, .int k3 n] = utcD b t (intsOf l) n := rfl
theorem yfi_utcS (k1 : IntKind) (b : Int) (k2 : IntKind) (t : Int) (l : Value) (k3 : IntKind) (n : Int) : yfI 21 [.int k1 b, .int k2 t, l, .int k3 n] = utcS b t (intsOf l) n := rfl
theorem yfi_utcN (k1 : IntKind) (b : Int) (k2 : IntKind) (t : Int) (l : Value) (k3 : IntKind) (n : Int) : yfI 22 [.int k1 b, .int k2 t, l, .int k3 n] = utcN b t (intsOf l) n := rfl
theorem yfi_sz (k1 : IntKind) (a : Int) : yfI 23 [.int k1 a] = szE a := rfl
theorem yfi_sa (k1 : IntKind) (a : Int) : yfI 24 [.int k1 a] = satE a := rfl
theorem yfi_nv (k1 : IntKind) (a : Int) : yfI 25 [.int k1 a] = svE a := rfl
theorem yfi_ne (k1 : IntKind) (a : Int) : yfI 26 [.int k1 a] = erE a := rfl
theorem yfi_dq (k1 : IntKind) (a : Int) (k2 : IntKind) (b : Int) : yfI 27 [.int k1 a, .int k2 b] = dqE a b := rfl
theorem yfi_dm (k1 : IntKind) (a : Int) (k2 : IntKind) (b : Int) : yfI 28 [.int k1 a, .int k2 b] = dmE a b := rfl
theorem yfi_de (k1 : IntKind) (b : Int) : yfI 29 [.int k1 b] = deE b := rfl
theorem yfb_lok (l : Value) (k1 : IntKind) (t : Int) (k2 : IntKind) (n : Int) : yfB 3 [l, .int k1 t, .int k2 n] = okL (intsOf l) t n.toNat := rfl
def nsub_tree : Tree :=
 (.br (lt_ v1_ (.lit 0))
 (.br (lt_ (wr_ (ad_ lM_ v1_)) v0_)
 (.ret (.tup (.cons (.int .i64 (.lit 0)) (.cons (.iface 182 (.int .i64 (.lit 2))) .nil))))
 (.br (lt_ (.lit 0) v1_)
 (.br (lt_ v0_ (wr_ (ad_ lm_ v1_)))
 (.ret (.tup (.cons (.int .i64 (.lit 0)) (.cons (.iface 182 (.int .i64 (.lit 2))) .nil))))
 (.ret (.tup (.cons (.int .i64 (wr_ (sb_ v0_ v1_))) (.cons (.cst .nilI) .nil)))))
 (.ret (.tup (.cons (.int .i64 (wr_ (sb_ v0_ v1_))) (.cons (.cst .nilI) .nil))))))
 (.br (lt_ (.lit 0) v1_)
 (.br (lt_ v0_ (wr_ (ad_ lm_ v1_)))
 (.ret (.tup (.cons (.int .i64 (.lit 0)) (.cons (.iface 182 (.int .i64 (.lit 2))) .nil))))
 (.ret (.tup (.cons (.int .i64 (wr_ (sb_ v0_ v1_))) (.cons (.cst .nilI) .nil)))))
 (.ret (.tup (.cons (.int .i64 (wr_ (sb_ v0_ v1_))) (.cons (.cst .nilI) .nil))))))
abbrev yfc_nsub : Con := ⟨167, [z0_, z1_], (an_ (an_ (le_ lm_ v0_) (le_ v0_ lM_)) (an_ (le_ lm_ v1_) (le_ v1_ lM_))), (.tup (.cons (.int .i64 (.iapp 25 (.cons (.int .i64 (sb_ v0_ v1_)) .nil))) (.cons (.err (.iapp 26 (.cons (.int .i64 (sb_ v0_ v1_)) .nil))) .nil))), ⟨2, 0, 0, 0⟩, none⟩
theorem nsub_w : walk Tryd.prog 182 ⟨[], syG, [], [], []⟩ [] .v yfc_nsub yfc_nsub.n 3000 = some nsub_tree := by kernel_rfl
theorem nsub_h (a : Int) (b : Int) (hc : holds (yfE [a, b] [] [] []) (an_ (an_ (le_ lm_ v0_) (le_ v0_ lM_)) (an_ (le_ lm_ v1_) (le_ v1_ lM_)))) (hty : patsTyp (yfE [a, b] [] [] []) [z0_, z1_]) : nsub_tree.holds (fun v_ => v_ = denV (yfE [a, b] [] [] []) b0 (.tup (.cons (.int .i64 (.iapp 25 (.cons (.int .i64 (sb_ v0_ v1_)) .nil))) (.cons (.err (.iapp 26 (.cons (.int .i64 (sb_ v0_ v1_)) .nil))) .nil)))) (yfE [a, b] [] [] []) := by
  simp only [Tree.holds, Sy.holds, AllN, Env.more, yfE, List.cons_append, List.nil_append, List.append_nil, denV, denI, denB, denL, I2.den, VOp.den, List.getD_cons_zero, List.getD_cons_succ, Cst.den, syso, syse, syio, sybo, List.map_nil, List.map_cons, B2.ofInts, B2.denI, B2.denB, if_true, Bool.false_eq_true, if_false, Nat.div_one, Nat.mul_one, Nat.add_zero, holds] at hc
  simp only [patsTyp, patTyp, patTypL, yfE, denV, denL, List.getD_cons_zero, List.getD_cons_succ, and_true, true_and] at hty
  unfold nsub_tree
  simp only [Tree.holds, Sy.holds, AllN, Env.more, yfE, List.cons_append, List.nil_append, List.append_nil, denV, denI, denB, denL, I2.den, VOp.den, List.getD_cons_zero, List.getD_cons_succ, Cst.den, syso, syse, syio, sybo, yfi_nv, yfi_ne, List.map_nil, List.map_cons, B2.ofInts, B2.denI, B2.denB, if_true, Bool.false_eq_true, if_false, Nat.div_one, Nat.mul_one, Nat.add_zero]
  refine ⟨fun h0 => ?_, fun h0 => ?_⟩
  ·
   have wf0 := wr_i64 (9223372036854775807 + b)
   refine ⟨fun h1 => ?_, fun h1 => ?_⟩
   ·
    have hs := svE_spec (a - b)
    by_cases hr : -9223372036854775808 ≤ a - b ∧ a - b ≤ 9223372036854775807
    · have e1 : svE (a - b) = a - b := by omega
      have e2 : erE (a - b) = 0 := by omega
      rw [e1, e2]
      first
      | (exfalso; omega)
      | (rw [show IntKind.wrap .i64 (a - b) = a - b by omega]; rfl)
    · have e1 : svE (a - b) = 0 := by omega
      have e2 : erE (a - b) = 2 := by omega
      rw [e1, e2]
      first
      | (exfalso; omega)
      | rfl
   ·
    refine ⟨fun h2 => ?_, fun h2 => ?_⟩
    ·
     have wf1 := wr_i64 ((-9223372036854775808) + b)
     refine ⟨fun h3 => ?_, fun h3 => ?_⟩
     ·
      have hs := svE_spec (a - b)
      by_cases hr : -9223372036854775808 ≤ a - b ∧ a - b ≤ 9223372036854775807
      · have e1 : svE (a - b) = a - b := by omega
        have e2 : erE (a - b) = 0 := by omega
        rw [e1, e2]
        first
        | (exfalso; omega)
        | (rw [show IntKind.wrap .i64 (a - b) = a - b by omega]; rfl)
      · have e1 : svE (a - b) = 0 := by omega
        have e2 : erE (a - b) = 2 := by omega
        rw [e1, e2]
        first
        | (exfalso; omega)
        | rfl
     ·
      have wf2 := wr_i64 (a - b)
      have hs := svE_spec (a - b)
      by_cases hr : -9223372036854775808 ≤ a - b ∧ a - b ≤ 9223372036854775807
      · have e1 : svE (a - b) = a - b := by omega
        have e2 : erE (a - b) = 0 := by omega
        rw [e1, e2]
        first
        | (exfalso; omega)
        | (rw [show IntKind.wrap .i64 (a - b) = a - b by omega]; rfl)
      · have e1 : svE (a - b) = 0 := by omega
        have e2 : erE (a - b) = 2 := by omega
        rw [e1, e2]
        first
        | (exfalso; omega)
        | rfl
    ·
     have wf3 := wr_i64 (a - b)
     have hs := svE_spec (a - b)
     by_cases hr : -9223372036854775808 ≤ a - b ∧ a - b ≤ 9223372036854775807
     · have e1 : svE (a - b) = a - b := by omega
       have e2 : erE (a - b) = 0 := by omega
       rw [e1, e2]
       first
       | (exfalso; omega)
       | (rw [show IntKind.wrap .i64 (a - b) = a - b by omega]; rfl)
     · have e1 : svE (a - b) = 0 := by omega
       have e2 : erE (a - b) = 2 := by omega
       rw [e1, e2]
       first
       | (exfalso; omega)
       | rfl
  ·
   refine ⟨fun h4 => ?_, fun h4 => ?_⟩
   ·
    have wf4 := wr_i64 ((-9223372036854775808) + b)
    refine ⟨fun h5 => ?_, fun h5 => ?_⟩
    ·
     have hs := svE_spec (a - b)
     by_cases hr : -9223372036854775808 ≤ a - b ∧ a - b ≤ 9223372036854775807
     · have e1 : svE (a - b) = a - b := by omega
       have e2 : erE (a - b) = 0 := by omega
       rw [e1, e2]
       first
       | (exfalso; omega)
       | (rw [show IntKind.wrap .i64 (a - b) = a - b by omega]; rfl)
     · have e1 : svE (a - b) = 0 := by omega
       have e2 : erE (a - b) = 2 := by omega
       rw [e1, e2]
       first
       | (exfalso; omega)
       | rfl
    ·
     have wf5 := wr_i64 (a - b)
     have hs := svE_spec (a - b)
     by_cases hr : -9223372036854775808 ≤ a - b ∧ a - b ≤ 9223372036854775807
     · have e1 : svE (a - b) = a - b := by omega
       have e2 : erE (a - b) = 0 := by omega
       rw [e1, e2]
       first
       | (exfalso; omega)
       | (rw [show IntKind.wrap .i64 (a - b) = a - b by omega]; rfl)
     · have e1 : svE (a - b) = 0 := by omega
       have e2 : erE (a - b) = 2 := by omega
       rw [e1, e2]
       first
       | (exfalso; omega)
       | rfl
   ·
    have wf6 := wr_i64 (a - b)
    have hs := svE_spec (a - b)
    by_cases hr : -9223372036854775808 ≤ a - b ∧ a - b ≤ 9223372036854775807
    · have e1 : svE (a - b) = a - b := by omega
      have e2 : erE (a - b) = 0 := by omega
      rw [e1, e2]
      first
      | (exfalso; omega)
      | (rw [show IntKind.wrap .i64 (a - b) = a - b by omega]; rfl)
    · have e1 : svE (a - b) = 0 := by omega
      have e2 : erE (a - b) = 2 := by omega
      rw [e1, e2]
      first
      | (exfalso; omega)
      | rfl
theorem yfg_nsub : yfc_nsub.Good Tryd.prog syG (yfE [] [] [] []) := good_of_walk (Γ := ⟨[], syG, [], [], []⟩) (ρ := yfE [] [] [] []) sym nsub_w rfl (fun _ _ _ _ => ok_nil) (fun a b hc hty => nsub_h a b hc hty)
def subsat_tree : Tree :=
 (.need (an_ (an_ (le_ lm_ v0_) (le_ v0_ lM_)) (an_ (le_ lm_ v1_) (le_ v1_ lM_)))
 (.br (eq_ (.iapp 26 (.cons (.int .i64 (sb_ v0_ v1_)) .nil)) (.lit 0))
 (.ret (.int .i64 (.iapp 25 (.cons (.int .i64 (sb_ v0_ v1_)) .nil))))
 (.br (lt_ v1_ (.lit 0))
 (.ret (.int .i64 lM_))
 (.ret (.int .i64 lm_)))))
abbrev yfc_subsat : Con := ⟨198, [z0_, z1_], (an_ (an_ (le_ lm_ v0_) (le_ v0_ lM_)) (an_ (le_ lm_ v1_) (le_ v1_ lM_))), (.int .i64 (.iapp 24 (.cons (.int .i64 (sb_ v0_ v1_)) .nil))), ⟨2, 0, 0, 0⟩, none⟩
theorem subsat_w : walk Tryd.prog 182 ⟨[yfc_nsub], syG, [], [], []⟩ [] .v yfc_subsat yfc_subsat.n 3000 = some subsat_tree := by kernel_rfl
theorem subsat_h (a : Int) (b : Int) (hc : holds (yfE [a, b] [] [] []) (an_ (an_ (le_ lm_ v0_) (le_ v0_ lM_)) (an_ (le_ lm_ v1_) (le_ v1_ lM_)))) (hty : patsTyp (yfE [a, b] [] [] []) [z0_, z1_]) : subsat_tree.holds (fun v_ => v_ = denV (yfE [a, b] [] [] []) b0 (.int .i64 (.iapp 24 (.cons (.int .i64 (sb_ v0_ v1_)) .nil)))) (yfE [a, b] [] [] []) := by
  simp only [Tree.holds, Sy.holds, AllN, Env.more, yfE, List.cons_append, List.nil_append, List.append_nil, denV, denI, denB, denL, I2.den, VOp.den, List.getD_cons_zero, List.getD_cons_succ, Cst.den, syso, syse, syio, sybo, List.map_nil, List.map_cons, B2.ofInts, B2.denI, B2.denB, if_true, Bool.false_eq_true, if_false, Nat.div_one, Nat.mul_one, Nat.add_zero, holds] at hc
  simp only [patsTyp, patTyp, patTypL, yfE, denV, denL, List.getD_cons_zero, List.getD_cons_succ, and_true, true_and] at hty
  unfold subsat_tree
  simp only [Tree.holds, Sy.holds, AllN, Env.more, yfE, List.cons_append, List.nil_append, List.append_nil, denV, denI, denB, denL, I2.den, VOp.den, List.getD_cons_zero, List.getD_cons_succ, Cst.den, syso, syse, syio, sybo, yfi_sa, yfi_nv, yfi_ne, List.map_nil, List.map_cons, B2.ofInts, B2.denI, B2.denB, if_true, Bool.false_eq_true, if_false, Nat.div_one, Nat.mul_one, Nat.add_zero]
  refine ⟨?_, fun h0 => ?_⟩
  ·
   omega
  ·
   refine ⟨fun h1 => ?_, fun h1 => ?_⟩
   ·
    have hs := svE_spec (a - b)
    have ht := satE_spec (a - b)
    first
    | (exfalso; omega)
    | (rw [show satE (a - b) = svE (a - b) by omega]; done)
    | (rw [show satE (a - b) = 9223372036854775807 by omega]; done)
    | (rw [show satE (a - b) = -9223372036854775808 by omega]; done)
   ·
    refine ⟨fun h2 => ?_, fun h2 => ?_⟩
    ·
     have hs := svE_spec (a - b)
     have ht := satE_spec (a - b)
     first
     | (exfalso; omega)
     | (rw [show satE (a - b) = svE (a - b) by omega]; done)
     | (rw [show satE (a - b) = 9223372036854775807 by omega]; done)
     | (rw [show satE (a - b) = -9223372036854775808 by omega]; done)
    ·
     have hs := svE_spec (a - b)
     have ht := satE_spec (a - b)
     first
     | (exfalso; omega)
     | (rw [show satE (a - b) = svE (a - b) by omega]; done)
     | (rw [show satE (a - b) = 9223372036854775807 by omega]; done)
     | (rw [show satE (a - b) = -9223372036854775808 by omega]; done)
theorem yfg_subsat : yfc_subsat.Good Tryd.prog syG (yfE [] [] [] []) := good_of_walk (Γ := ⟨[yfc_nsub], syG, [], [], []⟩) (ρ := yfE [] [] [] []) sym subsat_w rfl (fun _ _ _ _ => (ok_cons (Con.Good.env yfg_nsub _ _ _ _) ok_nil)) (fun a b hc hty => subsat_h a b hc hty)
def size_tree : Tree :=
 (.br (lt_ v0_ (.lit 0))
 (.need (an_ (le_ lm_ v0_) (le_ v0_ lM_))
 (.ret (.int .i64 (.iapp 24 (.cons (.int .i64 (sb_ (.lit 0) v0_)) .nil)))))
 (.ret z0_))
abbrev yfc_size : Con := ⟨159, [z0_], (an_ (le_ lm_ v0_) (le_ v0_ lM_)), (.int .i64 (.iapp 23 (.cons z0_ .nil))), ⟨1, 0, 0, 0⟩, none⟩
theorem size_w : walk Tryd.prog 182 ⟨[yfc_subsat], syG, [], [], []⟩ [] .v yfc_size yfc_size.n 3000 = some size_tree := by kernel_rfl
theorem size_h (a : Int) (hc : holds (yfE [a] [] [] []) (an_ (le_ lm_ v0_) (le_ v0_ lM_))) (hty : patsTyp (yfE [a] [] [] []) [z0_]) : size_tree.holds (fun v_ => v_ = denV (yfE [a] [] [] []) b0 (.int .i64 (.iapp 23 (.cons z0_ .nil)))) (yfE [a] [] [] []) := by
  simp only [Tree.holds, Sy.holds, AllN, Env.more, yfE, List.cons_append, List.nil_append, List.append_nil, denV, denI, denB, denL, I2.den, VOp.den, List.getD_cons_zero, List.getD_cons_succ, Cst.den, syso, syse, syio, sybo, List.map_nil, List.map_cons, B2.ofInts, B2.denI, B2.denB, if_true, Bool.false_eq_true, if_false, Nat.div_one, Nat.mul_one, Nat.add_zero, holds] at hc
  simp only [patsTyp, patTyp, patTypL, yfE, denV, denL, List.getD_cons_zero, List.getD_cons_succ, and_true, true_and] at hty
  unfold size_tree
  simp only [Tree.holds, Sy.holds, AllN, Env.more, yfE, List.cons_append, List.nil_append, List.append_nil, denV, denI, denB, denL, I2.den, VOp.den, List.getD_cons_zero, List.getD_cons_succ, Cst.den, syso, syse, syio, sybo, yfi_sz, yfi_sa, List.map_nil, List.map_cons, B2.ofInts, B2.denI, B2.denB, if_true, Bool.false_eq_true, if_false, Nat.div_one, Nat.mul_one, Nat.add_zero]
  refine ⟨fun h0 => ?_, fun h0 => ?_⟩
  ·
   refine ⟨?_, fun h1 => ?_⟩
   ·
    omega
   ·
    have hs := szE_spec a ⟨by omega, by omega⟩
    have ht := satE_spec (0 - a)
    first
    | (exfalso; omega)
    | (rw [show szE a = a by omega]; done)
    | (rw [show szE a = satE (0 - a) by omega]; done)
  ·
   have hs := szE_spec a ⟨by omega, by omega⟩
   have ht := satE_spec (0 - a)
   first
   | (exfalso; omega)
   | (rw [show szE a = a by omega]; done)
   | (rw [show szE a = satE (0 - a) by omega]; done)
theorem yfg_size : yfc_size.Good Tryd.prog syG (yfE [] [] [] []) := good_of_walk (Γ := ⟨[yfc_subsat], syG, [], [], []⟩) (ρ := yfE [] [] [] []) sym size_w rfl (fun _ _ _ _ => (ok_cons (Con.Good.env yfg_subsat _ _ _ _) ok_nil)) (fun a hc hty => size_h a hc hty)
def div_tree : Tree :=
 (.br (lt_ v1_ (.lit 1))
 (.ret (.tup (.cons (.int .i64 (.lit 0)) (.cons (.int .i64 (.lit 0)) (.cons (.iface 182 (.int .i64 (.lit 1))) .nil)))))
 (.need (.not (eq_ v1_ (.lit 0)))
 (.need (.not (eq_ v1_ (.lit 0)))
 (.br (lt_ (.i2 .rem v0_ v1_) (.lit 0))
 (.ret (.tup (.cons (.int .i64 (wr_ (sb_ (wr_ (.i2 .quo v0_ v1_)) (.lit 1)))) (.cons (.int .i64 (wr_ (ad_ (.i2 .rem v0_ v1_) v1_))) (.cons (.cst .nilI) .nil)))))
 (.ret (.tup (.cons (.int .i64 (wr_ (.i2 .quo v0_ v1_))) (.cons (.int .i64 (.i2 .rem v0_ v1_)) (.cons (.cst .nilI) .nil)))))))))
abbrev yfc_div : Con := ⟨161, [z0_, z1_], (an_ (an_ (le_ lm_ v0_) (le_ v0_ lM_)) (an_ (le_ lm_ v1_) (le_ v1_ lM_))), (.tup (.cons (.int .i64 (.iapp 27 (.cons z0_ (.cons z1_ .nil)))) (.cons (.int .i64 (.iapp 28 (.cons z0_ (.cons z1_ .nil)))) (.cons (.err (.iapp 29 (.cons z1_ .nil))) .nil)))), ⟨2, 0, 0, 0⟩, none⟩
theorem div_w : walk Tryd.prog 182 ⟨[], syG, [], [], []⟩ [] .v yfc_div yfc_div.n 3000 = some div_tree := by kernel_rfl
theorem div_h (a : Int) (b : Int) (hc : holds (yfE [a, b] [] [] []) (an_ (an_ (le_ lm_ v0_) (le_ v0_ lM_)) (an_ (le_ lm_ v1_) (le_ v1_ lM_)))) (hty : patsTyp (yfE [a, b] [] [] []) [z0_, z1_]) : div_tree.holds (fun v_ => v_ = denV (yfE [a, b] [] [] []) b0 (.tup (.cons (.int .i64 (.iapp 27 (.cons z0_ (.cons z1_ .nil)))) (.cons (.int .i64 (.iapp 28 (.cons z0_ (.cons z1_ .nil)))) (.cons (.err (.iapp 29 (.cons z1_ .nil))) .nil))))) (yfE [a, b] [] [] []) := by
  simp only [Tree.holds, Sy.holds, AllN, Env.more, yfE, List.cons_append, List.nil_append, List.append_nil, denV, denI, denB, denL, I2.den, VOp.den, List.getD_cons_zero, List.getD_cons_succ, Cst.den, syso, syse, syio, sybo, List.map_nil, List.map_cons, B2.ofInts, B2.denI, B2.denB, if_true, Bool.false_eq_true, if_false, Nat.div_one, Nat.mul_one, Nat.add_zero, holds] at hc
  simp only [patsTyp, patTyp, patTypL, yfE, denV, denL, List.getD_cons_zero, List.getD_cons_succ, and_true, true_and] at hty
  unfold div_tree
  simp only [Tree.holds, Sy.holds, AllN, Env.more, yfE, List.cons_append, List.nil_append, List.append_nil, denV, denI, denB, denL, I2.den, VOp.den, List.getD_cons_zero, List.getD_cons_succ, Cst.den, syso, syse, syio, sybo, yfi_dq, yfi_dm, yfi_de, List.map_nil, List.map_cons, B2.ofInts, B2.denI, B2.denB, if_true, Bool.false_eq_true, if_false, Nat.div_one, Nat.mul_one, Nat.add_zero]
  refine ⟨fun h0 => ?_, fun h0 => ?_⟩
  ·
   have f1 := dE_spec a b
   have f2 := dm_spec a b ⟨by omega, by omega⟩
   first
   | (exfalso; omega)
   | (simp only [Value.tuple.injEq, Value.agg.injEq, Value.int.injEq, Value.bool.injEq, Array.mk.injEq, List.cons.injEq, true_and, and_true]
      exact ⟨by omega, by omega, by first | exact errV1 (by omega) | exact errV0 (by omega) | exact errV2 (by omega) | exact errV10 (by omega) | (exfalso; omega)⟩)
  ·
   refine ⟨?_, fun h1 => ?_⟩
   ·
    omega
   ·
    refine ⟨?_, fun h2 => ?_⟩
    ·
     omega
    ·
     refine ⟨fun h3 => ?_, fun h3 => ?_⟩
     ·
      have wf0 := wr_i64 (Int.tdiv a b)
      have wf1 := wr_i64 ((IntKind.wrap .i64 (Int.tdiv a b)) - 1)
      have wf2 := wr_i64 ((Int.tmod a b) + b)
      have f1 := dE_spec a b
      have f2 := dm_spec a b ⟨by omega, by omega⟩
      first
      | (exfalso; omega)
      | (simp only [Value.tuple.injEq, Value.agg.injEq, Value.int.injEq, Value.bool.injEq, Array.mk.injEq, List.cons.injEq, true_and, and_true]
         exact ⟨by omega, by omega, by first | exact errV1 (by omega) | exact errV0 (by omega) | exact errV2 (by omega) | exact errV10 (by omega) | (exfalso; omega)⟩)
     ·
      have wf3 := wr_i64 (Int.tdiv a b)
      have f1 := dE_spec a b
      have f2 := dm_spec a b ⟨by omega, by omega⟩
      first
      | (exfalso; omega)
      | (simp only [Value.tuple.injEq, Value.agg.injEq, Value.int.injEq, Value.bool.injEq, Array.mk.injEq, List.cons.injEq, true_and, and_true]
         exact ⟨by omega, by omega, by first | exact errV1 (by omega) | exact errV0 (by omega) | exact errV2 (by omega) | exact errV10 (by omega) | (exfalso; omega)⟩)
theorem yfg_div : yfc_div.Good Tryd.prog syG (yfE [] [] [] []) := good_of_walk (Γ := ⟨[], syG, [], [], []⟩) (ρ := yfE [] [] [] []) sym div_w rfl (fun _ _ _ _ => ok_nil) (fun a b hc hty => div_h a b hc hty)
def ahead_tree : Tree :=
 (.loop ⟨2, 0, 0, 0⟩ (an_ (an_ (le_ (.lit 0) (.lit 0)) (le_ (.lit 0) (.ofI (.vop (.len 1) (.cons o0_ .nil))))) (eq_ v0_ (ad_ v0_ (.iapp 11 (.cons o0_ (.cons z2_ (.cons (.int .i64 (.lit 0)) .nil))))))) (an_ (an_ (le_ (.lit 0) v4_) (le_ v4_ (.ofI (.vop (.len 1) (.cons o0_ .nil))))) (eq_ v3_ (ad_ v0_ (.iapp 11 (.cons o0_ (.cons z2_ (.cons z4_ .nil)))))))
 (.br (lt_ v4_ (.ofI (.vop (.len 1) (.cons o0_ .nil))))
 (.need (an_ (le_ (.lit 0) v4_) (lt_ v4_ (.ofI (.vop (.len 1) (.cons o0_ .nil)))))
 (.br (lt_ (.ofI (.vop (.sel 1 0) (.cons o0_ (.cons z4_ .nil)))) v2_)
 (.back (an_ (an_ (le_ (.lit 0) (wr_ (ad_ v4_ (.lit 1)))) (le_ (wr_ (ad_ v4_ (.lit 1))) (.ofI (.vop (.len 1) (.cons o0_ .nil))))) (eq_ (wr_ (ad_ v3_ (.lit 1))) (ad_ v0_ (.iapp 11 (.cons o0_ (.cons z2_ (.cons (.int .i64 (wr_ (ad_ v4_ (.lit 1)))) .nil))))))) (sb_ (.ofI (.vop (.len 1) (.cons o0_ .nil))) (wr_ (ad_ v4_ (.lit 1)))) (sb_ (.ofI (.vop (.len 1) (.cons o0_ .nil))) v4_))
 (.back (an_ (an_ (le_ (.lit 0) (wr_ (ad_ v4_ (.lit 1)))) (le_ (wr_ (ad_ v4_ (.lit 1))) (.ofI (.vop (.len 1) (.cons o0_ .nil))))) (eq_ v3_ (ad_ v0_ (.iapp 11 (.cons o0_ (.cons z2_ (.cons (.int .i64 (wr_ (ad_ v4_ (.lit 1)))) .nil))))))) (sb_ (.ofI (.vop (.len 1) (.cons o0_ .nil))) (wr_ (ad_ v4_ (.lit 1)))) (sb_ (.ofI (.vop (.len 1) (.cons o0_ .nil))) v4_))))
 (.ret z3_)))
abbrev yfc_ahead : Con := ⟨163, [(.agg (.cons z0_ (.cons z1_ (.cons (.hs .no (.cons (.int .i64) .nil) o0_) .nil)))), z2_], (an_ (le_ (.lit 0) v0_) (an_ (le_ v0_ (.lit 100)) (le_ (.ofI (.vop (.len 1) (.cons o0_ .nil))) (.lit 32)))), (.int .i64 (ad_ v0_ (.iapp 12 (.cons o0_ (.cons z2_ .nil))))), ⟨3, 0, 1, 0⟩, none⟩
theorem ahead_w : walk Tryd.prog 182 ⟨[], syG, [], [], []⟩ [⟨0, ⟨2, 0, 0, 0⟩, [(5, z3_), (13, z4_)], none, (an_ (an_ (le_ (.lit 0) v4_) (le_ v4_ (.ofI (.vop (.len 1) (.cons o0_ .nil))))) (eq_ v3_ (ad_ v0_ (.iapp 11 (.cons o0_ (.cons z2_ (.cons z4_ .nil))))))), (sb_ (.ofI (.vop (.len 1) (.cons o0_ .nil))) v4_), 0, []⟩] .v yfc_ahead yfc_ahead.n 3000 = some ahead_tree := by kernel_rfl
theorem ahead_h (b : Int) (t : Int) (d : Int) (l : Value) (hc : holds (yfE [b, t, d] [] [l] []) (an_ (le_ (.lit 0) v0_) (an_ (le_ v0_ (.lit 100)) (le_ (.ofI (.vop (.len 1) (.cons o0_ .nil))) (.lit 32))))) (hty : patsTyp (yfE [b, t, d] [] [l] []) [(.agg (.cons z0_ (.cons z1_ (.cons (.hs .no (.cons (.int .i64) .nil) o0_) .nil)))), z2_]) : ahead_tree.holds (fun v_ => v_ = denV (yfE [b, t, d] [] [l] []) b0 (.int .i64 (ad_ v0_ (.iapp 12 (.cons o0_ (.cons z2_ .nil)))))) (yfE [b, t, d] [] [l] []) := by
  simp only [Tree.holds, Sy.holds, AllN, Env.more, yfE, List.cons_append, List.nil_append, List.append_nil, denV, denI, denB, denL, I2.den, VOp.den, List.getD_cons_zero, List.getD_cons_succ, Cst.den, syso, syse, syio, sybo, List.map_nil, List.map_cons, B2.ofInts, B2.denI, B2.denB, if_true, Bool.false_eq_true, if_false, Nat.div_one, Nat.mul_one, Nat.add_zero, holds] at hc
  simp only [patsTyp, patTyp, patTypL, yfE, denV, denL, List.getD_cons_zero, List.getD_cons_succ, and_true, true_and] at hty
  have hL_l : typ (.sl (.cons (.int .i64) .nil)) l := by first | exact hty | exact hty.1 | exact hty.2 | exact hty.1.1 | exact hty.1.2 | exact hty.2.1 | exact hty.2.2 | exact hty.2.2.1 | exact hty.2.2.2
  have hN_l := typ_len (n := 1) hL_l rfl (by omega)
  simp only [Nat.div_one, Nat.mul_one] at hN_l
  unfold ahead_tree
  simp only [Tree.holds, Sy.holds, AllN, Env.more, yfE, List.cons_append, List.nil_append, List.append_nil, denV, denI, denB, denL, I2.den, VOp.den, List.getD_cons_zero, List.getD_cons_succ, Cst.den, syso, syse, syio, sybo, yfi_lcnt, yfi_lct, List.map_nil, List.map_cons, B2.ofInts, B2.denI, B2.denB, if_true, Bool.false_eq_true, if_false, Nat.div_one, Nat.mul_one, Nat.add_zero]
  refine ⟨?_, ?_⟩
  ·
   exact ⟨⟨by omega, by omega⟩, by simp [cntL_zero]⟩
  ·
   intro i0a i0b hi0
   refine ⟨fun h0 => ?_, fun h0 => ?_⟩
   ·
    refine ⟨?_, fun h1 => ?_⟩
    ·
     omega
    ·
     refine ⟨fun h2 => ?_, fun h2 => ?_⟩
     ·
      have wf0 := wr_i64 (i0b + 1)
      have wf1 := wr_i64 (i0a + 1)
      refine ⟨?_, ?_⟩
      ·
       have hw : IntKind.wrap .i64 (i0b + 1) = i0b + 1 := by omega
       have hc := cntL_succ (day := d) (ints_at l (i := i0b.toNat) (by omega))
       have hle := cntL_le (intsOf l) d i0b.toNat
       have hv := wr_i64 (i0a + 1)
       rw [hw, toNat_succ (by omega), hc]
       first
       | (rw [if_pos h2]
          exact ⟨⟨by omega, by omega⟩, by omega⟩)
       | (rw [if_neg h2]
          exact ⟨⟨by omega, by omega⟩, by omega⟩)
      ·
       omega
     ·
      have wf2 := wr_i64 (i0b + 1)
      refine ⟨?_, ?_⟩
      ·
       have hw : IntKind.wrap .i64 (i0b + 1) = i0b + 1 := by omega
       have hc := cntL_succ (day := d) (ints_at l (i := i0b.toNat) (by omega))
       have hle := cntL_le (intsOf l) d i0b.toNat
       have hv := wr_i64 (i0a + 1)
       rw [hw, toNat_succ (by omega), hc]
       first
       | (rw [if_pos h2]
          exact ⟨⟨by omega, by omega⟩, by omega⟩)
       | (rw [if_neg h2]
          exact ⟨⟨by omega, by omega⟩, by omega⟩)
      ·
       omega
   ·
    have hn : i0b.toNat = (Sy.rows l).length := by omega
    rw [hn, ← ints_len l, cntL_all] at hi0
    simp only [Value.int.injEq, true_and]
    omega
theorem yfg_ahead : yfc_ahead.Good Tryd.prog syG (yfE [] [] [] []) := good_of_walk (Γ := ⟨[], syG, [], [], []⟩) (ρ := yfE [] [] [] []) sym ahead_w rfl (fun _ _ _ _ => ok_nil) (fun b t d l hc hty => ahead_h b t d l hc hty)
def check_tree : Tree :=
 (.br (lt_ v0_ (.lit 0))
 (.ret (.iface 182 (.int .i64 (.lit 1))))
 (.br (lt_ (.lit 100) v0_)
 (.ret (.iface 182 (.int .i64 (.lit 1))))
 (.br (lt_ v1_ (.lit (-50000)))
 (.ret (.iface 182 (.int .i64 (.lit 1))))
 (.br (lt_ (.lit 50000) v1_)
 (.ret (.iface 182 (.int .i64 (.lit 1))))
 (.br (lt_ (.lit 32) (.ofI (.vop (.len 1) (.cons o0_ .nil))))
 (.ret (.iface 182 (.int .i64 (.lit 1))))
 (.loop ⟨2, 0, 0, 0⟩ (an_ (an_ (le_ (.lit 0) (.lit 0)) (le_ (.lit 0) (.ofI (.vop (.len 1) (.cons o0_ .nil))))) (an_ (.bapp 3 (.cons o0_ (.cons z1_ (.cons (.int .i64 (.lit 0)) .nil)))) (eq_ (.lit (-50000)) (.iapp 13 (.cons o0_ (.cons (.int .i64 (.lit 0)) .nil)))))) (an_ (an_ (le_ (.lit 0) v3_) (le_ v3_ (.ofI (.vop (.len 1) (.cons o0_ .nil))))) (an_ (.bapp 3 (.cons o0_ (.cons z1_ (.cons z3_ .nil)))) (eq_ v2_ (.iapp 13 (.cons o0_ (.cons z3_ .nil))))))
 (.br (lt_ v3_ (.ofI (.vop (.len 1) (.cons o0_ .nil))))
 (.need (an_ (le_ (.lit 0) v3_) (lt_ v3_ (.ofI (.vop (.len 1) (.cons o0_ .nil)))))
 (.br (lt_ (.ofI (.vop (.sel 1 0) (.cons o0_ (.cons z3_ .nil)))) v2_)
 (.ret (.iface 182 (.int .i64 (.lit 1))))
 (.br (le_ v1_ (.ofI (.vop (.sel 1 0) (.cons o0_ (.cons z3_ .nil)))))
 (.ret (.iface 182 (.int .i64 (.lit 1))))
 (.back (an_ (an_ (le_ (.lit 0) (wr_ (ad_ v3_ (.lit 1)))) (le_ (wr_ (ad_ v3_ (.lit 1))) (.ofI (.vop (.len 1) (.cons o0_ .nil))))) (an_ (.bapp 3 (.cons o0_ (.cons z1_ (.cons (.int .i64 (wr_ (ad_ v3_ (.lit 1)))) .nil)))) (eq_ (wr_ (ad_ (.ofI (.vop (.sel 1 0) (.cons o0_ (.cons z3_ .nil)))) (.lit 1))) (.iapp 13 (.cons o0_ (.cons (.int .i64 (wr_ (ad_ v3_ (.lit 1)))) .nil)))))) (sb_ (.ofI (.vop (.len 1) (.cons o0_ .nil))) (wr_ (ad_ v3_ (.lit 1)))) (sb_ (.ofI (.vop (.len 1) (.cons o0_ .nil))) v3_)))))
 (.ret (.cst .nilI)))))))))
abbrev yfc_check : Con := ⟨134, [(.agg (.cons z0_ (.cons z1_ (.cons (.hs .no (.cons (.int .i64) .nil) o0_) .nil))))], (.tt true), (.err (.iapp 10 (.cons z0_ (.cons z1_ (.cons o0_ .nil))))), ⟨2, 0, 1, 0⟩, none⟩
theorem check_w : walk Tryd.prog 182 ⟨[], syG, [], [], []⟩ [⟨0, ⟨2, 0, 0, 0⟩, [(3, z2_), (34, z3_)], none, (an_ (an_ (le_ (.lit 0) v3_) (le_ v3_ (.ofI (.vop (.len 1) (.cons o0_ .nil))))) (an_ (.bapp 3 (.cons o0_ (.cons z1_ (.cons z3_ .nil)))) (eq_ v2_ (.iapp 13 (.cons o0_ (.cons z3_ .nil)))))), (sb_ (.ofI (.vop (.len 1) (.cons o0_ .nil))) v3_), 0, []⟩] .v yfc_check yfc_check.n 3000 = some check_tree := by kernel_rfl
theorem check_h (b : Int) (t : Int) (l : Value) (hc : holds (yfE [b, t] [] [l] []) (.tt true)) (hty : patsTyp (yfE [b, t] [] [l] []) [(.agg (.cons z0_ (.cons z1_ (.cons (.hs .no (.cons (.int .i64) .nil) o0_) .nil))))]) : check_tree.holds (fun v_ => v_ = denV (yfE [b, t] [] [l] []) b0 (.err (.iapp 10 (.cons z0_ (.cons z1_ (.cons o0_ .nil)))))) (yfE [b, t] [] [l] []) := by
  simp only [Tree.holds, Sy.holds, AllN, Env.more, yfE, List.cons_append, List.nil_append, List.append_nil, denV, denI, denB, denL, I2.den, VOp.den, List.getD_cons_zero, List.getD_cons_succ, Cst.den, syso, syse, syio, sybo, List.map_nil, List.map_cons, B2.ofInts, B2.denI, B2.denB, if_true, Bool.false_eq_true, if_false, Nat.div_one, Nat.mul_one, Nat.add_zero, holds] at hc
  simp only [patsTyp, patTyp, patTypL, yfE, denV, denL, List.getD_cons_zero, List.getD_cons_succ, and_true, true_and] at hty
  have hL_l : typ (.sl (.cons (.int .i64) .nil)) l := by first | exact hty | exact hty.1 | exact hty.2 | exact hty.1.1 | exact hty.1.2 | exact hty.2.1 | exact hty.2.2 | exact hty.2.2.1 | exact hty.2.2.2
  have hN_l := typ_len (n := 1) hL_l rfl (by omega)
  simp only [Nat.div_one, Nat.mul_one] at hN_l
  unfold check_tree
  simp only [Tree.holds, Sy.holds, AllN, Env.more, yfE, List.cons_append, List.nil_append, List.append_nil, denV, denI, denB, denL, I2.den, VOp.den, List.getD_cons_zero, List.getD_cons_succ, Cst.den, syso, syse, syio, sybo, yfi_may, yfi_least, yfb_lok, List.map_nil, List.map_cons, B2.ofInts, B2.denI, B2.denB, if_true, Bool.false_eq_true, if_false, Nat.div_one, Nat.mul_one, Nat.add_zero]
  have hlen := ints_len l
  refine ⟨fun h0 => ?_, fun h0 => ?_⟩
  ·
   first
   | exact errV1 (mayI_no (mayL_not (by omega)))
   | (refine errV0 (mayI_yes (mayL_yes (by omega) (by omega) (by omega) (by omega) (by omega) ?_)); rw [show (intsOf l).length = i0b.toNat by omega]; exact hok)
   | (refine errV1 (mayI_no (mayL_bad (j := i0b.toNat) (by omega) ?_)); have hg := getD_of (d := (0 : Int)) (ints_at l (i := i0b.toNat) (by omega)); simp only [okJ, hg, ← hle, Bool.and_eq_false_iff, decide_eq_false_iff_not]; omega)
  ·
   refine ⟨fun h1 => ?_, fun h1 => ?_⟩
   ·
    first
    | exact errV1 (mayI_no (mayL_not (by omega)))
    | (refine errV0 (mayI_yes (mayL_yes (by omega) (by omega) (by omega) (by omega) (by omega) ?_)); rw [show (intsOf l).length = i0b.toNat by omega]; exact hok)
    | (refine errV1 (mayI_no (mayL_bad (j := i0b.toNat) (by omega) ?_)); have hg := getD_of (d := (0 : Int)) (ints_at l (i := i0b.toNat) (by omega)); simp only [okJ, hg, ← hle, Bool.and_eq_false_iff, decide_eq_false_iff_not]; omega)
   ·
    refine ⟨fun h2 => ?_, fun h2 => ?_⟩
    ·
     first
     | exact errV1 (mayI_no (mayL_not (by omega)))
     | (refine errV0 (mayI_yes (mayL_yes (by omega) (by omega) (by omega) (by omega) (by omega) ?_)); rw [show (intsOf l).length = i0b.toNat by omega]; exact hok)
     | (refine errV1 (mayI_no (mayL_bad (j := i0b.toNat) (by omega) ?_)); have hg := getD_of (d := (0 : Int)) (ints_at l (i := i0b.toNat) (by omega)); simp only [okJ, hg, ← hle, Bool.and_eq_false_iff, decide_eq_false_iff_not]; omega)
    ·
     refine ⟨fun h3 => ?_, fun h3 => ?_⟩
     ·
      first
      | exact errV1 (mayI_no (mayL_not (by omega)))
      | (refine errV0 (mayI_yes (mayL_yes (by omega) (by omega) (by omega) (by omega) (by omega) ?_)); rw [show (intsOf l).length = i0b.toNat by omega]; exact hok)
      | (refine errV1 (mayI_no (mayL_bad (j := i0b.toNat) (by omega) ?_)); have hg := getD_of (d := (0 : Int)) (ints_at l (i := i0b.toNat) (by omega)); simp only [okJ, hg, ← hle, Bool.and_eq_false_iff, decide_eq_false_iff_not]; omega)
     ·
      refine ⟨fun h4 => ?_, fun h4 => ?_⟩
      ·
       first
       | exact errV1 (mayI_no (mayL_not (by omega)))
       | (refine errV0 (mayI_yes (mayL_yes (by omega) (by omega) (by omega) (by omega) (by omega) ?_)); rw [show (intsOf l).length = i0b.toNat by omega]; exact hok)
       | (refine errV1 (mayI_no (mayL_bad (j := i0b.toNat) (by omega) ?_)); have hg := getD_of (d := (0 : Int)) (ints_at l (i := i0b.toNat) (by omega)); simp only [okJ, hg, ← hle, Bool.and_eq_false_iff, decide_eq_false_iff_not]; omega)
      ·
       refine ⟨?_, ?_⟩
       ·
        exact ⟨⟨by omega, by omega⟩, rfl, rfl⟩
       ·
        intro i0a i0b hi0
        obtain ⟨⟨hr0, hr1⟩, hok, hle⟩ := hi0
        refine ⟨fun h5 => ?_, fun h5 => ?_⟩
        ·
         refine ⟨?_, fun h6 => ?_⟩
         ·
          omega
         ·
          refine ⟨fun h7 => ?_, fun h7 => ?_⟩
          ·
           first
           | exact errV1 (mayI_no (mayL_not (by omega)))
           | (refine errV0 (mayI_yes (mayL_yes (by omega) (by omega) (by omega) (by omega) (by omega) ?_)); rw [show (intsOf l).length = i0b.toNat by omega]; exact hok)
           | (refine errV1 (mayI_no (mayL_bad (j := i0b.toNat) (by omega) ?_)); have hg := getD_of (d := (0 : Int)) (ints_at l (i := i0b.toNat) (by omega)); simp only [okJ, hg, ← hle, Bool.and_eq_false_iff, decide_eq_false_iff_not]; omega)
          ·
           refine ⟨fun h8 => ?_, fun h8 => ?_⟩
           ·
            first
            | exact errV1 (mayI_no (mayL_not (by omega)))
            | (refine errV0 (mayI_yes (mayL_yes (by omega) (by omega) (by omega) (by omega) (by omega) ?_)); rw [show (intsOf l).length = i0b.toNat by omega]; exact hok)
            | (refine errV1 (mayI_no (mayL_bad (j := i0b.toNat) (by omega) ?_)); have hg := getD_of (d := (0 : Int)) (ints_at l (i := i0b.toNat) (by omega)); simp only [okJ, hg, ← hle, Bool.and_eq_false_iff, decide_eq_false_iff_not]; omega)
           ·
            have wf0 := wr_i64 (i0b + 1)
            have wf1 := wr_i64 ((Go.RowKit.intOf ((rows l).getD (Int.toNat i0b) Go.undef)) + 1)
            refine ⟨?_, ?_⟩
            ·
             have hw : IntKind.wrap .i64 (i0b + 1) = i0b + 1 := by omega
             have hg := getD_of (d := (0 : Int)) (ints_at l (i := i0b.toNat) (by omega))
             have e1 : leastL (intsOf l) (i0b.toNat + 1) = Go.RowKit.intOf ((Sy.rows l).getD i0b.toNat Go.undef) + 1 := by rw [← hg]; simp [leastL]
             rw [hw, toNat_succ (by omega), okL_succ, hok, e1]
             simp only [okJ, hg, ← hle, Bool.true_and, Bool.and_eq_true, decide_eq_true_eq]
             have hge : -50000 ≤ i0a := by
               rw [hle]
               unfold leastL
               split
               · omega
               · have := okL_ge hok (i0b.toNat - 1) (by omega); omega
             refine ⟨⟨by omega, by omega⟩, ⟨by omega, by omega⟩, by omega⟩
            ·
             omega
        ·
         first
         | exact errV1 (mayI_no (mayL_not (by omega)))
         | (refine errV0 (mayI_yes (mayL_yes (by omega) (by omega) (by omega) (by omega) (by omega) ?_)); rw [show (intsOf l).length = i0b.toNat by omega]; exact hok)
         | (refine errV1 (mayI_no (mayL_bad (j := i0b.toNat) (by omega) ?_)); have hg := getD_of (d := (0 : Int)) (ints_at l (i := i0b.toNat) (by omega)); simp only [okJ, hg, ← hle, Bool.and_eq_false_iff, decide_eq_false_iff_not]; omega)
theorem yfg_check : yfc_check.Good Tryd.prog syG (yfE [] [] [] []) := good_of_walk (Γ := ⟨[], syG, [], [], []⟩) (ρ := yfE [] [] [] []) sym check_w rfl (fun _ _ _ _ => ok_nil) (fun b t l hc hty => check_h b t l hc hty)
def rmay9_tree : Tree :=
 (.loop ⟨1, 0, 0, 0⟩ (an_ (an_ (le_ (.lit 0) (.lit 0)) (le_ (.lit 0) (.ofI (.vop (.len 1) (.cons o0_ .nil))))) (.bapp 3 (.cons o0_ (.cons z1_ (.cons (.int .i64 (.lit 0)) .nil))))) (an_ (an_ (le_ (.lit 0) v2_) (le_ v2_ (.ofI (.vop (.len 1) (.cons o0_ .nil))))) (.bapp 3 (.cons o0_ (.cons z1_ (.cons z2_ .nil)))))
 (.br (lt_ v2_ (.ofI (.vop (.len 1) (.cons o0_ .nil))))
 (.need (an_ (le_ (.lit 0) v2_) (lt_ v2_ (.ofI (.vop (.len 1) (.cons o0_ .nil)))))
 (.br (lt_ (.ofI (.vop (.sel 1 0) (.cons o0_ (.cons z2_ .nil)))) (.lit (-50000)))
 (.ret (.bool (.tt false)))
 (.need (an_ (le_ (.lit 0) v2_) (lt_ v2_ (.ofI (.vop (.len 1) (.cons o0_ .nil)))))
 (.br (le_ v1_ (.ofI (.vop (.sel 1 0) (.cons o0_ (.cons z2_ .nil)))))
 (.ret (.bool (.tt false)))
 (.br (lt_ (.lit 0) v2_)
 (.need (an_ (le_ (.lit 0) v2_) (lt_ v2_ (.ofI (.vop (.len 1) (.cons o0_ .nil)))))
 (.need (an_ (le_ (.lit 0) (wr_ (sb_ v2_ (.lit 1)))) (lt_ (wr_ (sb_ v2_ (.lit 1))) (.ofI (.vop (.len 1) (.cons o0_ .nil)))))
 (.br (le_ (.ofI (.vop (.sel 1 0) (.cons o0_ (.cons z2_ .nil)))) (.ofI (.vop (.sel 1 0) (.cons o0_ (.cons (.int .i64 (wr_ (sb_ v2_ (.lit 1)))) .nil)))))
 (.ret (.bool (.tt false)))
 (.back (an_ (an_ (le_ (.lit 0) (wr_ (ad_ v2_ (.lit 1)))) (le_ (wr_ (ad_ v2_ (.lit 1))) (.ofI (.vop (.len 1) (.cons o0_ .nil))))) (.bapp 3 (.cons o0_ (.cons z1_ (.cons (.int .i64 (wr_ (ad_ v2_ (.lit 1)))) .nil))))) (sb_ (.ofI (.vop (.len 1) (.cons o0_ .nil))) (wr_ (ad_ v2_ (.lit 1)))) (sb_ (.ofI (.vop (.len 1) (.cons o0_ .nil))) v2_)))))
 (.back (an_ (an_ (le_ (.lit 0) (wr_ (ad_ v2_ (.lit 1)))) (le_ (wr_ (ad_ v2_ (.lit 1))) (.ofI (.vop (.len 1) (.cons o0_ .nil))))) (.bapp 3 (.cons o0_ (.cons z1_ (.cons (.int .i64 (wr_ (ad_ v2_ (.lit 1)))) .nil))))) (sb_ (.ofI (.vop (.len 1) (.cons o0_ .nil))) (wr_ (ad_ v2_ (.lit 1)))) (sb_ (.ofI (.vop (.len 1) (.cons o0_ .nil))) v2_)))))))
 (.br (le_ (.lit 0) v0_)
 (.br (le_ v0_ (.lit 100))
 (.br (le_ (.lit (-50000)) v1_)
 (.br (le_ v1_ (.lit 50000))
 (.ret (.bool (le_ (.ofI (.vop (.len 1) (.cons o0_ .nil))) (.lit 32))))
 (.ret (.bool (.tt false))))
 (.ret (.bool (.tt false))))
 (.ret (.bool (.tt false))))
 (.ret (.bool (.tt false))))))
abbrev yfc_rmay9 : Con := ⟨136, [(.agg (.cons z0_ (.cons z1_ (.cons (.hs .no (.cons (.int .i64) .nil) o0_) .nil))))], (.tt true), (.bool (eq_ (.iapp 10 (.cons z0_ (.cons z1_ (.cons o0_ .nil)))) (.lit 0))), ⟨2, 0, 1, 0⟩, none⟩
theorem rmay9_w : walk Tryd.prog 182 ⟨[], syG, [], [], []⟩ [⟨0, ⟨1, 0, 0, 0⟩, [(3, z2_)], none, (an_ (an_ (le_ (.lit 0) v2_) (le_ v2_ (.ofI (.vop (.len 1) (.cons o0_ .nil))))) (.bapp 3 (.cons o0_ (.cons z1_ (.cons z2_ .nil))))), (sb_ (.ofI (.vop (.len 1) (.cons o0_ .nil))) v2_), 0, []⟩] .v yfc_rmay9 yfc_rmay9.n 3000 = some rmay9_tree := by kernel_rfl
theorem rmay9_h (b : Int) (t : Int) (l : Value) (hc : holds (yfE [b, t] [] [l] []) (.tt true)) (hty : patsTyp (yfE [b, t] [] [l] []) [(.agg (.cons z0_ (.cons z1_ (.cons (.hs .no (.cons (.int .i64) .nil) o0_) .nil))))]) : rmay9_tree.holds (fun v_ => v_ = denV (yfE [b, t] [] [l] []) b0 (.bool (eq_ (.iapp 10 (.cons z0_ (.cons z1_ (.cons o0_ .nil)))) (.lit 0)))) (yfE [b, t] [] [l] []) := by
  simp only [Tree.holds, Sy.holds, AllN, Env.more, yfE, List.cons_append, List.nil_append, List.append_nil, denV, denI, denB, denL, I2.den, VOp.den, List.getD_cons_zero, List.getD_cons_succ, Cst.den, syso, syse, syio, sybo, List.map_nil, List.map_cons, B2.ofInts, B2.denI, B2.denB, if_true, Bool.false_eq_true, if_false, Nat.div_one, Nat.mul_one, Nat.add_zero, holds] at hc
  simp only [patsTyp, patTyp, patTypL, yfE, denV, denL, List.getD_cons_zero, List.getD_cons_succ, and_true, true_and] at hty
  have hL_l : typ (.sl (.cons (.int .i64) .nil)) l := by first | exact hty | exact hty.1 | exact hty.2 | exact hty.1.1 | exact hty.1.2 | exact hty.2.1 | exact hty.2.2 | exact hty.2.2.1 | exact hty.2.2.2
  have hN_l := typ_len (n := 1) hL_l rfl (by omega)
  simp only [Nat.div_one, Nat.mul_one] at hN_l
  unfold rmay9_tree
  simp only [Tree.holds, Sy.holds, AllN, Env.more, yfE, List.cons_append, List.nil_append, List.append_nil, denV, denI, denB, denL, I2.den, VOp.den, List.getD_cons_zero, List.getD_cons_succ, Cst.den, syso, syse, syio, sybo, yfi_may, yfb_lok, List.map_nil, List.map_cons, B2.ofInts, B2.denI, B2.denB, if_true, Bool.false_eq_true, if_false, Nat.div_one, Nat.mul_one, Nat.add_zero]
  have hlen := ints_len l
  refine ⟨?_, ?_⟩
  ·
   exact ⟨⟨by omega, by omega⟩, rfl⟩
  ·
   intro i0a hi0
   obtain ⟨⟨hr0, hr1⟩, hok⟩ := hi0
   refine ⟨fun h0 => ?_, fun h0 => ?_⟩
   ·
    refine ⟨?_, fun h1 => ?_⟩
    ·
     omega
    ·
     refine ⟨fun h2 => ?_, fun h2 => ?_⟩
     ·
      have hmb := mayB b t (intsOf l)
      rw [← hmb]
      by_cases hlt : i0a < ((Sy.rows l).length : Int)
      · have hg := getD_of (d := (0 : Int)) (ints_at l (i := i0a.toNat) (by omega))
        have hp : 0 < i0a → (intsOf l).getD (i0a.toNat - 1) 0 = Go.RowKit.intOf ((Sy.rows l).getD (i0a.toNat - 1) Go.undef) := fun h => getD_of (d := (0 : Int)) (ints_at l (i := i0a.toNat - 1) (by omega))
        have hq : 0 < i0a → IntKind.wrap .i64 (i0a - 1) = i0a - 1 := fun h => by have := wr_i64 (i0a - 1); omega
        have hz : (i0a - 1).toNat = i0a.toNat - 1 := by omega
        have hls : leastL (intsOf l) i0a.toNat = if i0a.toNat = 0 then -50000 else (intsOf l).getD (i0a.toNat - 1) 0 + 1 := rfl
        have hpv : 0 < i0a → -50000 ≤ (intsOf l).getD (i0a.toNat - 1) 0 := fun h => (okL_ge hok (i0a.toNat - 1) (by omega)).1
        first
        | (exfalso; omega)
        | (refine congrArg Value.bool (mayL_bad (j := i0a.toNat) (by omega) ?_).symm
           simp only [okJ, hg, Bool.and_eq_false_iff, decide_eq_false_iff_not]
           by_cases h0a : 0 < i0a
           · have k1 := hp h0a; have k2 := hq h0a; have k3 := hpv h0a
             rw [if_neg (by omega)] at hls
             try simp only [k2, hz] at *
             omega
           · rw [if_pos (by omega)] at hls; omega)
      · have hfull : okL (intsOf l) t (intsOf l).length = true := by rw [show (intsOf l).length = i0a.toNat by omega]; exact hok
        refine congrArg Value.bool ?_
        first
        | exact (mayL_not (by omega)).symm
        | (by_cases hc : (Sy.rows l).length ≤ 32
           · rw [mayL_yes (by omega) (by omega) (by omega) (by omega) (by omega) hfull]; simp; omega
           · rw [mayL_not (by omega)]; simp; omega)
     ·
      refine ⟨?_, fun h3 => ?_⟩
      ·
       omega
      ·
       refine ⟨fun h4 => ?_, fun h4 => ?_⟩
       ·
        have hmb := mayB b t (intsOf l)
        rw [← hmb]
        by_cases hlt : i0a < ((Sy.rows l).length : Int)
        · have hg := getD_of (d := (0 : Int)) (ints_at l (i := i0a.toNat) (by omega))
          have hp : 0 < i0a → (intsOf l).getD (i0a.toNat - 1) 0 = Go.RowKit.intOf ((Sy.rows l).getD (i0a.toNat - 1) Go.undef) := fun h => getD_of (d := (0 : Int)) (ints_at l (i := i0a.toNat - 1) (by omega))
          have hq : 0 < i0a → IntKind.wrap .i64 (i0a - 1) = i0a - 1 := fun h => by have := wr_i64 (i0a - 1); omega
          have hz : (i0a - 1).toNat = i0a.toNat - 1 := by omega
          have hls : leastL (intsOf l) i0a.toNat = if i0a.toNat = 0 then -50000 else (intsOf l).getD (i0a.toNat - 1) 0 + 1 := rfl
          have hpv : 0 < i0a → -50000 ≤ (intsOf l).getD (i0a.toNat - 1) 0 := fun h => (okL_ge hok (i0a.toNat - 1) (by omega)).1
          first
          | (exfalso; omega)
          | (refine congrArg Value.bool (mayL_bad (j := i0a.toNat) (by omega) ?_).symm
             simp only [okJ, hg, Bool.and_eq_false_iff, decide_eq_false_iff_not]
             by_cases h0a : 0 < i0a
             · have k1 := hp h0a; have k2 := hq h0a; have k3 := hpv h0a
               rw [if_neg (by omega)] at hls
               try simp only [k2, hz] at *
               omega
             · rw [if_pos (by omega)] at hls; omega)
        · have hfull : okL (intsOf l) t (intsOf l).length = true := by rw [show (intsOf l).length = i0a.toNat by omega]; exact hok
          refine congrArg Value.bool ?_
          first
          | exact (mayL_not (by omega)).symm
          | (by_cases hc : (Sy.rows l).length ≤ 32
             · rw [mayL_yes (by omega) (by omega) (by omega) (by omega) (by omega) hfull]; simp; omega
             · rw [mayL_not (by omega)]; simp; omega)
       ·
        refine ⟨fun h5 => ?_, fun h5 => ?_⟩
        ·
         refine ⟨?_, fun h6 => ?_⟩
         ·
          omega
         ·
          have wf0 := wr_i64 (i0a - 1)
          refine ⟨?_, fun h7 => ?_⟩
          ·
           omega
          ·
           try simp only [hw0]
           refine ⟨fun h8 => ?_, fun h8 => ?_⟩
           ·
            have hmb := mayB b t (intsOf l)
            rw [← hmb]
            by_cases hlt : i0a < ((Sy.rows l).length : Int)
            · have hg := getD_of (d := (0 : Int)) (ints_at l (i := i0a.toNat) (by omega))
              have hp : 0 < i0a → (intsOf l).getD (i0a.toNat - 1) 0 = Go.RowKit.intOf ((Sy.rows l).getD (i0a.toNat - 1) Go.undef) := fun h => getD_of (d := (0 : Int)) (ints_at l (i := i0a.toNat - 1) (by omega))
              have hq : 0 < i0a → IntKind.wrap .i64 (i0a - 1) = i0a - 1 := fun h => by have := wr_i64 (i0a - 1); omega
              have hz : (i0a - 1).toNat = i0a.toNat - 1 := by omega
              have hls : leastL (intsOf l) i0a.toNat = if i0a.toNat = 0 then -50000 else (intsOf l).getD (i0a.toNat - 1) 0 + 1 := rfl
              have hpv : 0 < i0a → -50000 ≤ (intsOf l).getD (i0a.toNat - 1) 0 := fun h => (okL_ge hok (i0a.toNat - 1) (by omega)).1
              first
              | (exfalso; omega)
              | (refine congrArg Value.bool (mayL_bad (j := i0a.toNat) (by omega) ?_).symm
                 simp only [okJ, hg, Bool.and_eq_false_iff, decide_eq_false_iff_not]
                 by_cases h0a : 0 < i0a
                 · have k1 := hp h0a; have k2 := hq h0a; have k3 := hpv h0a
                   rw [if_neg (by omega)] at hls
                   try simp only [k2, hz] at *
                   omega
                 · rw [if_pos (by omega)] at hls; omega)
            · have hfull : okL (intsOf l) t (intsOf l).length = true := by rw [show (intsOf l).length = i0a.toNat by omega]; exact hok
              refine congrArg Value.bool ?_
              first
              | exact (mayL_not (by omega)).symm
              | (by_cases hc : (Sy.rows l).length ≤ 32
                 · rw [mayL_yes (by omega) (by omega) (by omega) (by omega) (by omega) hfull]; simp; omega
                 · rw [mayL_not (by omega)]; simp; omega)
           ·
            have wf1 := wr_i64 (i0a + 1)
            refine ⟨?_, ?_⟩
            ·
             have hw : IntKind.wrap .i64 (i0a + 1) = i0a + 1 := by omega
             have hg := getD_of (d := (0 : Int)) (ints_at l (i := i0a.toNat) (by omega))
             have hp : 0 < i0a → (intsOf l).getD (i0a.toNat - 1) 0 = Go.RowKit.intOf ((Sy.rows l).getD (i0a.toNat - 1) Go.undef) := fun h => getD_of (d := (0 : Int)) (ints_at l (i := i0a.toNat - 1) (by omega))
             have hq : 0 < i0a → IntKind.wrap .i64 (i0a - 1) = i0a - 1 := fun h => by have := wr_i64 (i0a - 1); omega
             have hz : (i0a - 1).toNat = i0a.toNat - 1 := by omega
             have hls : leastL (intsOf l) i0a.toNat = if i0a.toNat = 0 then -50000 else (intsOf l).getD (i0a.toNat - 1) 0 + 1 := rfl
             have hpv : 0 < i0a → -50000 ≤ (intsOf l).getD (i0a.toNat - 1) 0 := fun h => (okL_ge hok (i0a.toNat - 1) (by omega)).1
             refine ⟨⟨by omega, by omega⟩, ?_⟩
             rw [hw, toNat_succ (by omega), okL_succ, hok]
             simp only [okJ, hg, Bool.true_and, Bool.and_eq_true, decide_eq_true_eq]
             by_cases h0a : 0 < i0a
             · have k1 := hp h0a; have k2 := hq h0a; have k3 := hpv h0a
               rw [if_neg (by omega)] at hls
               try simp only [k2, hz] at *
               omega
             · rw [if_pos (by omega)] at hls; omega
            ·
             omega
        ·
         have wf2 := wr_i64 (i0a + 1)
         refine ⟨?_, ?_⟩
         ·
          have hw : IntKind.wrap .i64 (i0a + 1) = i0a + 1 := by omega
          have hg := getD_of (d := (0 : Int)) (ints_at l (i := i0a.toNat) (by omega))
          have hp : 0 < i0a → (intsOf l).getD (i0a.toNat - 1) 0 = Go.RowKit.intOf ((Sy.rows l).getD (i0a.toNat - 1) Go.undef) := fun h => getD_of (d := (0 : Int)) (ints_at l (i := i0a.toNat - 1) (by omega))
          have hq : 0 < i0a → IntKind.wrap .i64 (i0a - 1) = i0a - 1 := fun h => by have := wr_i64 (i0a - 1); omega
          have hz : (i0a - 1).toNat = i0a.toNat - 1 := by omega
          have hls : leastL (intsOf l) i0a.toNat = if i0a.toNat = 0 then -50000 else (intsOf l).getD (i0a.toNat - 1) 0 + 1 := rfl
          have hpv : 0 < i0a → -50000 ≤ (intsOf l).getD (i0a.toNat - 1) 0 := fun h => (okL_ge hok (i0a.toNat - 1) (by omega)).1
          refine ⟨⟨by omega, by omega⟩, ?_⟩
          rw [hw, toNat_succ (by omega), okL_succ, hok]
          simp only [okJ, hg, Bool.true_and, Bool.and_eq_true, decide_eq_true_eq]
          by_cases h0a : 0 < i0a
          · have k1 := hp h0a; have k2 := hq h0a; have k3 := hpv h0a
            rw [if_neg (by omega)] at hls
            try simp only [k2, hz] at *
            omega
          · rw [if_pos (by omega)] at hls; omega
         ·
          omega
   ·
    refine ⟨fun h9 => ?_, fun h9 => ?_⟩
    ·
     refine ⟨fun h10 => ?_, fun h10 => ?_⟩
     ·
      refine ⟨fun h11 => ?_, fun h11 => ?_⟩
      ·
       refine ⟨fun h12 => ?_, fun h12 => ?_⟩
       ·
        have hmb := mayB b t (intsOf l)
        rw [← hmb]
        by_cases hlt : i0a < ((Sy.rows l).length : Int)
        · have hg := getD_of (d := (0 : Int)) (ints_at l (i := i0a.toNat) (by omega))
          have hp : 0 < i0a → (intsOf l).getD (i0a.toNat - 1) 0 = Go.RowKit.intOf ((Sy.rows l).getD (i0a.toNat - 1) Go.undef) := fun h => getD_of (d := (0 : Int)) (ints_at l (i := i0a.toNat - 1) (by omega))
          have hq : 0 < i0a → IntKind.wrap .i64 (i0a - 1) = i0a - 1 := fun h => by have := wr_i64 (i0a - 1); omega
          have hz : (i0a - 1).toNat = i0a.toNat - 1 := by omega
          have hls : leastL (intsOf l) i0a.toNat = if i0a.toNat = 0 then -50000 else (intsOf l).getD (i0a.toNat - 1) 0 + 1 := rfl
          have hpv : 0 < i0a → -50000 ≤ (intsOf l).getD (i0a.toNat - 1) 0 := fun h => (okL_ge hok (i0a.toNat - 1) (by omega)).1
          first
          | (exfalso; omega)
          | (refine congrArg Value.bool (mayL_bad (j := i0a.toNat) (by omega) ?_).symm
             simp only [okJ, hg, Bool.and_eq_false_iff, decide_eq_false_iff_not]
             by_cases h0a : 0 < i0a
             · have k1 := hp h0a; have k2 := hq h0a; have k3 := hpv h0a
               rw [if_neg (by omega)] at hls
               try simp only [k2, hz] at *
               omega
             · rw [if_pos (by omega)] at hls; omega)
        · have hfull : okL (intsOf l) t (intsOf l).length = true := by rw [show (intsOf l).length = i0a.toNat by omega]; exact hok
          refine congrArg Value.bool ?_
          first
          | exact (mayL_not (by omega)).symm
          | (by_cases hc : (Sy.rows l).length ≤ 32
             · rw [mayL_yes (by omega) (by omega) (by omega) (by omega) (by omega) hfull]; simp; omega
             · rw [mayL_not (by omega)]; simp; omega)
       ·
        have hmb := mayB b t (intsOf l)
        rw [← hmb]
        by_cases hlt : i0a < ((Sy.rows l).length : Int)
        · have hg := getD_of (d := (0 : Int)) (ints_at l (i := i0a.toNat) (by omega))
          have hp : 0 < i0a → (intsOf l).getD (i0a.toNat - 1) 0 = Go.RowKit.intOf ((Sy.rows l).getD (i0a.toNat - 1) Go.undef) := fun h => getD_of (d := (0 : Int)) (ints_at l (i := i0a.toNat - 1) (by omega))
          have hq : 0 < i0a → IntKind.wrap .i64 (i0a - 1) = i0a - 1 := fun h => by have := wr_i64 (i0a - 1); omega
          have hz : (i0a - 1).toNat = i0a.toNat - 1 := by omega
          have hls : leastL (intsOf l) i0a.toNat = if i0a.toNat = 0 then -50000 else (intsOf l).getD (i0a.toNat - 1) 0 + 1 := rfl
          have hpv : 0 < i0a → -50000 ≤ (intsOf l).getD (i0a.toNat - 1) 0 := fun h => (okL_ge hok (i0a.toNat - 1) (by omega)).1
          first
          | (exfalso; omega)
          | (refine congrArg Value.bool (mayL_bad (j := i0a.toNat) (by omega) ?_).symm
             simp only [okJ, hg, Bool.and_eq_false_iff, decide_eq_false_iff_not]
             by_cases h0a : 0 < i0a
             · have k1 := hp h0a; have k2 := hq h0a; have k3 := hpv h0a
               rw [if_neg (by omega)] at hls
               try simp only [k2, hz] at *
               omega
             · rw [if_pos (by omega)] at hls; omega)
        · have hfull : okL (intsOf l) t (intsOf l).length = true := by rw [show (intsOf l).length = i0a.toNat by omega]; exact hok
          refine congrArg Value.bool ?_
          first
          | exact (mayL_not (by omega)).symm
          | (by_cases hc : (Sy.rows l).length ≤ 32
             · rw [mayL_yes (by omega) (by omega) (by omega) (by omega) (by omega) hfull]; simp; omega
             · rw [mayL_not (by omega)]; simp; omega)
      ·
       have hmb := mayB b t (intsOf l)
       rw [← hmb]
       by_cases hlt : i0a < ((Sy.rows l).length : Int)
       · have hg := getD_of (d := (0 : Int)) (ints_at l (i := i0a.toNat) (by omega))
         have hp : 0 < i0a → (intsOf l).getD (i0a.toNat - 1) 0 = Go.RowKit.intOf ((Sy.rows l).getD (i0a.toNat - 1) Go.undef) := fun h => getD_of (d := (0 : Int)) (ints_at l (i := i0a.toNat - 1) (by omega))
         have hq : 0 < i0a → IntKind.wrap .i64 (i0a - 1) = i0a - 1 := fun h => by have := wr_i64 (i0a - 1); omega
         have hz : (i0a - 1).toNat = i0a.toNat - 1 := by omega
         have hls : leastL (intsOf l) i0a.toNat = if i0a.toNat = 0 then -50000 else (intsOf l).getD (i0a.toNat - 1) 0 + 1 := rfl
         have hpv : 0 < i0a → -50000 ≤ (intsOf l).getD (i0a.toNat - 1) 0 := fun h => (okL_ge hok (i0a.toNat - 1) (by omega)).1
         first
         | (exfalso; omega)
         | (refine congrArg Value.bool (mayL_bad (j := i0a.toNat) (by omega) ?_).symm
            simp only [okJ, hg, Bool.and_eq_false_iff, decide_eq_false_iff_not]
            by_cases h0a : 0 < i0a
            · have k1 := hp h0a; have k2 := hq h0a; have k3 := hpv h0a
              rw [if_neg (by omega)] at hls
              try simp only [k2, hz] at *
              omega
            · rw [if_pos (by omega)] at hls; omega)
       · have hfull : okL (intsOf l) t (intsOf l).length = true := by rw [show (intsOf l).length = i0a.toNat by omega]; exact hok
         refine congrArg Value.bool ?_
         first
         | exact (mayL_not (by omega)).symm
         | (by_cases hc : (Sy.rows l).length ≤ 32
            · rw [mayL_yes (by omega) (by omega) (by omega) (by omega) (by omega) hfull]; simp; omega
            · rw [mayL_not (by omega)]; simp; omega)
     ·
      have hmb := mayB b t (intsOf l)
      rw [← hmb]
      by_cases hlt : i0a < ((Sy.rows l).length : Int)
      · have hg := getD_of (d := (0 : Int)) (ints_at l (i := i0a.toNat) (by omega))
        have hp : 0 < i0a → (intsOf l).getD (i0a.toNat - 1) 0 = Go.RowKit.intOf ((Sy.rows l).getD (i0a.toNat - 1) Go.undef) := fun h => getD_of (d := (0 : Int)) (ints_at l (i := i0a.toNat - 1) (by omega))
        have hq : 0 < i0a → IntKind.wrap .i64 (i0a - 1) = i0a - 1 := fun h => by have := wr_i64 (i0a - 1); omega
        have hz : (i0a - 1).toNat = i0a.toNat - 1 := by omega
        have hls : leastL (intsOf l) i0a.toNat = if i0a.toNat = 0 then -50000 else (intsOf l).getD (i0a.toNat - 1) 0 + 1 := rfl
        have hpv : 0 < i0a → -50000 ≤ (intsOf l).getD (i0a.toNat - 1) 0 := fun h => (okL_ge hok (i0a.toNat - 1) (by omega)).1
        first
        | (exfalso; omega)
        | (refine congrArg Value.bool (mayL_bad (j := i0a.toNat) (by omega) ?_).symm
           simp only [okJ, hg, Bool.and_eq_false_iff, decide_eq_false_iff_not]
           by_cases h0a : 0 < i0a
           · have k1 := hp h0a; have k2 := hq h0a; have k3 := hpv h0a
             rw [if_neg (by omega)] at hls
             try simp only [k2, hz] at *
             omega
           · rw [if_pos (by omega)] at hls; omega)
      · have hfull : okL (intsOf l) t (intsOf l).length = true := by rw [show (intsOf l).length = i0a.toNat by omega]; exact hok
        refine congrArg Value.bool ?_
        first
        | exact (mayL_not (by omega)).symm
        | (by_cases hc : (Sy.rows l).length ≤ 32
           · rw [mayL_yes (by omega) (by omega) (by omega) (by omega) (by omega) hfull]; simp; omega
           · rw [mayL_not (by omega)]; simp; omega)
    ·
     have hmb := mayB b t (intsOf l)
     rw [← hmb]
     by_cases hlt : i0a < ((Sy.rows l).length : Int)
     · have hg := getD_of (d := (0 : Int)) (ints_at l (i := i0a.toNat) (by omega))
       have hp : 0 < i0a → (intsOf l).getD (i0a.toNat - 1) 0 = Go.RowKit.intOf ((Sy.rows l).getD (i0a.toNat - 1) Go.undef) := fun h => getD_of (d := (0 : Int)) (ints_at l (i := i0a.toNat - 1) (by omega))
       have hq : 0 < i0a → IntKind.wrap .i64 (i0a - 1) = i0a - 1 := fun h => by have := wr_i64 (i0a - 1); omega
       have hz : (i0a - 1).toNat = i0a.toNat - 1 := by omega
       have hls : leastL (intsOf l) i0a.toNat = if i0a.toNat = 0 then -50000 else (intsOf l).getD (i0a.toNat - 1) 0 + 1 := rfl
       have hpv : 0 < i0a → -50000 ≤ (intsOf l).getD (i0a.toNat - 1) 0 := fun h => (okL_ge hok (i0a.toNat - 1) (by omega)).1
       first
       | (exfalso; omega)
       | (refine congrArg Value.bool (mayL_bad (j := i0a.toNat) (by omega) ?_).symm
          simp only [okJ, hg, Bool.and_eq_false_iff, decide_eq_false_iff_not]
          by_cases h0a : 0 < i0a
          · have k1 := hp h0a; have k2 := hq h0a; have k3 := hpv h0a
            rw [if_neg (by omega)] at hls
            try simp only [k2, hz] at *
            omega
          · rw [if_pos (by omega)] at hls; omega)
     · have hfull : okL (intsOf l) t (intsOf l).length = true := by rw [show (intsOf l).length = i0a.toNat by omega]; exact hok
       refine congrArg Value.bool ?_
       first
       | exact (mayL_not (by omega)).symm
       | (by_cases hc : (Sy.rows l).length ≤ 32
          · rw [mayL_yes (by omega) (by omega) (by omega) (by omega) (by omega) hfull]; simp; omega
          · rw [mayL_not (by omega)]; simp; omega)
theorem yfg_rmay9 : yfc_rmay9.Good Tryd.prog syG (yfE [] [] [] []) := good_of_walk (Γ := ⟨[], syG, [], [], []⟩) (ρ := yfE [] [] [] []) sym rmay9_w rfl (fun _ _ _ _ => ok_nil) (fun b t l hc hty => rmay9_h b t l hc hty)
def lknown_tree : Tree :=
 (.br (.not (eq_ (.iapp 10 (.cons z0_ (.cons z1_ (.cons o0_ .nil)))) (.lit 0)))
 (.ret (.err (.iapp 10 (.cons z0_ (.cons z1_ (.cons o0_ .nil))))))
 (.br (lt_ v2_ (.lit (-50000)))
 (.ret (.iface 182 (.int .i64 (.lit 2))))
 (.br (le_ v1_ v2_)
 (.ret (.iface 182 (.int .i64 (.lit 10))))
 (.ret (.cst .nilI)))))
abbrev yfc_lknown : Con := ⟨162, [(.agg (.cons z0_ (.cons z1_ (.cons (.hs .no (.cons (.int .i64) .nil) o0_) .nil)))), z2_], (.tt true), (.err (.iapp 14 (.cons z0_ (.cons z1_ (.cons o0_ (.cons z2_ .nil)))))), ⟨3, 0, 1, 0⟩, none⟩
theorem lknown_w : walk Tryd.prog 182 ⟨[yfc_check], syG, [], [], []⟩ [] .v yfc_lknown yfc_lknown.n 3000 = some lknown_tree := by kernel_rfl
theorem lknown_h (b : Int) (t : Int) (d : Int) (l : Value) (hc : holds (yfE [b, t, d] [] [l] []) (.tt true)) (hty : patsTyp (yfE [b, t, d] [] [l] []) [(.agg (.cons z0_ (.cons z1_ (.cons (.hs .no (.cons (.int .i64) .nil) o0_) .nil)))), z2_]) : lknown_tree.holds (fun v_ => v_ = denV (yfE [b, t, d] [] [l] []) b0 (.err (.iapp 14 (.cons z0_ (.cons z1_ (.cons o0_ (.cons z2_ .nil))))))) (yfE [b, t, d] [] [l] []) := by
  simp only [Tree.holds, Sy.holds, AllN, Env.more, yfE, List.cons_append, List.nil_append, List.append_nil, denV, denI, denB, denL, I2.den, VOp.den, List.getD_cons_zero, List.getD_cons_succ, Cst.den, syso, syse, syio, sybo, List.map_nil, List.map_cons, B2.ofInts, B2.denI, B2.denB, if_true, Bool.false_eq_true, if_false, Nat.div_one, Nat.mul_one, Nat.add_zero, holds] at hc
  simp only [patsTyp, patTyp, patTypL, yfE, denV, denL, List.getD_cons_zero, List.getD_cons_succ, and_true, true_and] at hty
  have hL_l : typ (.sl (.cons (.int .i64) .nil)) l := by first | exact hty | exact hty.1 | exact hty.2 | exact hty.1.1 | exact hty.1.2 | exact hty.2.1 | exact hty.2.2 | exact hty.2.2.1 | exact hty.2.2.2
  have hN_l := typ_len (n := 1) hL_l rfl (by omega)
  simp only [Nat.div_one, Nat.mul_one] at hN_l
  unfold lknown_tree
  simp only [Tree.holds, Sy.holds, AllN, Env.more, yfE, List.cons_append, List.nil_append, List.append_nil, denV, denI, denB, denL, I2.den, VOp.den, List.getD_cons_zero, List.getD_cons_succ, Cst.den, syso, syse, syio, sybo, yfi_may, yfi_wrong, List.map_nil, List.map_cons, B2.ofInts, B2.denI, B2.denB, if_true, Bool.false_eq_true, if_false, Nat.div_one, Nat.mul_one, Nat.add_zero]
  have f1 := wrongI_spec b t (intsOf l) d
  have hlen := ints_len l
  refine ⟨fun h0 => ?_, fun h0 => ?_⟩
  ·
   first
   | exact errV1 (by omega) | exact errV0 (by omega) | exact errV2 (by omega) | exact errV10 (by omega) | (exfalso; omega) | (refine congrArg (errVal _) ?_; omega)
  ·
   refine ⟨fun h1 => ?_, fun h1 => ?_⟩
   ·
    first
    | exact errV1 (by omega) | exact errV0 (by omega) | exact errV2 (by omega) | exact errV10 (by omega) | (exfalso; omega) | (refine congrArg (errVal _) ?_; omega)
   ·
    refine ⟨fun h2 => ?_, fun h2 => ?_⟩
    ·
     first
     | exact errV1 (by omega) | exact errV0 (by omega) | exact errV2 (by omega) | exact errV10 (by omega) | (exfalso; omega) | (refine congrArg (errVal _) ?_; omega)
    ·
     first
     | exact errV1 (by omega) | exact errV0 (by omega) | exact errV2 (by omega) | exact errV10 (by omega) | (exfalso; omega) | (refine congrArg (errVal _) ?_; omega)
theorem yfg_lknown : yfc_lknown.Good Tryd.prog syG (yfE [] [] [] []) := good_of_walk (Γ := ⟨[yfc_check], syG, [], [], []⟩) (ρ := yfE [] [] [] []) sym lknown_w rfl (fun _ _ _ _ => (ok_cons (Con.Good.env yfg_check _ _ _ _) ok_nil)) (fun b t d l hc hty => lknown_h b t d l hc hty)
def begin_tree : Tree :=
 (.need (an_ (le_ (.lit 0) v0_) (an_ (le_ v0_ (.lit 100)) (le_ (.ofI (.vop (.len 1) (.cons o0_ .nil))) (.lit 32))))
 (.ret (.int .i64 (wr_ (ml_ (wr_ (ad_ (wr_ (ml_ (.lit 86400) v2_)) (ad_ v0_ (.iapp 12 (.cons o0_ (.cons z2_ .nil)))))) (.lit 1000000000))))))
abbrev yfc_begin : Con := ⟨160, [(.agg (.cons z0_ (.cons z1_ (.cons (.hs .no (.cons (.int .i64) .nil) o0_) .nil)))), z2_], (an_ (le_ (.lit 0) v0_) (an_ (le_ v0_ (.lit 100)) (an_ (le_ (.ofI (.vop (.len 1) (.cons o0_ .nil))) (.lit 32)) (an_ (le_ (.lit (-100000)) v2_) (le_ v2_ (.lit 100000)))))), (.int .i64 (ml_ (.iapp 15 (.cons z0_ (.cons o0_ (.cons z2_ .nil)))) (.lit 1000000000))), ⟨3, 0, 1, 0⟩, none⟩
theorem begin_w : walk Tryd.prog 182 ⟨[yfc_ahead], syG, [], [], []⟩ [] .v yfc_begin yfc_begin.n 3000 = some begin_tree := by kernel_rfl
theorem begin_h (b : Int) (t : Int) (d : Int) (l : Value) (hc : holds (yfE [b, t, d] [] [l] []) (an_ (le_ (.lit 0) v0_) (an_ (le_ v0_ (.lit 100)) (an_ (le_ (.ofI (.vop (.len 1) (.cons o0_ .nil))) (.lit 32)) (an_ (le_ (.lit (-100000)) v2_) (le_ v2_ (.lit 100000))))))) (hty : patsTyp (yfE [b, t, d] [] [l] []) [(.agg (.cons z0_ (.cons z1_ (.cons (.hs .no (.cons (.int .i64) .nil) o0_) .nil)))), z2_]) : begin_tree.holds (fun v_ => v_ = denV (yfE [b, t, d] [] [l] []) b0 (.int .i64 (ml_ (.iapp 15 (.cons z0_ (.cons o0_ (.cons z2_ .nil)))) (.lit 1000000000)))) (yfE [b, t, d] [] [l] []) := by
  simp only [Tree.holds, Sy.holds, AllN, Env.more, yfE, List.cons_append, List.nil_append, List.append_nil, denV, denI, denB, denL, I2.den, VOp.den, List.getD_cons_zero, List.getD_cons_succ, Cst.den, syso, syse, syio, sybo, List.map_nil, List.map_cons, B2.ofInts, B2.denI, B2.denB, if_true, Bool.false_eq_true, if_false, Nat.div_one, Nat.mul_one, Nat.add_zero, holds] at hc
  simp only [patsTyp, patTyp, patTypL, yfE, denV, denL, List.getD_cons_zero, List.getD_cons_succ, and_true, true_and] at hty
  have hL_l : typ (.sl (.cons (.int .i64) .nil)) l := by first | exact hty | exact hty.1 | exact hty.2 | exact hty.1.1 | exact hty.1.2 | exact hty.2.1 | exact hty.2.2 | exact hty.2.2.1 | exact hty.2.2.2
  have hN_l := typ_len (n := 1) hL_l rfl (by omega)
  simp only [Nat.div_one, Nat.mul_one] at hN_l
  unfold begin_tree
  simp only [Tree.holds, Sy.holds, AllN, Env.more, yfE, List.cons_append, List.nil_append, List.append_nil, denV, denI, denB, denL, I2.den, VOp.den, List.getD_cons_zero, List.getD_cons_succ, Cst.den, syso, syse, syio, sybo, yfi_lct, yfi_sec, List.map_nil, List.map_cons, B2.ofInts, B2.denI, B2.denB, if_true, Bool.false_eq_true, if_false, Nat.div_one, Nat.mul_one, Nat.add_zero]
  have f1 := secL_spec b (intsOf l) d
  have hlen := ints_len l
  refine ⟨?_, fun h0 => ?_⟩
  ·
   omega
  ·
   have wf0 := wr_i64 (86400 * d)
   have wf1 := wr_i64 ((IntKind.wrap .i64 (86400 * d)) + (b + ((ctL (intsOf l) d : Int))))
   have wf2 := wr_i64 ((IntKind.wrap .i64 ((IntKind.wrap .i64 (86400 * d)) + (b + ((ctL (intsOf l) d : Int))))) * 1000000000)
   simp only [Value.int.injEq, true_and]; omega
theorem yfg_begin : yfc_begin.Good Tryd.prog syG (yfE [] [] [] []) := good_of_walk (Γ := ⟨[yfc_ahead], syG, [], [], []⟩) (ρ := yfE [] [] [] []) sym begin_w rfl (fun _ _ _ _ => (ok_cons (Con.Good.env yfg_ahead _ _ _ _) ok_nil)) (fun b t d l hc hty => begin_h b t d l hc hty)
def LAhead_tree : Tree :=
 (.br (.not (eq_ (.iapp 14 (.cons z0_ (.cons z1_ (.cons o0_ (.cons z2_ .nil))))) (.lit 0)))
 (.ret (.tup (.cons (.int .i64 (.lit 0)) (.cons (.err (.iapp 14 (.cons z0_ (.cons z1_ (.cons o0_ (.cons z2_ .nil)))))) .nil))))
 (.need (an_ (le_ (.lit 0) v0_) (an_ (le_ v0_ (.lit 100)) (le_ (.ofI (.vop (.len 1) (.cons o0_ .nil))) (.lit 32))))
 (.ret (.tup (.cons (.int .i64 (ad_ v0_ (.iapp 12 (.cons o0_ (.cons z2_ .nil))))) (.cons (.cst .nilI) .nil))))))
abbrev yfc_LAhead : Con := ⟨76, [(.agg (.cons z0_ (.cons z1_ (.cons (.hs .no (.cons (.int .i64) .nil) o0_) .nil)))), z2_], (.tt true), (.tup (.cons (.int .i64 (.iapp 16 (.cons z0_ (.cons z1_ (.cons o0_ (.cons z2_ .nil)))))) (.cons (.err (.iapp 14 (.cons z0_ (.cons z1_ (.cons o0_ (.cons z2_ .nil)))))) .nil))), ⟨3, 0, 1, 0⟩, none⟩
theorem LAhead_w : walk Tryd.prog 182 ⟨[yfc_lknown, yfc_ahead, yfc_begin], syG, [], [], []⟩ [] .v yfc_LAhead yfc_LAhead.n 3000 = some LAhead_tree := by kernel_rfl
theorem LAhead_h (b : Int) (t : Int) (d : Int) (l : Value) (hc : holds (yfE [b, t, d] [] [l] []) (.tt true)) (hty : patsTyp (yfE [b, t, d] [] [l] []) [(.agg (.cons z0_ (.cons z1_ (.cons (.hs .no (.cons (.int .i64) .nil) o0_) .nil)))), z2_]) : LAhead_tree.holds (fun v_ => v_ = denV (yfE [b, t, d] [] [l] []) b0 (.tup (.cons (.int .i64 (.iapp 16 (.cons z0_ (.cons z1_ (.cons o0_ (.cons z2_ .nil)))))) (.cons (.err (.iapp 14 (.cons z0_ (.cons z1_ (.cons o0_ (.cons z2_ .nil)))))) .nil)))) (yfE [b, t, d] [] [l] []) := by
  simp only [Tree.holds, Sy.holds, AllN, Env.more, yfE, List.cons_append, List.nil_append, List.append_nil, denV, denI, denB, denL, I2.den, VOp.den, List.getD_cons_zero, List.getD_cons_succ, Cst.den, syso, syse, syio, sybo, List.map_nil, List.map_cons, B2.ofInts, B2.denI, B2.denB, if_true, Bool.false_eq_true, if_false, Nat.div_one, Nat.mul_one, Nat.add_zero, holds] at hc
  simp only [patsTyp, patTyp, patTypL, yfE, denV, denL, List.getD_cons_zero, List.getD_cons_succ, and_true, true_and] at hty
  have hL_l : typ (.sl (.cons (.int .i64) .nil)) l := by first | exact hty | exact hty.1 | exact hty.2 | exact hty.1.1 | exact hty.1.2 | exact hty.2.1 | exact hty.2.2 | exact hty.2.2.1 | exact hty.2.2.2
  have hN_l := typ_len (n := 1) hL_l rfl (by omega)
  simp only [Nat.div_one, Nat.mul_one] at hN_l
  unfold LAhead_tree
  simp only [Tree.holds, Sy.holds, AllN, Env.more, yfE, List.cons_append, List.nil_append, List.append_nil, denV, denI, denB, denL, I2.den, VOp.den, List.getD_cons_zero, List.getD_cons_succ, Cst.den, syso, syse, syio, sybo, yfi_lct, yfi_wrong, yfi_aheadI, List.map_nil, List.map_cons, B2.ofInts, B2.denI, B2.denB, if_true, Bool.false_eq_true, if_false, Nat.div_one, Nat.mul_one, Nat.add_zero]
  have f1 := wrongI_spec b t (intsOf l) d
  have f2 := day_spec b t (intsOf l) d
  have f3 := secL_spec b (intsOf l) d
  have f4 := secL_spec b (intsOf l) (d + 1)
  have hlen := ints_len l
  refine ⟨fun h0 => ?_, fun h0 => ?_⟩
  ·
   first
   | (exfalso; omega)
   | (simp only [Value.tuple.injEq, Value.agg.injEq, Value.int.injEq, Array.mk.injEq, List.cons.injEq, true_and, and_true]; first | omega | (refine ⟨by omega, ?_⟩; (try refine And.intro ?_ ?_); all_goals first | omega | exact errV1 (by omega) | exact errV0 (by omega) | exact errV2 (by omega) | exact errV10 (by omega) | (exfalso; omega) | (refine congrArg (errVal _) ?_; omega)))
  ·
   refine ⟨?_, fun h1 => ?_⟩
   ·
    omega
   ·
    first
    | (exfalso; omega)
    | (simp only [Value.tuple.injEq, Value.agg.injEq, Value.int.injEq, Array.mk.injEq, List.cons.injEq, true_and, and_true]; first | omega | (refine ⟨by omega, ?_⟩; (try refine And.intro ?_ ?_); all_goals first | omega | exact errV1 (by omega) | exact errV0 (by omega) | exact errV2 (by omega) | exact errV10 (by omega) | (exfalso; omega) | (refine congrArg (errVal _) ?_; omega)))
theorem yfg_LAhead : yfc_LAhead.Good Tryd.prog syG (yfE [] [] [] []) := good_of_walk (Γ := ⟨[yfc_lknown, yfc_ahead, yfc_begin], syG, [], [], []⟩) (ρ := yfE [] [] [] []) sym LAhead_w rfl (fun _ _ _ _ => (ok_cons (Con.Good.env yfg_lknown _ _ _ _) (ok_cons (Con.Good.env yfg_ahead _ _ _ _) (ok_cons (Con.Good.env yfg_begin _ _ _ _) ok_nil)))) (fun b t d l hc hty => LAhead_h b t d l hc hty)
def LBegin_tree : Tree :=
 (.br (.not (eq_ (.iapp 14 (.cons z0_ (.cons z1_ (.cons o0_ (.cons z2_ .nil))))) (.lit 0)))
 (.ret (.tup (.cons (.int .i64 (.lit 0)) (.cons (.err (.iapp 14 (.cons z0_ (.cons z1_ (.cons o0_ (.cons z2_ .nil)))))) .nil))))
 (.need (an_ (le_ (.lit 0) v0_) (an_ (le_ v0_ (.lit 100)) (an_ (le_ (.ofI (.vop (.len 1) (.cons o0_ .nil))) (.lit 32)) (an_ (le_ (.lit (-100000)) v2_) (le_ v2_ (.lit 100000))))))
 (.ret (.tup (.cons (.int .i64 (ml_ (.iapp 15 (.cons z0_ (.cons o0_ (.cons z2_ .nil)))) (.lit 1000000000))) (.cons (.cst .nilI) .nil))))))
abbrev yfc_LBegin : Con := ⟨132, [(.agg (.cons z0_ (.cons z1_ (.cons (.hs .no (.cons (.int .i64) .nil) o0_) .nil)))), z2_], (.tt true), (.tup (.cons (.int .i64 (.iapp 18 (.cons z0_ (.cons z1_ (.cons o0_ (.cons z2_ .nil)))))) (.cons (.err (.iapp 14 (.cons z0_ (.cons z1_ (.cons o0_ (.cons z2_ .nil)))))) .nil))), ⟨3, 0, 1, 0⟩, none⟩
theorem LBegin_w : walk Tryd.prog 182 ⟨[yfc_lknown, yfc_ahead, yfc_begin], syG, [], [], []⟩ [] .v yfc_LBegin yfc_LBegin.n 3000 = some LBegin_tree := by kernel_rfl
theorem LBegin_h (b : Int) (t : Int) (d : Int) (l : Value) (hc : holds (yfE [b, t, d] [] [l] []) (.tt true)) (hty : patsTyp (yfE [b, t, d] [] [l] []) [(.agg (.cons z0_ (.cons z1_ (.cons (.hs .no (.cons (.int .i64) .nil) o0_) .nil)))), z2_]) : LBegin_tree.holds (fun v_ => v_ = denV (yfE [b, t, d] [] [l] []) b0 (.tup (.cons (.int .i64 (.iapp 18 (.cons z0_ (.cons z1_ (.cons o0_ (.cons z2_ .nil)))))) (.cons (.err (.iapp 14 (.cons z0_ (.cons z1_ (.cons o0_ (.cons z2_ .nil)))))) .nil)))) (yfE [b, t, d] [] [l] []) := by
  simp only [Tree.holds, Sy.holds, AllN, Env.more, yfE, List.cons_append, List.nil_append, List.append_nil, denV, denI, denB, denL, I2.den, VOp.den, List.getD_cons_zero, List.getD_cons_succ, Cst.den, syso, syse, syio, sybo, List.map_nil, List.map_cons, B2.ofInts, B2.denI, B2.denB, if_true, Bool.false_eq_true, if_false, Nat.div_one, Nat.mul_one, Nat.add_zero, holds] at hc
  simp only [patsTyp, patTyp, patTypL, yfE, denV, denL, List.getD_cons_zero, List.getD_cons_succ, and_true, true_and] at hty
  have hL_l : typ (.sl (.cons (.int .i64) .nil)) l := by first | exact hty | exact hty.1 | exact hty.2 | exact hty.1.1 | exact hty.1.2 | exact hty.2.1 | exact hty.2.2 | exact hty.2.2.1 | exact hty.2.2.2
  have hN_l := typ_len (n := 1) hL_l rfl (by omega)
  simp only [Nat.div_one, Nat.mul_one] at hN_l
  unfold LBegin_tree
  simp only [Tree.holds, Sy.holds, AllN, Env.more, yfE, List.cons_append, List.nil_append, List.append_nil, denV, denI, denB, denL, I2.den, VOp.den, List.getD_cons_zero, List.getD_cons_succ, Cst.den, syso, syse, syio, sybo, yfi_wrong, yfi_sec, yfi_begI, List.map_nil, List.map_cons, B2.ofInts, B2.denI, B2.denB, if_true, Bool.false_eq_true, if_false, Nat.div_one, Nat.mul_one, Nat.add_zero]
  have f1 := wrongI_spec b t (intsOf l) d
  have f2 := day_spec b t (intsOf l) d
  have f3 := secL_spec b (intsOf l) d
  have f4 := secL_spec b (intsOf l) (d + 1)
  have hlen := ints_len l
  refine ⟨fun h0 => ?_, fun h0 => ?_⟩
  ·
   first
   | (exfalso; omega)
   | (simp only [Value.tuple.injEq, Value.agg.injEq, Value.int.injEq, Array.mk.injEq, List.cons.injEq, true_and, and_true]; first | omega | (refine ⟨by omega, ?_⟩; (try refine And.intro ?_ ?_); all_goals first | omega | exact errV1 (by omega) | exact errV0 (by omega) | exact errV2 (by omega) | exact errV10 (by omega) | (exfalso; omega) | (refine congrArg (errVal _) ?_; omega)))
  ·
   refine ⟨?_, fun h1 => ?_⟩
   ·
    omega
   ·
    first
    | (exfalso; omega)
    | (simp only [Value.tuple.injEq, Value.agg.injEq, Value.int.injEq, Array.mk.injEq, List.cons.injEq, true_and, and_true]; first | omega | (refine ⟨by omega, ?_⟩; (try refine And.intro ?_ ?_); all_goals first | omega | exact errV1 (by omega) | exact errV0 (by omega) | exact errV2 (by omega) | exact errV10 (by omega) | (exfalso; omega) | (refine congrArg (errVal _) ?_; omega)))
theorem yfg_LBegin : yfc_LBegin.Good Tryd.prog syG (yfE [] [] [] []) := good_of_walk (Γ := ⟨[yfc_lknown, yfc_ahead, yfc_begin], syG, [], [], []⟩) (ρ := yfE [] [] [] []) sym LBegin_w rfl (fun _ _ _ _ => (ok_cons (Con.Good.env yfg_lknown _ _ _ _) (ok_cons (Con.Good.env yfg_ahead _ _ _ _) (ok_cons (Con.Good.env yfg_begin _ _ _ _) ok_nil)))) (fun b t d l hc hty => LBegin_h b t d l hc hty)
def LLength_tree : Tree :=
 (.br (.not (eq_ (.iapp 14 (.cons z0_ (.cons z1_ (.cons o0_ (.cons z2_ .nil))))) (.lit 0)))
 (.ret (.tup (.cons (.int .i64 (.lit 0)) (.cons (.err (.iapp 14 (.cons z0_ (.cons z1_ (.cons o0_ (.cons z2_ .nil)))))) .nil))))
 (.need (an_ (le_ (.lit 0) v0_) (an_ (le_ v0_ (.lit 100)) (le_ (.ofI (.vop (.len 1) (.cons o0_ .nil))) (.lit 32))))
 (.need (an_ (le_ (.lit 0) v0_) (an_ (le_ v0_ (.lit 100)) (le_ (.ofI (.vop (.len 1) (.cons o0_ .nil))) (.lit 32))))
 (.ret (.tup (.cons (.int .i64 (wr_ (ad_ (wr_ (sb_ (ad_ v0_ (.iapp 12 (.cons o0_ (.cons (.int .i64 (wr_ (ad_ v2_ (.lit 1)))) .nil)))) (ad_ v0_ (.iapp 12 (.cons o0_ (.cons z2_ .nil)))))) (.lit 86400)))) (.cons (.cst .nilI) .nil)))))))
abbrev yfc_LLength : Con := ⟨133, [(.agg (.cons z0_ (.cons z1_ (.cons (.hs .no (.cons (.int .i64) .nil) o0_) .nil)))), z2_], (.tt true), (.tup (.cons (.int .i64 (.iapp 17 (.cons z0_ (.cons z1_ (.cons o0_ (.cons z2_ .nil)))))) (.cons (.err (.iapp 14 (.cons z0_ (.cons z1_ (.cons o0_ (.cons z2_ .nil)))))) .nil))), ⟨3, 0, 1, 0⟩, none⟩
theorem LLength_w : walk Tryd.prog 182 ⟨[yfc_lknown, yfc_ahead, yfc_begin], syG, [], [], []⟩ [] .v yfc_LLength yfc_LLength.n 3000 = some LLength_tree := by kernel_rfl
theorem LLength_h (b : Int) (t : Int) (d : Int) (l : Value) (hc : holds (yfE [b, t, d] [] [l] []) (.tt true)) (hty : patsTyp (yfE [b, t, d] [] [l] []) [(.agg (.cons z0_ (.cons z1_ (.cons (.hs .no (.cons (.int .i64) .nil) o0_) .nil)))), z2_]) : LLength_tree.holds (fun v_ => v_ = denV (yfE [b, t, d] [] [l] []) b0 (.tup (.cons (.int .i64 (.iapp 17 (.cons z0_ (.cons z1_ (.cons o0_ (.cons z2_ .nil)))))) (.cons (.err (.iapp 14 (.cons z0_ (.cons z1_ (.cons o0_ (.cons z2_ .nil)))))) .nil)))) (yfE [b, t, d] [] [l] []) := by
  simp only [Tree.holds, Sy.holds, AllN, Env.more, yfE, List.cons_append, List.nil_append, List.append_nil, denV, denI, denB, denL, I2.den, VOp.den, List.getD_cons_zero, List.getD_cons_succ, Cst.den, syso, syse, syio, sybo, List.map_nil, List.map_cons, B2.ofInts, B2.denI, B2.denB, if_true, Bool.false_eq_true, if_false, Nat.div_one, Nat.mul_one, Nat.add_zero, holds] at hc
  simp only [patsTyp, patTyp, patTypL, yfE, denV, denL, List.getD_cons_zero, List.getD_cons_succ, and_true, true_and] at hty
  have hL_l : typ (.sl (.cons (.int .i64) .nil)) l := by first | exact hty | exact hty.1 | exact hty.2 | exact hty.1.1 | exact hty.1.2 | exact hty.2.1 | exact hty.2.2 | exact hty.2.2.1 | exact hty.2.2.2
  have hN_l := typ_len (n := 1) hL_l rfl (by omega)
  simp only [Nat.div_one, Nat.mul_one] at hN_l
  unfold LLength_tree
  simp only [Tree.holds, Sy.holds, AllN, Env.more, yfE, List.cons_append, List.nil_append, List.append_nil, denV, denI, denB, denL, I2.den, VOp.den, List.getD_cons_zero, List.getD_cons_succ, Cst.den, syso, syse, syio, sybo, yfi_lct, yfi_wrong, yfi_lenI, List.map_nil, List.map_cons, B2.ofInts, B2.denI, B2.denB, if_true, Bool.false_eq_true, if_false, Nat.div_one, Nat.mul_one, Nat.add_zero]
  have f1 := wrongI_spec b t (intsOf l) d
  have f2 := day_spec b t (intsOf l) d
  have f3 := secL_spec b (intsOf l) d
  have f4 := secL_spec b (intsOf l) (d + 1)
  have hlen := ints_len l
  refine ⟨fun h0 => ?_, fun h0 => ?_⟩
  ·
   first
   | (exfalso; omega)
   | (simp only [Value.tuple.injEq, Value.agg.injEq, Value.int.injEq, Array.mk.injEq, List.cons.injEq, true_and, and_true]; first | omega | (refine ⟨by omega, ?_⟩; (try refine And.intro ?_ ?_); all_goals first | omega | exact errV1 (by omega) | exact errV0 (by omega) | exact errV2 (by omega) | exact errV10 (by omega) | (exfalso; omega) | (refine congrArg (errVal _) ?_; omega)))
   | (have hw : IntKind.wrap .i64 (d + 1) = d + 1 := by omega
      simp only [hw] at *
      simp only [Value.tuple.injEq, Value.agg.injEq, Value.int.injEq, Array.mk.injEq, List.cons.injEq, true_and, and_true]
      first | omega | (refine ⟨by omega, ?_⟩; (try refine And.intro ?_ ?_); all_goals first | omega | exact errV1 (by omega) | exact errV0 (by omega) | exact errV2 (by omega) | exact errV10 (by omega) | (exfalso; omega) | (refine congrArg (errVal _) ?_; omega)))
  ·
   refine ⟨?_, fun h1 => ?_⟩
   ·
    omega
   ·
    refine ⟨?_, fun h2 => ?_⟩
    ·
     omega
    ·
     have wf0 := wr_i64 (d + 1)
     have wf1 := wr_i64 ((b + ((ctL (intsOf l) (IntKind.wrap .i64 (d + 1)) : Int))) - (b + ((ctL (intsOf l) d : Int))))
     have wf2 := wr_i64 ((IntKind.wrap .i64 ((b + ((ctL (intsOf l) (IntKind.wrap .i64 (d + 1)) : Int))) - (b + ((ctL (intsOf l) d : Int))))) + 86400)
     first
     | (exfalso; omega)
     | (simp only [Value.tuple.injEq, Value.agg.injEq, Value.int.injEq, Array.mk.injEq, List.cons.injEq, true_and, and_true]; first | omega | (refine ⟨by omega, ?_⟩; (try refine And.intro ?_ ?_); all_goals first | omega | exact errV1 (by omega) | exact errV0 (by omega) | exact errV2 (by omega) | exact errV10 (by omega) | (exfalso; omega) | (refine congrArg (errVal _) ?_; omega)))
     | (have hw : IntKind.wrap .i64 (d + 1) = d + 1 := by omega
        simp only [hw] at *
        simp only [Value.tuple.injEq, Value.agg.injEq, Value.int.injEq, Array.mk.injEq, List.cons.injEq, true_and, and_true]
        first | omega | (refine ⟨by omega, ?_⟩; (try refine And.intro ?_ ?_); all_goals first | omega | exact errV1 (by omega) | exact errV0 (by omega) | exact errV2 (by omega) | exact errV10 (by omega) | (exfalso; omega) | (refine congrArg (errVal _) ?_; omega)))
theorem yfg_LLength : yfc_LLength.Good Tryd.prog syG (yfE [] [] [] []) := good_of_walk (Γ := ⟨[yfc_lknown, yfc_ahead, yfc_begin], syG, [], [], []⟩) (ρ := yfE [] [] [] []) sym LLength_w rfl (fun _ _ _ _ => (ok_cons (Con.Good.env yfg_lknown _ _ _ _) (ok_cons (Con.Good.env yfg_ahead _ _ _ _) (ok_cons (Con.Good.env yfg_begin _ _ _ _) ok_nil)))) (fun b t d l hc hty => LLength_h b t d l hc hty)
def lutc_tree : Tree :=
 (.br (.not (eq_ (.iapp 10 (.cons z0_ (.cons z1_ (.cons o0_ .nil)))) (.lit 0)))
 (.ret (.tup (.cons (.agg (.cons (.int .i64 (.lit 0)) (.cons (.int .i64 (.lit 0)) (.cons (.int .i64 (.lit 0)) .nil)))) (.cons (.err (.iapp 10 (.cons z0_ (.cons z1_ (.cons o0_ .nil))))) .nil))))
 (.need (an_ (le_ lm_ v2_) (le_ v2_ lM_))
 (.br (le_ (.lit 4611686018427387904) (.iapp 23 (.cons z2_ .nil)))
 (.ret (.tup (.cons (.agg (.cons (.int .i64 (.lit 0)) (.cons (.int .i64 (.lit 0)) (.cons (.int .i64 (.lit 0)) .nil)))) (.cons (.iface 182 (.int .i64 (.lit 2))) .nil))))
 (.need (an_ (le_ (.lit 0) v0_) (an_ (le_ v0_ (.lit 100)) (le_ (.ofI (.vop (.len 1) (.cons o0_ .nil))) (.lit 32))))
 (.br (lt_ v2_ (ml_ (.iapp 15 (.cons z0_ (.cons o0_ (.cons (.int .i64 (.lit (-50000))) .nil)))) (.lit 1000000000)))
 (.ret (.tup (.cons (.agg (.cons (.int .i64 (.lit 0)) (.cons (.int .i64 (.lit 0)) (.cons (.int .i64 (.lit 0)) .nil)))) (.cons (.iface 182 (.int .i64 (.lit 2))) .nil))))
 (.need (an_ (le_ (.lit 0) v0_) (an_ (le_ v0_ (.lit 100)) (an_ (le_ (.ofI (.vop (.len 1) (.cons o0_ .nil))) (.lit 32)) (an_ (le_ (.lit (-100000)) v1_) (le_ v1_ (.lit 100000))))))
 (.br (le_ (ml_ (.iapp 15 (.cons z0_ (.cons o0_ (.cons z1_ .nil)))) (.lit 1000000000)) v2_)
 (.ret (.tup (.cons (.agg (.cons (.int .i64 (.lit 0)) (.cons (.int .i64 (.lit 0)) (.cons (.int .i64 (.lit 0)) .nil)))) (.cons (.iface 182 (.int .i64 (.lit 10))) .nil))))
 (.need (an_ (le_ lm_ v2_) (le_ v2_ lM_))
 (.br (.not (eq_ (.iapp 29 (.cons (.int .i64 (.lit 86400000000000)) .nil)) (.lit 0)))
 (.ret (.tup (.cons (.agg (.cons (.int .i64 (.lit 0)) (.cons (.int .i64 (.lit 0)) (.cons (.int .i64 (.lit 0)) .nil)))) (.cons (.err (.iapp 29 (.cons (.int .i64 (.lit 86400000000000)) .nil))) .nil))))
 (.need (an_ (le_ (.lit 0) v0_) (an_ (le_ v0_ (.lit 100)) (an_ (le_ (.ofI (.vop (.len 1) (.cons o0_ .nil))) (.lit 32)) (an_ (le_ (.lit (-100000)) (.iapp 27 (.cons z2_ (.cons (.int .i64 (.lit 86400000000000)) .nil)))) (le_ (.iapp 27 (.cons z2_ (.cons (.int .i64 (.lit 86400000000000)) .nil))) (.lit 100000))))))
 (.br (lt_ v2_ (ml_ (.iapp 15 (.cons z0_ (.cons o0_ (.cons (.int .i64 (.iapp 27 (.cons z2_ (.cons (.int .i64 (.lit 86400000000000)) .nil)))) .nil)))) (.lit 1000000000)))
 (.need (an_ (le_ (.lit 0) v0_) (an_ (le_ v0_ (.lit 100)) (an_ (le_ (.ofI (.vop (.len 1) (.cons o0_ .nil))) (.lit 32)) (an_ (le_ (.lit (-100000)) (wr_ (sb_ (.iapp 27 (.cons z2_ (.cons (.int .i64 (.lit 86400000000000)) .nil))) (.lit 1)))) (le_ (wr_ (sb_ (.iapp 27 (.cons z2_ (.cons (.int .i64 (.lit 86400000000000)) .nil))) (.lit 1))) (.lit 100000))))))
 (.ret (.tup (.cons (.agg (.cons (.int .i64 (wr_ (sb_ (.iapp 27 (.cons z2_ (.cons (.int .i64 (.lit 86400000000000)) .nil))) (.lit 1)))) (.cons (.int .i64 (wr_ (.i2 .quo (wr_ (sb_ v2_ (ml_ (.iapp 15 (.cons z0_ (.cons o0_ (.cons (.int .i64 (wr_ (sb_ (.iapp 27 (.cons z2_ (.cons (.int .i64 (.lit 86400000000000)) .nil))) (.lit 1)))) .nil)))) (.lit 1000000000)))) (.lit 1000000000)))) (.cons (.int .i64 (.i2 .rem (wr_ (sb_ v2_ (ml_ (.iapp 15 (.cons z0_ (.cons o0_ (.cons (.int .i64 (wr_ (sb_ (.iapp 27 (.cons z2_ (.cons (.int .i64 (.lit 86400000000000)) .nil))) (.lit 1)))) .nil)))) (.lit 1000000000)))) (.lit 1000000000))) .nil)))) (.cons (.cst .nilI) .nil)))))
 (.need (an_ (le_ (.lit 0) v0_) (an_ (le_ v0_ (.lit 100)) (an_ (le_ (.ofI (.vop (.len 1) (.cons o0_ .nil))) (.lit 32)) (an_ (le_ (.lit (-100000)) (.iapp 27 (.cons z2_ (.cons (.int .i64 (.lit 86400000000000)) .nil)))) (le_ (.iapp 27 (.cons z2_ (.cons (.int .i64 (.lit 86400000000000)) .nil))) (.lit 100000))))))
 (.ret (.tup (.cons (.agg (.cons (.int .i64 (.iapp 27 (.cons z2_ (.cons (.int .i64 (.lit 86400000000000)) .nil)))) (.cons (.int .i64 (wr_ (.i2 .quo (wr_ (sb_ v2_ (ml_ (.iapp 15 (.cons z0_ (.cons o0_ (.cons (.int .i64 (.iapp 27 (.cons z2_ (.cons (.int .i64 (.lit 86400000000000)) .nil)))) .nil)))) (.lit 1000000000)))) (.lit 1000000000)))) (.cons (.int .i64 (.i2 .rem (wr_ (sb_ v2_ (ml_ (.iapp 15 (.cons z0_ (.cons o0_ (.cons (.int .i64 (.iapp 27 (.cons z2_ (.cons (.int .i64 (.lit 86400000000000)) .nil)))) .nil)))) (.lit 1000000000)))) (.lit 1000000000))) .nil)))) (.cons (.cst .nilI) .nil))))))))))))))))
abbrev yfc_lutc : Con := ⟨75, [(.agg (.cons z0_ (.cons z1_ (.cons (.hs .no (.cons (.int .i64) .nil) o0_) .nil)))), z2_], (an_ (le_ lm_ v2_) (le_ v2_ lM_)), (.tup (.cons (.agg (.cons (.int .i64 (.iapp 20 (.cons z0_ (.cons z1_ (.cons o0_ (.cons z2_ .nil)))))) (.cons (.int .i64 (.iapp 21 (.cons z0_ (.cons z1_ (.cons o0_ (.cons z2_ .nil)))))) (.cons (.int .i64 (.iapp 22 (.cons z0_ (.cons z1_ (.cons o0_ (.cons z2_ .nil)))))) .nil)))) (.cons (.err (.iapp 19 (.cons z0_ (.cons z1_ (.cons o0_ (.cons z2_ .nil)))))) .nil))), ⟨3, 0, 1, 0⟩, none⟩
theorem lutc_w : walk Tryd.prog 182 ⟨[yfc_check, yfc_size, yfc_begin, yfc_div], syG, [], [], []⟩ [] .v yfc_lutc yfc_lutc.n 3000 = some lutc_tree := by kernel_rfl
set_option maxHeartbeats 4000000 in
theorem lutc_h (b : Int) (t : Int) (n : Int) (l : Value) (hc : holds (yfE [b, t, n] [] [l] []) (an_ (le_ lm_ v2_) (le_ v2_ lM_))) (hty : patsTyp (yfE [b, t, n] [] [l] []) [(.agg (.cons z0_ (.cons z1_ (.cons (.hs .no (.cons (.int .i64) .nil) o0_) .nil)))), z2_]) : lutc_tree.holds (fun v_ => v_ = denV (yfE [b, t, n] [] [l] []) b0 (.tup (.cons (.agg (.cons (.int .i64 (.iapp 20 (.cons z0_ (.cons z1_ (.cons o0_ (.cons z2_ .nil)))))) (.cons (.int .i64 (.iapp 21 (.cons z0_ (.cons z1_ (.cons o0_ (.cons z2_ .nil)))))) (.cons (.int .i64 (.iapp 22 (.cons z0_ (.cons z1_ (.cons o0_ (.cons z2_ .nil)))))) .nil)))) (.cons (.err (.iapp 19 (.cons z0_ (.cons z1_ (.cons o0_ (.cons z2_ .nil)))))) .nil)))) (yfE [b, t, n] [] [l] []) := by
  simp only [Tree.holds, Sy.holds, AllN, Env.more, yfE, List.cons_append, List.nil_append, List.append_nil, denV, denI, denB, denL, I2.den, VOp.den, List.getD_cons_zero, List.getD_cons_succ, Cst.den, syso, syse, syio, sybo, List.map_nil, List.map_cons, B2.ofInts, B2.denI, B2.denB, if_true, Bool.false_eq_true, if_false, Nat.div_one, Nat.mul_one, Nat.add_zero, holds] at hc
  simp only [patsTyp, patTyp, patTypL, yfE, denV, denL, List.getD_cons_zero, List.getD_cons_succ, and_true, true_and] at hty
  have hL_l : typ (.sl (.cons (.int .i64) .nil)) l := by first | exact hty | exact hty.1 | exact hty.2 | exact hty.1.1 | exact hty.1.2 | exact hty.2.1 | exact hty.2.2 | exact hty.2.2.1 | exact hty.2.2.2
  have hN_l := typ_len (n := 1) hL_l rfl (by omega)
  simp only [Nat.div_one, Nat.mul_one] at hN_l
  unfold lutc_tree
  simp only [Tree.holds, Sy.holds, AllN, Env.more, yfE, List.cons_append, List.nil_append, List.append_nil, denV, denI, denB, denL, I2.den, VOp.den, List.getD_cons_zero, List.getD_cons_succ, Cst.den, syso, syse, syio, sybo, yfi_may, yfi_sec, yfi_utcE, yfi_utcD, yfi_utcS, yfi_utcN, yfi_sz, yfi_dq, yfi_de, List.map_nil, List.map_cons, B2.ofInts, B2.denI, B2.denB, if_true, Bool.false_eq_true, if_false, Nat.div_one, Nat.mul_one, Nat.add_zero]
  have hq : dqE n 86400000000000 = n / 86400000000000 := by unfold dqE; simp
  have hq1 : IntKind.wrap .i64 (dqE n 86400000000000 - 1) = n / 86400000000000 - 1 := by rw [hq]; exact IntWalk.i64_in _ (by omega)
  simp only [hq1]
  have hd : deE 86400000000000 = 0 := by decide
  simp only [hq] at *
  have f1 := utcE_spec b t (intsOf l) n
  have f3 := szE_spec n hc
  have hlen := ints_len l
  have g1 := secL_spec b (intsOf l) (-50000)
  have g2 := secL_spec b (intsOf l) t
  have g3 := secL_spec b (intsOf l) (n / 86400000000000)
  have g4 := secL_spec b (intsOf l) (n / 86400000000000 - 1)
  refine ⟨fun h0 => ?_, fun h0 => ?_⟩
  ·
   try clear wf1 wf2
   have f2 := utc_spec b t (intsOf l) n
   have f4 := utcDay_two b (intsOf l) n
   first
   | (exfalso; omega)
   | (simp only [Value.tuple.injEq, Value.agg.injEq, Value.int.injEq, Value.bool.injEq, Array.mk.injEq, List.cons.injEq, true_and, and_true]; exact ⟨by omega, by first | exact errV1 (by omega) | exact errV0 (by omega) | exact errV2 (by omega) | exact errV10 (by omega) | (exfalso; omega) | (refine congrArg (errVal _) ?_; omega)⟩)
   | (have hD : utcDay b (intsOf l) n = n / 86400000000000 - 1 := (by omega); have gq := gone_q (x := n - secL b (intsOf l) (n / 86400000000000 - 1) * 1000000000) (by omega) (by omega); rw [hD] at f2; rw [gq.1, gq.2]; simp only [Value.tuple.injEq, Value.agg.injEq, Value.int.injEq, Value.bool.injEq, Array.mk.injEq, List.cons.injEq, true_and, and_true]; exact ⟨by omega, errV0 (by omega)⟩)
   | (have hD : utcDay b (intsOf l) n = n / 86400000000000 := (by omega); have gq := gone_q (x := n - secL b (intsOf l) (n / 86400000000000) * 1000000000) (by omega) (by omega); rw [hD] at f2; rw [gq.1, gq.2]; simp only [Value.tuple.injEq, Value.agg.injEq, Value.int.injEq, Value.bool.injEq, Array.mk.injEq, List.cons.injEq, true_and, and_true]; exact ⟨by omega, errV0 (by omega)⟩)
  ·
   refine ⟨?_, fun h1 => ?_⟩
   ·
    omega
   ·
    refine ⟨fun h2 => ?_, fun h2 => ?_⟩
    ·
     try clear wf1 wf2
     have f2 := utc_spec b t (intsOf l) n
     have f4 := utcDay_two b (intsOf l) n
     first
     | (exfalso; omega)
     | (simp only [Value.tuple.injEq, Value.agg.injEq, Value.int.injEq, Value.bool.injEq, Array.mk.injEq, List.cons.injEq, true_and, and_true]; exact ⟨by omega, by first | exact errV1 (by omega) | exact errV0 (by omega) | exact errV2 (by omega) | exact errV10 (by omega) | (exfalso; omega) | (refine congrArg (errVal _) ?_; omega)⟩)
     | (have hD : utcDay b (intsOf l) n = n / 86400000000000 - 1 := (by omega); have gq := gone_q (x := n - secL b (intsOf l) (n / 86400000000000 - 1) * 1000000000) (by omega) (by omega); rw [hD] at f2; rw [gq.1, gq.2]; simp only [Value.tuple.injEq, Value.agg.injEq, Value.int.injEq, Value.bool.injEq, Array.mk.injEq, List.cons.injEq, true_and, and_true]; exact ⟨by omega, errV0 (by omega)⟩)
     | (have hD : utcDay b (intsOf l) n = n / 86400000000000 := (by omega); have gq := gone_q (x := n - secL b (intsOf l) (n / 86400000000000) * 1000000000) (by omega) (by omega); rw [hD] at f2; rw [gq.1, gq.2]; simp only [Value.tuple.injEq, Value.agg.injEq, Value.int.injEq, Value.bool.injEq, Array.mk.injEq, List.cons.injEq, true_and, and_true]; exact ⟨by omega, errV0 (by omega)⟩)
    ·
     refine ⟨?_, fun h3 => ?_⟩
     ·
      omega
     ·
      refine ⟨fun h4 => ?_, fun h4 => ?_⟩
      ·
       try clear wf1 wf2
       have f2 := utc_spec b t (intsOf l) n
       have f4 := utcDay_two b (intsOf l) n
       first
       | (exfalso; omega)
       | (simp only [Value.tuple.injEq, Value.agg.injEq, Value.int.injEq, Value.bool.injEq, Array.mk.injEq, List.cons.injEq, true_and, and_true]; exact ⟨by omega, by first | exact errV1 (by omega) | exact errV0 (by omega) | exact errV2 (by omega) | exact errV10 (by omega) | (exfalso; omega) | (refine congrArg (errVal _) ?_; omega)⟩)
       | (have hD : utcDay b (intsOf l) n = n / 86400000000000 - 1 := (by omega); have gq := gone_q (x := n - secL b (intsOf l) (n / 86400000000000 - 1) * 1000000000) (by omega) (by omega); rw [hD] at f2; rw [gq.1, gq.2]; simp only [Value.tuple.injEq, Value.agg.injEq, Value.int.injEq, Value.bool.injEq, Array.mk.injEq, List.cons.injEq, true_and, and_true]; exact ⟨by omega, errV0 (by omega)⟩)
       | (have hD : utcDay b (intsOf l) n = n / 86400000000000 := (by omega); have gq := gone_q (x := n - secL b (intsOf l) (n / 86400000000000) * 1000000000) (by omega) (by omega); rw [hD] at f2; rw [gq.1, gq.2]; simp only [Value.tuple.injEq, Value.agg.injEq, Value.int.injEq, Value.bool.injEq, Array.mk.injEq, List.cons.injEq, true_and, and_true]; exact ⟨by omega, errV0 (by omega)⟩)
      ·
       refine ⟨?_, fun h5 => ?_⟩
       ·
        omega
       ·
        refine ⟨fun h6 => ?_, fun h6 => ?_⟩
        ·
         try clear wf1 wf2
         have f2 := utc_spec b t (intsOf l) n
         have f4 := utcDay_two b (intsOf l) n
         first
         | (exfalso; omega)
         | (simp only [Value.tuple.injEq, Value.agg.injEq, Value.int.injEq, Value.bool.injEq, Array.mk.injEq, List.cons.injEq, true_and, and_true]; exact ⟨by omega, by first | exact errV1 (by omega) | exact errV0 (by omega) | exact errV2 (by omega) | exact errV10 (by omega) | (exfalso; omega) | (refine congrArg (errVal _) ?_; omega)⟩)
         | (have hD : utcDay b (intsOf l) n = n / 86400000000000 - 1 := (by omega); have gq := gone_q (x := n - secL b (intsOf l) (n / 86400000000000 - 1) * 1000000000) (by omega) (by omega); rw [hD] at f2; rw [gq.1, gq.2]; simp only [Value.tuple.injEq, Value.agg.injEq, Value.int.injEq, Value.bool.injEq, Array.mk.injEq, List.cons.injEq, true_and, and_true]; exact ⟨by omega, errV0 (by omega)⟩)
         | (have hD : utcDay b (intsOf l) n = n / 86400000000000 := (by omega); have gq := gone_q (x := n - secL b (intsOf l) (n / 86400000000000) * 1000000000) (by omega) (by omega); rw [hD] at f2; rw [gq.1, gq.2]; simp only [Value.tuple.injEq, Value.agg.injEq, Value.int.injEq, Value.bool.injEq, Array.mk.injEq, List.cons.injEq, true_and, and_true]; exact ⟨by omega, errV0 (by omega)⟩)
        ·
         refine ⟨?_, fun h7 => ?_⟩
         ·
          omega
         ·
          refine ⟨fun h8 => ?_, fun h8 => ?_⟩
          ·
           try clear wf1 wf2
           have f2 := utc_spec b t (intsOf l) n
           have f4 := utcDay_two b (intsOf l) n
           first
           | (exfalso; omega)
           | (simp only [Value.tuple.injEq, Value.agg.injEq, Value.int.injEq, Value.bool.injEq, Array.mk.injEq, List.cons.injEq, true_and, and_true]; exact ⟨by omega, by first | exact errV1 (by omega) | exact errV0 (by omega) | exact errV2 (by omega) | exact errV10 (by omega) | (exfalso; omega) | (refine congrArg (errVal _) ?_; omega)⟩)
           | (have hD : utcDay b (intsOf l) n = n / 86400000000000 - 1 := (by omega); have gq := gone_q (x := n - secL b (intsOf l) (n / 86400000000000 - 1) * 1000000000) (by omega) (by omega); rw [hD] at f2; rw [gq.1, gq.2]; simp only [Value.tuple.injEq, Value.agg.injEq, Value.int.injEq, Value.bool.injEq, Array.mk.injEq, List.cons.injEq, true_and, and_true]; exact ⟨by omega, errV0 (by omega)⟩)
           | (have hD : utcDay b (intsOf l) n = n / 86400000000000 := (by omega); have gq := gone_q (x := n - secL b (intsOf l) (n / 86400000000000) * 1000000000) (by omega) (by omega); rw [hD] at f2; rw [gq.1, gq.2]; simp only [Value.tuple.injEq, Value.agg.injEq, Value.int.injEq, Value.bool.injEq, Array.mk.injEq, List.cons.injEq, true_and, and_true]; exact ⟨by omega, errV0 (by omega)⟩)
          ·
           refine ⟨?_, fun h9 => ?_⟩
           ·
            omega
           ·
            refine ⟨fun h10 => ?_, fun h10 => ?_⟩
            ·
             refine ⟨?_, fun h11 => ?_⟩
             ·
              omega
             ·
              try simp only [hw0]
              try clear wf1 wf2
              have f2 := utc_spec b t (intsOf l) n
              have f4 := utcDay_two b (intsOf l) n
              first
              | (exfalso; omega)
              | (simp only [Value.tuple.injEq, Value.agg.injEq, Value.int.injEq, Value.bool.injEq, Array.mk.injEq, List.cons.injEq, true_and, and_true]; exact ⟨by omega, by first | exact errV1 (by omega) | exact errV0 (by omega) | exact errV2 (by omega) | exact errV10 (by omega) | (exfalso; omega) | (refine congrArg (errVal _) ?_; omega)⟩)
              | (have hD : utcDay b (intsOf l) n = n / 86400000000000 - 1 := (by omega); have gq := gone_q (x := n - secL b (intsOf l) (n / 86400000000000 - 1) * 1000000000) (by omega) (by omega); rw [hD] at f2; rw [gq.1, gq.2]; simp only [Value.tuple.injEq, Value.agg.injEq, Value.int.injEq, Value.bool.injEq, Array.mk.injEq, List.cons.injEq, true_and, and_true]; exact ⟨by omega, errV0 (by omega)⟩)
              | (have hD : utcDay b (intsOf l) n = n / 86400000000000 := (by omega); have gq := gone_q (x := n - secL b (intsOf l) (n / 86400000000000) * 1000000000) (by omega) (by omega); rw [hD] at f2; rw [gq.1, gq.2]; simp only [Value.tuple.injEq, Value.agg.injEq, Value.int.injEq, Value.bool.injEq, Array.mk.injEq, List.cons.injEq, true_and, and_true]; exact ⟨by omega, errV0 (by omega)⟩)
            ·
             refine ⟨?_, fun h12 => ?_⟩
             ·
              omega
             ·
              try clear wf1 wf2
              have f2 := utc_spec b t (intsOf l) n
              have f4 := utcDay_two b (intsOf l) n
              first
              | (exfalso; omega)
              | (simp only [Value.tuple.injEq, Value.agg.injEq, Value.int.injEq, Value.bool.injEq, Array.mk.injEq, List.cons.injEq, true_and, and_true]; exact ⟨by omega, by first | exact errV1 (by omega) | exact errV0 (by omega) | exact errV2 (by omega) | exact errV10 (by omega) | (exfalso; omega) | (refine congrArg (errVal _) ?_; omega)⟩)
              | (have hD : utcDay b (intsOf l) n = n / 86400000000000 - 1 := (by omega); have gq := gone_q (x := n - secL b (intsOf l) (n / 86400000000000 - 1) * 1000000000) (by omega) (by omega); rw [hD] at f2; rw [gq.1, gq.2]; simp only [Value.tuple.injEq, Value.agg.injEq, Value.int.injEq, Value.bool.injEq, Array.mk.injEq, List.cons.injEq, true_and, and_true]; exact ⟨by omega, errV0 (by omega)⟩)
              | (have hD : utcDay b (intsOf l) n = n / 86400000000000 := (by omega); have gq := gone_q (x := n - secL b (intsOf l) (n / 86400000000000) * 1000000000) (by omega) (by omega); rw [hD] at f2; rw [gq.1, gq.2]; simp only [Value.tuple.injEq, Value.agg.injEq, Value.int.injEq, Value.bool.injEq, Array.mk.injEq, List.cons.injEq, true_and, and_true]; exact ⟨by omega, errV0 (by omega)⟩)
theorem yfg_lutc : yfc_lutc.Good Tryd.prog syG (yfE [] [] [] []) := good_of_walk (Γ := ⟨[yfc_check, yfc_size, yfc_begin, yfc_div], syG, [], [], []⟩) (ρ := yfE [] [] [] []) sym lutc_w rfl (fun _ _ _ _ => (ok_cons (Con.Good.env yfg_check _ _ _ _) (ok_cons (Con.Good.env yfg_size _ _ _ _) (ok_cons (Con.Good.env yfg_begin _ _ _ _) (ok_cons (Con.Good.env yfg_div _ _ _ _) ok_nil))))) (fun b t n l hc hty => lutc_h b t n l hc hty)
end Go.Proofs.YtbjgopehomnpgaaDoor
