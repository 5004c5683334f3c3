/-
  Layer 25 by the second engine.
-/
import Derived.Test.YtbgmbbkmadkhgaaDoorSycqa
import Derived.Test.YtbgmbbkmadkhgaaDoorZrqa
import Derived.Test.YtbgmbbkmadkhgaaDoorE00qa
import Derived.Test.YtbgmbbkmadkhgaaDoorNumqa
namespace Go.Proofs.YtbgmbbkmadkhgaaDoor
open Go.RowKit Go.Extern.Stop Go.Stop Go.Extern Go.Proofs.YtbgmbbkmadkhgaaDoor.Sy
set_option linter.unusedVariables false
set_option linter.unusedSimpArgs false
def ckF (w c : Int) : Int := if 0 ≤ w ∧ w ≤ 1099511627776 ∧ 1 ≤ c ∧ c ≤ 1125899906842624 then 0 else 1
def byF (k : List UInt8) (w c t : Int) : Int := if ckF w c = 0 then numS k (t / c) w else 0
def avF (k : List UInt8) (w c t : Int) : Int := if ckF w c = 0 then svE (t - byF k w c t) else 0
def aeF (k : List UInt8) (w c t : Int) : Int := if ckF w c = 0 then erE (t - byF k w c t) else 1
theorem ck_spec (w c : Int) : (ckF w c = 0 ∧ 0 ≤ w ∧ w ≤ 1099511627776 ∧ 1 ≤ c ∧ c ≤ 1125899906842624) ∨ (ckF w c = 1 ∧ (w < 0 ∨ 1099511627776 < w ∨ c < 1 ∨ 1125899906842624 < c)) := by
  unfold ckF; split <;> omega
theorem by_spec (k : List UInt8) (w c t : Int) : (ckF w c = 0 ∧ byF k w c t = numS k (t / c) w ∧ 0 ≤ byF k w c t ∧ byF k w c t ≤ w ∧ avF k w c t = svE (t - byF k w c t) ∧ aeF k w c t = erE (t - byF k w c t)) ∨ (ckF w c = 1 ∧ byF k w c t = 0 ∧ avF k w c t = 0 ∧ aeF k w c t = 1) := by
  rcases ck_spec w c with ⟨h, h1, h2, _⟩ | ⟨h, _⟩
  · left
    have e : byF k w c t = numS k (t / c) w := if_pos h
    have := num_rng (k := k) (p := t / c) (m := w) h1 (by omega)
    refine ⟨h, e, by omega, by omega, if_pos h, if_pos h⟩
  · right
    have hn : ¬ ckF w c = 0 := by omega
    exact ⟨h, if_neg hn, if_neg hn, if_neg hn⟩
theorem s25 (k j : List UInt8) : aeF k 0 9 77 = 0 ∧ avF k 0 9 77 = 77 ∧ aeF k 0 0 77 = 1 ∧ ((aeF j 1099511627776 1125899906842624 (-9223372036854775808) = 0) ∨ (aeF j 1099511627776 1125899906842624 (-9223372036854775808) = 2)) := by
  refine ⟨?_, ?_, ?_, ?_⟩
  · rcases by_spec k 0 9 77 with ⟨_, _, h0, h1, _, h3⟩ | ⟨h, _⟩
    · rw [h3, Int.le_antisymm h1 h0]; rfl
    · exact absurd h (by decide)
  · rcases by_spec k 0 9 77 with ⟨_, _, h0, h1, h2, _⟩ | ⟨h, _⟩
    · rw [h2, Int.le_antisymm h1 h0]; rfl
    · exact absurd h (by decide)
  · rcases by_spec k 0 0 77 with ⟨h, _⟩ | ⟨_, _, _, h⟩
    · exact absurd h (by decide)
    · exact h
  · rcases by_spec j 1099511627776 1125899906842624 (-9223372036854775808) with ⟨_, _, _, _, _, h⟩ | ⟨h, _⟩
    · rw [h]
      unfold erE
      split
      · exact .inl rfl
      · exact .inr rfl
    · exact absurd h (by decide)
theorem num25_any (n : Int) (w : World) (hg : w.cell? ⟨0, 0, none⟩ = some asHandle) : Calls Tryd.prog 72 #[errVal 203 n] w fun e w' => e = .returned (.int .i64 n) ∧ Below w.heap.size w w' := by
  unfold errVal
  split
  · rename_i h; subst h; exact num25_nil _
  · exact num25_err _ _ hg
theorem errV1 {n : Int} (h : n = 1) : Value.iface 203 (.int .i64 1) = errVal 203 n := by subst h; rfl
theorem errV0 {n : Int} (h : n = 0) : Value.nilIface = errVal 203 n := by subst h; rfl
theorem errV2 {n : Int} (h : n = 2) : Value.iface 203 (.int .i64 2) = errVal 203 n := by subst h; rfl
noncomputable def zfI : Nat → List Value → Int
  | 19, [.int _ a, .int _ b] => dqE a b
  | 20, [.int _ a, .int _ b] => dmE a b
  | 21, [.int _ b] => deE b
  | 22, [.int _ a] => svE a
  | 23, [.int _ a] => erE a
  | 24, [.int _ a] => svE a
  | 25, [.int _ a] => soE a
  | 26, [.int _ w, .int _ c] => ckF w c
  | 27, [k, .int _ w, .int _ c, .int _ t] => byF (byL (rows k)) w c t
  | 28, [k, .int _ w, .int _ c, .int _ t] => avF (byL (rows k)) w c t
  | 29, [k, .int _ w, .int _ c, .int _ t] => aeF (byL (rows k)) w c t
  | i, l => zrI i l
noncomputable def zfB : Nat → List Value → Bool
  | i, l => zrB i l
noncomputable def zfV : Nat → List Value → Value
  | i, l => zrV i l
noncomputable abbrev zfE (iv : List Int) (bv : List Bool) (vv : List Value) (sv : List ByteArray) : Env := { iv := iv, bv := bv, vv := vv, sv := sv, fi := zfI, fb := zfB, fv := zfV, et := 203 }
set_option maxHeartbeats 8000000 in
theorem zfup : Agree 19 4 12 (zrE [] [] [] []) (zfE [] [] [] []) := ⟨rfl, (by
    intro f hf
    funext l
    show zfI f l = zrI f l
    unfold zfI
    split <;> first | rfl | omega), (by
    intro f hf
    funext l
    show zfB f l = zrB f l
    unfold zfB
    split <;> first | rfl | omega), (by
    intro f hf
    funext l
    show zfV f l = zrV f l
    unfold zfV
    split <;> first | rfl | omega)⟩
theorem zfi_nb (k : Value) (k1 : IntKind) (p : Int) (k2 : IntKind) (n : Int) : zfI 17 [k, .int k1 p, .int k2 n] = numS (byL (rows k)) p n := rfl
theorem zfi_dq (k1 : IntKind) (a : Int) (k2 : IntKind) (b : Int) : zfI 19 [.int k1 a, .int k2 b] = dqE a b := rfl
theorem zfi_dm (k1 : IntKind) (a : Int) (k2 : IntKind) (b : Int) : zfI 20 [.int k1 a, .int k2 b] = dmE a b := rfl
theorem zfi_de (k1 : IntKind) (b : Int) : zfI 21 [.int k1 b] = deE b := rfl
theorem zfi_nv (k1 : IntKind) (a : Int) : zfI 22 [.int k1 a] = svE a := rfl
theorem zfi_ne (k1 : IntKind) (a : Int) : zfI 23 [.int k1 a] = erE a := rfl
theorem zfi_rsv (k1 : IntKind) (a : Int) : zfI 24 [.int k1 a] = svE a := rfl
theorem zfi_rso (k1 : IntKind) (a : Int) : zfI 25 [.int k1 a] = soE a := rfl
theorem zfi_fck (k1 : IntKind) (w : Int) (k2 : IntKind) (c : Int) : zfI 26 [.int k1 w, .int k2 c] = ckF w c := rfl
theorem zfi_fby (k : Value) (k1 : IntKind) (w : Int) (k2 : IntKind) (c : Int) (k3 : IntKind) (t : Int) : zfI 27 [k, .int k1 w, .int k2 c, .int k3 t] = byF (byL (rows k)) w c t := rfl
theorem zfi_fav (k : Value) (k1 : IntKind) (w : Int) (k2 : IntKind) (c : Int) (k3 : IntKind) (t : Int) : zfI 28 [k, .int k1 w, .int k2 c, .int k3 t] = avF (byL (rows k)) w c t := rfl
theorem zfi_fae (k : Value) (k1 : IntKind) (w : Int) (k2 : IntKind) (c : Int) (k3 : IntKind) (t : Int) : zfI 29 [k, .int k1 w, .int k2 c, .int k3 t] = aeF (byL (rows k)) w c t := rfl
theorem zfb_okr (l : Value) : zfB 0 [l] = okR (rows l) := rfl
def nsub_tree : Tree :=
 (.br (lt_ v1_ (.lit 0))
 (.br (lt_ (wr_ (ad_ lM_ v1_)) v0_)
 (.ret (.tup (.cons (.int .i64 (.lit 0)) (.cons (.iface 203 (.int .i64 (.lit 2))) .nil))))
 (.br (lt_ (.lit 0) v1_)
 (.br (lt_ v0_ (wr_ (ad_ lm_ v1_)))
 (.ret (.tup (.cons (.int .i64 (.lit 0)) (.cons (.iface 203 (.int .i64 (.lit 2))) .nil))))
 (.ret (.tup (.cons (.int .i64 (wr_ (sb_ v0_ v1_))) (.cons (.cst .nilI) .nil)))))
 (.ret (.tup (.cons (.int .i64 (wr_ (sb_ v0_ v1_))) (.cons (.cst .nilI) .nil))))))
 (.br (lt_ (.lit 0) v1_)
 (.br (lt_ v0_ (wr_ (ad_ lm_ v1_)))
 (.ret (.tup (.cons (.int .i64 (.lit 0)) (.cons (.iface 203 (.int .i64 (.lit 2))) .nil))))
 (.ret (.tup (.cons (.int .i64 (wr_ (sb_ v0_ v1_))) (.cons (.cst .nilI) .nil)))))
 (.ret (.tup (.cons (.int .i64 (wr_ (sb_ v0_ v1_))) (.cons (.cst .nilI) .nil))))))
abbrev zfc_nsub : Con := ⟨167, [z0_, z1_], (an_ (an_ (le_ lm_ v0_) (le_ v0_ lM_)) (an_ (le_ lm_ v1_) (le_ v1_ lM_))), (.tup (.cons (.int .i64 (.iapp 22 (.cons (.int .i64 (sb_ v0_ v1_)) .nil))) (.cons (.err (.iapp 23 (.cons (.int .i64 (sb_ v0_ v1_)) .nil))) .nil))), ⟨2, 0, 0, 0⟩, none⟩
theorem nsub_w : walk Tryd.prog 203 ⟨[], syG, [], [], []⟩ [] .v zfc_nsub zfc_nsub.n 3000 = some nsub_tree := by kernel_rfl
theorem nsub_h (a : Int) (b : Int) (hc : holds (zfE [a, b] [] [] []) (an_ (an_ (le_ lm_ v0_) (le_ v0_ lM_)) (an_ (le_ lm_ v1_) (le_ v1_ lM_)))) (hty : patsTyp (zfE [a, b] [] [] []) [z0_, z1_]) : nsub_tree.holds (fun v_ => v_ = denV (zfE [a, b] [] [] []) b0 (.tup (.cons (.int .i64 (.iapp 22 (.cons (.int .i64 (sb_ v0_ v1_)) .nil))) (.cons (.err (.iapp 23 (.cons (.int .i64 (sb_ v0_ v1_)) .nil))) .nil)))) (zfE [a, b] [] [] []) := by
  simp only [Tree.holds, Sy.holds, AllN, Env.more, zfE, List.cons_append, List.nil_append, List.append_nil, denV, denI, denB, denL, I2.den, VOp.den, List.getD_cons_zero, List.getD_cons_succ, Cst.den, syso, syse, syio, sybo, List.map_nil, List.map_cons, B2.ofInts, B2.denI, B2.denB, if_true, Bool.false_eq_true, if_false, Nat.div_one, Nat.mul_one, Nat.add_zero, holds] at hc
  simp only [patsTyp, patTyp, patTypL, zfE, denV, denL, List.getD_cons_zero, List.getD_cons_succ, and_true, true_and] at hty
  unfold nsub_tree
  simp only [Tree.holds, Sy.holds, AllN, Env.more, zfE, List.cons_append, List.nil_append, List.append_nil, denV, denI, denB, denL, I2.den, VOp.den, List.getD_cons_zero, List.getD_cons_succ, Cst.den, syso, syse, syio, sybo, zfi_nv, zfi_ne, List.map_nil, List.map_cons, B2.ofInts, B2.denI, B2.denB, if_true, Bool.false_eq_true, if_false, Nat.div_one, Nat.mul_one, Nat.add_zero]
  refine ⟨fun h0 => ?_, fun h0 => ?_⟩
  ·
   have wf0 := wr_i64 (9223372036854775807 + b)
   refine ⟨fun h1 => ?_, fun h1 => ?_⟩
   ·
    have hs := svE_spec (a - b)
    by_cases hr : -9223372036854775808 ≤ a - b ∧ a - b ≤ 9223372036854775807
    · have e1 : svE (a - b) = a - b := by omega
      have e2 : erE (a - b) = 0 := by omega
      rw [e1, e2]
      first
      | (exfalso; omega)
      | (rw [show IntKind.wrap .i64 (a - b) = a - b by omega]; rfl)
    · have e1 : svE (a - b) = 0 := by omega
      have e2 : erE (a - b) = 2 := by omega
      rw [e1, e2]
      first
      | (exfalso; omega)
      | rfl
   ·
    refine ⟨fun h2 => ?_, fun h2 => ?_⟩
    ·
     have wf1 := wr_i64 ((-9223372036854775808) + b)
     refine ⟨fun h3 => ?_, fun h3 => ?_⟩
     ·
      have hs := svE_spec (a - b)
      by_cases hr : -9223372036854775808 ≤ a - b ∧ a - b ≤ 9223372036854775807
      · have e1 : svE (a - b) = a - b := by omega
        have e2 : erE (a - b) = 0 := by omega
        rw [e1, e2]
        first
        | (exfalso; omega)
        | (rw [show IntKind.wrap .i64 (a - b) = a - b by omega]; rfl)
      · have e1 : svE (a - b) = 0 := by omega
        have e2 : erE (a - b) = 2 := by omega
        rw [e1, e2]
        first
        | (exfalso; omega)
        | rfl
     ·
      have wf2 := wr_i64 (a - b)
      have hs := svE_spec (a - b)
      by_cases hr : -9223372036854775808 ≤ a - b ∧ a - b ≤ 9223372036854775807
      · have e1 : svE (a - b) = a - b := by omega
        have e2 : erE (a - b) = 0 := by omega
        rw [e1, e2]
        first
        | (exfalso; omega)
        | (rw [show IntKind.wrap .i64 (a - b) = a - b by omega]; rfl)
      · have e1 : svE (a - b) = 0 := by omega
        have e2 : erE (a - b) = 2 := by omega
        rw [e1, e2]
        first
        | (exfalso; omega)
        | rfl
    ·
     have wf3 := wr_i64 (a - b)
     have hs := svE_spec (a - b)
     by_cases hr : -9223372036854775808 ≤ a - b ∧ a - b ≤ 9223372036854775807
     · have e1 : svE (a - b) = a - b := by omega
       have e2 : erE (a - b) = 0 := by omega
       rw [e1, e2]
       first
       | (exfalso; omega)
       | (rw [show IntKind.wrap .i64 (a - b) = a - b by omega]; rfl)
     · have e1 : svE (a - b) = 0 := by omega
       have e2 : erE (a - b) = 2 := by omega
       rw [e1, e2]
       first
       | (exfalso; omega)
       | rfl
  ·
   refine ⟨fun h4 => ?_, fun h4 => ?_⟩
   ·
    have wf4 := wr_i64 ((-9223372036854775808) + b)
    refine ⟨fun h5 => ?_, fun h5 => ?_⟩
    ·
     have hs := svE_spec (a - b)
     by_cases hr : -9223372036854775808 ≤ a - b ∧ a - b ≤ 9223372036854775807
     · have e1 : svE (a - b) = a - b := by omega
       have e2 : erE (a - b) = 0 := by omega
       rw [e1, e2]
       first
       | (exfalso; omega)
       | (rw [show IntKind.wrap .i64 (a - b) = a - b by omega]; rfl)
     · have e1 : svE (a - b) = 0 := by omega
       have e2 : erE (a - b) = 2 := by omega
       rw [e1, e2]
       first
       | (exfalso; omega)
       | rfl
    ·
     have wf5 := wr_i64 (a - b)
     have hs := svE_spec (a - b)
     by_cases hr : -9223372036854775808 ≤ a - b ∧ a - b ≤ 9223372036854775807
     · have e1 : svE (a - b) = a - b := by omega
       have e2 : erE (a - b) = 0 := by omega
       rw [e1, e2]
       first
       | (exfalso; omega)
       | (rw [show IntKind.wrap .i64 (a - b) = a - b by omega]; rfl)
     · have e1 : svE (a - b) = 0 := by omega
       have e2 : erE (a - b) = 2 := by omega
       rw [e1, e2]
       first
       | (exfalso; omega)
       | rfl
   ·
    have wf6 := wr_i64 (a - b)
    have hs := svE_spec (a - b)
    by_cases hr : -9223372036854775808 ≤ a - b ∧ a - b ≤ 9223372036854775807
    · have e1 : svE (a - b) = a - b := by omega
      have e2 : erE (a - b) = 0 := by omega
      rw [e1, e2]
      first
      | (exfalso; omega)
      | (rw [show IntKind.wrap .i64 (a - b) = a - b by omega]; rfl)
    · have e1 : svE (a - b) = 0 := by omega
      have e2 : erE (a - b) = 2 := by omega
      rw [e1, e2]
      first
      | (exfalso; omega)
      | rfl
theorem zfg_nsub : zfc_nsub.Good Tryd.prog syG (zfE [] [] [] []) := good_of_walk (Γ := ⟨[], syG, [], [], []⟩) (ρ := zfE [] [] [] []) sym nsub_w rfl (fun _ _ _ _ => ok_nil) (fun a b hc hty => nsub_h a b hc hty)
def div_tree : Tree :=
 (.br (lt_ v1_ (.lit 1))
 (.ret (.tup (.cons (.int .i64 (.lit 0)) (.cons (.int .i64 (.lit 0)) (.cons (.iface 203 (.int .i64 (.lit 1))) .nil)))))
 (.need (.not (eq_ v1_ (.lit 0)))
 (.need (.not (eq_ v1_ (.lit 0)))
 (.br (lt_ (.i2 .rem v0_ v1_) (.lit 0))
 (.ret (.tup (.cons (.int .i64 (wr_ (sb_ (wr_ (.i2 .quo v0_ v1_)) (.lit 1)))) (.cons (.int .i64 (wr_ (ad_ (.i2 .rem v0_ v1_) v1_))) (.cons (.cst .nilI) .nil)))))
 (.ret (.tup (.cons (.int .i64 (wr_ (.i2 .quo v0_ v1_))) (.cons (.int .i64 (.i2 .rem v0_ v1_)) (.cons (.cst .nilI) .nil)))))))))
abbrev zfc_div : Con := ⟨163, [z0_, z1_], (an_ (an_ (le_ lm_ v0_) (le_ v0_ lM_)) (an_ (le_ lm_ v1_) (le_ v1_ lM_))), (.tup (.cons (.int .i64 (.iapp 19 (.cons z0_ (.cons z1_ .nil)))) (.cons (.int .i64 (.iapp 20 (.cons z0_ (.cons z1_ .nil)))) (.cons (.err (.iapp 21 (.cons z1_ .nil))) .nil)))), ⟨2, 0, 0, 0⟩, none⟩
theorem div_w : walk Tryd.prog 203 ⟨[], syG, [], [], []⟩ [] .v zfc_div zfc_div.n 3000 = some div_tree := by kernel_rfl
theorem div_h (a : Int) (b : Int) (hc : holds (zfE [a, b] [] [] []) (an_ (an_ (le_ lm_ v0_) (le_ v0_ lM_)) (an_ (le_ lm_ v1_) (le_ v1_ lM_)))) (hty : patsTyp (zfE [a, b] [] [] []) [z0_, z1_]) : div_tree.holds (fun v_ => v_ = denV (zfE [a, b] [] [] []) b0 (.tup (.cons (.int .i64 (.iapp 19 (.cons z0_ (.cons z1_ .nil)))) (.cons (.int .i64 (.iapp 20 (.cons z0_ (.cons z1_ .nil)))) (.cons (.err (.iapp 21 (.cons z1_ .nil))) .nil))))) (zfE [a, b] [] [] []) := by
  simp only [Tree.holds, Sy.holds, AllN, Env.more, zfE, List.cons_append, List.nil_append, List.append_nil, denV, denI, denB, denL, I2.den, VOp.den, List.getD_cons_zero, List.getD_cons_succ, Cst.den, syso, syse, syio, sybo, List.map_nil, List.map_cons, B2.ofInts, B2.denI, B2.denB, if_true, Bool.false_eq_true, if_false, Nat.div_one, Nat.mul_one, Nat.add_zero, holds] at hc
  simp only [patsTyp, patTyp, patTypL, zfE, denV, denL, List.getD_cons_zero, List.getD_cons_succ, and_true, true_and] at hty
  unfold div_tree
  simp only [Tree.holds, Sy.holds, AllN, Env.more, zfE, List.cons_append, List.nil_append, List.append_nil, denV, denI, denB, denL, I2.den, VOp.den, List.getD_cons_zero, List.getD_cons_succ, Cst.den, syso, syse, syio, sybo, zfi_dq, zfi_dm, zfi_de, List.map_nil, List.map_cons, B2.ofInts, B2.denI, B2.denB, if_true, Bool.false_eq_true, if_false, Nat.div_one, Nat.mul_one, Nat.add_zero]
  refine ⟨fun h0 => ?_, fun h0 => ?_⟩
  ·
   have f1 := dE_spec a b
   have f2 := dm_spec a b ⟨by omega, by omega⟩
   first
   | (exfalso; omega)
   | (simp only [Value.tuple.injEq, Value.agg.injEq, Value.int.injEq, Value.bool.injEq, Array.mk.injEq, List.cons.injEq, true_and, and_true]
      exact ⟨by omega, by omega, by first | exact errV1 (by omega) | exact errV0 (by omega) | exact errV2 (by omega) | (exfalso; omega)⟩)
  ·
   refine ⟨?_, fun h1 => ?_⟩
   ·
    omega
   ·
    refine ⟨?_, fun h2 => ?_⟩
    ·
     omega
    ·
     refine ⟨fun h3 => ?_, fun h3 => ?_⟩
     ·
      have wf0 := wr_i64 (Int.tdiv a b)
      have wf1 := wr_i64 ((IntKind.wrap .i64 (Int.tdiv a b)) - 1)
      have wf2 := wr_i64 ((Int.tmod a b) + b)
      have f1 := dE_spec a b
      have f2 := dm_spec a b ⟨by omega, by omega⟩
      first
      | (exfalso; omega)
      | (simp only [Value.tuple.injEq, Value.agg.injEq, Value.int.injEq, Value.bool.injEq, Array.mk.injEq, List.cons.injEq, true_and, and_true]
         exact ⟨by omega, by omega, by first | exact errV1 (by omega) | exact errV0 (by omega) | exact errV2 (by omega) | (exfalso; omega)⟩)
     ·
      have wf3 := wr_i64 (Int.tdiv a b)
      have f1 := dE_spec a b
      have f2 := dm_spec a b ⟨by omega, by omega⟩
      first
      | (exfalso; omega)
      | (simp only [Value.tuple.injEq, Value.agg.injEq, Value.int.injEq, Value.bool.injEq, Array.mk.injEq, List.cons.injEq, true_and, and_true]
         exact ⟨by omega, by omega, by first | exact errV1 (by omega) | exact errV0 (by omega) | exact errV2 (by omega) | (exfalso; omega)⟩)
theorem zfg_div : zfc_div.Good Tryd.prog syG (zfE [] [] [] []) := good_of_walk (Γ := ⟨[], syG, [], [], []⟩) (ρ := zfE [] [] [] []) sym div_w rfl (fun _ _ _ _ => ok_nil) (fun a b hc hty => div_h a b hc hty)
def rless_tree : Tree :=
 (.br (lt_ v1_ (.lit 0))
 (.br (lt_ (wr_ (ad_ lM_ v1_)) v0_)
 (.ret (.tup (.cons (.int .i64 (.lit 0)) (.cons (.int .i64 (.lit 1)) .nil))))
 (.br (lt_ (.lit 0) v1_)
 (.br (lt_ v0_ (wr_ (ad_ lm_ v1_)))
 (.ret (.tup (.cons (.int .i64 (.lit 0)) (.cons (.int .i64 (.lit (-1))) .nil))))
 (.ret (.tup (.cons (.int .i64 (wr_ (sb_ v0_ v1_))) (.cons (.int .i64 (.lit 0)) .nil)))))
 (.ret (.tup (.cons (.int .i64 (wr_ (sb_ v0_ v1_))) (.cons (.int .i64 (.lit 0)) .nil))))))
 (.br (lt_ (.lit 0) v1_)
 (.br (lt_ v0_ (wr_ (ad_ lm_ v1_)))
 (.ret (.tup (.cons (.int .i64 (.lit 0)) (.cons (.int .i64 (.lit (-1))) .nil))))
 (.ret (.tup (.cons (.int .i64 (wr_ (sb_ v0_ v1_))) (.cons (.int .i64 (.lit 0)) .nil)))))
 (.ret (.tup (.cons (.int .i64 (wr_ (sb_ v0_ v1_))) (.cons (.int .i64 (.lit 0)) .nil))))))
abbrev zfc_rless : Con := ⟨168, [z0_, z1_], (an_ (an_ (le_ lm_ v0_) (le_ v0_ lM_)) (an_ (le_ lm_ v1_) (le_ v1_ lM_))), (.tup (.cons (.int .i64 (.iapp 24 (.cons (.int .i64 (sb_ v0_ v1_)) .nil))) (.cons (.int .i64 (.iapp 25 (.cons (.int .i64 (sb_ v0_ v1_)) .nil))) .nil))), ⟨2, 0, 0, 0⟩, none⟩
theorem rless_w : walk Tryd.prog 203 ⟨[], syG, [], [], []⟩ [] .v zfc_rless zfc_rless.n 3000 = some rless_tree := by kernel_rfl
theorem rless_h (a : Int) (b : Int) (hc : holds (zfE [a, b] [] [] []) (an_ (an_ (le_ lm_ v0_) (le_ v0_ lM_)) (an_ (le_ lm_ v1_) (le_ v1_ lM_)))) (hty : patsTyp (zfE [a, b] [] [] []) [z0_, z1_]) : rless_tree.holds (fun v_ => v_ = denV (zfE [a, b] [] [] []) b0 (.tup (.cons (.int .i64 (.iapp 24 (.cons (.int .i64 (sb_ v0_ v1_)) .nil))) (.cons (.int .i64 (.iapp 25 (.cons (.int .i64 (sb_ v0_ v1_)) .nil))) .nil)))) (zfE [a, b] [] [] []) := by
  simp only [Tree.holds, Sy.holds, AllN, Env.more, zfE, List.cons_append, List.nil_append, List.append_nil, denV, denI, denB, denL, I2.den, VOp.den, List.getD_cons_zero, List.getD_cons_succ, Cst.den, syso, syse, syio, sybo, List.map_nil, List.map_cons, B2.ofInts, B2.denI, B2.denB, if_true, Bool.false_eq_true, if_false, Nat.div_one, Nat.mul_one, Nat.add_zero, holds] at hc
  simp only [patsTyp, patTyp, patTypL, zfE, denV, denL, List.getD_cons_zero, List.getD_cons_succ, and_true, true_and] at hty
  unfold rless_tree
  simp only [Tree.holds, Sy.holds, AllN, Env.more, zfE, List.cons_append, List.nil_append, List.append_nil, denV, denI, denB, denL, I2.den, VOp.den, List.getD_cons_zero, List.getD_cons_succ, Cst.den, syso, syse, syio, sybo, zfi_rsv, zfi_rso, List.map_nil, List.map_cons, B2.ofInts, B2.denI, B2.denB, if_true, Bool.false_eq_true, if_false, Nat.div_one, Nat.mul_one, Nat.add_zero]
  refine ⟨fun h0 => ?_, fun h0 => ?_⟩
  ·
   have wf0 := wr_i64 (9223372036854775807 + b)
   refine ⟨fun h1 => ?_, fun h1 => ?_⟩
   ·
    have hs := svE_spec (a - b)
    first
    | (exfalso; omega)
    | (rw [show svE (a - b) = IntKind.wrap .i64 (a - b) by omega, show soE (a - b) = 0 by omega]; done)
    | (rw [show svE (a - b) = 0 by omega, show soE (a - b) = 1 by omega]; done)
    | (rw [show svE (a - b) = 0 by omega, show soE (a - b) = -1 by omega]; done)
   ·
    refine ⟨fun h2 => ?_, fun h2 => ?_⟩
    ·
     have wf1 := wr_i64 ((-9223372036854775808) + b)
     refine ⟨fun h3 => ?_, fun h3 => ?_⟩
     ·
      have hs := svE_spec (a - b)
      first
      | (exfalso; omega)
      | (rw [show svE (a - b) = IntKind.wrap .i64 (a - b) by omega, show soE (a - b) = 0 by omega]; done)
      | (rw [show svE (a - b) = 0 by omega, show soE (a - b) = 1 by omega]; done)
      | (rw [show svE (a - b) = 0 by omega, show soE (a - b) = -1 by omega]; done)
     ·
      have wf2 := wr_i64 (a - b)
      have hs := svE_spec (a - b)
      first
      | (exfalso; omega)
      | (rw [show svE (a - b) = IntKind.wrap .i64 (a - b) by omega, show soE (a - b) = 0 by omega]; done)
      | (rw [show svE (a - b) = 0 by omega, show soE (a - b) = 1 by omega]; done)
      | (rw [show svE (a - b) = 0 by omega, show soE (a - b) = -1 by omega]; done)
    ·
     have wf3 := wr_i64 (a - b)
     have hs := svE_spec (a - b)
     first
     | (exfalso; omega)
     | (rw [show svE (a - b) = IntKind.wrap .i64 (a - b) by omega, show soE (a - b) = 0 by omega]; done)
     | (rw [show svE (a - b) = 0 by omega, show soE (a - b) = 1 by omega]; done)
     | (rw [show svE (a - b) = 0 by omega, show soE (a - b) = -1 by omega]; done)
  ·
   refine ⟨fun h4 => ?_, fun h4 => ?_⟩
   ·
    have wf4 := wr_i64 ((-9223372036854775808) + b)
    refine ⟨fun h5 => ?_, fun h5 => ?_⟩
    ·
     have hs := svE_spec (a - b)
     first
     | (exfalso; omega)
     | (rw [show svE (a - b) = IntKind.wrap .i64 (a - b) by omega, show soE (a - b) = 0 by omega]; done)
     | (rw [show svE (a - b) = 0 by omega, show soE (a - b) = 1 by omega]; done)
     | (rw [show svE (a - b) = 0 by omega, show soE (a - b) = -1 by omega]; done)
    ·
     have wf5 := wr_i64 (a - b)
     have hs := svE_spec (a - b)
     first
     | (exfalso; omega)
     | (rw [show svE (a - b) = IntKind.wrap .i64 (a - b) by omega, show soE (a - b) = 0 by omega]; done)
     | (rw [show svE (a - b) = 0 by omega, show soE (a - b) = 1 by omega]; done)
     | (rw [show svE (a - b) = 0 by omega, show soE (a - b) = -1 by omega]; done)
   ·
    have wf6 := wr_i64 (a - b)
    have hs := svE_spec (a - b)
    first
    | (exfalso; omega)
    | (rw [show svE (a - b) = IntKind.wrap .i64 (a - b) by omega, show soE (a - b) = 0 by omega]; done)
    | (rw [show svE (a - b) = 0 by omega, show soE (a - b) = 1 by omega]; done)
    | (rw [show svE (a - b) = 0 by omega, show soE (a - b) = -1 by omega]; done)
theorem zfg_rless : zfc_rless.Good Tryd.prog syG (zfE [] [] [] []) := good_of_walk (Γ := ⟨[], syG, [], [], []⟩) (ρ := zfE [] [] [] []) sym rless_w rfl (fun _ _ _ _ => ok_nil) (fun a b hc hty => rless_h a b hc hty)
def rdiv_tree : Tree :=
 (.need (.not (eq_ v1_ (.lit 0)))
 (.br (lt_ v0_ (.lit 0))
 (.br (.not (eq_ (wr_ (ml_ (wr_ (.i2 .quo v0_ v1_)) v1_)) v0_))
 (.ret (.tup (.cons (.int .i64 (wr_ (sb_ (wr_ (.i2 .quo v0_ v1_)) (.lit 1)))) (.cons (.int .i64 (wr_ (sb_ v0_ (wr_ (ml_ (wr_ (sb_ (wr_ (.i2 .quo v0_ v1_)) (.lit 1))) v1_))))) .nil))))
 (.ret (.tup (.cons (.int .i64 (wr_ (.i2 .quo v0_ v1_))) (.cons (.int .i64 (wr_ (sb_ v0_ (wr_ (ml_ (wr_ (.i2 .quo v0_ v1_)) v1_))))) .nil)))))
 (.ret (.tup (.cons (.int .i64 (wr_ (.i2 .quo v0_ v1_))) (.cons (.int .i64 (wr_ (sb_ v0_ (wr_ (ml_ (wr_ (.i2 .quo v0_ v1_)) v1_))))) .nil))))))
abbrev zfc_rdiv : Con := ⟨165, [z0_, z1_], (an_ (an_ (an_ (le_ lm_ v0_) (le_ v0_ lM_)) (an_ (le_ lm_ v1_) (le_ v1_ lM_))) (le_ (.lit 1) v1_)), (.tup (.cons (.int .i64 (.iapp 19 (.cons z0_ (.cons z1_ .nil)))) (.cons (.int .i64 (.iapp 20 (.cons z0_ (.cons z1_ .nil)))) .nil))), ⟨2, 0, 0, 0⟩, none⟩
theorem rdiv_w : walk Tryd.prog 203 ⟨[], syG, [], [], []⟩ [] .v zfc_rdiv zfc_rdiv.n 3000 = some rdiv_tree := by kernel_rfl
theorem rdiv_h (a : Int) (b : Int) (hc : holds (zfE [a, b] [] [] []) (an_ (an_ (an_ (le_ lm_ v0_) (le_ v0_ lM_)) (an_ (le_ lm_ v1_) (le_ v1_ lM_))) (le_ (.lit 1) v1_))) (hty : patsTyp (zfE [a, b] [] [] []) [z0_, z1_]) : rdiv_tree.holds (fun v_ => v_ = denV (zfE [a, b] [] [] []) b0 (.tup (.cons (.int .i64 (.iapp 19 (.cons z0_ (.cons z1_ .nil)))) (.cons (.int .i64 (.iapp 20 (.cons z0_ (.cons z1_ .nil)))) .nil)))) (zfE [a, b] [] [] []) := by
  simp only [Tree.holds, Sy.holds, AllN, Env.more, zfE, List.cons_append, List.nil_append, List.append_nil, denV, denI, denB, denL, I2.den, VOp.den, List.getD_cons_zero, List.getD_cons_succ, Cst.den, syso, syse, syio, sybo, List.map_nil, List.map_cons, B2.ofInts, B2.denI, B2.denB, if_true, Bool.false_eq_true, if_false, Nat.div_one, Nat.mul_one, Nat.add_zero, holds] at hc
  simp only [patsTyp, patTyp, patTypL, zfE, denV, denL, List.getD_cons_zero, List.getD_cons_succ, and_true, true_and] at hty
  unfold rdiv_tree
  simp only [Tree.holds, Sy.holds, AllN, Env.more, zfE, List.cons_append, List.nil_append, List.append_nil, denV, denI, denB, denL, I2.den, VOp.den, List.getD_cons_zero, List.getD_cons_succ, Cst.den, syso, syse, syio, sybo, zfi_dq, zfi_dm, List.map_nil, List.map_cons, B2.ofInts, B2.denI, B2.denB, if_true, Bool.false_eq_true, if_false, Nat.div_one, Nat.mul_one, Nat.add_zero]
  have f1 := dE_spec a b
  have f2 := dm_spec a b ⟨by omega, by omega⟩
  have f3 := Int.tdiv_mul_add_tmod a b
  have f4 := wr_i64 (a.tdiv b)
  have f5 : IntKind.wrap .i64 (a.tdiv b) = a.tdiv b := by omega
  simp only [f5]
  clear f4 f5
  have f6 : (a.tdiv b - 1) * b = a.tdiv b * b - b := by rw [Int.sub_mul, Int.one_mul]
  have f7 := wr_i64 (a.tdiv b * b)
  have f8 := wr_i64 (a.tdiv b - 1)
  refine ⟨?_, fun h0 => ?_⟩
  ·
   omega
  ·
   refine ⟨fun h1 => ?_, fun h1 => ?_⟩
   ·
    refine ⟨fun h2 => ?_, fun h2 => ?_⟩
    ·
     have fs : (0 ≤ a ∧ 0 ≤ a.tmod b) ∨ (a < 0 ∧ a.tmod b ≤ 0) := by
       rcases Int.lt_or_le a 0 with h | h
       · right
         have := Int.tmod_nonneg b (show 0 ≤ -a by omega)
         rw [Int.neg_tmod] at this
         exact ⟨h, by omega⟩
       · exact .inl ⟨h, Int.tmod_nonneg b h⟩
     have g1 : IntKind.wrap .i64 (a.tdiv b - 1) = a.tdiv b - 1 ∨ a.tdiv b ≤ -9223372036854775808 := by omega
     first
     | (exfalso; omega)
     | (have g2 : IntKind.wrap .i64 (a.tdiv b - 1) = a.tdiv b - 1 := by omega
        rw [g2, f6]
        simp only [Value.tuple.injEq, Array.mk.injEq, List.cons.injEq, Value.int.injEq, true_and, and_true]
        refine ⟨by omega, ?_⟩
        rw [IntKind.wrap_i64, IntKind.wrap_i64]
        omega)
     | (simp only [Value.tuple.injEq, Array.mk.injEq, List.cons.injEq, Value.int.injEq, true_and, and_true]
        refine ⟨by omega, ?_⟩
        rw [IntKind.wrap_i64, IntKind.wrap_i64]
        omega)
    ·
     have fs : (0 ≤ a ∧ 0 ≤ a.tmod b) ∨ (a < 0 ∧ a.tmod b ≤ 0) := by
       rcases Int.lt_or_le a 0 with h | h
       · right
         have := Int.tmod_nonneg b (show 0 ≤ -a by omega)
         rw [Int.neg_tmod] at this
         exact ⟨h, by omega⟩
       · exact .inl ⟨h, Int.tmod_nonneg b h⟩
     have g1 : IntKind.wrap .i64 (a.tdiv b - 1) = a.tdiv b - 1 ∨ a.tdiv b ≤ -9223372036854775808 := by omega
     first
     | (exfalso; omega)
     | (have g2 : IntKind.wrap .i64 (a.tdiv b - 1) = a.tdiv b - 1 := by omega
        rw [g2, f6]
        simp only [Value.tuple.injEq, Array.mk.injEq, List.cons.injEq, Value.int.injEq, true_and, and_true]
        refine ⟨by omega, ?_⟩
        rw [IntKind.wrap_i64, IntKind.wrap_i64]
        omega)
     | (simp only [Value.tuple.injEq, Array.mk.injEq, List.cons.injEq, Value.int.injEq, true_and, and_true]
        refine ⟨by omega, ?_⟩
        rw [IntKind.wrap_i64, IntKind.wrap_i64]
        omega)
   ·
    have fs : (0 ≤ a ∧ 0 ≤ a.tmod b) ∨ (a < 0 ∧ a.tmod b ≤ 0) := by
      rcases Int.lt_or_le a 0 with h | h
      · right
        have := Int.tmod_nonneg b (show 0 ≤ -a by omega)
        rw [Int.neg_tmod] at this
        exact ⟨h, by omega⟩
      · exact .inl ⟨h, Int.tmod_nonneg b h⟩
    have g1 : IntKind.wrap .i64 (a.tdiv b - 1) = a.tdiv b - 1 ∨ a.tdiv b ≤ -9223372036854775808 := by omega
    first
    | (exfalso; omega)
    | (have g2 : IntKind.wrap .i64 (a.tdiv b - 1) = a.tdiv b - 1 := by omega
       rw [g2, f6]
       simp only [Value.tuple.injEq, Array.mk.injEq, List.cons.injEq, Value.int.injEq, true_and, and_true]
       refine ⟨by omega, ?_⟩
       rw [IntKind.wrap_i64, IntKind.wrap_i64]
       omega)
    | (simp only [Value.tuple.injEq, Array.mk.injEq, List.cons.injEq, Value.int.injEq, true_and, and_true]
       refine ⟨by omega, ?_⟩
       rw [IntKind.wrap_i64, IntKind.wrap_i64]
       omega)
theorem zfg_rdiv : zfc_rdiv.Good Tryd.prog syG (zfE [] [] [] []) := good_of_walk (Γ := ⟨[], syG, [], [], []⟩) (ρ := zfE [] [] [] []) sym rdiv_w rfl (fun _ _ _ _ => ok_nil) (fun a b hc hty => rdiv_h a b hc hty)
def fcheck_tree : Tree :=
 (.br (lt_ v0_ (.lit 0))
 (.ret (.iface 203 (.int .i64 (.lit 1))))
 (.br (lt_ (.lit 1099511627776) v0_)
 (.ret (.iface 203 (.int .i64 (.lit 1))))
 (.br (lt_ v1_ (.lit 1))
 (.ret (.iface 203 (.int .i64 (.lit 1))))
 (.br (lt_ (.lit 1125899906842624) v1_)
 (.ret (.iface 203 (.int .i64 (.lit 1))))
 (.ret (.cst .nilI))))))
abbrev zfc_fcheck : Con := ⟨73, [(.agg (.cons z0_ (.cons z1_ .nil)))], (an_ (an_ (le_ lm_ v0_) (le_ v0_ lM_)) (an_ (le_ lm_ v1_) (le_ v1_ lM_))), (.err (.iapp 26 (.cons z0_ (.cons z1_ .nil)))), ⟨2, 0, 0, 0⟩, none⟩
theorem fcheck_w : walk Tryd.prog 203 ⟨[], syG, [], [], []⟩ [] .v zfc_fcheck zfc_fcheck.n 3000 = some fcheck_tree := by kernel_rfl
theorem fcheck_h (w : Int) (c : Int) (hc : holds (zfE [w, c] [] [] []) (an_ (an_ (le_ lm_ v0_) (le_ v0_ lM_)) (an_ (le_ lm_ v1_) (le_ v1_ lM_)))) (hty : patsTyp (zfE [w, c] [] [] []) [(.agg (.cons z0_ (.cons z1_ .nil)))]) : fcheck_tree.holds (fun v_ => v_ = denV (zfE [w, c] [] [] []) b0 (.err (.iapp 26 (.cons z0_ (.cons z1_ .nil))))) (zfE [w, c] [] [] []) := by
  simp only [Tree.holds, Sy.holds, AllN, Env.more, zfE, List.cons_append, List.nil_append, List.append_nil, denV, denI, denB, denL, I2.den, VOp.den, List.getD_cons_zero, List.getD_cons_succ, Cst.den, syso, syse, syio, sybo, List.map_nil, List.map_cons, B2.ofInts, B2.denI, B2.denB, if_true, Bool.false_eq_true, if_false, Nat.div_one, Nat.mul_one, Nat.add_zero, holds] at hc
  simp only [patsTyp, patTyp, patTypL, zfE, denV, denL, List.getD_cons_zero, List.getD_cons_succ, and_true, true_and] at hty
  unfold fcheck_tree
  simp only [Tree.holds, Sy.holds, AllN, Env.more, zfE, List.cons_append, List.nil_append, List.append_nil, denV, denI, denB, denL, I2.den, VOp.den, List.getD_cons_zero, List.getD_cons_succ, Cst.den, syso, syse, syio, sybo, zfi_fck, List.map_nil, List.map_cons, B2.ofInts, B2.denI, B2.denB, if_true, Bool.false_eq_true, if_false, Nat.div_one, Nat.mul_one, Nat.add_zero]
  refine ⟨fun h0 => ?_, fun h0 => ?_⟩
  ·
   have s1 := ck_spec w c
   first | exact errV1 (by omega) | exact errV0 (by omega) | exact errV2 (by omega) | (exfalso; omega)
  ·
   refine ⟨fun h1 => ?_, fun h1 => ?_⟩
   ·
    have s1 := ck_spec w c
    first | exact errV1 (by omega) | exact errV0 (by omega) | exact errV2 (by omega) | (exfalso; omega)
   ·
    refine ⟨fun h2 => ?_, fun h2 => ?_⟩
    ·
     have s1 := ck_spec w c
     first | exact errV1 (by omega) | exact errV0 (by omega) | exact errV2 (by omega) | (exfalso; omega)
    ·
     refine ⟨fun h3 => ?_, fun h3 => ?_⟩
     ·
      have s1 := ck_spec w c
      first | exact errV1 (by omega) | exact errV0 (by omega) | exact errV2 (by omega) | (exfalso; omega)
     ·
      have s1 := ck_spec w c
      first | exact errV1 (by omega) | exact errV0 (by omega) | exact errV2 (by omega) | (exfalso; omega)
theorem zfg_fcheck : zfc_fcheck.Good Tryd.prog syG (zfE [] [] [] []) := good_of_walk (Γ := ⟨[], syG, [], [], []⟩) (ρ := zfE [] [] [] []) sym fcheck_w rfl (fun _ _ _ _ => ok_nil) (fun w c hc hty => fcheck_h w c hc hty)
def rmay25_tree : Tree :=
 (.br (le_ (.lit 0) v0_)
 (.br (le_ v0_ (.lit 1099511627776))
 (.br (le_ (.lit 1) v1_)
 (.ret (.bool (le_ v1_ (.lit 1125899906842624))))
 (.ret (.bool (.tt false))))
 (.ret (.bool (.tt false))))
 (.ret (.bool (.tt false))))
abbrev zfc_rmay25 : Con := ⟨74, [(.agg (.cons z0_ (.cons z1_ .nil)))], (an_ (an_ (le_ lm_ v0_) (le_ v0_ lM_)) (an_ (le_ lm_ v1_) (le_ v1_ lM_))), (.bool (eq_ (.iapp 26 (.cons z0_ (.cons z1_ .nil))) (.lit 0))), ⟨2, 0, 0, 0⟩, none⟩
theorem rmay25_w : walk Tryd.prog 203 ⟨[], syG, [], [], []⟩ [] .v zfc_rmay25 zfc_rmay25.n 3000 = some rmay25_tree := by kernel_rfl
theorem rmay25_h (w : Int) (c : Int) (hc : holds (zfE [w, c] [] [] []) (an_ (an_ (le_ lm_ v0_) (le_ v0_ lM_)) (an_ (le_ lm_ v1_) (le_ v1_ lM_)))) (hty : patsTyp (zfE [w, c] [] [] []) [(.agg (.cons z0_ (.cons z1_ .nil)))]) : rmay25_tree.holds (fun v_ => v_ = denV (zfE [w, c] [] [] []) b0 (.bool (eq_ (.iapp 26 (.cons z0_ (.cons z1_ .nil))) (.lit 0)))) (zfE [w, c] [] [] []) := by
  simp only [Tree.holds, Sy.holds, AllN, Env.more, zfE, List.cons_append, List.nil_append, List.append_nil, denV, denI, denB, denL, I2.den, VOp.den, List.getD_cons_zero, List.getD_cons_succ, Cst.den, syso, syse, syio, sybo, List.map_nil, List.map_cons, B2.ofInts, B2.denI, B2.denB, if_true, Bool.false_eq_true, if_false, Nat.div_one, Nat.mul_one, Nat.add_zero, holds] at hc
  simp only [patsTyp, patTyp, patTypL, zfE, denV, denL, List.getD_cons_zero, List.getD_cons_succ, and_true, true_and] at hty
  unfold rmay25_tree
  simp only [Tree.holds, Sy.holds, AllN, Env.more, zfE, List.cons_append, List.nil_append, List.append_nil, denV, denI, denB, denL, I2.den, VOp.den, List.getD_cons_zero, List.getD_cons_succ, Cst.den, syso, syse, syio, sybo, zfi_fck, List.map_nil, List.map_cons, B2.ofInts, B2.denI, B2.denB, if_true, Bool.false_eq_true, if_false, Nat.div_one, Nat.mul_one, Nat.add_zero]
  refine ⟨fun h0 => ?_, fun h0 => ?_⟩
  ·
   refine ⟨fun h1 => ?_, fun h1 => ?_⟩
   ·
    refine ⟨fun h2 => ?_, fun h2 => ?_⟩
    ·
     have s1 := ck_spec w c
     refine congrArg Value.bool (Bool.eq_iff_iff.2 ?_)
     simp only [decide_eq_true_eq, beq_iff_eq, true_iff, false_iff, Bool.false_eq_true]
     omega
    ·
     have s1 := ck_spec w c
     refine congrArg Value.bool (Bool.eq_iff_iff.2 ?_)
     simp only [decide_eq_true_eq, beq_iff_eq, true_iff, false_iff, Bool.false_eq_true]
     omega
   ·
    have s1 := ck_spec w c
    refine congrArg Value.bool (Bool.eq_iff_iff.2 ?_)
    simp only [decide_eq_true_eq, beq_iff_eq, true_iff, false_iff, Bool.false_eq_true]
    omega
  ·
   have s1 := ck_spec w c
   refine congrArg Value.bool (Bool.eq_iff_iff.2 ?_)
   simp only [decide_eq_true_eq, beq_iff_eq, true_iff, false_iff, Bool.false_eq_true]
   omega
theorem zfg_rmay25 : zfc_rmay25.Good Tryd.prog syG (zfE [] [] [] []) := good_of_walk (Γ := ⟨[], syG, [], [], []⟩) (ρ := zfE [] [] [] []) sym rmay25_w rfl (fun _ _ _ _ => ok_nil) (fun w c hc hty => rmay25_h w c hc hty)
def fbyp_tree : Tree :=
 (.need (an_ (an_ (le_ lm_ v0_) (le_ v0_ lM_)) (an_ (le_ lm_ v1_) (le_ v1_ lM_)))
 (.br (.not (eq_ (.iapp 26 (.cons z0_ (.cons z1_ .nil))) (.lit 0)))
 (.ret (.tup (.cons (.int .i64 (.lit 0)) (.cons (.err (.iapp 26 (.cons z0_ (.cons z1_ .nil)))) .nil))))
 (.need (an_ (an_ (le_ lm_ (.var 18)) (le_ (.var 18) lM_)) (an_ (le_ lm_ v1_) (le_ v1_ lM_)))
 (.br (.not (eq_ (.iapp 21 (.cons z1_ .nil)) (.lit 0)))
 (.ret (.tup (.cons (.int .i64 (.lit 0)) (.cons (.err (.iapp 21 (.cons z1_ .nil))) .nil))))
 (.need (an_ (.bapp 0 (.cons (.tup (.cons (.int .u8 v2_) (.cons (.int .u8 v3_) (.cons (.int .u8 v4_) (.cons (.int .u8 v5_) (.cons (.int .u8 v6_) (.cons (.int .u8 v7_) (.cons (.int .u8 v8_) (.cons (.int .u8 v9_) (.cons (.int .u8 (.var 10)) (.cons (.int .u8 (.var 11)) (.cons (.int .u8 (.var 12)) (.cons (.int .u8 (.var 13)) (.cons (.int .u8 (.var 14)) (.cons (.int .u8 (.var 15)) (.cons (.int .u8 (.var 16)) (.cons (.int .u8 (.var 17)) .nil))))))))))))))))) .nil)) (an_ (an_ (le_ lm_ (.iapp 19 (.cons (.int .i64 (.var 18)) (.cons z1_ .nil)))) (le_ (.iapp 19 (.cons (.int .i64 (.var 18)) (.cons z1_ .nil))) lM_)) (an_ (le_ (.lit 0) (.wrap .u64 v0_)) (le_ (.wrap .u64 v0_) (.lit 18446744073709551615)))))
 (.ret (.tup (.cons (.int .i64 (wr_ (.iapp 17 (.cons (.tup (.cons (.int .u8 v2_) (.cons (.int .u8 v3_) (.cons (.int .u8 v4_) (.cons (.int .u8 v5_) (.cons (.int .u8 v6_) (.cons (.int .u8 v7_) (.cons (.int .u8 v8_) (.cons (.int .u8 v9_) (.cons (.int .u8 (.var 10)) (.cons (.int .u8 (.var 11)) (.cons (.int .u8 (.var 12)) (.cons (.int .u8 (.var 13)) (.cons (.int .u8 (.var 14)) (.cons (.int .u8 (.var 15)) (.cons (.int .u8 (.var 16)) (.cons (.int .u8 (.var 17)) .nil))))))))))))))))) (.cons (.int .i64 (.iapp 19 (.cons (.int .i64 (.var 18)) (.cons z1_ .nil)))) (.cons (.int .u64 (.wrap .u64 v0_)) .nil)))))) (.cons (.cst .nilI) .nil)))))))))
abbrev zfc_fbyp : Con := ⟨68, [(.agg (.cons z0_ (.cons z1_ .nil))), (.agg (.cons (.int .u8 v2_) (.cons (.int .u8 v3_) (.cons (.int .u8 v4_) (.cons (.int .u8 v5_) (.cons (.int .u8 v6_) (.cons (.int .u8 v7_) (.cons (.int .u8 v8_) (.cons (.int .u8 v9_) (.cons (.int .u8 (.var 10)) (.cons (.int .u8 (.var 11)) (.cons (.int .u8 (.var 12)) (.cons (.int .u8 (.var 13)) (.cons (.int .u8 (.var 14)) (.cons (.int .u8 (.var 15)) (.cons (.int .u8 (.var 16)) (.cons (.int .u8 (.var 17)) .nil))))))))))))))))), (.int .i64 (.var 18))], (an_ (an_ (an_ (le_ lm_ v0_) (le_ v0_ lM_)) (an_ (le_ lm_ v1_) (le_ v1_ lM_))) (an_ (an_ (le_ lm_ (.var 18)) (le_ (.var 18) lM_)) (.bapp 0 (.cons (.tup (.cons (.int .u8 v2_) (.cons (.int .u8 v3_) (.cons (.int .u8 v4_) (.cons (.int .u8 v5_) (.cons (.int .u8 v6_) (.cons (.int .u8 v7_) (.cons (.int .u8 v8_) (.cons (.int .u8 v9_) (.cons (.int .u8 (.var 10)) (.cons (.int .u8 (.var 11)) (.cons (.int .u8 (.var 12)) (.cons (.int .u8 (.var 13)) (.cons (.int .u8 (.var 14)) (.cons (.int .u8 (.var 15)) (.cons (.int .u8 (.var 16)) (.cons (.int .u8 (.var 17)) .nil))))))))))))))))) .nil)))), (.tup (.cons (.int .i64 (.iapp 27 (.cons (.tup (.cons (.int .u8 v2_) (.cons (.int .u8 v3_) (.cons (.int .u8 v4_) (.cons (.int .u8 v5_) (.cons (.int .u8 v6_) (.cons (.int .u8 v7_) (.cons (.int .u8 v8_) (.cons (.int .u8 v9_) (.cons (.int .u8 (.var 10)) (.cons (.int .u8 (.var 11)) (.cons (.int .u8 (.var 12)) (.cons (.int .u8 (.var 13)) (.cons (.int .u8 (.var 14)) (.cons (.int .u8 (.var 15)) (.cons (.int .u8 (.var 16)) (.cons (.int .u8 (.var 17)) .nil))))))))))))))))) (.cons z0_ (.cons z1_ (.cons (.int .i64 (.var 18)) .nil)))))) (.cons (.err (.iapp 26 (.cons z0_ (.cons z1_ .nil)))) .nil))), ⟨19, 0, 0, 0⟩, none⟩
theorem fbyp_w : walk Tryd.prog 203 ⟨[zfc_fcheck, zfc_div, zrc_pnum], syG, [], [], []⟩ [] .v zfc_fbyp zfc_fbyp.n 3000 = some fbyp_tree := by kernel_rfl
theorem fbyp_h (w : Int) (c : Int) (k0 : Int) (k1 : Int) (k2 : Int) (k3 : Int) (k4 : Int) (k5 : Int) (k6 : Int) (k7 : Int) (k8 : Int) (k9 : Int) (k10 : Int) (k11 : Int) (k12 : Int) (k13 : Int) (k14 : Int) (k15 : Int) (t : Int) (hc : holds (zfE [w, c, k0, k1, k2, k3, k4, k5, k6, k7, k8, k9, k10, k11, k12, k13, k14, k15, t] [] [] []) (an_ (an_ (an_ (le_ lm_ v0_) (le_ v0_ lM_)) (an_ (le_ lm_ v1_) (le_ v1_ lM_))) (an_ (an_ (le_ lm_ (.var 18)) (le_ (.var 18) lM_)) (.bapp 0 (.cons (.tup (.cons (.int .u8 v2_) (.cons (.int .u8 v3_) (.cons (.int .u8 v4_) (.cons (.int .u8 v5_) (.cons (.int .u8 v6_) (.cons (.int .u8 v7_) (.cons (.int .u8 v8_) (.cons (.int .u8 v9_) (.cons (.int .u8 (.var 10)) (.cons (.int .u8 (.var 11)) (.cons (.int .u8 (.var 12)) (.cons (.int .u8 (.var 13)) (.cons (.int .u8 (.var 14)) (.cons (.int .u8 (.var 15)) (.cons (.int .u8 (.var 16)) (.cons (.int .u8 (.var 17)) .nil))))))))))))))))) .nil))))) (hty : patsTyp (zfE [w, c, k0, k1, k2, k3, k4, k5, k6, k7, k8, k9, k10, k11, k12, k13, k14, k15, t] [] [] []) [(.agg (.cons z0_ (.cons z1_ .nil))), (.agg (.cons (.int .u8 v2_) (.cons (.int .u8 v3_) (.cons (.int .u8 v4_) (.cons (.int .u8 v5_) (.cons (.int .u8 v6_) (.cons (.int .u8 v7_) (.cons (.int .u8 v8_) (.cons (.int .u8 v9_) (.cons (.int .u8 (.var 10)) (.cons (.int .u8 (.var 11)) (.cons (.int .u8 (.var 12)) (.cons (.int .u8 (.var 13)) (.cons (.int .u8 (.var 14)) (.cons (.int .u8 (.var 15)) (.cons (.int .u8 (.var 16)) (.cons (.int .u8 (.var 17)) .nil))))))))))))))))), (.int .i64 (.var 18))]) : fbyp_tree.holds (fun v_ => v_ = denV (zfE [w, c, k0, k1, k2, k3, k4, k5, k6, k7, k8, k9, k10, k11, k12, k13, k14, k15, t] [] [] []) b0 (.tup (.cons (.int .i64 (.iapp 27 (.cons (.tup (.cons (.int .u8 v2_) (.cons (.int .u8 v3_) (.cons (.int .u8 v4_) (.cons (.int .u8 v5_) (.cons (.int .u8 v6_) (.cons (.int .u8 v7_) (.cons (.int .u8 v8_) (.cons (.int .u8 v9_) (.cons (.int .u8 (.var 10)) (.cons (.int .u8 (.var 11)) (.cons (.int .u8 (.var 12)) (.cons (.int .u8 (.var 13)) (.cons (.int .u8 (.var 14)) (.cons (.int .u8 (.var 15)) (.cons (.int .u8 (.var 16)) (.cons (.int .u8 (.var 17)) .nil))))))))))))))))) (.cons z0_ (.cons z1_ (.cons (.int .i64 (.var 18)) .nil)))))) (.cons (.err (.iapp 26 (.cons z0_ (.cons z1_ .nil)))) .nil)))) (zfE [w, c, k0, k1, k2, k3, k4, k5, k6, k7, k8, k9, k10, k11, k12, k13, k14, k15, t] [] [] []) := by
  simp only [Tree.holds, Sy.holds, AllN, Env.more, zfE, List.cons_append, List.nil_append, List.append_nil, denV, denI, denB, denL, I2.den, VOp.den, List.getD_cons_zero, List.getD_cons_succ, Cst.den, syso, syse, syio, sybo, zfb_okr, List.map_nil, List.map_cons, B2.ofInts, B2.denI, B2.denB, if_true, Bool.false_eq_true, if_false, Nat.div_one, Nat.mul_one, Nat.add_zero, holds] at hc
  simp only [patsTyp, patTyp, patTypL, zfE, denV, denL, List.getD_cons_zero, List.getD_cons_succ, and_true, true_and] at hty
  unfold fbyp_tree
  simp only [Tree.holds, Sy.holds, AllN, Env.more, zfE, List.cons_append, List.nil_append, List.append_nil, denV, denI, denB, denL, I2.den, VOp.den, List.getD_cons_zero, List.getD_cons_succ, Cst.den, syso, syse, syio, sybo, zfi_nb, zfi_dq, zfi_de, zfi_fck, zfi_fby, zfb_okr, List.map_nil, List.map_cons, B2.ofInts, B2.denI, B2.denB, if_true, Bool.false_eq_true, if_false, Nat.div_one, Nat.mul_one, Nat.add_zero]
  generalize hKT : Value.tuple #[Value.int .u8 k0, Value.int .u8 k1, Value.int .u8 k2, Value.int .u8 k3, Value.int .u8 k4, Value.int .u8 k5, Value.int .u8 k6, Value.int .u8 k7, Value.int .u8 k8, Value.int .u8 k9, Value.int .u8 k10, Value.int .u8 k11, Value.int .u8 k12, Value.int .u8 k13, Value.int .u8 k14, Value.int .u8 k15] = KT at hc ⊢
  have s1 := by_spec (byL (Sy.rows KT)) w c t
  have s2 := ck_spec w c
  have d1 := dE_spec t c
  have d2 := dm_spec t c ⟨by omega, by omega⟩
  refine ⟨?_, fun h0 => ?_⟩
  ·
   first
   | omega
   | exact hc
   | (have wu := wr_u64 w
      refine ⟨hc.2.2, ?_⟩
      omega)
  ·
   refine ⟨fun h1 => ?_, fun h1 => ?_⟩
   ·
    first
    | (exfalso; omega)
    | (rw [show byF (byL (Sy.rows KT)) w c t = 0 by omega]; done)
    | (rw [show byF (byL (Sy.rows KT)) w c t = 0 by omega, show ckF w c = 1 by omega]; done)
    | (rw [show byF (byL (Sy.rows KT)) w c t = 0 by omega, show ckF w c = 1 by omega]; rfl)
    | (have e1 : dqE t c = t / c := by omega
       have e2 : IntKind.wrap .u64 w = w := by have := wr_u64 w; omega
       have hn := num_rng (k := byL (Sy.rows KT)) (p := t / c) (m := w) (by omega) (by omega)
       rw [e1, e2, show ckF w c = 0 by omega, show byF (byL (Sy.rows KT)) w c t = numS (byL (Sy.rows KT)) (t / c) w by omega]
       rw [show IntKind.wrap .i64 (numS (byL (Sy.rows KT)) (t / c) w) = numS (byL (Sy.rows KT)) (t / c) w by have := wr_i64 (numS (byL (Sy.rows KT)) (t / c) w); omega]
       all_goals rfl)
   ·
    refine ⟨?_, fun h2 => ?_⟩
    ·
     first
     | omega
     | exact hc
     | (have wu := wr_u64 w
        refine ⟨hc.2.2, ?_⟩
        omega)
    ·
     refine ⟨fun h3 => ?_, fun h3 => ?_⟩
     ·
      first
      | (exfalso; omega)
      | (rw [show byF (byL (Sy.rows KT)) w c t = 0 by omega]; done)
      | (rw [show byF (byL (Sy.rows KT)) w c t = 0 by omega, show ckF w c = 1 by omega]; done)
      | (rw [show byF (byL (Sy.rows KT)) w c t = 0 by omega, show ckF w c = 1 by omega]; rfl)
      | (have e1 : dqE t c = t / c := by omega
         have e2 : IntKind.wrap .u64 w = w := by have := wr_u64 w; omega
         have hn := num_rng (k := byL (Sy.rows KT)) (p := t / c) (m := w) (by omega) (by omega)
         rw [e1, e2, show ckF w c = 0 by omega, show byF (byL (Sy.rows KT)) w c t = numS (byL (Sy.rows KT)) (t / c) w by omega]
         rw [show IntKind.wrap .i64 (numS (byL (Sy.rows KT)) (t / c) w) = numS (byL (Sy.rows KT)) (t / c) w by have := wr_i64 (numS (byL (Sy.rows KT)) (t / c) w); omega]
         all_goals rfl)
     ·
      refine ⟨?_, fun h4 => ?_⟩
      ·
       first
       | omega
       | exact hc
       | (have wu := wr_u64 w
          refine ⟨hc.2.2, ?_⟩
          omega)
      ·
       try simp only [hw0]
       first
       | (exfalso; omega)
       | (rw [show byF (byL (Sy.rows KT)) w c t = 0 by omega]; done)
       | (rw [show byF (byL (Sy.rows KT)) w c t = 0 by omega, show ckF w c = 1 by omega]; done)
       | (rw [show byF (byL (Sy.rows KT)) w c t = 0 by omega, show ckF w c = 1 by omega]; rfl)
       | (have e1 : dqE t c = t / c := by omega
          have e2 : IntKind.wrap .u64 w = w := by have := wr_u64 w; omega
          have hn := num_rng (k := byL (Sy.rows KT)) (p := t / c) (m := w) (by omega) (by omega)
          rw [e1, e2, show ckF w c = 0 by omega, show byF (byL (Sy.rows KT)) w c t = numS (byL (Sy.rows KT)) (t / c) w by omega]
          rw [show IntKind.wrap .i64 (numS (byL (Sy.rows KT)) (t / c) w) = numS (byL (Sy.rows KT)) (t / c) w by have := wr_i64 (numS (byL (Sy.rows KT)) (t / c) w); omega]
          all_goals rfl)
theorem zfg_fbyp : zfc_fbyp.Good Tryd.prog syG (zfE [] [] [] []) := good_of_walk (Γ := ⟨[zfc_fcheck, zfc_div, zrc_pnum], syG, [], [], []⟩) (ρ := zfE [] [] [] []) sym fbyp_w rfl (fun _ _ _ _ => (ok_cons (Con.Good.env zfg_fcheck _ _ _ _) (ok_cons (Con.Good.env zfg_div _ _ _ _) (ok_cons (Con.Good.env (Con.Good.up zrg_pnum zfup rfl) _ _ _ _) ok_nil)))) (fun w c k0 k1 k2 k3 k4 k5 k6 k7 k8 k9 k10 k11 k12 k13 k14 k15 t hc hty => fbyp_h w c k0 k1 k2 k3 k4 k5 k6 k7 k8 k9 k10 k11 k12 k13 k14 k15 t hc hty)
def rby_tree : Tree :=
 (.need (an_ (an_ (le_ lm_ v0_) (le_ v0_ lM_)) (an_ (le_ lm_ v1_) (le_ v1_ lM_)))
 (.br (.not (eq_ (.iapp 26 (.cons z0_ (.cons z1_ .nil))) (.lit 0)))
 (.ret (.tup (.cons (.int .i64 (.lit 0)) (.cons (.int .i64 (.lit 1)) .nil))))
 (.need (an_ (an_ (an_ (le_ lm_ (.var 18)) (le_ (.var 18) lM_)) (an_ (le_ lm_ v1_) (le_ v1_ lM_))) (le_ (.lit 1) v1_))
 (.need (an_ (.bapp 0 (.cons (.tup (.cons (.int .u8 v2_) (.cons (.int .u8 v3_) (.cons (.int .u8 v4_) (.cons (.int .u8 v5_) (.cons (.int .u8 v6_) (.cons (.int .u8 v7_) (.cons (.int .u8 v8_) (.cons (.int .u8 v9_) (.cons (.int .u8 (.var 10)) (.cons (.int .u8 (.var 11)) (.cons (.int .u8 (.var 12)) (.cons (.int .u8 (.var 13)) (.cons (.int .u8 (.var 14)) (.cons (.int .u8 (.var 15)) (.cons (.int .u8 (.var 16)) (.cons (.int .u8 (.var 17)) .nil))))))))))))))))) .nil)) (an_ (an_ (le_ lm_ (.iapp 19 (.cons (.int .i64 (.var 18)) (.cons z1_ .nil)))) (le_ (.iapp 19 (.cons (.int .i64 (.var 18)) (.cons z1_ .nil))) lM_)) (an_ (le_ (.lit 0) (.wrap .u64 v0_)) (le_ (.wrap .u64 v0_) (.lit 18446744073709551615)))))
 (.ret (.tup (.cons (.int .i64 (wr_ (.iapp 17 (.cons (.tup (.cons (.int .u8 v2_) (.cons (.int .u8 v3_) (.cons (.int .u8 v4_) (.cons (.int .u8 v5_) (.cons (.int .u8 v6_) (.cons (.int .u8 v7_) (.cons (.int .u8 v8_) (.cons (.int .u8 v9_) (.cons (.int .u8 (.var 10)) (.cons (.int .u8 (.var 11)) (.cons (.int .u8 (.var 12)) (.cons (.int .u8 (.var 13)) (.cons (.int .u8 (.var 14)) (.cons (.int .u8 (.var 15)) (.cons (.int .u8 (.var 16)) (.cons (.int .u8 (.var 17)) .nil))))))))))))))))) (.cons (.int .i64 (.iapp 19 (.cons (.int .i64 (.var 18)) (.cons z1_ .nil)))) (.cons (.int .u64 (.wrap .u64 v0_)) .nil)))))) (.cons (.int .i64 (.lit 0)) .nil))))))))
abbrev zfc_rby : Con := ⟨69, [(.agg (.cons z0_ (.cons z1_ .nil))), (.agg (.cons (.int .u8 v2_) (.cons (.int .u8 v3_) (.cons (.int .u8 v4_) (.cons (.int .u8 v5_) (.cons (.int .u8 v6_) (.cons (.int .u8 v7_) (.cons (.int .u8 v8_) (.cons (.int .u8 v9_) (.cons (.int .u8 (.var 10)) (.cons (.int .u8 (.var 11)) (.cons (.int .u8 (.var 12)) (.cons (.int .u8 (.var 13)) (.cons (.int .u8 (.var 14)) (.cons (.int .u8 (.var 15)) (.cons (.int .u8 (.var 16)) (.cons (.int .u8 (.var 17)) .nil))))))))))))))))), (.int .i64 (.var 18))], (an_ (an_ (an_ (le_ lm_ v0_) (le_ v0_ lM_)) (an_ (le_ lm_ v1_) (le_ v1_ lM_))) (an_ (an_ (le_ lm_ (.var 18)) (le_ (.var 18) lM_)) (.bapp 0 (.cons (.tup (.cons (.int .u8 v2_) (.cons (.int .u8 v3_) (.cons (.int .u8 v4_) (.cons (.int .u8 v5_) (.cons (.int .u8 v6_) (.cons (.int .u8 v7_) (.cons (.int .u8 v8_) (.cons (.int .u8 v9_) (.cons (.int .u8 (.var 10)) (.cons (.int .u8 (.var 11)) (.cons (.int .u8 (.var 12)) (.cons (.int .u8 (.var 13)) (.cons (.int .u8 (.var 14)) (.cons (.int .u8 (.var 15)) (.cons (.int .u8 (.var 16)) (.cons (.int .u8 (.var 17)) .nil))))))))))))))))) .nil)))), (.tup (.cons (.int .i64 (.iapp 27 (.cons (.tup (.cons (.int .u8 v2_) (.cons (.int .u8 v3_) (.cons (.int .u8 v4_) (.cons (.int .u8 v5_) (.cons (.int .u8 v6_) (.cons (.int .u8 v7_) (.cons (.int .u8 v8_) (.cons (.int .u8 v9_) (.cons (.int .u8 (.var 10)) (.cons (.int .u8 (.var 11)) (.cons (.int .u8 (.var 12)) (.cons (.int .u8 (.var 13)) (.cons (.int .u8 (.var 14)) (.cons (.int .u8 (.var 15)) (.cons (.int .u8 (.var 16)) (.cons (.int .u8 (.var 17)) .nil))))))))))))))))) (.cons z0_ (.cons z1_ (.cons (.int .i64 (.var 18)) .nil)))))) (.cons (.int .i64 (.iapp 26 (.cons z0_ (.cons z1_ .nil)))) .nil))), ⟨19, 0, 0, 0⟩, none⟩
theorem rby_w : walk Tryd.prog 203 ⟨[zfc_rmay25, zfc_rdiv, zrc_rnum23], syG, [], [], []⟩ [] .v zfc_rby zfc_rby.n 3000 = some rby_tree := by kernel_rfl
theorem rby_h (w : Int) (c : Int) (k0 : Int) (k1 : Int) (k2 : Int) (k3 : Int) (k4 : Int) (k5 : Int) (k6 : Int) (k7 : Int) (k8 : Int) (k9 : Int) (k10 : Int) (k11 : Int) (k12 : Int) (k13 : Int) (k14 : Int) (k15 : Int) (t : Int) (hc : holds (zfE [w, c, k0, k1, k2, k3, k4, k5, k6, k7, k8, k9, k10, k11, k12, k13, k14, k15, t] [] [] []) (an_ (an_ (an_ (le_ lm_ v0_) (le_ v0_ lM_)) (an_ (le_ lm_ v1_) (le_ v1_ lM_))) (an_ (an_ (le_ lm_ (.var 18)) (le_ (.var 18) lM_)) (.bapp 0 (.cons (.tup (.cons (.int .u8 v2_) (.cons (.int .u8 v3_) (.cons (.int .u8 v4_) (.cons (.int .u8 v5_) (.cons (.int .u8 v6_) (.cons (.int .u8 v7_) (.cons (.int .u8 v8_) (.cons (.int .u8 v9_) (.cons (.int .u8 (.var 10)) (.cons (.int .u8 (.var 11)) (.cons (.int .u8 (.var 12)) (.cons (.int .u8 (.var 13)) (.cons (.int .u8 (.var 14)) (.cons (.int .u8 (.var 15)) (.cons (.int .u8 (.var 16)) (.cons (.int .u8 (.var 17)) .nil))))))))))))))))) .nil))))) (hty : patsTyp (zfE [w, c, k0, k1, k2, k3, k4, k5, k6, k7, k8, k9, k10, k11, k12, k13, k14, k15, t] [] [] []) [(.agg (.cons z0_ (.cons z1_ .nil))), (.agg (.cons (.int .u8 v2_) (.cons (.int .u8 v3_) (.cons (.int .u8 v4_) (.cons (.int .u8 v5_) (.cons (.int .u8 v6_) (.cons (.int .u8 v7_) (.cons (.int .u8 v8_) (.cons (.int .u8 v9_) (.cons (.int .u8 (.var 10)) (.cons (.int .u8 (.var 11)) (.cons (.int .u8 (.var 12)) (.cons (.int .u8 (.var 13)) (.cons (.int .u8 (.var 14)) (.cons (.int .u8 (.var 15)) (.cons (.int .u8 (.var 16)) (.cons (.int .u8 (.var 17)) .nil))))))))))))))))), (.int .i64 (.var 18))]) : rby_tree.holds (fun v_ => v_ = denV (zfE [w, c, k0, k1, k2, k3, k4, k5, k6, k7, k8, k9, k10, k11, k12, k13, k14, k15, t] [] [] []) b0 (.tup (.cons (.int .i64 (.iapp 27 (.cons (.tup (.cons (.int .u8 v2_) (.cons (.int .u8 v3_) (.cons (.int .u8 v4_) (.cons (.int .u8 v5_) (.cons (.int .u8 v6_) (.cons (.int .u8 v7_) (.cons (.int .u8 v8_) (.cons (.int .u8 v9_) (.cons (.int .u8 (.var 10)) (.cons (.int .u8 (.var 11)) (.cons (.int .u8 (.var 12)) (.cons (.int .u8 (.var 13)) (.cons (.int .u8 (.var 14)) (.cons (.int .u8 (.var 15)) (.cons (.int .u8 (.var 16)) (.cons (.int .u8 (.var 17)) .nil))))))))))))))))) (.cons z0_ (.cons z1_ (.cons (.int .i64 (.var 18)) .nil)))))) (.cons (.int .i64 (.iapp 26 (.cons z0_ (.cons z1_ .nil)))) .nil)))) (zfE [w, c, k0, k1, k2, k3, k4, k5, k6, k7, k8, k9, k10, k11, k12, k13, k14, k15, t] [] [] []) := by
  simp only [Tree.holds, Sy.holds, AllN, Env.more, zfE, List.cons_append, List.nil_append, List.append_nil, denV, denI, denB, denL, I2.den, VOp.den, List.getD_cons_zero, List.getD_cons_succ, Cst.den, syso, syse, syio, sybo, zfb_okr, List.map_nil, List.map_cons, B2.ofInts, B2.denI, B2.denB, if_true, Bool.false_eq_true, if_false, Nat.div_one, Nat.mul_one, Nat.add_zero, holds] at hc
  simp only [patsTyp, patTyp, patTypL, zfE, denV, denL, List.getD_cons_zero, List.getD_cons_succ, and_true, true_and] at hty
  unfold rby_tree
  simp only [Tree.holds, Sy.holds, AllN, Env.more, zfE, List.cons_append, List.nil_append, List.append_nil, denV, denI, denB, denL, I2.den, VOp.den, List.getD_cons_zero, List.getD_cons_succ, Cst.den, syso, syse, syio, sybo, zfi_nb, zfi_dq, zfi_fck, zfi_fby, zfb_okr, List.map_nil, List.map_cons, B2.ofInts, B2.denI, B2.denB, if_true, Bool.false_eq_true, if_false, Nat.div_one, Nat.mul_one, Nat.add_zero]
  generalize hKT : Value.tuple #[Value.int .u8 k0, Value.int .u8 k1, Value.int .u8 k2, Value.int .u8 k3, Value.int .u8 k4, Value.int .u8 k5, Value.int .u8 k6, Value.int .u8 k7, Value.int .u8 k8, Value.int .u8 k9, Value.int .u8 k10, Value.int .u8 k11, Value.int .u8 k12, Value.int .u8 k13, Value.int .u8 k14, Value.int .u8 k15] = KT at hc ⊢
  have s1 := by_spec (byL (Sy.rows KT)) w c t
  have s2 := ck_spec w c
  have d1 := dE_spec t c
  have d2 := dm_spec t c ⟨by omega, by omega⟩
  refine ⟨?_, fun h0 => ?_⟩
  ·
   first
   | omega
   | exact hc
   | (have wu := wr_u64 w
      refine ⟨hc.2.2, ?_⟩
      omega)
  ·
   refine ⟨fun h1 => ?_, fun h1 => ?_⟩
   ·
    first
    | (exfalso; omega)
    | (rw [show byF (byL (Sy.rows KT)) w c t = 0 by omega]; done)
    | (rw [show byF (byL (Sy.rows KT)) w c t = 0 by omega, show ckF w c = 1 by omega]; done)
    | (rw [show byF (byL (Sy.rows KT)) w c t = 0 by omega, show ckF w c = 1 by omega]; rfl)
    | (have e1 : dqE t c = t / c := by omega
       have e2 : IntKind.wrap .u64 w = w := by have := wr_u64 w; omega
       have hn := num_rng (k := byL (Sy.rows KT)) (p := t / c) (m := w) (by omega) (by omega)
       rw [e1, e2, show ckF w c = 0 by omega, show byF (byL (Sy.rows KT)) w c t = numS (byL (Sy.rows KT)) (t / c) w by omega]
       rw [show IntKind.wrap .i64 (numS (byL (Sy.rows KT)) (t / c) w) = numS (byL (Sy.rows KT)) (t / c) w by have := wr_i64 (numS (byL (Sy.rows KT)) (t / c) w); omega]
       all_goals rfl)
   ·
    refine ⟨?_, fun h2 => ?_⟩
    ·
     first
     | omega
     | exact hc
     | (have wu := wr_u64 w
        refine ⟨hc.2.2, ?_⟩
        omega)
    ·
     refine ⟨?_, fun h3 => ?_⟩
     ·
      first
      | omega
      | exact hc
      | (have wu := wr_u64 w
         refine ⟨hc.2.2, ?_⟩
         omega)
     ·
      try simp only [hw0]
      first
      | (exfalso; omega)
      | (rw [show byF (byL (Sy.rows KT)) w c t = 0 by omega]; done)
      | (rw [show byF (byL (Sy.rows KT)) w c t = 0 by omega, show ckF w c = 1 by omega]; done)
      | (rw [show byF (byL (Sy.rows KT)) w c t = 0 by omega, show ckF w c = 1 by omega]; rfl)
      | (have e1 : dqE t c = t / c := by omega
         have e2 : IntKind.wrap .u64 w = w := by have := wr_u64 w; omega
         have hn := num_rng (k := byL (Sy.rows KT)) (p := t / c) (m := w) (by omega) (by omega)
         rw [e1, e2, show ckF w c = 0 by omega, show byF (byL (Sy.rows KT)) w c t = numS (byL (Sy.rows KT)) (t / c) w by omega]
         rw [show IntKind.wrap .i64 (numS (byL (Sy.rows KT)) (t / c) w) = numS (byL (Sy.rows KT)) (t / c) w by have := wr_i64 (numS (byL (Sy.rows KT)) (t / c) w); omega]
         all_goals rfl)
theorem zfg_rby : zfc_rby.Good Tryd.prog syG (zfE [] [] [] []) := good_of_walk (Γ := ⟨[zfc_rmay25, zfc_rdiv, zrc_rnum23], syG, [], [], []⟩) (ρ := zfE [] [] [] []) sym rby_w rfl (fun _ _ _ _ => (ok_cons (Con.Good.env zfg_rmay25 _ _ _ _) (ok_cons (Con.Good.env zfg_rdiv _ _ _ _) (ok_cons (Con.Good.env (Con.Good.up zrg_rnum23 zfup rfl) _ _ _ _) ok_nil)))) (fun w c k0 k1 k2 k3 k4 k5 k6 k7 k8 k9 k10 k11 k12 k13 k14 k15 t hc hty => rby_h w c k0 k1 k2 k3 k4 k5 k6 k7 k8 k9 k10 k11 k12 k13 k14 k15 t hc hty)
def fatp_tree : Tree :=
 (.need (an_ (an_ (an_ (le_ lm_ v0_) (le_ v0_ lM_)) (an_ (le_ lm_ v1_) (le_ v1_ lM_))) (an_ (an_ (le_ lm_ (.var 18)) (le_ (.var 18) lM_)) (.bapp 0 (.cons (.tup (.cons (.int .u8 v2_) (.cons (.int .u8 v3_) (.cons (.int .u8 v4_) (.cons (.int .u8 v5_) (.cons (.int .u8 v6_) (.cons (.int .u8 v7_) (.cons (.int .u8 v8_) (.cons (.int .u8 v9_) (.cons (.int .u8 (.var 10)) (.cons (.int .u8 (.var 11)) (.cons (.int .u8 (.var 12)) (.cons (.int .u8 (.var 13)) (.cons (.int .u8 (.var 14)) (.cons (.int .u8 (.var 15)) (.cons (.int .u8 (.var 16)) (.cons (.int .u8 (.var 17)) .nil))))))))))))))))) .nil))))
 (.br (.not (eq_ (.iapp 26 (.cons z0_ (.cons z1_ .nil))) (.lit 0)))
 (.ret (.tup (.cons (.int .i64 (.lit 0)) (.cons (.err (.iapp 26 (.cons z0_ (.cons z1_ .nil)))) .nil))))
 (.need (an_ (an_ (le_ lm_ (.var 18)) (le_ (.var 18) lM_)) (an_ (le_ lm_ (.iapp 27 (.cons (.tup (.cons (.int .u8 v2_) (.cons (.int .u8 v3_) (.cons (.int .u8 v4_) (.cons (.int .u8 v5_) (.cons (.int .u8 v6_) (.cons (.int .u8 v7_) (.cons (.int .u8 v8_) (.cons (.int .u8 v9_) (.cons (.int .u8 (.var 10)) (.cons (.int .u8 (.var 11)) (.cons (.int .u8 (.var 12)) (.cons (.int .u8 (.var 13)) (.cons (.int .u8 (.var 14)) (.cons (.int .u8 (.var 15)) (.cons (.int .u8 (.var 16)) (.cons (.int .u8 (.var 17)) .nil))))))))))))))))) (.cons z0_ (.cons z1_ (.cons (.int .i64 (.var 18)) .nil)))))) (le_ (.iapp 27 (.cons (.tup (.cons (.int .u8 v2_) (.cons (.int .u8 v3_) (.cons (.int .u8 v4_) (.cons (.int .u8 v5_) (.cons (.int .u8 v6_) (.cons (.int .u8 v7_) (.cons (.int .u8 v8_) (.cons (.int .u8 v9_) (.cons (.int .u8 (.var 10)) (.cons (.int .u8 (.var 11)) (.cons (.int .u8 (.var 12)) (.cons (.int .u8 (.var 13)) (.cons (.int .u8 (.var 14)) (.cons (.int .u8 (.var 15)) (.cons (.int .u8 (.var 16)) (.cons (.int .u8 (.var 17)) .nil))))))))))))))))) (.cons z0_ (.cons z1_ (.cons (.int .i64 (.var 18)) .nil))))) lM_)))
 (.ret (.tup (.cons (.int .i64 (.iapp 22 (.cons (.int .i64 (sb_ (.var 18) (.iapp 27 (.cons (.tup (.cons (.int .u8 v2_) (.cons (.int .u8 v3_) (.cons (.int .u8 v4_) (.cons (.int .u8 v5_) (.cons (.int .u8 v6_) (.cons (.int .u8 v7_) (.cons (.int .u8 v8_) (.cons (.int .u8 v9_) (.cons (.int .u8 (.var 10)) (.cons (.int .u8 (.var 11)) (.cons (.int .u8 (.var 12)) (.cons (.int .u8 (.var 13)) (.cons (.int .u8 (.var 14)) (.cons (.int .u8 (.var 15)) (.cons (.int .u8 (.var 16)) (.cons (.int .u8 (.var 17)) .nil))))))))))))))))) (.cons z0_ (.cons z1_ (.cons (.int .i64 (.var 18)) .nil))))))) .nil))) (.cons (.err (.iapp 23 (.cons (.int .i64 (sb_ (.var 18) (.iapp 27 (.cons (.tup (.cons (.int .u8 v2_) (.cons (.int .u8 v3_) (.cons (.int .u8 v4_) (.cons (.int .u8 v5_) (.cons (.int .u8 v6_) (.cons (.int .u8 v7_) (.cons (.int .u8 v8_) (.cons (.int .u8 v9_) (.cons (.int .u8 (.var 10)) (.cons (.int .u8 (.var 11)) (.cons (.int .u8 (.var 12)) (.cons (.int .u8 (.var 13)) (.cons (.int .u8 (.var 14)) (.cons (.int .u8 (.var 15)) (.cons (.int .u8 (.var 16)) (.cons (.int .u8 (.var 17)) .nil))))))))))))))))) (.cons z0_ (.cons z1_ (.cons (.int .i64 (.var 18)) .nil))))))) .nil))) .nil)))))))
abbrev zfc_fatp : Con := ⟨70, [(.agg (.cons z0_ (.cons z1_ .nil))), (.agg (.cons (.int .u8 v2_) (.cons (.int .u8 v3_) (.cons (.int .u8 v4_) (.cons (.int .u8 v5_) (.cons (.int .u8 v6_) (.cons (.int .u8 v7_) (.cons (.int .u8 v8_) (.cons (.int .u8 v9_) (.cons (.int .u8 (.var 10)) (.cons (.int .u8 (.var 11)) (.cons (.int .u8 (.var 12)) (.cons (.int .u8 (.var 13)) (.cons (.int .u8 (.var 14)) (.cons (.int .u8 (.var 15)) (.cons (.int .u8 (.var 16)) (.cons (.int .u8 (.var 17)) .nil))))))))))))))))), (.int .i64 (.var 18))], (an_ (an_ (an_ (le_ lm_ v0_) (le_ v0_ lM_)) (an_ (le_ lm_ v1_) (le_ v1_ lM_))) (an_ (an_ (le_ lm_ (.var 18)) (le_ (.var 18) lM_)) (.bapp 0 (.cons (.tup (.cons (.int .u8 v2_) (.cons (.int .u8 v3_) (.cons (.int .u8 v4_) (.cons (.int .u8 v5_) (.cons (.int .u8 v6_) (.cons (.int .u8 v7_) (.cons (.int .u8 v8_) (.cons (.int .u8 v9_) (.cons (.int .u8 (.var 10)) (.cons (.int .u8 (.var 11)) (.cons (.int .u8 (.var 12)) (.cons (.int .u8 (.var 13)) (.cons (.int .u8 (.var 14)) (.cons (.int .u8 (.var 15)) (.cons (.int .u8 (.var 16)) (.cons (.int .u8 (.var 17)) .nil))))))))))))))))) .nil)))), (.tup (.cons (.int .i64 (.iapp 28 (.cons (.tup (.cons (.int .u8 v2_) (.cons (.int .u8 v3_) (.cons (.int .u8 v4_) (.cons (.int .u8 v5_) (.cons (.int .u8 v6_) (.cons (.int .u8 v7_) (.cons (.int .u8 v8_) (.cons (.int .u8 v9_) (.cons (.int .u8 (.var 10)) (.cons (.int .u8 (.var 11)) (.cons (.int .u8 (.var 12)) (.cons (.int .u8 (.var 13)) (.cons (.int .u8 (.var 14)) (.cons (.int .u8 (.var 15)) (.cons (.int .u8 (.var 16)) (.cons (.int .u8 (.var 17)) .nil))))))))))))))))) (.cons z0_ (.cons z1_ (.cons (.int .i64 (.var 18)) .nil)))))) (.cons (.err (.iapp 29 (.cons (.tup (.cons (.int .u8 v2_) (.cons (.int .u8 v3_) (.cons (.int .u8 v4_) (.cons (.int .u8 v5_) (.cons (.int .u8 v6_) (.cons (.int .u8 v7_) (.cons (.int .u8 v8_) (.cons (.int .u8 v9_) (.cons (.int .u8 (.var 10)) (.cons (.int .u8 (.var 11)) (.cons (.int .u8 (.var 12)) (.cons (.int .u8 (.var 13)) (.cons (.int .u8 (.var 14)) (.cons (.int .u8 (.var 15)) (.cons (.int .u8 (.var 16)) (.cons (.int .u8 (.var 17)) .nil))))))))))))))))) (.cons z0_ (.cons z1_ (.cons (.int .i64 (.var 18)) .nil)))))) .nil))), ⟨19, 0, 0, 0⟩, none⟩
theorem fatp_w : walk Tryd.prog 203 ⟨[zfc_fbyp, zfc_nsub], syG, [], [], []⟩ [] .v zfc_fatp zfc_fatp.n 3000 = some fatp_tree := by kernel_rfl
theorem fatp_h (w : Int) (c : Int) (k0 : Int) (k1 : Int) (k2 : Int) (k3 : Int) (k4 : Int) (k5 : Int) (k6 : Int) (k7 : Int) (k8 : Int) (k9 : Int) (k10 : Int) (k11 : Int) (k12 : Int) (k13 : Int) (k14 : Int) (k15 : Int) (t : Int) (hc : holds (zfE [w, c, k0, k1, k2, k3, k4, k5, k6, k7, k8, k9, k10, k11, k12, k13, k14, k15, t] [] [] []) (an_ (an_ (an_ (le_ lm_ v0_) (le_ v0_ lM_)) (an_ (le_ lm_ v1_) (le_ v1_ lM_))) (an_ (an_ (le_ lm_ (.var 18)) (le_ (.var 18) lM_)) (.bapp 0 (.cons (.tup (.cons (.int .u8 v2_) (.cons (.int .u8 v3_) (.cons (.int .u8 v4_) (.cons (.int .u8 v5_) (.cons (.int .u8 v6_) (.cons (.int .u8 v7_) (.cons (.int .u8 v8_) (.cons (.int .u8 v9_) (.cons (.int .u8 (.var 10)) (.cons (.int .u8 (.var 11)) (.cons (.int .u8 (.var 12)) (.cons (.int .u8 (.var 13)) (.cons (.int .u8 (.var 14)) (.cons (.int .u8 (.var 15)) (.cons (.int .u8 (.var 16)) (.cons (.int .u8 (.var 17)) .nil))))))))))))))))) .nil))))) (hty : patsTyp (zfE [w, c, k0, k1, k2, k3, k4, k5, k6, k7, k8, k9, k10, k11, k12, k13, k14, k15, t] [] [] []) [(.agg (.cons z0_ (.cons z1_ .nil))), (.agg (.cons (.int .u8 v2_) (.cons (.int .u8 v3_) (.cons (.int .u8 v4_) (.cons (.int .u8 v5_) (.cons (.int .u8 v6_) (.cons (.int .u8 v7_) (.cons (.int .u8 v8_) (.cons (.int .u8 v9_) (.cons (.int .u8 (.var 10)) (.cons (.int .u8 (.var 11)) (.cons (.int .u8 (.var 12)) (.cons (.int .u8 (.var 13)) (.cons (.int .u8 (.var 14)) (.cons (.int .u8 (.var 15)) (.cons (.int .u8 (.var 16)) (.cons (.int .u8 (.var 17)) .nil))))))))))))))))), (.int .i64 (.var 18))]) : fatp_tree.holds (fun v_ => v_ = denV (zfE [w, c, k0, k1, k2, k3, k4, k5, k6, k7, k8, k9, k10, k11, k12, k13, k14, k15, t] [] [] []) b0 (.tup (.cons (.int .i64 (.iapp 28 (.cons (.tup (.cons (.int .u8 v2_) (.cons (.int .u8 v3_) (.cons (.int .u8 v4_) (.cons (.int .u8 v5_) (.cons (.int .u8 v6_) (.cons (.int .u8 v7_) (.cons (.int .u8 v8_) (.cons (.int .u8 v9_) (.cons (.int .u8 (.var 10)) (.cons (.int .u8 (.var 11)) (.cons (.int .u8 (.var 12)) (.cons (.int .u8 (.var 13)) (.cons (.int .u8 (.var 14)) (.cons (.int .u8 (.var 15)) (.cons (.int .u8 (.var 16)) (.cons (.int .u8 (.var 17)) .nil))))))))))))))))) (.cons z0_ (.cons z1_ (.cons (.int .i64 (.var 18)) .nil)))))) (.cons (.err (.iapp 29 (.cons (.tup (.cons (.int .u8 v2_) (.cons (.int .u8 v3_) (.cons (.int .u8 v4_) (.cons (.int .u8 v5_) (.cons (.int .u8 v6_) (.cons (.int .u8 v7_) (.cons (.int .u8 v8_) (.cons (.int .u8 v9_) (.cons (.int .u8 (.var 10)) (.cons (.int .u8 (.var 11)) (.cons (.int .u8 (.var 12)) (.cons (.int .u8 (.var 13)) (.cons (.int .u8 (.var 14)) (.cons (.int .u8 (.var 15)) (.cons (.int .u8 (.var 16)) (.cons (.int .u8 (.var 17)) .nil))))))))))))))))) (.cons z0_ (.cons z1_ (.cons (.int .i64 (.var 18)) .nil)))))) .nil)))) (zfE [w, c, k0, k1, k2, k3, k4, k5, k6, k7, k8, k9, k10, k11, k12, k13, k14, k15, t] [] [] []) := by
  simp only [Tree.holds, Sy.holds, AllN, Env.more, zfE, List.cons_append, List.nil_append, List.append_nil, denV, denI, denB, denL, I2.den, VOp.den, List.getD_cons_zero, List.getD_cons_succ, Cst.den, syso, syse, syio, sybo, zfb_okr, List.map_nil, List.map_cons, B2.ofInts, B2.denI, B2.denB, if_true, Bool.false_eq_true, if_false, Nat.div_one, Nat.mul_one, Nat.add_zero, holds] at hc
  simp only [patsTyp, patTyp, patTypL, zfE, denV, denL, List.getD_cons_zero, List.getD_cons_succ, and_true, true_and] at hty
  unfold fatp_tree
  simp only [Tree.holds, Sy.holds, AllN, Env.more, zfE, List.cons_append, List.nil_append, List.append_nil, denV, denI, denB, denL, I2.den, VOp.den, List.getD_cons_zero, List.getD_cons_succ, Cst.den, syso, syse, syio, sybo, zfi_nv, zfi_ne, zfi_fck, zfi_fby, zfi_fav, zfi_fae, zfb_okr, List.map_nil, List.map_cons, B2.ofInts, B2.denI, B2.denB, if_true, Bool.false_eq_true, if_false, Nat.div_one, Nat.mul_one, Nat.add_zero]
  generalize hKT : Value.tuple #[Value.int .u8 k0, Value.int .u8 k1, Value.int .u8 k2, Value.int .u8 k3, Value.int .u8 k4, Value.int .u8 k5, Value.int .u8 k6, Value.int .u8 k7, Value.int .u8 k8, Value.int .u8 k9, Value.int .u8 k10, Value.int .u8 k11, Value.int .u8 k12, Value.int .u8 k13, Value.int .u8 k14, Value.int .u8 k15] = KT at hc ⊢
  have s1 := by_spec (byL (Sy.rows KT)) w c t
  have s2 := ck_spec w c
  have d1 := dE_spec t c
  have d2 := dm_spec t c ⟨by omega, by omega⟩
  refine ⟨?_, fun h0 => ?_⟩
  ·
   first
   | omega
   | exact hc
   | (have wu := wr_u64 w
      refine ⟨hc.2.2, ?_⟩
      omega)
  ·
   refine ⟨fun h1 => ?_, fun h1 => ?_⟩
   ·
    have s3 := svE_spec (t - byF (byL (Sy.rows KT)) w c t)
    first
    | (exfalso; omega)
    | (rw [show avF (byL (Sy.rows KT)) w c t = 0 by omega, show aeF (byL (Sy.rows KT)) w c t = ckF w c by omega]; done)
    | (rw [show avF (byL (Sy.rows KT)) w c t = svE (t - byF (byL (Sy.rows KT)) w c t) by omega, show aeF (byL (Sy.rows KT)) w c t = erE (t - byF (byL (Sy.rows KT)) w c t) by omega]; done)
    | (rw [show avF (byL (Sy.rows KT)) w c t = 0 by omega, show aeF (byL (Sy.rows KT)) w c t = 2 by omega]; done)
    | (rw [show avF (byL (Sy.rows KT)) w c t = svE (t - byF (byL (Sy.rows KT)) w c t) by omega, show aeF (byL (Sy.rows KT)) w c t = 0 by omega]; done)
   ·
    refine ⟨?_, fun h2 => ?_⟩
    ·
     first
     | omega
     | exact hc
     | (have wu := wr_u64 w
        refine ⟨hc.2.2, ?_⟩
        omega)
    ·
     have s3 := svE_spec (t - byF (byL (Sy.rows KT)) w c t)
     first
     | (exfalso; omega)
     | (rw [show avF (byL (Sy.rows KT)) w c t = 0 by omega, show aeF (byL (Sy.rows KT)) w c t = ckF w c by omega]; done)
     | (rw [show avF (byL (Sy.rows KT)) w c t = svE (t - byF (byL (Sy.rows KT)) w c t) by omega, show aeF (byL (Sy.rows KT)) w c t = erE (t - byF (byL (Sy.rows KT)) w c t) by omega]; done)
     | (rw [show avF (byL (Sy.rows KT)) w c t = 0 by omega, show aeF (byL (Sy.rows KT)) w c t = 2 by omega]; done)
     | (rw [show avF (byL (Sy.rows KT)) w c t = svE (t - byF (byL (Sy.rows KT)) w c t) by omega, show aeF (byL (Sy.rows KT)) w c t = 0 by omega]; done)
theorem zfg_fatp : zfc_fatp.Good Tryd.prog syG (zfE [] [] [] []) := good_of_walk (Γ := ⟨[zfc_fbyp, zfc_nsub], syG, [], [], []⟩) (ρ := zfE [] [] [] []) sym fatp_w rfl (fun _ _ _ _ => (ok_cons (Con.Good.env zfg_fbyp _ _ _ _) (ok_cons (Con.Good.env zfg_nsub _ _ _ _) ok_nil))) (fun w c k0 k1 k2 k3 k4 k5 k6 k7 k8 k9 k10 k11 k12 k13 k14 k15 t hc hty => fatp_h w c k0 k1 k2 k3 k4 k5 k6 k7 k8 k9 k10 k11 k12 k13 k14 k15 t hc hty)
def rat25_tree : Tree :=
 (.need (an_ (an_ (an_ (le_ lm_ v0_) (le_ v0_ lM_)) (an_ (le_ lm_ v1_) (le_ v1_ lM_))) (an_ (an_ (le_ lm_ (.var 18)) (le_ (.var 18) lM_)) (.bapp 0 (.cons (.tup (.cons (.int .u8 v2_) (.cons (.int .u8 v3_) (.cons (.int .u8 v4_) (.cons (.int .u8 v5_) (.cons (.int .u8 v6_) (.cons (.int .u8 v7_) (.cons (.int .u8 v8_) (.cons (.int .u8 v9_) (.cons (.int .u8 (.var 10)) (.cons (.int .u8 (.var 11)) (.cons (.int .u8 (.var 12)) (.cons (.int .u8 (.var 13)) (.cons (.int .u8 (.var 14)) (.cons (.int .u8 (.var 15)) (.cons (.int .u8 (.var 16)) (.cons (.int .u8 (.var 17)) .nil))))))))))))))))) .nil))))
 (.br (.not (eq_ (.iapp 26 (.cons z0_ (.cons z1_ .nil))) (.lit 0)))
 (.ret (.tup (.cons (.int .i64 (.lit 0)) (.cons (.int .i64 (.iapp 26 (.cons z0_ (.cons z1_ .nil)))) .nil))))
 (.need (an_ (an_ (le_ lm_ (.var 18)) (le_ (.var 18) lM_)) (an_ (le_ lm_ (.iapp 27 (.cons (.tup (.cons (.int .u8 v2_) (.cons (.int .u8 v3_) (.cons (.int .u8 v4_) (.cons (.int .u8 v5_) (.cons (.int .u8 v6_) (.cons (.int .u8 v7_) (.cons (.int .u8 v8_) (.cons (.int .u8 v9_) (.cons (.int .u8 (.var 10)) (.cons (.int .u8 (.var 11)) (.cons (.int .u8 (.var 12)) (.cons (.int .u8 (.var 13)) (.cons (.int .u8 (.var 14)) (.cons (.int .u8 (.var 15)) (.cons (.int .u8 (.var 16)) (.cons (.int .u8 (.var 17)) .nil))))))))))))))))) (.cons z0_ (.cons z1_ (.cons (.int .i64 (.var 18)) .nil)))))) (le_ (.iapp 27 (.cons (.tup (.cons (.int .u8 v2_) (.cons (.int .u8 v3_) (.cons (.int .u8 v4_) (.cons (.int .u8 v5_) (.cons (.int .u8 v6_) (.cons (.int .u8 v7_) (.cons (.int .u8 v8_) (.cons (.int .u8 v9_) (.cons (.int .u8 (.var 10)) (.cons (.int .u8 (.var 11)) (.cons (.int .u8 (.var 12)) (.cons (.int .u8 (.var 13)) (.cons (.int .u8 (.var 14)) (.cons (.int .u8 (.var 15)) (.cons (.int .u8 (.var 16)) (.cons (.int .u8 (.var 17)) .nil))))))))))))))))) (.cons z0_ (.cons z1_ (.cons (.int .i64 (.var 18)) .nil))))) lM_)))
 (.br (.not (eq_ (.iapp 25 (.cons (.int .i64 (sb_ (.var 18) (.iapp 27 (.cons (.tup (.cons (.int .u8 v2_) (.cons (.int .u8 v3_) (.cons (.int .u8 v4_) (.cons (.int .u8 v5_) (.cons (.int .u8 v6_) (.cons (.int .u8 v7_) (.cons (.int .u8 v8_) (.cons (.int .u8 v9_) (.cons (.int .u8 (.var 10)) (.cons (.int .u8 (.var 11)) (.cons (.int .u8 (.var 12)) (.cons (.int .u8 (.var 13)) (.cons (.int .u8 (.var 14)) (.cons (.int .u8 (.var 15)) (.cons (.int .u8 (.var 16)) (.cons (.int .u8 (.var 17)) .nil))))))))))))))))) (.cons z0_ (.cons z1_ (.cons (.int .i64 (.var 18)) .nil))))))) .nil)) (.lit 0)))
 (.ret (.tup (.cons (.int .i64 (.lit 0)) (.cons (.int .i64 (.lit 2)) .nil))))
 (.ret (.tup (.cons (.int .i64 (.iapp 24 (.cons (.int .i64 (sb_ (.var 18) (.iapp 27 (.cons (.tup (.cons (.int .u8 v2_) (.cons (.int .u8 v3_) (.cons (.int .u8 v4_) (.cons (.int .u8 v5_) (.cons (.int .u8 v6_) (.cons (.int .u8 v7_) (.cons (.int .u8 v8_) (.cons (.int .u8 v9_) (.cons (.int .u8 (.var 10)) (.cons (.int .u8 (.var 11)) (.cons (.int .u8 (.var 12)) (.cons (.int .u8 (.var 13)) (.cons (.int .u8 (.var 14)) (.cons (.int .u8 (.var 15)) (.cons (.int .u8 (.var 16)) (.cons (.int .u8 (.var 17)) .nil))))))))))))))))) (.cons z0_ (.cons z1_ (.cons (.int .i64 (.var 18)) .nil))))))) .nil))) (.cons (.int .i64 (.lit 0)) .nil))))))))
abbrev zfc_rat25 : Con := ⟨71, [(.agg (.cons z0_ (.cons z1_ .nil))), (.agg (.cons (.int .u8 v2_) (.cons (.int .u8 v3_) (.cons (.int .u8 v4_) (.cons (.int .u8 v5_) (.cons (.int .u8 v6_) (.cons (.int .u8 v7_) (.cons (.int .u8 v8_) (.cons (.int .u8 v9_) (.cons (.int .u8 (.var 10)) (.cons (.int .u8 (.var 11)) (.cons (.int .u8 (.var 12)) (.cons (.int .u8 (.var 13)) (.cons (.int .u8 (.var 14)) (.cons (.int .u8 (.var 15)) (.cons (.int .u8 (.var 16)) (.cons (.int .u8 (.var 17)) .nil))))))))))))))))), (.int .i64 (.var 18))], (an_ (an_ (an_ (le_ lm_ v0_) (le_ v0_ lM_)) (an_ (le_ lm_ v1_) (le_ v1_ lM_))) (an_ (an_ (le_ lm_ (.var 18)) (le_ (.var 18) lM_)) (.bapp 0 (.cons (.tup (.cons (.int .u8 v2_) (.cons (.int .u8 v3_) (.cons (.int .u8 v4_) (.cons (.int .u8 v5_) (.cons (.int .u8 v6_) (.cons (.int .u8 v7_) (.cons (.int .u8 v8_) (.cons (.int .u8 v9_) (.cons (.int .u8 (.var 10)) (.cons (.int .u8 (.var 11)) (.cons (.int .u8 (.var 12)) (.cons (.int .u8 (.var 13)) (.cons (.int .u8 (.var 14)) (.cons (.int .u8 (.var 15)) (.cons (.int .u8 (.var 16)) (.cons (.int .u8 (.var 17)) .nil))))))))))))))))) .nil)))), (.tup (.cons (.int .i64 (.iapp 28 (.cons (.tup (.cons (.int .u8 v2_) (.cons (.int .u8 v3_) (.cons (.int .u8 v4_) (.cons (.int .u8 v5_) (.cons (.int .u8 v6_) (.cons (.int .u8 v7_) (.cons (.int .u8 v8_) (.cons (.int .u8 v9_) (.cons (.int .u8 (.var 10)) (.cons (.int .u8 (.var 11)) (.cons (.int .u8 (.var 12)) (.cons (.int .u8 (.var 13)) (.cons (.int .u8 (.var 14)) (.cons (.int .u8 (.var 15)) (.cons (.int .u8 (.var 16)) (.cons (.int .u8 (.var 17)) .nil))))))))))))))))) (.cons z0_ (.cons z1_ (.cons (.int .i64 (.var 18)) .nil)))))) (.cons (.int .i64 (.iapp 29 (.cons (.tup (.cons (.int .u8 v2_) (.cons (.int .u8 v3_) (.cons (.int .u8 v4_) (.cons (.int .u8 v5_) (.cons (.int .u8 v6_) (.cons (.int .u8 v7_) (.cons (.int .u8 v8_) (.cons (.int .u8 v9_) (.cons (.int .u8 (.var 10)) (.cons (.int .u8 (.var 11)) (.cons (.int .u8 (.var 12)) (.cons (.int .u8 (.var 13)) (.cons (.int .u8 (.var 14)) (.cons (.int .u8 (.var 15)) (.cons (.int .u8 (.var 16)) (.cons (.int .u8 (.var 17)) .nil))))))))))))))))) (.cons z0_ (.cons z1_ (.cons (.int .i64 (.var 18)) .nil)))))) .nil))), ⟨19, 0, 0, 0⟩, none⟩
theorem rat25_w : walk Tryd.prog 203 ⟨[zfc_rby, zfc_rless], syG, [], [], []⟩ [] .v zfc_rat25 zfc_rat25.n 3000 = some rat25_tree := by kernel_rfl
theorem rat25_h (w : Int) (c : Int) (k0 : Int) (k1 : Int) (k2 : Int) (k3 : Int) (k4 : Int) (k5 : Int) (k6 : Int) (k7 : Int) (k8 : Int) (k9 : Int) (k10 : Int) (k11 : Int) (k12 : Int) (k13 : Int) (k14 : Int) (k15 : Int) (t : Int) (hc : holds (zfE [w, c, k0, k1, k2, k3, k4, k5, k6, k7, k8, k9, k10, k11, k12, k13, k14, k15, t] [] [] []) (an_ (an_ (an_ (le_ lm_ v0_) (le_ v0_ lM_)) (an_ (le_ lm_ v1_) (le_ v1_ lM_))) (an_ (an_ (le_ lm_ (.var 18)) (le_ (.var 18) lM_)) (.bapp 0 (.cons (.tup (.cons (.int .u8 v2_) (.cons (.int .u8 v3_) (.cons (.int .u8 v4_) (.cons (.int .u8 v5_) (.cons (.int .u8 v6_) (.cons (.int .u8 v7_) (.cons (.int .u8 v8_) (.cons (.int .u8 v9_) (.cons (.int .u8 (.var 10)) (.cons (.int .u8 (.var 11)) (.cons (.int .u8 (.var 12)) (.cons (.int .u8 (.var 13)) (.cons (.int .u8 (.var 14)) (.cons (.int .u8 (.var 15)) (.cons (.int .u8 (.var 16)) (.cons (.int .u8 (.var 17)) .nil))))))))))))))))) .nil))))) (hty : patsTyp (zfE [w, c, k0, k1, k2, k3, k4, k5, k6, k7, k8, k9, k10, k11, k12, k13, k14, k15, t] [] [] []) [(.agg (.cons z0_ (.cons z1_ .nil))), (.agg (.cons (.int .u8 v2_) (.cons (.int .u8 v3_) (.cons (.int .u8 v4_) (.cons (.int .u8 v5_) (.cons (.int .u8 v6_) (.cons (.int .u8 v7_) (.cons (.int .u8 v8_) (.cons (.int .u8 v9_) (.cons (.int .u8 (.var 10)) (.cons (.int .u8 (.var 11)) (.cons (.int .u8 (.var 12)) (.cons (.int .u8 (.var 13)) (.cons (.int .u8 (.var 14)) (.cons (.int .u8 (.var 15)) (.cons (.int .u8 (.var 16)) (.cons (.int .u8 (.var 17)) .nil))))))))))))))))), (.int .i64 (.var 18))]) : rat25_tree.holds (fun v_ => v_ = denV (zfE [w, c, k0, k1, k2, k3, k4, k5, k6, k7, k8, k9, k10, k11, k12, k13, k14, k15, t] [] [] []) b0 (.tup (.cons (.int .i64 (.iapp 28 (.cons (.tup (.cons (.int .u8 v2_) (.cons (.int .u8 v3_) (.cons (.int .u8 v4_) (.cons (.int .u8 v5_) (.cons (.int .u8 v6_) (.cons (.int .u8 v7_) (.cons (.int .u8 v8_) (.cons (.int .u8 v9_) (.cons (.int .u8 (.var 10)) (.cons (.int .u8 (.var 11)) (.cons (.int .u8 (.var 12)) (.cons (.int .u8 (.var 13)) (.cons (.int .u8 (.var 14)) (.cons (.int .u8 (.var 15)) (.cons (.int .u8 (.var 16)) (.cons (.int .u8 (.var 17)) .nil))))))))))))))))) (.cons z0_ (.cons z1_ (.cons (.int .i64 (.var 18)) .nil)))))) (.cons (.int .i64 (.iapp 29 (.cons (.tup (.cons (.int .u8 v2_) (.cons (.int .u8 v3_) (.cons (.int .u8 v4_) (.cons (.int .u8 v5_) (.cons (.int .u8 v6_) (.cons (.int .u8 v7_) (.cons (.int .u8 v8_) (.cons (.int .u8 v9_) (.cons (.int .u8 (.var 10)) (.cons (.int .u8 (.var 11)) (.cons (.int .u8 (.var 12)) (.cons (.int .u8 (.var 13)) (.cons (.int .u8 (.var 14)) (.cons (.int .u8 (.var 15)) (.cons (.int .u8 (.var 16)) (.cons (.int .u8 (.var 17)) .nil))))))))))))))))) (.cons z0_ (.cons z1_ (.cons (.int .i64 (.var 18)) .nil)))))) .nil)))) (zfE [w, c, k0, k1, k2, k3, k4, k5, k6, k7, k8, k9, k10, k11, k12, k13, k14, k15, t] [] [] []) := by
  simp only [Tree.holds, Sy.holds, AllN, Env.more, zfE, List.cons_append, List.nil_append, List.append_nil, denV, denI, denB, denL, I2.den, VOp.den, List.getD_cons_zero, List.getD_cons_succ, Cst.den, syso, syse, syio, sybo, zfb_okr, List.map_nil, List.map_cons, B2.ofInts, B2.denI, B2.denB, if_true, Bool.false_eq_true, if_false, Nat.div_one, Nat.mul_one, Nat.add_zero, holds] at hc
  simp only [patsTyp, patTyp, patTypL, zfE, denV, denL, List.getD_cons_zero, List.getD_cons_succ, and_true, true_and] at hty
  unfold rat25_tree
  simp only [Tree.holds, Sy.holds, AllN, Env.more, zfE, List.cons_append, List.nil_append, List.append_nil, denV, denI, denB, denL, I2.den, VOp.den, List.getD_cons_zero, List.getD_cons_succ, Cst.den, syso, syse, syio, sybo, zfi_rsv, zfi_rso, zfi_fck, zfi_fby, zfi_fav, zfi_fae, zfb_okr, List.map_nil, List.map_cons, B2.ofInts, B2.denI, B2.denB, if_true, Bool.false_eq_true, if_false, Nat.div_one, Nat.mul_one, Nat.add_zero]
  generalize hKT : Value.tuple #[Value.int .u8 k0, Value.int .u8 k1, Value.int .u8 k2, Value.int .u8 k3, Value.int .u8 k4, Value.int .u8 k5, Value.int .u8 k6, Value.int .u8 k7, Value.int .u8 k8, Value.int .u8 k9, Value.int .u8 k10, Value.int .u8 k11, Value.int .u8 k12, Value.int .u8 k13, Value.int .u8 k14, Value.int .u8 k15] = KT at hc ⊢
  have s1 := by_spec (byL (Sy.rows KT)) w c t
  have s2 := ck_spec w c
  have d1 := dE_spec t c
  have d2 := dm_spec t c ⟨by omega, by omega⟩
  refine ⟨?_, fun h0 => ?_⟩
  ·
   first
   | omega
   | exact hc
   | (have wu := wr_u64 w
      refine ⟨hc.2.2, ?_⟩
      omega)
  ·
   refine ⟨fun h1 => ?_, fun h1 => ?_⟩
   ·
    have s3 := svE_spec (t - byF (byL (Sy.rows KT)) w c t)
    first
    | (exfalso; omega)
    | (rw [show avF (byL (Sy.rows KT)) w c t = 0 by omega, show aeF (byL (Sy.rows KT)) w c t = ckF w c by omega]; done)
    | (rw [show avF (byL (Sy.rows KT)) w c t = svE (t - byF (byL (Sy.rows KT)) w c t) by omega, show aeF (byL (Sy.rows KT)) w c t = erE (t - byF (byL (Sy.rows KT)) w c t) by omega]; done)
    | (rw [show avF (byL (Sy.rows KT)) w c t = 0 by omega, show aeF (byL (Sy.rows KT)) w c t = 2 by omega]; done)
    | (rw [show avF (byL (Sy.rows KT)) w c t = svE (t - byF (byL (Sy.rows KT)) w c t) by omega, show aeF (byL (Sy.rows KT)) w c t = 0 by omega]; done)
   ·
    refine ⟨?_, fun h2 => ?_⟩
    ·
     first
     | omega
     | exact hc
     | (have wu := wr_u64 w
        refine ⟨hc.2.2, ?_⟩
        omega)
    ·
     refine ⟨fun h3 => ?_, fun h3 => ?_⟩
     ·
      have s3 := svE_spec (t - byF (byL (Sy.rows KT)) w c t)
      first
      | (exfalso; omega)
      | (rw [show avF (byL (Sy.rows KT)) w c t = 0 by omega, show aeF (byL (Sy.rows KT)) w c t = ckF w c by omega]; done)
      | (rw [show avF (byL (Sy.rows KT)) w c t = svE (t - byF (byL (Sy.rows KT)) w c t) by omega, show aeF (byL (Sy.rows KT)) w c t = erE (t - byF (byL (Sy.rows KT)) w c t) by omega]; done)
      | (rw [show avF (byL (Sy.rows KT)) w c t = 0 by omega, show aeF (byL (Sy.rows KT)) w c t = 2 by omega]; done)
      | (rw [show avF (byL (Sy.rows KT)) w c t = svE (t - byF (byL (Sy.rows KT)) w c t) by omega, show aeF (byL (Sy.rows KT)) w c t = 0 by omega]; done)
     ·
      have s3 := svE_spec (t - byF (byL (Sy.rows KT)) w c t)
      first
      | (exfalso; omega)
      | (rw [show avF (byL (Sy.rows KT)) w c t = 0 by omega, show aeF (byL (Sy.rows KT)) w c t = ckF w c by omega]; done)
      | (rw [show avF (byL (Sy.rows KT)) w c t = svE (t - byF (byL (Sy.rows KT)) w c t) by omega, show aeF (byL (Sy.rows KT)) w c t = erE (t - byF (byL (Sy.rows KT)) w c t) by omega]; done)
      | (rw [show avF (byL (Sy.rows KT)) w c t = 0 by omega, show aeF (byL (Sy.rows KT)) w c t = 2 by omega]; done)
      | (rw [show avF (byL (Sy.rows KT)) w c t = svE (t - byF (byL (Sy.rows KT)) w c t) by omega, show aeF (byL (Sy.rows KT)) w c t = 0 by omega]; done)
theorem zfg_rat25 : zfc_rat25.Good Tryd.prog syG (zfE [] [] [] []) := good_of_walk (Γ := ⟨[zfc_rby, zfc_rless], syG, [], [], []⟩) (ρ := zfE [] [] [] []) sym rat25_w rfl (fun _ _ _ _ => (ok_cons (Con.Good.env zfg_rby _ _ _ _) (ok_cons (Con.Good.env zfg_rless _ _ _ _) ok_nil))) (fun w c k0 k1 k2 k3 k4 k5 k6 k7 k8 k9 k10 k11 k12 k13 k14 k15 t hc hty => rat25_h w c k0 k1 k2 k3 k4 k5 k6 k7 k8 k9 k10 k11 k12 k13 k14 k15 t hc hty)
abbrev zfc_num : Con := ⟨72, [(.err v0_)], (.tt true), z0_, ⟨1, 0, 0, 0⟩, none⟩
theorem zfg_num : zfc_num.Good Tryd.prog syG (zfE [] [] [] []) := good_flat rfl rfl rfl (by
  intro n hc β ok w hG
  have hc' := hc
  simp only [Tree.holds, Sy.holds, AllN, Env.more, zfE, List.cons_append, List.nil_append, List.append_nil, denV, denI, denB, denL, I2.den, VOp.den, List.getD_cons_zero, List.getD_cons_succ, Cst.den, syso, syse, syio, sybo, List.map_nil, List.map_cons, B2.ofInts, B2.denI, B2.denB, if_true, Bool.false_eq_true, if_false, Nat.div_one, Nat.mul_one, Nat.add_zero, holds] at hc
  exact num25_any n w (hG _ (List.mem_singleton.2 rfl)).2.2)
def sure25_tree : Tree :=
 (.need (.bapp 0 (.cons (.tup (.cons (.int .u8 (.lit 0)) (.cons (.int .u8 (.lit 0)) (.cons (.int .u8 (.lit 0)) (.cons (.int .u8 (.lit 0)) (.cons (.int .u8 (.lit 0)) (.cons (.int .u8 (.lit 0)) (.cons (.int .u8 (.lit 0)) (.cons (.int .u8 (.lit 0)) (.cons (.int .u8 (.lit 0)) (.cons (.int .u8 (.lit 0)) (.cons (.int .u8 (.lit 0)) (.cons (.int .u8 (.lit 0)) (.cons (.int .u8 (.lit 0)) (.cons (.int .u8 (.lit 0)) (.cons (.int .u8 (.lit 0)) (.cons (.int .u8 (.lit 0)) .nil))))))))))))))))) .nil))
 (.need (.bapp 0 (.cons (.tup (.cons (.int .u8 (.lit 0)) (.cons (.int .u8 (.lit 0)) (.cons (.int .u8 (.lit 0)) (.cons (.int .u8 (.lit 0)) (.cons (.int .u8 (.lit 0)) (.cons (.int .u8 (.lit 0)) (.cons (.int .u8 (.lit 0)) (.cons (.int .u8 (.lit 0)) (.cons (.int .u8 (.lit 0)) (.cons (.int .u8 (.lit 0)) (.cons (.int .u8 (.lit 0)) (.cons (.int .u8 (.lit 0)) (.cons (.int .u8 (.lit 0)) (.cons (.int .u8 (.lit 0)) (.cons (.int .u8 (.lit 0)) (.cons (.int .u8 (.lit 0)) .nil))))))))))))))))) .nil))
 (.need (.bapp 0 (.cons (.tup (.cons (.int .u8 (.lit 1)) (.cons (.int .u8 (.lit 0)) (.cons (.int .u8 (.lit 0)) (.cons (.int .u8 (.lit 0)) (.cons (.int .u8 (.lit 0)) (.cons (.int .u8 (.lit 0)) (.cons (.int .u8 (.lit 0)) (.cons (.int .u8 (.lit 0)) (.cons (.int .u8 (.lit 0)) (.cons (.int .u8 (.lit 0)) (.cons (.int .u8 (.lit 0)) (.cons (.int .u8 (.lit 0)) (.cons (.int .u8 (.lit 0)) (.cons (.int .u8 (.lit 0)) (.cons (.int .u8 (.lit 0)) (.cons (.int .u8 (.lit 0)) .nil))))))))))))))))) .nil))
 (.br (eq_ (.iapp 29 (.cons (.tup (.cons (.int .u8 (.lit 0)) (.cons (.int .u8 (.lit 0)) (.cons (.int .u8 (.lit 0)) (.cons (.int .u8 (.lit 0)) (.cons (.int .u8 (.lit 0)) (.cons (.int .u8 (.lit 0)) (.cons (.int .u8 (.lit 0)) (.cons (.int .u8 (.lit 0)) (.cons (.int .u8 (.lit 0)) (.cons (.int .u8 (.lit 0)) (.cons (.int .u8 (.lit 0)) (.cons (.int .u8 (.lit 0)) (.cons (.int .u8 (.lit 0)) (.cons (.int .u8 (.lit 0)) (.cons (.int .u8 (.lit 0)) (.cons (.int .u8 (.lit 0)) .nil))))))))))))))))) (.cons (.int .i64 (.lit 0)) (.cons (.int .i64 (.lit 9)) (.cons (.int .i64 (.lit 77)) .nil))))) (.lit 0))
 (.br (eq_ (.iapp 28 (.cons (.tup (.cons (.int .u8 (.lit 0)) (.cons (.int .u8 (.lit 0)) (.cons (.int .u8 (.lit 0)) (.cons (.int .u8 (.lit 0)) (.cons (.int .u8 (.lit 0)) (.cons (.int .u8 (.lit 0)) (.cons (.int .u8 (.lit 0)) (.cons (.int .u8 (.lit 0)) (.cons (.int .u8 (.lit 0)) (.cons (.int .u8 (.lit 0)) (.cons (.int .u8 (.lit 0)) (.cons (.int .u8 (.lit 0)) (.cons (.int .u8 (.lit 0)) (.cons (.int .u8 (.lit 0)) (.cons (.int .u8 (.lit 0)) (.cons (.int .u8 (.lit 0)) .nil))))))))))))))))) (.cons (.int .i64 (.lit 0)) (.cons (.int .i64 (.lit 9)) (.cons (.int .i64 (.lit 77)) .nil))))) (.lit 77))
 (.br (eq_ (.iapp 29 (.cons (.tup (.cons (.int .u8 (.lit 0)) (.cons (.int .u8 (.lit 0)) (.cons (.int .u8 (.lit 0)) (.cons (.int .u8 (.lit 0)) (.cons (.int .u8 (.lit 0)) (.cons (.int .u8 (.lit 0)) (.cons (.int .u8 (.lit 0)) (.cons (.int .u8 (.lit 0)) (.cons (.int .u8 (.lit 0)) (.cons (.int .u8 (.lit 0)) (.cons (.int .u8 (.lit 0)) (.cons (.int .u8 (.lit 0)) (.cons (.int .u8 (.lit 0)) (.cons (.int .u8 (.lit 0)) (.cons (.int .u8 (.lit 0)) (.cons (.int .u8 (.lit 0)) .nil))))))))))))))))) (.cons (.int .i64 (.lit 0)) (.cons (.int .i64 (.lit 0)) (.cons (.int .i64 (.lit 77)) .nil))))) (.lit 1))
 (.br (eq_ (.iapp 29 (.cons (.tup (.cons (.int .u8 (.lit 1)) (.cons (.int .u8 (.lit 0)) (.cons (.int .u8 (.lit 0)) (.cons (.int .u8 (.lit 0)) (.cons (.int .u8 (.lit 0)) (.cons (.int .u8 (.lit 0)) (.cons (.int .u8 (.lit 0)) (.cons (.int .u8 (.lit 0)) (.cons (.int .u8 (.lit 0)) (.cons (.int .u8 (.lit 0)) (.cons (.int .u8 (.lit 0)) (.cons (.int .u8 (.lit 0)) (.cons (.int .u8 (.lit 0)) (.cons (.int .u8 (.lit 0)) (.cons (.int .u8 (.lit 0)) (.cons (.int .u8 (.lit 0)) .nil))))))))))))))))) (.cons (.int .i64 (.lit 1099511627776)) (.cons (.int .i64 (.lit 1125899906842624)) (.cons (.int .i64 lm_) .nil))))) (.lit 0))
 (.ret (.bool (.tt true)))
 (.ret (.bool (eq_ (.iapp 29 (.cons (.tup (.cons (.int .u8 (.lit 1)) (.cons (.int .u8 (.lit 0)) (.cons (.int .u8 (.lit 0)) (.cons (.int .u8 (.lit 0)) (.cons (.int .u8 (.lit 0)) (.cons (.int .u8 (.lit 0)) (.cons (.int .u8 (.lit 0)) (.cons (.int .u8 (.lit 0)) (.cons (.int .u8 (.lit 0)) (.cons (.int .u8 (.lit 0)) (.cons (.int .u8 (.lit 0)) (.cons (.int .u8 (.lit 0)) (.cons (.int .u8 (.lit 0)) (.cons (.int .u8 (.lit 0)) (.cons (.int .u8 (.lit 0)) (.cons (.int .u8 (.lit 0)) .nil))))))))))))))))) (.cons (.int .i64 (.lit 1099511627776)) (.cons (.int .i64 (.lit 1125899906842624)) (.cons (.int .i64 lm_) .nil))))) (.lit 2)))))
 (.ret (.bool (.tt false))))
 (.ret (.bool (.tt false))))
 (.ret (.bool (.tt false)))))))
abbrev zfc_sure25 : Con := ⟨75, [], (.tt true), (.bool (.tt true)), ⟨0, 0, 0, 0⟩, none⟩
theorem sure25_w : walk Tryd.prog 203 ⟨[zfc_fatp, zfc_num], syG, [], [], []⟩ [] .v zfc_sure25 zfc_sure25.n 3000 = some sure25_tree := by kernel_rfl
theorem sure25_h  (hc : holds (zfE [] [] [] []) (.tt true)) (hty : patsTyp (zfE [] [] [] []) []) : sure25_tree.holds (fun v_ => v_ = denV (zfE [] [] [] []) b0 (.bool (.tt true))) (zfE [] [] [] []) := by
  simp only [Tree.holds, Sy.holds, AllN, Env.more, zfE, List.cons_append, List.nil_append, List.append_nil, denV, denI, denB, denL, I2.den, VOp.den, List.getD_cons_zero, List.getD_cons_succ, Cst.den, syso, syse, syio, sybo, List.map_nil, List.map_cons, B2.ofInts, B2.denI, B2.denB, if_true, Bool.false_eq_true, if_false, Nat.div_one, Nat.mul_one, Nat.add_zero, holds] at hc
  simp only [patsTyp, patTyp, patTypL, zfE, denV, denL, List.getD_cons_zero, List.getD_cons_succ, and_true, true_and] at hty
  unfold sure25_tree
  simp only [Tree.holds, Sy.holds, AllN, Env.more, zfE, List.cons_append, List.nil_append, List.append_nil, denV, denI, denB, denL, I2.den, VOp.den, List.getD_cons_zero, List.getD_cons_succ, Cst.den, syso, syse, syio, sybo, zfi_fav, zfi_fae, zfb_okr, List.map_nil, List.map_cons, B2.ofInts, B2.denI, B2.denB, if_true, Bool.false_eq_true, if_false, Nat.div_one, Nat.mul_one, Nat.add_zero]
  have hZ : okR (Sy.rows (Value.tuple #[Value.int .u8 0, Value.int .u8 0, Value.int .u8 0, Value.int .u8 0, Value.int .u8 0, Value.int .u8 0, Value.int .u8 0, Value.int .u8 0, Value.int .u8 0, Value.int .u8 0, Value.int .u8 0, Value.int .u8 0, Value.int .u8 0, Value.int .u8 0, Value.int .u8 0, Value.int .u8 0])) = true := okR_isB (fun x hx => by
    rw [rows_arr] at hx
    simp only [List.mem_cons, List.not_mem_nil, or_false] at hx
    rcases hx with rfl | rfl | rfl | rfl | rfl | rfl | rfl | rfl | rfl | rfl | rfl | rfl | rfl | rfl | rfl | rfl <;> exact ⟨_, rfl, by decide, by decide⟩)
  have hY : okR (Sy.rows (Value.tuple #[Value.int .u8 1, Value.int .u8 0, Value.int .u8 0, Value.int .u8 0, Value.int .u8 0, Value.int .u8 0, Value.int .u8 0, Value.int .u8 0, Value.int .u8 0, Value.int .u8 0, Value.int .u8 0, Value.int .u8 0, Value.int .u8 0, Value.int .u8 0, Value.int .u8 0, Value.int .u8 0])) = true := okR_isB (fun x hx => by
    rw [rows_arr] at hx
    simp only [List.mem_cons, List.not_mem_nil, or_false] at hx
    rcases hx with rfl | rfl | rfl | rfl | rfl | rfl | rfl | rfl | rfl | rfl | rfl | rfl | rfl | rfl | rfl | rfl <;> exact ⟨_, rfl, by decide, by decide⟩)
  generalize Value.tuple #[Value.int .u8 0, Value.int .u8 0, Value.int .u8 0, Value.int .u8 0, Value.int .u8 0, Value.int .u8 0, Value.int .u8 0, Value.int .u8 0, Value.int .u8 0, Value.int .u8 0, Value.int .u8 0, Value.int .u8 0, Value.int .u8 0, Value.int .u8 0, Value.int .u8 0, Value.int .u8 0] = KZ at hZ ⊢
  generalize Value.tuple #[Value.int .u8 1, Value.int .u8 0, Value.int .u8 0, Value.int .u8 0, Value.int .u8 0, Value.int .u8 0, Value.int .u8 0, Value.int .u8 0, Value.int .u8 0, Value.int .u8 0, Value.int .u8 0, Value.int .u8 0, Value.int .u8 0, Value.int .u8 0, Value.int .u8 0, Value.int .u8 0] = KY at hY ⊢
  obtain ⟨a0, a1, a2, a3⟩ := s25 (byL (Sy.rows KZ)) (byL (Sy.rows KY))
  simp only [a0, a1, a2]
  clear a0 a1 a2
  refine ⟨?_, fun h0 => ?_⟩
  ·
   first
   | assumption
   | exact ⟨⟨by omega, by omega⟩, ⟨by omega, by omega⟩, by assumption⟩
   | exact True.intro
   | exact ⟨⟨⟨by omega, by omega⟩, by omega, by omega⟩, ⟨by omega, by omega⟩, by assumption⟩
  ·
   refine ⟨?_, fun h1 => ?_⟩
   ·
    first
    | assumption
    | exact ⟨⟨by omega, by omega⟩, ⟨by omega, by omega⟩, by assumption⟩
    | exact True.intro
    | exact ⟨⟨⟨by omega, by omega⟩, by omega, by omega⟩, ⟨by omega, by omega⟩, by assumption⟩
   ·
    refine ⟨?_, fun h2 => ?_⟩
    ·
     first
     | assumption
     | exact ⟨⟨by omega, by omega⟩, ⟨by omega, by omega⟩, by assumption⟩
     | exact True.intro
     | exact ⟨⟨⟨by omega, by omega⟩, by omega, by omega⟩, ⟨by omega, by omega⟩, by assumption⟩
    ·
     refine ⟨fun h3 => ?_, fun h3 => ?_⟩
     ·
      refine ⟨fun h4 => ?_, fun h4 => ?_⟩
      ·
       refine ⟨fun h5 => ?_, fun h5 => ?_⟩
       ·
        refine ⟨fun h6 => ?_, fun h6 => ?_⟩
        ·
         first
         | exact True.intro
         | (rcases a3 with a3 | a3
            · exact absurd a3 (by assumption)
            · rw [a3]
              done)
         | (rcases a3 with a3 | a3
            · exact absurd a3 (by assumption)
            · rw [a3]
              rfl)
         | (exfalso
            simp only [not_true_eq_false] at *
            done)
         | (exfalso
            simp at *
            done)
        ·
         first
         | exact True.intro
         | (rcases a3 with a3 | a3
            · exact absurd a3 (by assumption)
            · rw [a3]
              done)
         | (rcases a3 with a3 | a3
            · exact absurd a3 (by assumption)
            · rw [a3]
              rfl)
         | (exfalso
            simp only [not_true_eq_false] at *
            done)
         | (exfalso
            simp at *
            done)
       ·
        first
        | exact True.intro
        | (rcases a3 with a3 | a3
           · exact absurd a3 (by assumption)
           · rw [a3]
             done)
        | (rcases a3 with a3 | a3
           · exact absurd a3 (by assumption)
           · rw [a3]
             rfl)
        | (exfalso
           simp only [not_true_eq_false] at *
           done)
        | (exfalso
           simp at *
           done)
      ·
       first
       | exact True.intro
       | (rcases a3 with a3 | a3
          · exact absurd a3 (by assumption)
          · rw [a3]
            done)
       | (rcases a3 with a3 | a3
          · exact absurd a3 (by assumption)
          · rw [a3]
            rfl)
       | (exfalso
          simp only [not_true_eq_false] at *
          done)
       | (exfalso
          simp at *
          done)
     ·
      first
      | exact True.intro
      | (rcases a3 with a3 | a3
         · exact absurd a3 (by assumption)
         · rw [a3]
           done)
      | (rcases a3 with a3 | a3
         · exact absurd a3 (by assumption)
         · rw [a3]
           rfl)
      | (exfalso
         simp only [not_true_eq_false] at *
         done)
      | (exfalso
         simp at *
         done)
theorem zfg_sure25 : zfc_sure25.Good Tryd.prog syG (zfE [] [] [] []) := good_of_walk (Γ := ⟨[zfc_fatp, zfc_num], syG, [], [], []⟩) (ρ := zfE [] [] [] []) sym sure25_w rfl (fun _ _ _ _ => (ok_cons (Con.Good.env zfg_fatp _ _ _ _) (ok_cons (Con.Good.env zfg_num _ _ _ _) ok_nil))) (fun hc hty => sure25_h  hc hty)
def wTells_tree : Tree :=
 (.need (an_ (an_ (an_ (le_ lm_ v0_) (le_ v0_ lM_)) (an_ (le_ lm_ v1_) (le_ v1_ lM_))) (an_ (an_ (le_ lm_ (.var 18)) (le_ (.var 18) lM_)) (.bapp 0 (.cons (.tup (.cons (.int .u8 v2_) (.cons (.int .u8 v3_) (.cons (.int .u8 v4_) (.cons (.int .u8 v5_) (.cons (.int .u8 v6_) (.cons (.int .u8 v7_) (.cons (.int .u8 v8_) (.cons (.int .u8 v9_) (.cons (.int .u8 (.var 10)) (.cons (.int .u8 (.var 11)) (.cons (.int .u8 (.var 12)) (.cons (.int .u8 (.var 13)) (.cons (.int .u8 (.var 14)) (.cons (.int .u8 (.var 15)) (.cons (.int .u8 (.var 16)) (.cons (.int .u8 (.var 17)) .nil))))))))))))))))) .nil))))
 (.need (an_ (an_ (an_ (le_ lm_ v0_) (le_ v0_ lM_)) (an_ (le_ lm_ v1_) (le_ v1_ lM_))) (an_ (an_ (le_ lm_ (.var 18)) (le_ (.var 18) lM_)) (.bapp 0 (.cons (.tup (.cons (.int .u8 v2_) (.cons (.int .u8 v3_) (.cons (.int .u8 v4_) (.cons (.int .u8 v5_) (.cons (.int .u8 v6_) (.cons (.int .u8 v7_) (.cons (.int .u8 v8_) (.cons (.int .u8 v9_) (.cons (.int .u8 (.var 10)) (.cons (.int .u8 (.var 11)) (.cons (.int .u8 (.var 12)) (.cons (.int .u8 (.var 13)) (.cons (.int .u8 (.var 14)) (.cons (.int .u8 (.var 15)) (.cons (.int .u8 (.var 16)) (.cons (.int .u8 (.var 17)) .nil))))))))))))))))) .nil))))
 (.need (an_ (an_ (an_ (le_ lm_ v0_) (le_ v0_ lM_)) (an_ (le_ lm_ v1_) (le_ v1_ lM_))) (an_ (an_ (le_ lm_ (.var 18)) (le_ (.var 18) lM_)) (.bapp 0 (.cons (.tup (.cons (.int .u8 v2_) (.cons (.int .u8 v3_) (.cons (.int .u8 v4_) (.cons (.int .u8 v5_) (.cons (.int .u8 v6_) (.cons (.int .u8 v7_) (.cons (.int .u8 v8_) (.cons (.int .u8 v9_) (.cons (.int .u8 (.var 10)) (.cons (.int .u8 (.var 11)) (.cons (.int .u8 (.var 12)) (.cons (.int .u8 (.var 13)) (.cons (.int .u8 (.var 14)) (.cons (.int .u8 (.var 15)) (.cons (.int .u8 (.var 16)) (.cons (.int .u8 (.var 17)) .nil))))))))))))))))) .nil))))
 (.need (an_ (an_ (an_ (le_ lm_ v0_) (le_ v0_ lM_)) (an_ (le_ lm_ v1_) (le_ v1_ lM_))) (an_ (an_ (le_ lm_ (.var 18)) (le_ (.var 18) lM_)) (.bapp 0 (.cons (.tup (.cons (.int .u8 v2_) (.cons (.int .u8 v3_) (.cons (.int .u8 v4_) (.cons (.int .u8 v5_) (.cons (.int .u8 v6_) (.cons (.int .u8 v7_) (.cons (.int .u8 v8_) (.cons (.int .u8 v9_) (.cons (.int .u8 (.var 10)) (.cons (.int .u8 (.var 11)) (.cons (.int .u8 (.var 12)) (.cons (.int .u8 (.var 13)) (.cons (.int .u8 (.var 14)) (.cons (.int .u8 (.var 15)) (.cons (.int .u8 (.var 16)) (.cons (.int .u8 (.var 17)) .nil))))))))))))))))) .nil))))
 (.need (an_ (an_ (le_ lm_ v0_) (le_ v0_ lM_)) (an_ (le_ lm_ v1_) (le_ v1_ lM_)))
 (.need (an_ (an_ (le_ lm_ v0_) (le_ v0_ lM_)) (an_ (le_ lm_ v1_) (le_ v1_ lM_)))
 (.ret (.bool (.tt true)))))))))
abbrev zfc_wTells : Con := ⟨9, [(.agg (.cons z0_ (.cons z1_ .nil))), (.agg (.cons (.int .u8 v2_) (.cons (.int .u8 v3_) (.cons (.int .u8 v4_) (.cons (.int .u8 v5_) (.cons (.int .u8 v6_) (.cons (.int .u8 v7_) (.cons (.int .u8 v8_) (.cons (.int .u8 v9_) (.cons (.int .u8 (.var 10)) (.cons (.int .u8 (.var 11)) (.cons (.int .u8 (.var 12)) (.cons (.int .u8 (.var 13)) (.cons (.int .u8 (.var 14)) (.cons (.int .u8 (.var 15)) (.cons (.int .u8 (.var 16)) (.cons (.int .u8 (.var 17)) .nil))))))))))))))))), (.int .i64 (.var 18))], (an_ (an_ (an_ (le_ lm_ v0_) (le_ v0_ lM_)) (an_ (le_ lm_ v1_) (le_ v1_ lM_))) (an_ (an_ (le_ lm_ (.var 18)) (le_ (.var 18) lM_)) (.bapp 0 (.cons (.tup (.cons (.int .u8 v2_) (.cons (.int .u8 v3_) (.cons (.int .u8 v4_) (.cons (.int .u8 v5_) (.cons (.int .u8 v6_) (.cons (.int .u8 v7_) (.cons (.int .u8 v8_) (.cons (.int .u8 v9_) (.cons (.int .u8 (.var 10)) (.cons (.int .u8 (.var 11)) (.cons (.int .u8 (.var 12)) (.cons (.int .u8 (.var 13)) (.cons (.int .u8 (.var 14)) (.cons (.int .u8 (.var 15)) (.cons (.int .u8 (.var 16)) (.cons (.int .u8 (.var 17)) .nil))))))))))))))))) .nil)))), (.bool (.tt true)), ⟨19, 0, 0, 0⟩, none⟩
theorem wTells_w : walk Tryd.prog 203 ⟨[zfc_sure25, zfc_fcheck, zfc_rmay25, zfc_fbyp, zfc_rby, zfc_fatp, zfc_rat25, zfc_num], syG, [], [], []⟩ [] .v zfc_wTells zfc_wTells.n 3000 = some wTells_tree := by kernel_rfl
theorem wTells_h (w : Int) (c : Int) (k0 : Int) (k1 : Int) (k2 : Int) (k3 : Int) (k4 : Int) (k5 : Int) (k6 : Int) (k7 : Int) (k8 : Int) (k9 : Int) (k10 : Int) (k11 : Int) (k12 : Int) (k13 : Int) (k14 : Int) (k15 : Int) (t : Int) (hc : holds (zfE [w, c, k0, k1, k2, k3, k4, k5, k6, k7, k8, k9, k10, k11, k12, k13, k14, k15, t] [] [] []) (an_ (an_ (an_ (le_ lm_ v0_) (le_ v0_ lM_)) (an_ (le_ lm_ v1_) (le_ v1_ lM_))) (an_ (an_ (le_ lm_ (.var 18)) (le_ (.var 18) lM_)) (.bapp 0 (.cons (.tup (.cons (.int .u8 v2_) (.cons (.int .u8 v3_) (.cons (.int .u8 v4_) (.cons (.int .u8 v5_) (.cons (.int .u8 v6_) (.cons (.int .u8 v7_) (.cons (.int .u8 v8_) (.cons (.int .u8 v9_) (.cons (.int .u8 (.var 10)) (.cons (.int .u8 (.var 11)) (.cons (.int .u8 (.var 12)) (.cons (.int .u8 (.var 13)) (.cons (.int .u8 (.var 14)) (.cons (.int .u8 (.var 15)) (.cons (.int .u8 (.var 16)) (.cons (.int .u8 (.var 17)) .nil))))))))))))))))) .nil))))) (hty : patsTyp (zfE [w, c, k0, k1, k2, k3, k4, k5, k6, k7, k8, k9, k10, k11, k12, k13, k14, k15, t] [] [] []) [(.agg (.cons z0_ (.cons z1_ .nil))), (.agg (.cons (.int .u8 v2_) (.cons (.int .u8 v3_) (.cons (.int .u8 v4_) (.cons (.int .u8 v5_) (.cons (.int .u8 v6_) (.cons (.int .u8 v7_) (.cons (.int .u8 v8_) (.cons (.int .u8 v9_) (.cons (.int .u8 (.var 10)) (.cons (.int .u8 (.var 11)) (.cons (.int .u8 (.var 12)) (.cons (.int .u8 (.var 13)) (.cons (.int .u8 (.var 14)) (.cons (.int .u8 (.var 15)) (.cons (.int .u8 (.var 16)) (.cons (.int .u8 (.var 17)) .nil))))))))))))))))), (.int .i64 (.var 18))]) : wTells_tree.holds (fun v_ => v_ = denV (zfE [w, c, k0, k1, k2, k3, k4, k5, k6, k7, k8, k9, k10, k11, k12, k13, k14, k15, t] [] [] []) b0 (.bool (.tt true))) (zfE [w, c, k0, k1, k2, k3, k4, k5, k6, k7, k8, k9, k10, k11, k12, k13, k14, k15, t] [] [] []) := by
  simp only [Tree.holds, Sy.holds, AllN, Env.more, zfE, List.cons_append, List.nil_append, List.append_nil, denV, denI, denB, denL, I2.den, VOp.den, List.getD_cons_zero, List.getD_cons_succ, Cst.den, syso, syse, syio, sybo, zfb_okr, List.map_nil, List.map_cons, B2.ofInts, B2.denI, B2.denB, if_true, Bool.false_eq_true, if_false, Nat.div_one, Nat.mul_one, Nat.add_zero, holds] at hc
  simp only [patsTyp, patTyp, patTypL, zfE, denV, denL, List.getD_cons_zero, List.getD_cons_succ, and_true, true_and] at hty
  unfold wTells_tree
  simp only [Tree.holds, Sy.holds, AllN, Env.more, zfE, List.cons_append, List.nil_append, List.append_nil, denV, denI, denB, denL, I2.den, VOp.den, List.getD_cons_zero, List.getD_cons_succ, Cst.den, syso, syse, syio, sybo, zfb_okr, List.map_nil, List.map_cons, B2.ofInts, B2.denI, B2.denB, if_true, Bool.false_eq_true, if_false, Nat.div_one, Nat.mul_one, Nat.add_zero]
  generalize hKT : Value.tuple #[Value.int .u8 k0, Value.int .u8 k1, Value.int .u8 k2, Value.int .u8 k3, Value.int .u8 k4, Value.int .u8 k5, Value.int .u8 k6, Value.int .u8 k7, Value.int .u8 k8, Value.int .u8 k9, Value.int .u8 k10, Value.int .u8 k11, Value.int .u8 k12, Value.int .u8 k13, Value.int .u8 k14, Value.int .u8 k15] = KT at hc ⊢
  refine ⟨?_, fun h0 => ?_⟩
  ·
   first | exact hc | exact hc.1 | exact True.intro
  ·
   refine ⟨?_, fun h1 => ?_⟩
   ·
    first | exact hc | exact hc.1 | exact True.intro
   ·
    refine ⟨?_, fun h2 => ?_⟩
    ·
     first | exact hc | exact hc.1 | exact True.intro
    ·
     refine ⟨?_, fun h3 => ?_⟩
     ·
      first | exact hc | exact hc.1 | exact True.intro
     ·
      refine ⟨?_, fun h4 => ?_⟩
      ·
       first | exact hc | exact hc.1 | exact True.intro
      ·
       refine ⟨?_, fun h5 => ?_⟩
       ·
        first | exact hc | exact hc.1 | exact True.intro
       ·
        first | exact True.intro | rfl
theorem zfg_wTells : zfc_wTells.Good Tryd.prog syG (zfE [] [] [] []) := good_of_walk (Γ := ⟨[zfc_sure25, zfc_fcheck, zfc_rmay25, zfc_fbyp, zfc_rby, zfc_fatp, zfc_rat25, zfc_num], syG, [], [], []⟩) (ρ := zfE [] [] [] []) sym wTells_w rfl (fun _ _ _ _ => (ok_cons (Con.Good.env zfg_sure25 _ _ _ _) (ok_cons (Con.Good.env zfg_fcheck _ _ _ _) (ok_cons (Con.Good.env zfg_rmay25 _ _ _ _) (ok_cons (Con.Good.env zfg_fbyp _ _ _ _) (ok_cons (Con.Good.env zfg_rby _ _ _ _) (ok_cons (Con.Good.env zfg_fatp _ _ _ _) (ok_cons (Con.Good.env zfg_rat25 _ _ _ _) (ok_cons (Con.Good.env zfg_num _ _ _ _) ok_nil))))))))) (fun w c k0 k1 k2 k3 k4 k5 k6 k7 k8 k9 k10 k11 k12 k13 k14 k15 t hc hty => wTells_h w c k0 k1 k2 k3 k4 k5 k6 k7 k8 k9 k10 k11 k12 k13 k14 k15 t hc hty)
def wHolds_tree : Tree :=
 (.need (an_ (an_ (le_ lm_ v0_) (le_ v0_ lM_)) (an_ (le_ lm_ v1_) (le_ v1_ lM_)))
 (.br (.not (eq_ (.iapp 26 (.cons z0_ (.cons z1_ .nil))) (.lit 0)))
 (.ret (.bool (.tt true)))
 (.br (lt_ (.var 18) (.lit (-4611686018427387904)))
 (.ret (.bool (.tt true)))
 (.br (lt_ (.lit 4611686018427387904) (.var 18))
 (.ret (.bool (.tt true)))
 (.br (lt_ (.var 19) (.lit (-4611686018427387904)))
 (.ret (.bool (.tt true)))
 (.br (lt_ (.lit 4611686018427387904) (.var 19))
 (.ret (.bool (.tt true)))
 (.need (an_ (an_ (an_ (le_ lm_ v0_) (le_ v0_ lM_)) (an_ (le_ lm_ v1_) (le_ v1_ lM_))) (an_ (an_ (le_ lm_ (.var 18)) (le_ (.var 18) lM_)) (.bapp 0 (.cons (.tup (.cons (.int .u8 v2_) (.cons (.int .u8 v3_) (.cons (.int .u8 v4_) (.cons (.int .u8 v5_) (.cons (.int .u8 v6_) (.cons (.int .u8 v7_) (.cons (.int .u8 v8_) (.cons (.int .u8 v9_) (.cons (.int .u8 (.var 10)) (.cons (.int .u8 (.var 11)) (.cons (.int .u8 (.var 12)) (.cons (.int .u8 (.var 13)) (.cons (.int .u8 (.var 14)) (.cons (.int .u8 (.var 15)) (.cons (.int .u8 (.var 16)) (.cons (.int .u8 (.var 17)) .nil))))))))))))))))) .nil))))
 (.need (an_ (an_ (an_ (le_ lm_ v0_) (le_ v0_ lM_)) (an_ (le_ lm_ v1_) (le_ v1_ lM_))) (an_ (an_ (le_ lm_ (.var 19)) (le_ (.var 19) lM_)) (.bapp 0 (.cons (.tup (.cons (.int .u8 v2_) (.cons (.int .u8 v3_) (.cons (.int .u8 v4_) (.cons (.int .u8 v5_) (.cons (.int .u8 v6_) (.cons (.int .u8 v7_) (.cons (.int .u8 v8_) (.cons (.int .u8 v9_) (.cons (.int .u8 (.var 10)) (.cons (.int .u8 (.var 11)) (.cons (.int .u8 (.var 12)) (.cons (.int .u8 (.var 13)) (.cons (.int .u8 (.var 14)) (.cons (.int .u8 (.var 15)) (.cons (.int .u8 (.var 16)) (.cons (.int .u8 (.var 17)) .nil))))))))))))))))) .nil))))
 (.need (an_ (an_ (an_ (le_ lm_ v0_) (le_ v0_ lM_)) (an_ (le_ lm_ v1_) (le_ v1_ lM_))) (an_ (an_ (le_ lm_ (.var 18)) (le_ (.var 18) lM_)) (.bapp 0 (.cons (.tup (.cons (.int .u8 v2_) (.cons (.int .u8 v3_) (.cons (.int .u8 v4_) (.cons (.int .u8 v5_) (.cons (.int .u8 v6_) (.cons (.int .u8 v7_) (.cons (.int .u8 v8_) (.cons (.int .u8 v9_) (.cons (.int .u8 (.var 10)) (.cons (.int .u8 (.var 11)) (.cons (.int .u8 (.var 12)) (.cons (.int .u8 (.var 13)) (.cons (.int .u8 (.var 14)) (.cons (.int .u8 (.var 15)) (.cons (.int .u8 (.var 16)) (.cons (.int .u8 (.var 17)) .nil))))))))))))))))) .nil))))
 (.br (.not (eq_ (.iapp 29 (.cons (.tup (.cons (.int .u8 v2_) (.cons (.int .u8 v3_) (.cons (.int .u8 v4_) (.cons (.int .u8 v5_) (.cons (.int .u8 v6_) (.cons (.int .u8 v7_) (.cons (.int .u8 v8_) (.cons (.int .u8 v9_) (.cons (.int .u8 (.var 10)) (.cons (.int .u8 (.var 11)) (.cons (.int .u8 (.var 12)) (.cons (.int .u8 (.var 13)) (.cons (.int .u8 (.var 14)) (.cons (.int .u8 (.var 15)) (.cons (.int .u8 (.var 16)) (.cons (.int .u8 (.var 17)) .nil))))))))))))))))) (.cons z0_ (.cons z1_ (.cons (.int .i64 (.var 18)) .nil))))) (.lit 0)))
 (.ret (.bool (.tt false)))
 (.br (.not (eq_ (.iapp 29 (.cons (.tup (.cons (.int .u8 v2_) (.cons (.int .u8 v3_) (.cons (.int .u8 v4_) (.cons (.int .u8 v5_) (.cons (.int .u8 v6_) (.cons (.int .u8 v7_) (.cons (.int .u8 v8_) (.cons (.int .u8 v9_) (.cons (.int .u8 (.var 10)) (.cons (.int .u8 (.var 11)) (.cons (.int .u8 (.var 12)) (.cons (.int .u8 (.var 13)) (.cons (.int .u8 (.var 14)) (.cons (.int .u8 (.var 15)) (.cons (.int .u8 (.var 16)) (.cons (.int .u8 (.var 17)) .nil))))))))))))))))) (.cons z0_ (.cons z1_ (.cons (.int .i64 (.var 19)) .nil))))) (.lit 0)))
 (.ret (.bool (.tt false)))
 (.br (lt_ (.var 18) (.iapp 28 (.cons (.tup (.cons (.int .u8 v2_) (.cons (.int .u8 v3_) (.cons (.int .u8 v4_) (.cons (.int .u8 v5_) (.cons (.int .u8 v6_) (.cons (.int .u8 v7_) (.cons (.int .u8 v8_) (.cons (.int .u8 v9_) (.cons (.int .u8 (.var 10)) (.cons (.int .u8 (.var 11)) (.cons (.int .u8 (.var 12)) (.cons (.int .u8 (.var 13)) (.cons (.int .u8 (.var 14)) (.cons (.int .u8 (.var 15)) (.cons (.int .u8 (.var 16)) (.cons (.int .u8 (.var 17)) .nil))))))))))))))))) (.cons z0_ (.cons z1_ (.cons (.int .i64 (.var 18)) .nil))))))
 (.ret (.bool (.tt false)))
 (.br (lt_ v0_ (wr_ (sb_ (.var 18) (.iapp 28 (.cons (.tup (.cons (.int .u8 v2_) (.cons (.int .u8 v3_) (.cons (.int .u8 v4_) (.cons (.int .u8 v5_) (.cons (.int .u8 v6_) (.cons (.int .u8 v7_) (.cons (.int .u8 v8_) (.cons (.int .u8 v9_) (.cons (.int .u8 (.var 10)) (.cons (.int .u8 (.var 11)) (.cons (.int .u8 (.var 12)) (.cons (.int .u8 (.var 13)) (.cons (.int .u8 (.var 14)) (.cons (.int .u8 (.var 15)) (.cons (.int .u8 (.var 16)) (.cons (.int .u8 (.var 17)) .nil))))))))))))))))) (.cons z0_ (.cons z1_ (.cons (.int .i64 (.var 18)) .nil))))))))
 (.ret (.bool (.tt false)))
 (.br (.not (eq_ (.iapp 27 (.cons (.tup (.cons (.int .u8 v2_) (.cons (.int .u8 v3_) (.cons (.int .u8 v4_) (.cons (.int .u8 v5_) (.cons (.int .u8 v6_) (.cons (.int .u8 v7_) (.cons (.int .u8 v8_) (.cons (.int .u8 v9_) (.cons (.int .u8 (.var 10)) (.cons (.int .u8 (.var 11)) (.cons (.int .u8 (.var 12)) (.cons (.int .u8 (.var 13)) (.cons (.int .u8 (.var 14)) (.cons (.int .u8 (.var 15)) (.cons (.int .u8 (.var 16)) (.cons (.int .u8 (.var 17)) .nil))))))))))))))))) (.cons z0_ (.cons z1_ (.cons (.int .i64 (.var 18)) .nil))))) (wr_ (sb_ (.var 18) (.iapp 28 (.cons (.tup (.cons (.int .u8 v2_) (.cons (.int .u8 v3_) (.cons (.int .u8 v4_) (.cons (.int .u8 v5_) (.cons (.int .u8 v6_) (.cons (.int .u8 v7_) (.cons (.int .u8 v8_) (.cons (.int .u8 v9_) (.cons (.int .u8 (.var 10)) (.cons (.int .u8 (.var 11)) (.cons (.int .u8 (.var 12)) (.cons (.int .u8 (.var 13)) (.cons (.int .u8 (.var 14)) (.cons (.int .u8 (.var 15)) (.cons (.int .u8 (.var 16)) (.cons (.int .u8 (.var 17)) .nil))))))))))))))))) (.cons z0_ (.cons z1_ (.cons (.int .i64 (.var 18)) .nil)))))))))
 (.ret (.bool (.tt false)))
 (.br (lt_ (.var 19) (.iapp 28 (.cons (.tup (.cons (.int .u8 v2_) (.cons (.int .u8 v3_) (.cons (.int .u8 v4_) (.cons (.int .u8 v5_) (.cons (.int .u8 v6_) (.cons (.int .u8 v7_) (.cons (.int .u8 v8_) (.cons (.int .u8 v9_) (.cons (.int .u8 (.var 10)) (.cons (.int .u8 (.var 11)) (.cons (.int .u8 (.var 12)) (.cons (.int .u8 (.var 13)) (.cons (.int .u8 (.var 14)) (.cons (.int .u8 (.var 15)) (.cons (.int .u8 (.var 16)) (.cons (.int .u8 (.var 17)) .nil))))))))))))))))) (.cons z0_ (.cons z1_ (.cons (.int .i64 (.var 19)) .nil))))))
 (.ret (.bool (.tt false)))
 (.br (lt_ v0_ (wr_ (sb_ (.var 19) (.iapp 28 (.cons (.tup (.cons (.int .u8 v2_) (.cons (.int .u8 v3_) (.cons (.int .u8 v4_) (.cons (.int .u8 v5_) (.cons (.int .u8 v6_) (.cons (.int .u8 v7_) (.cons (.int .u8 v8_) (.cons (.int .u8 v9_) (.cons (.int .u8 (.var 10)) (.cons (.int .u8 (.var 11)) (.cons (.int .u8 (.var 12)) (.cons (.int .u8 (.var 13)) (.cons (.int .u8 (.var 14)) (.cons (.int .u8 (.var 15)) (.cons (.int .u8 (.var 16)) (.cons (.int .u8 (.var 17)) .nil))))))))))))))))) (.cons z0_ (.cons z1_ (.cons (.int .i64 (.var 19)) .nil))))))))
 (.ret (.bool (.tt false)))
 (.need (.not (eq_ v1_ (.lit 0)))
 (.need (.not (eq_ v1_ (.lit 0)))
 (.br (le_ (.lit 0) (.var 18))
 (.br (le_ (.lit 0) (.var 19))
 (.br (eq_ (wr_ (.i2 .quo (.var 18) v1_)) (wr_ (.i2 .quo (.var 19) v1_)))
 (.br (.not (eq_ (wr_ (sb_ (.iapp 28 (.cons (.tup (.cons (.int .u8 v2_) (.cons (.int .u8 v3_) (.cons (.int .u8 v4_) (.cons (.int .u8 v5_) (.cons (.int .u8 v6_) (.cons (.int .u8 v7_) (.cons (.int .u8 v8_) (.cons (.int .u8 v9_) (.cons (.int .u8 (.var 10)) (.cons (.int .u8 (.var 11)) (.cons (.int .u8 (.var 12)) (.cons (.int .u8 (.var 13)) (.cons (.int .u8 (.var 14)) (.cons (.int .u8 (.var 15)) (.cons (.int .u8 (.var 16)) (.cons (.int .u8 (.var 17)) .nil))))))))))))))))) (.cons z0_ (.cons z1_ (.cons (.int .i64 (.var 19)) .nil))))) (.iapp 28 (.cons (.tup (.cons (.int .u8 v2_) (.cons (.int .u8 v3_) (.cons (.int .u8 v4_) (.cons (.int .u8 v5_) (.cons (.int .u8 v6_) (.cons (.int .u8 v7_) (.cons (.int .u8 v8_) (.cons (.int .u8 v9_) (.cons (.int .u8 (.var 10)) (.cons (.int .u8 (.var 11)) (.cons (.int .u8 (.var 12)) (.cons (.int .u8 (.var 13)) (.cons (.int .u8 (.var 14)) (.cons (.int .u8 (.var 15)) (.cons (.int .u8 (.var 16)) (.cons (.int .u8 (.var 17)) .nil))))))))))))))))) (.cons z0_ (.cons z1_ (.cons (.int .i64 (.var 18)) .nil))))))) (wr_ (sb_ (.var 19) (.var 18)))))
 (.ret (.bool (.tt false)))
 (.ret (.bool (.tt true))))
 (.ret (.bool (.tt true))))
 (.ret (.bool (.tt true))))
 (.ret (.bool (.tt true))))))))))))))))))))))
abbrev zfc_wHolds : Con := ⟨10, [(.agg (.cons z0_ (.cons z1_ .nil))), (.agg (.cons (.int .u8 v2_) (.cons (.int .u8 v3_) (.cons (.int .u8 v4_) (.cons (.int .u8 v5_) (.cons (.int .u8 v6_) (.cons (.int .u8 v7_) (.cons (.int .u8 v8_) (.cons (.int .u8 v9_) (.cons (.int .u8 (.var 10)) (.cons (.int .u8 (.var 11)) (.cons (.int .u8 (.var 12)) (.cons (.int .u8 (.var 13)) (.cons (.int .u8 (.var 14)) (.cons (.int .u8 (.var 15)) (.cons (.int .u8 (.var 16)) (.cons (.int .u8 (.var 17)) .nil))))))))))))))))), (.agg (.cons (.int .i64 (.var 18)) (.cons (.int .i64 (.var 19)) .nil)))], (an_ (an_ (an_ (an_ (le_ lm_ v0_) (le_ v0_ lM_)) (an_ (le_ lm_ v1_) (le_ v1_ lM_))) (an_ (an_ (le_ lm_ (.var 18)) (le_ (.var 18) lM_)) (.bapp 0 (.cons (.tup (.cons (.int .u8 v2_) (.cons (.int .u8 v3_) (.cons (.int .u8 v4_) (.cons (.int .u8 v5_) (.cons (.int .u8 v6_) (.cons (.int .u8 v7_) (.cons (.int .u8 v8_) (.cons (.int .u8 v9_) (.cons (.int .u8 (.var 10)) (.cons (.int .u8 (.var 11)) (.cons (.int .u8 (.var 12)) (.cons (.int .u8 (.var 13)) (.cons (.int .u8 (.var 14)) (.cons (.int .u8 (.var 15)) (.cons (.int .u8 (.var 16)) (.cons (.int .u8 (.var 17)) .nil))))))))))))))))) .nil)))) (an_ (le_ lm_ (.var 19)) (le_ (.var 19) lM_))), (.bool (.tt true)), ⟨20, 0, 0, 0⟩, none⟩
theorem wHolds_w : walk Tryd.prog 203 ⟨[zfc_sure25, zfc_fcheck, zfc_fbyp, zfc_fatp, zfc_num], syG, [], [], []⟩ [] .v zfc_wHolds zfc_wHolds.n 3000 = some wHolds_tree := by kernel_rfl
theorem wHolds_h (w : Int) (c : Int) (k0 : Int) (k1 : Int) (k2 : Int) (k3 : Int) (k4 : Int) (k5 : Int) (k6 : Int) (k7 : Int) (k8 : Int) (k9 : Int) (k10 : Int) (k11 : Int) (k12 : Int) (k13 : Int) (k14 : Int) (k15 : Int) (t : Int) (u : Int) (hc : holds (zfE [w, c, k0, k1, k2, k3, k4, k5, k6, k7, k8, k9, k10, k11, k12, k13, k14, k15, t, u] [] [] []) (an_ (an_ (an_ (an_ (le_ lm_ v0_) (le_ v0_ lM_)) (an_ (le_ lm_ v1_) (le_ v1_ lM_))) (an_ (an_ (le_ lm_ (.var 18)) (le_ (.var 18) lM_)) (.bapp 0 (.cons (.tup (.cons (.int .u8 v2_) (.cons (.int .u8 v3_) (.cons (.int .u8 v4_) (.cons (.int .u8 v5_) (.cons (.int .u8 v6_) (.cons (.int .u8 v7_) (.cons (.int .u8 v8_) (.cons (.int .u8 v9_) (.cons (.int .u8 (.var 10)) (.cons (.int .u8 (.var 11)) (.cons (.int .u8 (.var 12)) (.cons (.int .u8 (.var 13)) (.cons (.int .u8 (.var 14)) (.cons (.int .u8 (.var 15)) (.cons (.int .u8 (.var 16)) (.cons (.int .u8 (.var 17)) .nil))))))))))))))))) .nil)))) (an_ (le_ lm_ (.var 19)) (le_ (.var 19) lM_)))) (hty : patsTyp (zfE [w, c, k0, k1, k2, k3, k4, k5, k6, k7, k8, k9, k10, k11, k12, k13, k14, k15, t, u] [] [] []) [(.agg (.cons z0_ (.cons z1_ .nil))), (.agg (.cons (.int .u8 v2_) (.cons (.int .u8 v3_) (.cons (.int .u8 v4_) (.cons (.int .u8 v5_) (.cons (.int .u8 v6_) (.cons (.int .u8 v7_) (.cons (.int .u8 v8_) (.cons (.int .u8 v9_) (.cons (.int .u8 (.var 10)) (.cons (.int .u8 (.var 11)) (.cons (.int .u8 (.var 12)) (.cons (.int .u8 (.var 13)) (.cons (.int .u8 (.var 14)) (.cons (.int .u8 (.var 15)) (.cons (.int .u8 (.var 16)) (.cons (.int .u8 (.var 17)) .nil))))))))))))))))), (.agg (.cons (.int .i64 (.var 18)) (.cons (.int .i64 (.var 19)) .nil)))]) : wHolds_tree.holds (fun v_ => v_ = denV (zfE [w, c, k0, k1, k2, k3, k4, k5, k6, k7, k8, k9, k10, k11, k12, k13, k14, k15, t, u] [] [] []) b0 (.bool (.tt true))) (zfE [w, c, k0, k1, k2, k3, k4, k5, k6, k7, k8, k9, k10, k11, k12, k13, k14, k15, t, u] [] [] []) := by
  simp only [Tree.holds, Sy.holds, AllN, Env.more, zfE, List.cons_append, List.nil_append, List.append_nil, denV, denI, denB, denL, I2.den, VOp.den, List.getD_cons_zero, List.getD_cons_succ, Cst.den, syso, syse, syio, sybo, zfb_okr, List.map_nil, List.map_cons, B2.ofInts, B2.denI, B2.denB, if_true, Bool.false_eq_true, if_false, Nat.div_one, Nat.mul_one, Nat.add_zero, holds] at hc
  simp only [patsTyp, patTyp, patTypL, zfE, denV, denL, List.getD_cons_zero, List.getD_cons_succ, and_true, true_and] at hty
  unfold wHolds_tree
  simp only [Tree.holds, Sy.holds, AllN, Env.more, zfE, List.cons_append, List.nil_append, List.append_nil, denV, denI, denB, denL, I2.den, VOp.den, List.getD_cons_zero, List.getD_cons_succ, Cst.den, syso, syse, syio, sybo, zfi_fck, zfi_fby, zfi_fav, zfi_fae, zfb_okr, List.map_nil, List.map_cons, B2.ofInts, B2.denI, B2.denB, if_true, Bool.false_eq_true, if_false, Nat.div_one, Nat.mul_one, Nat.add_zero]
  generalize hKT : Value.tuple #[Value.int .u8 k0, Value.int .u8 k1, Value.int .u8 k2, Value.int .u8 k3, Value.int .u8 k4, Value.int .u8 k5, Value.int .u8 k6, Value.int .u8 k7, Value.int .u8 k8, Value.int .u8 k9, Value.int .u8 k10, Value.int .u8 k11, Value.int .u8 k12, Value.int .u8 k13, Value.int .u8 k14, Value.int .u8 k15] = KT at hc ⊢
  have f1 := ck_spec w c
  have f2 := by_spec (byL (Sy.rows KT)) w c t
  have f3 := by_spec (byL (Sy.rows KT)) w c u
  have f4 := svE_spec (t - byF (byL (Sy.rows KT)) w c t)
  have f5 := svE_spec (u - byF (byL (Sy.rows KT)) w c u)
  refine ⟨?_, fun h0 => ?_⟩
  ·
   first
   | exact True.intro
   | exact hc.1
   | exact hc.1.1
   | exact ⟨hc.1.1, hc.2, hc.1.2.2⟩
   | omega
  ·
   refine ⟨fun h1 => ?_, fun h1 => ?_⟩
   ·
    first
    | exact True.intro
    | rfl
    | (exfalso
       have w1 := wr_i64 (t - avF (byL (Sy.rows KT)) w c t)
       have w2 := wr_i64 (u - avF (byL (Sy.rows KT)) w c u)
       rcases f1 with f1 | f1
       · rcases f2 with f2 | f2
         · rcases f3 with f3 | f3
           · first
             | omega
             | (have d1 := dm_spec t c ⟨by omega, by omega⟩
                have d2 := dm_spec u c ⟨by omega, by omega⟩
                have d3 := Int.tmod_nonneg c (show 0 ≤ t by omega)
                have d4 := Int.tmod_nonneg c (show 0 ≤ u by omega)
                have w3 := wr_i64 (t.tdiv c)
                have w4 := wr_i64 (u.tdiv c)
                have hq : t / c = u / c := by omega
                have hb : byF (byL (Sy.rows KT)) w c t = byF (byL (Sy.rows KT)) w c u := by unfold byF; rw [hq]
                have w5 := wr_i64 (avF (byL (Sy.rows KT)) w c u - avF (byL (Sy.rows KT)) w c t)
                have w6 := wr_i64 (u - t)
                omega)
           · omega
         · omega
       · omega)
   ·
    refine ⟨fun h2 => ?_, fun h2 => ?_⟩
    ·
     first
     | exact True.intro
     | rfl
     | (exfalso
        have w1 := wr_i64 (t - avF (byL (Sy.rows KT)) w c t)
        have w2 := wr_i64 (u - avF (byL (Sy.rows KT)) w c u)
        rcases f1 with f1 | f1
        · rcases f2 with f2 | f2
          · rcases f3 with f3 | f3
            · first
              | omega
              | (have d1 := dm_spec t c ⟨by omega, by omega⟩
                 have d2 := dm_spec u c ⟨by omega, by omega⟩
                 have d3 := Int.tmod_nonneg c (show 0 ≤ t by omega)
                 have d4 := Int.tmod_nonneg c (show 0 ≤ u by omega)
                 have w3 := wr_i64 (t.tdiv c)
                 have w4 := wr_i64 (u.tdiv c)
                 have hq : t / c = u / c := by omega
                 have hb : byF (byL (Sy.rows KT)) w c t = byF (byL (Sy.rows KT)) w c u := by unfold byF; rw [hq]
                 have w5 := wr_i64 (avF (byL (Sy.rows KT)) w c u - avF (byL (Sy.rows KT)) w c t)
                 have w6 := wr_i64 (u - t)
                 omega)
            · omega
          · omega
        · omega)
    ·
     refine ⟨fun h3 => ?_, fun h3 => ?_⟩
     ·
      first
      | exact True.intro
      | rfl
      | (exfalso
         have w1 := wr_i64 (t - avF (byL (Sy.rows KT)) w c t)
         have w2 := wr_i64 (u - avF (byL (Sy.rows KT)) w c u)
         rcases f1 with f1 | f1
         · rcases f2 with f2 | f2
           · rcases f3 with f3 | f3
             · first
               | omega
               | (have d1 := dm_spec t c ⟨by omega, by omega⟩
                  have d2 := dm_spec u c ⟨by omega, by omega⟩
                  have d3 := Int.tmod_nonneg c (show 0 ≤ t by omega)
                  have d4 := Int.tmod_nonneg c (show 0 ≤ u by omega)
                  have w3 := wr_i64 (t.tdiv c)
                  have w4 := wr_i64 (u.tdiv c)
                  have hq : t / c = u / c := by omega
                  have hb : byF (byL (Sy.rows KT)) w c t = byF (byL (Sy.rows KT)) w c u := by unfold byF; rw [hq]
                  have w5 := wr_i64 (avF (byL (Sy.rows KT)) w c u - avF (byL (Sy.rows KT)) w c t)
                  have w6 := wr_i64 (u - t)
                  omega)
             · omega
           · omega
         · omega)
     ·
      refine ⟨fun h4 => ?_, fun h4 => ?_⟩
      ·
       first
       | exact True.intro
       | rfl
       | (exfalso
          have w1 := wr_i64 (t - avF (byL (Sy.rows KT)) w c t)
          have w2 := wr_i64 (u - avF (byL (Sy.rows KT)) w c u)
          rcases f1 with f1 | f1
          · rcases f2 with f2 | f2
            · rcases f3 with f3 | f3
              · first
                | omega
                | (have d1 := dm_spec t c ⟨by omega, by omega⟩
                   have d2 := dm_spec u c ⟨by omega, by omega⟩
                   have d3 := Int.tmod_nonneg c (show 0 ≤ t by omega)
                   have d4 := Int.tmod_nonneg c (show 0 ≤ u by omega)
                   have w3 := wr_i64 (t.tdiv c)
                   have w4 := wr_i64 (u.tdiv c)
                   have hq : t / c = u / c := by omega
                   have hb : byF (byL (Sy.rows KT)) w c t = byF (byL (Sy.rows KT)) w c u := by unfold byF; rw [hq]
                   have w5 := wr_i64 (avF (byL (Sy.rows KT)) w c u - avF (byL (Sy.rows KT)) w c t)
                   have w6 := wr_i64 (u - t)
                   omega)
              · omega
            · omega
          · omega)
      ·
       refine ⟨fun h5 => ?_, fun h5 => ?_⟩
       ·
        first
        | exact True.intro
        | rfl
        | (exfalso
           have w1 := wr_i64 (t - avF (byL (Sy.rows KT)) w c t)
           have w2 := wr_i64 (u - avF (byL (Sy.rows KT)) w c u)
           rcases f1 with f1 | f1
           · rcases f2 with f2 | f2
             · rcases f3 with f3 | f3
               · first
                 | omega
                 | (have d1 := dm_spec t c ⟨by omega, by omega⟩
                    have d2 := dm_spec u c ⟨by omega, by omega⟩
                    have d3 := Int.tmod_nonneg c (show 0 ≤ t by omega)
                    have d4 := Int.tmod_nonneg c (show 0 ≤ u by omega)
                    have w3 := wr_i64 (t.tdiv c)
                    have w4 := wr_i64 (u.tdiv c)
                    have hq : t / c = u / c := by omega
                    have hb : byF (byL (Sy.rows KT)) w c t = byF (byL (Sy.rows KT)) w c u := by unfold byF; rw [hq]
                    have w5 := wr_i64 (avF (byL (Sy.rows KT)) w c u - avF (byL (Sy.rows KT)) w c t)
                    have w6 := wr_i64 (u - t)
                    omega)
               · omega
             · omega
           · omega)
       ·
        refine ⟨?_, fun h6 => ?_⟩
        ·
         first
         | exact True.intro
         | exact hc.1
         | exact hc.1.1
         | exact ⟨hc.1.1, hc.2, hc.1.2.2⟩
         | omega
        ·
         refine ⟨?_, fun h7 => ?_⟩
         ·
          first
          | exact True.intro
          | exact hc.1
          | exact hc.1.1
          | exact ⟨hc.1.1, hc.2, hc.1.2.2⟩
          | omega
         ·
          refine ⟨?_, fun h8 => ?_⟩
          ·
           first
           | exact True.intro
           | exact hc.1
           | exact hc.1.1
           | exact ⟨hc.1.1, hc.2, hc.1.2.2⟩
           | omega
          ·
           refine ⟨fun h9 => ?_, fun h9 => ?_⟩
           ·
            first
            | exact True.intro
            | rfl
            | (exfalso
               have w1 := wr_i64 (t - avF (byL (Sy.rows KT)) w c t)
               have w2 := wr_i64 (u - avF (byL (Sy.rows KT)) w c u)
               rcases f1 with f1 | f1
               · rcases f2 with f2 | f2
                 · rcases f3 with f3 | f3
                   · first
                     | omega
                     | (have d1 := dm_spec t c ⟨by omega, by omega⟩
                        have d2 := dm_spec u c ⟨by omega, by omega⟩
                        have d3 := Int.tmod_nonneg c (show 0 ≤ t by omega)
                        have d4 := Int.tmod_nonneg c (show 0 ≤ u by omega)
                        have w3 := wr_i64 (t.tdiv c)
                        have w4 := wr_i64 (u.tdiv c)
                        have hq : t / c = u / c := by omega
                        have hb : byF (byL (Sy.rows KT)) w c t = byF (byL (Sy.rows KT)) w c u := by unfold byF; rw [hq]
                        have w5 := wr_i64 (avF (byL (Sy.rows KT)) w c u - avF (byL (Sy.rows KT)) w c t)
                        have w6 := wr_i64 (u - t)
                        omega)
                   · omega
                 · omega
               · omega)
           ·
            refine ⟨fun h10 => ?_, fun h10 => ?_⟩
            ·
             first
             | exact True.intro
             | rfl
             | (exfalso
                have w1 := wr_i64 (t - avF (byL (Sy.rows KT)) w c t)
                have w2 := wr_i64 (u - avF (byL (Sy.rows KT)) w c u)
                rcases f1 with f1 | f1
                · rcases f2 with f2 | f2
                  · rcases f3 with f3 | f3
                    · first
                      | omega
                      | (have d1 := dm_spec t c ⟨by omega, by omega⟩
                         have d2 := dm_spec u c ⟨by omega, by omega⟩
                         have d3 := Int.tmod_nonneg c (show 0 ≤ t by omega)
                         have d4 := Int.tmod_nonneg c (show 0 ≤ u by omega)
                         have w3 := wr_i64 (t.tdiv c)
                         have w4 := wr_i64 (u.tdiv c)
                         have hq : t / c = u / c := by omega
                         have hb : byF (byL (Sy.rows KT)) w c t = byF (byL (Sy.rows KT)) w c u := by unfold byF; rw [hq]
                         have w5 := wr_i64 (avF (byL (Sy.rows KT)) w c u - avF (byL (Sy.rows KT)) w c t)
                         have w6 := wr_i64 (u - t)
                         omega)
                    · omega
                  · omega
                · omega)
            ·
             refine ⟨fun h11 => ?_, fun h11 => ?_⟩
             ·
              first
              | exact True.intro
              | rfl
              | (exfalso
                 have w1 := wr_i64 (t - avF (byL (Sy.rows KT)) w c t)
                 have w2 := wr_i64 (u - avF (byL (Sy.rows KT)) w c u)
                 rcases f1 with f1 | f1
                 · rcases f2 with f2 | f2
                   · rcases f3 with f3 | f3
                     · first
                       | omega
                       | (have d1 := dm_spec t c ⟨by omega, by omega⟩
                          have d2 := dm_spec u c ⟨by omega, by omega⟩
                          have d3 := Int.tmod_nonneg c (show 0 ≤ t by omega)
                          have d4 := Int.tmod_nonneg c (show 0 ≤ u by omega)
                          have w3 := wr_i64 (t.tdiv c)
                          have w4 := wr_i64 (u.tdiv c)
                          have hq : t / c = u / c := by omega
                          have hb : byF (byL (Sy.rows KT)) w c t = byF (byL (Sy.rows KT)) w c u := by unfold byF; rw [hq]
                          have w5 := wr_i64 (avF (byL (Sy.rows KT)) w c u - avF (byL (Sy.rows KT)) w c t)
                          have w6 := wr_i64 (u - t)
                          omega)
                     · omega
                   · omega
                 · omega)
             ·
              refine ⟨fun h12 => ?_, fun h12 => ?_⟩
              ·
               first
               | exact True.intro
               | rfl
               | (exfalso
                  have w1 := wr_i64 (t - avF (byL (Sy.rows KT)) w c t)
                  have w2 := wr_i64 (u - avF (byL (Sy.rows KT)) w c u)
                  rcases f1 with f1 | f1
                  · rcases f2 with f2 | f2
                    · rcases f3 with f3 | f3
                      · first
                        | omega
                        | (have d1 := dm_spec t c ⟨by omega, by omega⟩
                           have d2 := dm_spec u c ⟨by omega, by omega⟩
                           have d3 := Int.tmod_nonneg c (show 0 ≤ t by omega)
                           have d4 := Int.tmod_nonneg c (show 0 ≤ u by omega)
                           have w3 := wr_i64 (t.tdiv c)
                           have w4 := wr_i64 (u.tdiv c)
                           have hq : t / c = u / c := by omega
                           have hb : byF (byL (Sy.rows KT)) w c t = byF (byL (Sy.rows KT)) w c u := by unfold byF; rw [hq]
                           have w5 := wr_i64 (avF (byL (Sy.rows KT)) w c u - avF (byL (Sy.rows KT)) w c t)
                           have w6 := wr_i64 (u - t)
                           omega)
                      · omega
                    · omega
                  · omega)
              ·
               refine ⟨fun h13 => ?_, fun h13 => ?_⟩
               ·
                first
                | exact True.intro
                | rfl
                | (exfalso
                   have w1 := wr_i64 (t - avF (byL (Sy.rows KT)) w c t)
                   have w2 := wr_i64 (u - avF (byL (Sy.rows KT)) w c u)
                   rcases f1 with f1 | f1
                   · rcases f2 with f2 | f2
                     · rcases f3 with f3 | f3
                       · first
                         | omega
                         | (have d1 := dm_spec t c ⟨by omega, by omega⟩
                            have d2 := dm_spec u c ⟨by omega, by omega⟩
                            have d3 := Int.tmod_nonneg c (show 0 ≤ t by omega)
                            have d4 := Int.tmod_nonneg c (show 0 ≤ u by omega)
                            have w3 := wr_i64 (t.tdiv c)
                            have w4 := wr_i64 (u.tdiv c)
                            have hq : t / c = u / c := by omega
                            have hb : byF (byL (Sy.rows KT)) w c t = byF (byL (Sy.rows KT)) w c u := by unfold byF; rw [hq]
                            have w5 := wr_i64 (avF (byL (Sy.rows KT)) w c u - avF (byL (Sy.rows KT)) w c t)
                            have w6 := wr_i64 (u - t)
                            omega)
                       · omega
                     · omega
                   · omega)
               ·
                refine ⟨fun h14 => ?_, fun h14 => ?_⟩
                ·
                 first
                 | exact True.intro
                 | rfl
                 | (exfalso
                    have w1 := wr_i64 (t - avF (byL (Sy.rows KT)) w c t)
                    have w2 := wr_i64 (u - avF (byL (Sy.rows KT)) w c u)
                    rcases f1 with f1 | f1
                    · rcases f2 with f2 | f2
                      · rcases f3 with f3 | f3
                        · first
                          | omega
                          | (have d1 := dm_spec t c ⟨by omega, by omega⟩
                             have d2 := dm_spec u c ⟨by omega, by omega⟩
                             have d3 := Int.tmod_nonneg c (show 0 ≤ t by omega)
                             have d4 := Int.tmod_nonneg c (show 0 ≤ u by omega)
                             have w3 := wr_i64 (t.tdiv c)
                             have w4 := wr_i64 (u.tdiv c)
                             have hq : t / c = u / c := by omega
                             have hb : byF (byL (Sy.rows KT)) w c t = byF (byL (Sy.rows KT)) w c u := by unfold byF; rw [hq]
                             have w5 := wr_i64 (avF (byL (Sy.rows KT)) w c u - avF (byL (Sy.rows KT)) w c t)
                             have w6 := wr_i64 (u - t)
                             omega)
                        · omega
                      · omega
                    · omega)
                ·
                 refine ⟨fun h15 => ?_, fun h15 => ?_⟩
                 ·
                  first
                  | exact True.intro
                  | rfl
                  | (exfalso
                     have w1 := wr_i64 (t - avF (byL (Sy.rows KT)) w c t)
                     have w2 := wr_i64 (u - avF (byL (Sy.rows KT)) w c u)
                     rcases f1 with f1 | f1
                     · rcases f2 with f2 | f2
                       · rcases f3 with f3 | f3
                         · first
                           | omega
                           | (have d1 := dm_spec t c ⟨by omega, by omega⟩
                              have d2 := dm_spec u c ⟨by omega, by omega⟩
                              have d3 := Int.tmod_nonneg c (show 0 ≤ t by omega)
                              have d4 := Int.tmod_nonneg c (show 0 ≤ u by omega)
                              have w3 := wr_i64 (t.tdiv c)
                              have w4 := wr_i64 (u.tdiv c)
                              have hq : t / c = u / c := by omega
                              have hb : byF (byL (Sy.rows KT)) w c t = byF (byL (Sy.rows KT)) w c u := by unfold byF; rw [hq]
                              have w5 := wr_i64 (avF (byL (Sy.rows KT)) w c u - avF (byL (Sy.rows KT)) w c t)
                              have w6 := wr_i64 (u - t)
                              omega)
                         · omega
                       · omega
                     · omega)
                 ·
                  refine ⟨?_, fun h16 => ?_⟩
                  ·
                   first
                   | exact True.intro
                   | exact hc.1
                   | exact hc.1.1
                   | exact ⟨hc.1.1, hc.2, hc.1.2.2⟩
                   | omega
                  ·
                   refine ⟨?_, fun h17 => ?_⟩
                   ·
                    first
                    | exact True.intro
                    | exact hc.1
                    | exact hc.1.1
                    | exact ⟨hc.1.1, hc.2, hc.1.2.2⟩
                    | omega
                   ·
                    refine ⟨fun h18 => ?_, fun h18 => ?_⟩
                    ·
                     refine ⟨fun h19 => ?_, fun h19 => ?_⟩
                     ·
                      refine ⟨fun h20 => ?_, fun h20 => ?_⟩
                      ·
                       refine ⟨fun h21 => ?_, fun h21 => ?_⟩
                       ·
                        first
                        | exact True.intro
                        | rfl
                        | (exfalso
                           have w1 := wr_i64 (t - avF (byL (Sy.rows KT)) w c t)
                           have w2 := wr_i64 (u - avF (byL (Sy.rows KT)) w c u)
                           rcases f1 with f1 | f1
                           · rcases f2 with f2 | f2
                             · rcases f3 with f3 | f3
                               · first
                                 | omega
                                 | (have d1 := dm_spec t c ⟨by omega, by omega⟩
                                    have d2 := dm_spec u c ⟨by omega, by omega⟩
                                    have d3 := Int.tmod_nonneg c (show 0 ≤ t by omega)
                                    have d4 := Int.tmod_nonneg c (show 0 ≤ u by omega)
                                    have w3 := wr_i64 (t.tdiv c)
                                    have w4 := wr_i64 (u.tdiv c)
                                    have hq : t / c = u / c := by omega
                                    have hb : byF (byL (Sy.rows KT)) w c t = byF (byL (Sy.rows KT)) w c u := by unfold byF; rw [hq]
                                    have w5 := wr_i64 (avF (byL (Sy.rows KT)) w c u - avF (byL (Sy.rows KT)) w c t)
                                    have w6 := wr_i64 (u - t)
                                    omega)
                               · omega
                             · omega
                           · omega)
                       ·
                        first
                        | exact True.intro
                        | rfl
                        | (exfalso
                           have w1 := wr_i64 (t - avF (byL (Sy.rows KT)) w c t)
                           have w2 := wr_i64 (u - avF (byL (Sy.rows KT)) w c u)
                           rcases f1 with f1 | f1
                           · rcases f2 with f2 | f2
                             · rcases f3 with f3 | f3
                               · first
                                 | omega
                                 | (have d1 := dm_spec t c ⟨by omega, by omega⟩
                                    have d2 := dm_spec u c ⟨by omega, by omega⟩
                                    have d3 := Int.tmod_nonneg c (show 0 ≤ t by omega)
                                    have d4 := Int.tmod_nonneg c (show 0 ≤ u by omega)
                                    have w3 := wr_i64 (t.tdiv c)
                                    have w4 := wr_i64 (u.tdiv c)
                                    have hq : t / c = u / c := by omega
                                    have hb : byF (byL (Sy.rows KT)) w c t = byF (byL (Sy.rows KT)) w c u := by unfold byF; rw [hq]
                                    have w5 := wr_i64 (avF (byL (Sy.rows KT)) w c u - avF (byL (Sy.rows KT)) w c t)
                                    have w6 := wr_i64 (u - t)
                                    omega)
                               · omega
                             · omega
                           · omega)
                      ·
                       first
                       | exact True.intro
                       | rfl
                       | (exfalso
                          have w1 := wr_i64 (t - avF (byL (Sy.rows KT)) w c t)
                          have w2 := wr_i64 (u - avF (byL (Sy.rows KT)) w c u)
                          rcases f1 with f1 | f1
                          · rcases f2 with f2 | f2
                            · rcases f3 with f3 | f3
                              · first
                                | omega
                                | (have d1 := dm_spec t c ⟨by omega, by omega⟩
                                   have d2 := dm_spec u c ⟨by omega, by omega⟩
                                   have d3 := Int.tmod_nonneg c (show 0 ≤ t by omega)
                                   have d4 := Int.tmod_nonneg c (show 0 ≤ u by omega)
                                   have w3 := wr_i64 (t.tdiv c)
                                   have w4 := wr_i64 (u.tdiv c)
                                   have hq : t / c = u / c := by omega
                                   have hb : byF (byL (Sy.rows KT)) w c t = byF (byL (Sy.rows KT)) w c u := by unfold byF; rw [hq]
                                   have w5 := wr_i64 (avF (byL (Sy.rows KT)) w c u - avF (byL (Sy.rows KT)) w c t)
                                   have w6 := wr_i64 (u - t)
                                   omega)
                              · omega
                            · omega
                          · omega)
                     ·
                      first
                      | exact True.intro
                      | rfl
                      | (exfalso
                         have w1 := wr_i64 (t - avF (byL (Sy.rows KT)) w c t)
                         have w2 := wr_i64 (u - avF (byL (Sy.rows KT)) w c u)
                         rcases f1 with f1 | f1
                         · rcases f2 with f2 | f2
                           · rcases f3 with f3 | f3
                             · first
                               | omega
                               | (have d1 := dm_spec t c ⟨by omega, by omega⟩
                                  have d2 := dm_spec u c ⟨by omega, by omega⟩
                                  have d3 := Int.tmod_nonneg c (show 0 ≤ t by omega)
                                  have d4 := Int.tmod_nonneg c (show 0 ≤ u by omega)
                                  have w3 := wr_i64 (t.tdiv c)
                                  have w4 := wr_i64 (u.tdiv c)
                                  have hq : t / c = u / c := by omega
                                  have hb : byF (byL (Sy.rows KT)) w c t = byF (byL (Sy.rows KT)) w c u := by unfold byF; rw [hq]
                                  have w5 := wr_i64 (avF (byL (Sy.rows KT)) w c u - avF (byL (Sy.rows KT)) w c t)
                                  have w6 := wr_i64 (u - t)
                                  omega)
                             · omega
                           · omega
                         · omega)
                    ·
                     first
                     | exact True.intro
                     | rfl
                     | (exfalso
                        have w1 := wr_i64 (t - avF (byL (Sy.rows KT)) w c t)
                        have w2 := wr_i64 (u - avF (byL (Sy.rows KT)) w c u)
                        rcases f1 with f1 | f1
                        · rcases f2 with f2 | f2
                          · rcases f3 with f3 | f3
                            · first
                              | omega
                              | (have d1 := dm_spec t c ⟨by omega, by omega⟩
                                 have d2 := dm_spec u c ⟨by omega, by omega⟩
                                 have d3 := Int.tmod_nonneg c (show 0 ≤ t by omega)
                                 have d4 := Int.tmod_nonneg c (show 0 ≤ u by omega)
                                 have w3 := wr_i64 (t.tdiv c)
                                 have w4 := wr_i64 (u.tdiv c)
                                 have hq : t / c = u / c := by omega
                                 have hb : byF (byL (Sy.rows KT)) w c t = byF (byL (Sy.rows KT)) w c u := by unfold byF; rw [hq]
                                 have w5 := wr_i64 (avF (byL (Sy.rows KT)) w c u - avF (byL (Sy.rows KT)) w c t)
                                 have w6 := wr_i64 (u - t)
                                 omega)
                            · omega
                          · omega
                        · omega)
theorem zfg_wHolds : zfc_wHolds.Good Tryd.prog syG (zfE [] [] [] []) := good_of_walk (Γ := ⟨[zfc_sure25, zfc_fcheck, zfc_fbyp, zfc_fatp, zfc_num], syG, [], [], []⟩) (ρ := zfE [] [] [] []) sym wHolds_w rfl (fun _ _ _ _ => (ok_cons (Con.Good.env zfg_sure25 _ _ _ _) (ok_cons (Con.Good.env zfg_fcheck _ _ _ _) (ok_cons (Con.Good.env zfg_fbyp _ _ _ _) (ok_cons (Con.Good.env zfg_fatp _ _ _ _) (ok_cons (Con.Good.env zfg_num _ _ _ _) ok_nil)))))) (fun w c k0 k1 k2 k3 k4 k5 k6 k7 k8 k9 k10 k11 k12 k13 k14 k15 t u hc hty => wHolds_h w c k0 k1 k2 k3 k4 k5 k6 k7 k8 k9 k10 k11 k12 k13 k14 k15 t u hc hty)
end Go.Proofs.YtbgmbbkmadkhgaaDoor
