/-
  Layer 22 by the second engine: when, the law.
-/
import Derived.Test.YtjhjgfnodhbacaaDoorSychc
import Derived.Test.YtjhjgfnodhbacaaDoorYbhc
import Derived.Test.YtjhjgfnodhbacaaDoorE00hc
namespace Go.Proofs.YtjhjgfnodhbacaaDoor
open Go.RowKit Go.Extern.Stop Go.Stop Go.Extern Go.Proofs.YtjhjgfnodhbacaaDoor.Sy
set_option linter.unusedVariables false
set_option linter.unusedSimpArgs false
theorem wh_nn (t a s T c : Int) : 0 ≤ whI t a s T c := by
  unfold whI
  by_cases h : ∃ i, whP t a s T c i
  · rw [dif_pos h]
    exact (Classical.choose_spec h).1
  · rw [dif_neg h]
    exact Int.le_refl _
theorem qE_cg (a s x y : Int) : x ≠ y ∨ qE a s x = qE a s y := by
  by_cases h : x = y
  · exact .inr (by rw [h])
  · exact .inl h
theorem mid_eq {x y : Int} (h0 : 0 ≤ x) (h1 : x ≤ y) (h2 : y ≤ 2251799813685248) : IntKind.wrap .i64 ((IntKind.wrap .u64 (IntKind.wrap .i64 (x + y))).fdiv (2 ^ Min.min (Int.toNat 1) (IntKind.bits .u64))) = (x + y) / 2 := by
  rw [show IntKind.wrap .i64 (x + y) = x + y by (have := wr_i64 (x + y); omega), show IntKind.wrap .u64 (x + y) = x + y by (have := wr_u64 (x + y); omega), show (2 : Int) ^ Min.min (Int.toNat 1) (IntKind.bits .u64) = 2 from rfl, Int.fdiv_eq_ediv_of_nonneg _ (by decide)]
  have := wr_i64 ((x + y) / 2)
  omega
noncomputable def ycI : Nat → List Value → Int
  | i, l => ybI i l
noncomputable def ycB : Nat → List Value → Bool
  | i, l => ybB i l
noncomputable def ycV : Nat → List Value → Value
  | i, l => ybV i l
noncomputable abbrev ycE (iv : List Int) (bv : List Bool) (vv : List Value) (sv : List ByteArray) : Env := { iv := iv, bv := bv, vv := vv, sv := sv, fi := ycI, fb := ycB, fv := ycV, et := 229 }
set_option maxHeartbeats 8000000 in
theorem ycup : Agree 26 3 0 (ybE [] [] [] []) (ycE [] [] [] []) := ⟨rfl, (by
    intro f hf
    funext l
    show ycI f l = ybI f l
    unfold ycI
    split <;> first | rfl | omega), (by
    intro f hf
    funext l
    show ycB f l = ybB f l
    unfold ycB
    split <;> first | rfl | omega), (by
    intro f hf
    funext l
    show ycV f l = ybV f l
    unfold ycV
    split <;> first | rfl | omega)⟩
theorem yci_q (k1 : IntKind) (a : Int) (k2 : IntKind) (s : Int) (k3 : IntKind) (g : Int) : ycI 12 [.int k1 a, .int k2 s, .int k3 g] = qE a s g := rfl
theorem yci_pge (k1 : IntKind) (e : Int) (k2 : IntKind) (b : Int) (k3 : IntKind) (t : Int) (k4 : IntKind) (r : Int) (k5 : IntKind) (gm : Int) (k6 : IntKind) (gs : Int) (k7 : IntKind) (pm : Int) (k8 : IntKind) (ps : Int) (k9 : IntKind) (p : Int) (k10 : IntKind) (c : Int) : ycI 14 [.int k1 e, .int k2 b, .int k3 t, .int k4 r, .int k5 gm, .int k6 gs, .int k7 pm, .int k8 ps, .int k9 p, .int k10 c] = pgE e b t r gm gs pm ps p c := rfl
theorem yci_atv (k1 : IntKind) (t : Int) (k2 : IntKind) (a : Int) (k3 : IntKind) (s : Int) (k4 : IntKind) (g : Int) : ycI 16 [.int k1 t, .int k2 a, .int k3 s, .int k4 g] = atV t a s g := rfl
theorem yci_ate (k1 : IntKind) (t : Int) (k2 : IntKind) (a : Int) (k3 : IntKind) (s : Int) (k4 : IntKind) (g : Int) : ycI 17 [.int k1 t, .int k2 a, .int k3 s, .int k4 g] = atE t a s g := rfl
theorem yci_wh (k1 : IntKind) (t : Int) (k2 : IntKind) (a : Int) (k3 : IntKind) (s : Int) (k4 : IntKind) (T : Int) (k5 : IntKind) (c : Int) : ycI 23 [.int k1 t, .int k2 a, .int k3 s, .int k4 T, .int k5 c] = whI t a s T c := rfl
theorem yci_whe (k1 : IntKind) (e : Int) (k2 : IntKind) (b : Int) (k3 : IntKind) (t : Int) (k4 : IntKind) (r : Int) (k5 : IntKind) (gm : Int) (k6 : IntKind) (gs : Int) (k7 : IntKind) (pm : Int) (k8 : IntKind) (ps : Int) (k9 : IntKind) (p : Int) (k10 : IntKind) (c : Int) (k11 : IntKind) (T : Int) : ycI 24 [.int k1 e, .int k2 b, .int k3 t, .int k4 r, .int k5 gm, .int k6 gs, .int k7 pm, .int k8 ps, .int k9 p, .int k10 c, .int k11 T] = whE e b t r gm gs pm ps p c T := rfl
theorem yci_whv (k1 : IntKind) (e : Int) (k2 : IntKind) (b : Int) (k3 : IntKind) (t : Int) (k4 : IntKind) (r : Int) (k5 : IntKind) (gm : Int) (k6 : IntKind) (gs : Int) (k7 : IntKind) (pm : Int) (k8 : IntKind) (ps : Int) (k9 : IntKind) (p : Int) (k10 : IntKind) (c : Int) (k11 : IntKind) (T : Int) : ycI 25 [.int k1 e, .int k2 b, .int k3 t, .int k4 r, .int k5 gm, .int k6 gs, .int k7 pm, .int k8 ps, .int k9 p, .int k10 c, .int k11 T] = whV e b t r gm gs pm ps p c T := rfl
theorem ycb_pm (k1 : IntKind) (e : Int) (k2 : IntKind) (b : Int) (k3 : IntKind) (t : Int) (k4 : IntKind) (r : Int) (k5 : IntKind) (gm : Int) (k6 : IntKind) (gs : Int) (k7 : IntKind) (pm : Int) (k8 : IntKind) (ps : Int) (k9 : IntKind) (p : Int) (k10 : IntKind) (c : Int) : ycB 1 [.int k1 e, .int k2 b, .int k3 t, .int k4 r, .int k5 gm, .int k6 gs, .int k7 pm, .int k8 ps, .int k9 p, .int k10 c] = decide (pgP e b t r gm gs pm ps p c) := rfl
def wcl_tree : Tree :=
 (.need (.b2 .and (.b2 .and (.b2 .and (.b2 .le (.lit (-9223372036854775808)) (.var 1)) (.b2 .le (.var 1) (.lit (9223372036854775807)))) (.b2 .and (.b2 .and (.b2 .le (.lit (-9223372036854775808)) (.var 2)) (.b2 .le (.var 2) (.lit (9223372036854775807)))) (.b2 .and (.b2 .and (.b2 .le (.lit (-9223372036854775808)) (.var 3)) (.b2 .le (.var 3) (.lit (9223372036854775807)))) (.b2 .and (.b2 .and (.b2 .le (.lit (-9223372036854775808)) (.var 4)) (.b2 .le (.var 4) (.lit (9223372036854775807)))) (.b2 .and (.b2 .and (.b2 .le (.lit (0)) (.var 5)) (.b2 .le (.var 5) (.lit (4294967295)))) (.b2 .and (.b2 .and (.b2 .le (.lit (-9223372036854775808)) (.var 6)) (.b2 .le (.var 6) (.lit (9223372036854775807)))) (.b2 .and (.b2 .and (.b2 .le (.lit (0)) (.var 7)) (.b2 .le (.var 7) (.lit (4294967295)))) (.b2 .and (.b2 .and (.b2 .le (.lit (-9223372036854775808)) (.var 8)) (.b2 .le (.var 8) (.lit (9223372036854775807)))) (.b2 .and (.b2 .and (.b2 .le (.lit (-9223372036854775808)) (.var 9)) (.b2 .le (.var 9) (.lit (9223372036854775807)))) (.b2 .and (.b2 .le (.lit (-9223372036854775808)) (.var 10)) (.b2 .le (.var 10) (.lit (9223372036854775807))))))))))))) (.b2 .and (.bapp 1 (.cons (.int .i64 (.var 1)) (.cons (.int .i64 (.var 2)) (.cons (.int .i64 (.var 3)) (.cons (.int .i64 (.var 4)) (.cons (.int .u32 (.var 5)) (.cons (.int .i64 (.var 6)) (.cons (.int .u32 (.var 7)) (.cons (.int .i64 (.var 8)) (.cons (.int .i64 (.var 9)) (.cons (.int .i64 (.var 10)) .nil))))))))))) (.b2 .and (.b2 .le (.lit (0)) (.var 0)) (.b2 .le (.var 0) (.lit (1125899906842624))))))
 (.br (.not (.b2 .eq (.iapp 17 (.cons (.int .i64 (.var 3)) (.cons (.int .u32 (.var 5)) (.cons (.int .i64 (.var 6)) (.cons (.int .i64 (.var 0)) .nil))))) (.lit (0))))
 (.ret (.bool (.tt true)))
 (.ret (.bool (.b2 .le (.var 11) (.iapp 16 (.cons (.int .i64 (.var 3)) (.cons (.int .u32 (.var 5)) (.cons (.int .i64 (.var 6)) (.cons (.int .i64 (.var 0)) .nil))))))))))
abbrev ycc_wcl : Con := ⟨162, [(.int .i64 (.var 0)), (.ep (.cons (.int .i64) (.cons (.int .i64) (.cons (.int .i64) (.cons (.int .i64) (.cons (.int .u32) (.cons (.int .i64) (.cons (.int .u32) (.cons (.int .i64) (.cons (.int .i64) (.cons (.int .i64) .nil)))))))))) (.tup (.cons (.int .i64 (.var 1)) (.cons (.int .i64 (.var 2)) (.cons (.int .i64 (.var 3)) (.cons (.int .i64 (.var 4)) (.cons (.int .u32 (.var 5)) (.cons (.int .i64 (.var 6)) (.cons (.int .u32 (.var 7)) (.cons (.int .i64 (.var 8)) (.cons (.int .i64 (.var 9)) (.cons (.int .i64 (.var 10)) .nil))))))))))) (.lit 0) 0), (.ep (.cons (.int .i64) .nil) (.tup (.cons (.int .i64 (.var 11)) .nil)) (.lit 0) 0)], (.b2 .and (.b2 .and (.b2 .and (.b2 .le (.lit (-9223372036854775808)) (.var 1)) (.b2 .le (.var 1) (.lit (9223372036854775807)))) (.b2 .and (.b2 .and (.b2 .le (.lit (-9223372036854775808)) (.var 2)) (.b2 .le (.var 2) (.lit (9223372036854775807)))) (.b2 .and (.b2 .and (.b2 .le (.lit (-9223372036854775808)) (.var 3)) (.b2 .le (.var 3) (.lit (9223372036854775807)))) (.b2 .and (.b2 .and (.b2 .le (.lit (-9223372036854775808)) (.var 4)) (.b2 .le (.var 4) (.lit (9223372036854775807)))) (.b2 .and (.b2 .and (.b2 .le (.lit (0)) (.var 5)) (.b2 .le (.var 5) (.lit (4294967295)))) (.b2 .and (.b2 .and (.b2 .le (.lit (-9223372036854775808)) (.var 6)) (.b2 .le (.var 6) (.lit (9223372036854775807)))) (.b2 .and (.b2 .and (.b2 .le (.lit (0)) (.var 7)) (.b2 .le (.var 7) (.lit (4294967295)))) (.b2 .and (.b2 .and (.b2 .le (.lit (-9223372036854775808)) (.var 8)) (.b2 .le (.var 8) (.lit (9223372036854775807)))) (.b2 .and (.b2 .and (.b2 .le (.lit (-9223372036854775808)) (.var 9)) (.b2 .le (.var 9) (.lit (9223372036854775807)))) (.b2 .and (.b2 .le (.lit (-9223372036854775808)) (.var 10)) (.b2 .le (.var 10) (.lit (9223372036854775807))))))))))))) (.b2 .and (.bapp 1 (.cons (.int .i64 (.var 1)) (.cons (.int .i64 (.var 2)) (.cons (.int .i64 (.var 3)) (.cons (.int .i64 (.var 4)) (.cons (.int .u32 (.var 5)) (.cons (.int .i64 (.var 6)) (.cons (.int .u32 (.var 7)) (.cons (.int .i64 (.var 8)) (.cons (.int .i64 (.var 9)) (.cons (.int .i64 (.var 10)) .nil))))))))))) (.b2 .and (.b2 .and (.b2 .le (.lit (-9223372036854775808)) (.var 11)) (.b2 .le (.var 11) (.lit (9223372036854775807)))) (.b2 .and (.b2 .le (.lit (0)) (.var 0)) (.b2 .le (.var 0) (.lit (1125899906842624))))))), (.bool (.b2 .or (.b2 .le (.lit (4611686018427387904)) (.i2 .add (.var 3) (.iapp 12 (.cons (.int .u32 (.var 5)) (.cons (.int .i64 (.var 6)) (.cons (.int .i64 (.var 0)) .nil)))))) (.b2 .le (.var 11) (.i2 .add (.var 3) (.iapp 12 (.cons (.int .u32 (.var 5)) (.cons (.int .i64 (.var 6)) (.cons (.int .i64 (.var 0)) .nil)))))))), ⟨12, 0, 0, 0⟩, none⟩
theorem wcl_w : walk Tryd.prog 229 ⟨[ybc_at], syG, [127, 2], [], []⟩ [] .v ycc_wcl ycc_wcl.n 3000 = some wcl_tree := by kernel_rfl
theorem wcl_h (g : Int) (pe : Int) (pb : Int) (pt : Int) (pr : Int) (gm : Int) (gs : Int) (qm : Int) (qs : Int) (pp : Int) (pc : Int) (t : Int) (hc : holds (ycE [g, pe, pb, pt, pr, gm, gs, qm, qs, pp, pc, t] [] [] []) (.b2 .and (.b2 .and (.b2 .and (.b2 .le (.lit (-9223372036854775808)) (.var 1)) (.b2 .le (.var 1) (.lit (9223372036854775807)))) (.b2 .and (.b2 .and (.b2 .le (.lit (-9223372036854775808)) (.var 2)) (.b2 .le (.var 2) (.lit (9223372036854775807)))) (.b2 .and (.b2 .and (.b2 .le (.lit (-9223372036854775808)) (.var 3)) (.b2 .le (.var 3) (.lit (9223372036854775807)))) (.b2 .and (.b2 .and (.b2 .le (.lit (-9223372036854775808)) (.var 4)) (.b2 .le (.var 4) (.lit (9223372036854775807)))) (.b2 .and (.b2 .and (.b2 .le (.lit (0)) (.var 5)) (.b2 .le (.var 5) (.lit (4294967295)))) (.b2 .and (.b2 .and (.b2 .le (.lit (-9223372036854775808)) (.var 6)) (.b2 .le (.var 6) (.lit (9223372036854775807)))) (.b2 .and (.b2 .and (.b2 .le (.lit (0)) (.var 7)) (.b2 .le (.var 7) (.lit (4294967295)))) (.b2 .and (.b2 .and (.b2 .le (.lit (-9223372036854775808)) (.var 8)) (.b2 .le (.var 8) (.lit (9223372036854775807)))) (.b2 .and (.b2 .and (.b2 .le (.lit (-9223372036854775808)) (.var 9)) (.b2 .le (.var 9) (.lit (9223372036854775807)))) (.b2 .and (.b2 .le (.lit (-9223372036854775808)) (.var 10)) (.b2 .le (.var 10) (.lit (9223372036854775807))))))))))))) (.b2 .and (.bapp 1 (.cons (.int .i64 (.var 1)) (.cons (.int .i64 (.var 2)) (.cons (.int .i64 (.var 3)) (.cons (.int .i64 (.var 4)) (.cons (.int .u32 (.var 5)) (.cons (.int .i64 (.var 6)) (.cons (.int .u32 (.var 7)) (.cons (.int .i64 (.var 8)) (.cons (.int .i64 (.var 9)) (.cons (.int .i64 (.var 10)) .nil))))))))))) (.b2 .and (.b2 .and (.b2 .le (.lit (-9223372036854775808)) (.var 11)) (.b2 .le (.var 11) (.lit (9223372036854775807)))) (.b2 .and (.b2 .le (.lit (0)) (.var 0)) (.b2 .le (.var 0) (.lit (1125899906842624)))))))) (hty : patsTyp (ycE [g, pe, pb, pt, pr, gm, gs, qm, qs, pp, pc, t] [] [] []) [(.int .i64 (.var 0)), (.ep (.cons (.int .i64) (.cons (.int .i64) (.cons (.int .i64) (.cons (.int .i64) (.cons (.int .u32) (.cons (.int .i64) (.cons (.int .u32) (.cons (.int .i64) (.cons (.int .i64) (.cons (.int .i64) .nil)))))))))) (.tup (.cons (.int .i64 (.var 1)) (.cons (.int .i64 (.var 2)) (.cons (.int .i64 (.var 3)) (.cons (.int .i64 (.var 4)) (.cons (.int .u32 (.var 5)) (.cons (.int .i64 (.var 6)) (.cons (.int .u32 (.var 7)) (.cons (.int .i64 (.var 8)) (.cons (.int .i64 (.var 9)) (.cons (.int .i64 (.var 10)) .nil))))))))))) (.lit 0) 0), (.ep (.cons (.int .i64) .nil) (.tup (.cons (.int .i64 (.var 11)) .nil)) (.lit 0) 0)]) : wcl_tree.holds (fun v_ => v_ = denV (ycE [g, pe, pb, pt, pr, gm, gs, qm, qs, pp, pc, t] [] [] []) b0 (.bool (.b2 .or (.b2 .le (.lit (4611686018427387904)) (.i2 .add (.var 3) (.iapp 12 (.cons (.int .u32 (.var 5)) (.cons (.int .i64 (.var 6)) (.cons (.int .i64 (.var 0)) .nil)))))) (.b2 .le (.var 11) (.i2 .add (.var 3) (.iapp 12 (.cons (.int .u32 (.var 5)) (.cons (.int .i64 (.var 6)) (.cons (.int .i64 (.var 0)) .nil))))))))) (ycE [g, pe, pb, pt, pr, gm, gs, qm, qs, pp, pc, t] [] [] []) := by
  simp only [Tree.holds, Sy.holds, AllN, Env.more, ycE, List.cons_append, List.nil_append, List.append_nil, denV, denI, denB, denL, I2.den, VOp.den, List.getD_cons_zero, List.getD_cons_succ, Cst.den, syso, syse, syio, sybo, ycb_pm, List.map_nil, List.map_cons, B2.ofInts, B2.denI, B2.denB, if_true, Bool.false_eq_true, if_false, Nat.div_one, Nat.mul_one, Nat.add_zero, holds] at hc
  simp only [patsTyp, patTyp, patTypL, ycE, denV, denL, List.getD_cons_zero, List.getD_cons_succ, and_true, true_and] at hty
  unfold wcl_tree
  simp only [Tree.holds, Sy.holds, AllN, Env.more, ycE, List.cons_append, List.nil_append, List.append_nil, denV, denI, denB, denL, I2.den, VOp.den, List.getD_cons_zero, List.getD_cons_succ, Cst.den, syso, syse, syio, sybo, yci_q, yci_atv, yci_ate, ycb_pm, List.map_nil, List.map_cons, B2.ofInts, B2.denI, B2.denB, if_true, Bool.false_eq_true, if_false, Nat.div_one, Nat.mul_one, Nat.add_zero]
  have hp : pgP pe pb pt pr gm gs qm qs pp pc := of_decide_eq_true hc.2.1
  obtain ⟨a1, a2, a3, a4, a5, a6, a7, a8, f1, f2, a11, a12, a13, a14⟩ := id hp
  have ha := at_spec pt gm gs g
  refine ⟨?_, fun h0 => ?_⟩
  ·
   first
   | omega
   | (simp only [hp, decide_true, true_and]; omega)
  ·
   refine ⟨fun h1 => ?_, fun h1 => ?_⟩
   ·
    refine congrArg Value.bool (Bool.eq_iff_iff.2 ?_)
    simp only [Bool.or_eq_true, decide_eq_true_eq, true_iff]
    omega
   ·
    refine congrArg Value.bool (Bool.eq_iff_iff.2 ?_)
    simp only [Bool.or_eq_true, decide_eq_true_eq, true_iff]
    omega
theorem ycg_wcl : ycc_wcl.Good Tryd.prog syG (ycE [] [] [] []) := good_of_walk (Γ := ⟨[ybc_at], syG, [127, 2], [], []⟩) (ρ := ycE [] [] [] []) sym wcl_w rfl (fun _ _ _ _ => (ok_cons (Con.Good.env (Con.Good.up ybg_at ycup rfl) _ _ _ _) ok_nil)) (fun g pe pb pt pr gm gs qm qs pp pc t hc hty => wcl_h g pe pb pt pr gm gs qm qs pp pc t hc hty)
def search_tree : Tree :=
 (.loop ⟨2, 0, 0, 0⟩ (.b2 .and (.b2 .le (.lit (0)) (.lit (0))) (.b2 .and (.b2 .le (.lit (0)) (.var 0)) (.b2 .and (.b2 .le (.var 0) (.var 0)) (.b2 .and (.b2 .or (.b2 .eq (.lit (0)) (.lit (0))) (.b2 .and (.b2 .lt (.i2 .add (.var 3) (.iapp 12 (.cons (.int .u32 (.var 5)) (.cons (.int .i64 (.var 6)) (.cons (.int .i64 (.lit (-1))) .nil))))) (.lit (4611686018427387904))) (.b2 .lt (.i2 .add (.var 3) (.iapp 12 (.cons (.int .u32 (.var 5)) (.cons (.int .i64 (.var 6)) (.cons (.int .i64 (.lit (-1))) .nil))))) (.var 11)))) (.b2 .or (.b2 .eq (.var 0) (.var 0)) (.b2 .or (.b2 .le (.lit (4611686018427387904)) (.i2 .add (.var 3) (.iapp 12 (.cons (.int .u32 (.var 5)) (.cons (.int .i64 (.var 6)) (.cons (.int .i64 (.var 0)) .nil)))))) (.b2 .le (.var 11) (.i2 .add (.var 3) (.iapp 12 (.cons (.int .u32 (.var 5)) (.cons (.int .i64 (.var 6)) (.cons (.int .i64 (.var 0)) .nil)))))))))))) (.b2 .and (.b2 .le (.lit (0)) (.var 12)) (.b2 .and (.b2 .le (.var 12) (.var 13)) (.b2 .and (.b2 .le (.var 13) (.var 0)) (.b2 .and (.b2 .or (.b2 .eq (.var 12) (.lit (0))) (.b2 .and (.b2 .lt (.i2 .add (.var 3) (.iapp 12 (.cons (.int .u32 (.var 5)) (.cons (.int .i64 (.var 6)) (.cons (.int .i64 (.i2 .sub (.var 12) (.lit (1)))) .nil))))) (.lit (4611686018427387904))) (.b2 .lt (.i2 .add (.var 3) (.iapp 12 (.cons (.int .u32 (.var 5)) (.cons (.int .i64 (.var 6)) (.cons (.int .i64 (.i2 .sub (.var 12) (.lit (1)))) .nil))))) (.var 11)))) (.b2 .or (.b2 .eq (.var 13) (.var 0)) (.b2 .or (.b2 .le (.lit (4611686018427387904)) (.i2 .add (.var 3) (.iapp 12 (.cons (.int .u32 (.var 5)) (.cons (.int .i64 (.var 6)) (.cons (.int .i64 (.var 13)) .nil)))))) (.b2 .le (.var 11) (.i2 .add (.var 3) (.iapp 12 (.cons (.int .u32 (.var 5)) (.cons (.int .i64 (.var 6)) (.cons (.int .i64 (.var 13)) .nil))))))))))))
 (.br (.b2 .lt (.var 12) (.var 13))
 (.need (.b2 .and (.b2 .and (.b2 .and (.b2 .le (.lit (-9223372036854775808)) (.var 1)) (.b2 .le (.var 1) (.lit (9223372036854775807)))) (.b2 .and (.b2 .and (.b2 .le (.lit (-9223372036854775808)) (.var 2)) (.b2 .le (.var 2) (.lit (9223372036854775807)))) (.b2 .and (.b2 .and (.b2 .le (.lit (-9223372036854775808)) (.var 3)) (.b2 .le (.var 3) (.lit (9223372036854775807)))) (.b2 .and (.b2 .and (.b2 .le (.lit (-9223372036854775808)) (.var 4)) (.b2 .le (.var 4) (.lit (9223372036854775807)))) (.b2 .and (.b2 .and (.b2 .le (.lit (0)) (.var 5)) (.b2 .le (.var 5) (.lit (4294967295)))) (.b2 .and (.b2 .and (.b2 .le (.lit (-9223372036854775808)) (.var 6)) (.b2 .le (.var 6) (.lit (9223372036854775807)))) (.b2 .and (.b2 .and (.b2 .le (.lit (0)) (.var 7)) (.b2 .le (.var 7) (.lit (4294967295)))) (.b2 .and (.b2 .and (.b2 .le (.lit (-9223372036854775808)) (.var 8)) (.b2 .le (.var 8) (.lit (9223372036854775807)))) (.b2 .and (.b2 .and (.b2 .le (.lit (-9223372036854775808)) (.var 9)) (.b2 .le (.var 9) (.lit (9223372036854775807)))) (.b2 .and (.b2 .le (.lit (-9223372036854775808)) (.var 10)) (.b2 .le (.var 10) (.lit (9223372036854775807))))))))))))) (.b2 .and (.bapp 1 (.cons (.int .i64 (.var 1)) (.cons (.int .i64 (.var 2)) (.cons (.int .i64 (.var 3)) (.cons (.int .i64 (.var 4)) (.cons (.int .u32 (.var 5)) (.cons (.int .i64 (.var 6)) (.cons (.int .u32 (.var 7)) (.cons (.int .i64 (.var 8)) (.cons (.int .i64 (.var 9)) (.cons (.int .i64 (.var 10)) .nil))))))))))) (.b2 .and (.b2 .and (.b2 .le (.lit (-9223372036854775808)) (.var 11)) (.b2 .le (.var 11) (.lit (9223372036854775807)))) (.b2 .and (.b2 .le (.lit (0)) (.wrap .i64 (.i2 (.shr .u64) (.wrap .u64 (.wrap .i64 (.i2 .add (.var 12) (.var 13)))) (.lit (1))))) (.b2 .le (.wrap .i64 (.i2 (.shr .u64) (.wrap .u64 (.wrap .i64 (.i2 .add (.var 12) (.var 13)))) (.lit (1)))) (.lit (1125899906842624)))))))
 (.br (.not (.b2 .or (.b2 .le (.lit (4611686018427387904)) (.i2 .add (.var 3) (.iapp 12 (.cons (.int .u32 (.var 5)) (.cons (.int .i64 (.var 6)) (.cons (.int .i64 (.wrap .i64 (.i2 (.shr .u64) (.wrap .u64 (.wrap .i64 (.i2 .add (.var 12) (.var 13)))) (.lit (1))))) .nil)))))) (.b2 .le (.var 11) (.i2 .add (.var 3) (.iapp 12 (.cons (.int .u32 (.var 5)) (.cons (.int .i64 (.var 6)) (.cons (.int .i64 (.wrap .i64 (.i2 (.shr .u64) (.wrap .u64 (.wrap .i64 (.i2 .add (.var 12) (.var 13)))) (.lit (1))))) .nil))))))))
 (.back (.b2 .and (.b2 .le (.lit (0)) (.wrap .i64 (.i2 .add (.wrap .i64 (.i2 (.shr .u64) (.wrap .u64 (.wrap .i64 (.i2 .add (.var 12) (.var 13)))) (.lit (1)))) (.lit (1))))) (.b2 .and (.b2 .le (.wrap .i64 (.i2 .add (.wrap .i64 (.i2 (.shr .u64) (.wrap .u64 (.wrap .i64 (.i2 .add (.var 12) (.var 13)))) (.lit (1)))) (.lit (1)))) (.var 13)) (.b2 .and (.b2 .le (.var 13) (.var 0)) (.b2 .and (.b2 .or (.b2 .eq (.wrap .i64 (.i2 .add (.wrap .i64 (.i2 (.shr .u64) (.wrap .u64 (.wrap .i64 (.i2 .add (.var 12) (.var 13)))) (.lit (1)))) (.lit (1)))) (.lit (0))) (.b2 .and (.b2 .lt (.i2 .add (.var 3) (.iapp 12 (.cons (.int .u32 (.var 5)) (.cons (.int .i64 (.var 6)) (.cons (.int .i64 (.i2 .sub (.wrap .i64 (.i2 .add (.wrap .i64 (.i2 (.shr .u64) (.wrap .u64 (.wrap .i64 (.i2 .add (.var 12) (.var 13)))) (.lit (1)))) (.lit (1)))) (.lit (1)))) .nil))))) (.lit (4611686018427387904))) (.b2 .lt (.i2 .add (.var 3) (.iapp 12 (.cons (.int .u32 (.var 5)) (.cons (.int .i64 (.var 6)) (.cons (.int .i64 (.i2 .sub (.wrap .i64 (.i2 .add (.wrap .i64 (.i2 (.shr .u64) (.wrap .u64 (.wrap .i64 (.i2 .add (.var 12) (.var 13)))) (.lit (1)))) (.lit (1)))) (.lit (1)))) .nil))))) (.var 11)))) (.b2 .or (.b2 .eq (.var 13) (.var 0)) (.b2 .or (.b2 .le (.lit (4611686018427387904)) (.i2 .add (.var 3) (.iapp 12 (.cons (.int .u32 (.var 5)) (.cons (.int .i64 (.var 6)) (.cons (.int .i64 (.var 13)) .nil)))))) (.b2 .le (.var 11) (.i2 .add (.var 3) (.iapp 12 (.cons (.int .u32 (.var 5)) (.cons (.int .i64 (.var 6)) (.cons (.int .i64 (.var 13)) .nil)))))))))))) (.i2 .sub (.var 13) (.wrap .i64 (.i2 .add (.wrap .i64 (.i2 (.shr .u64) (.wrap .u64 (.wrap .i64 (.i2 .add (.var 12) (.var 13)))) (.lit (1)))) (.lit (1))))) (.i2 .sub (.var 13) (.var 12)))
 (.back (.b2 .and (.b2 .le (.lit (0)) (.var 12)) (.b2 .and (.b2 .le (.var 12) (.wrap .i64 (.i2 (.shr .u64) (.wrap .u64 (.wrap .i64 (.i2 .add (.var 12) (.var 13)))) (.lit (1))))) (.b2 .and (.b2 .le (.wrap .i64 (.i2 (.shr .u64) (.wrap .u64 (.wrap .i64 (.i2 .add (.var 12) (.var 13)))) (.lit (1)))) (.var 0)) (.b2 .and (.b2 .or (.b2 .eq (.var 12) (.lit (0))) (.b2 .and (.b2 .lt (.i2 .add (.var 3) (.iapp 12 (.cons (.int .u32 (.var 5)) (.cons (.int .i64 (.var 6)) (.cons (.int .i64 (.i2 .sub (.var 12) (.lit (1)))) .nil))))) (.lit (4611686018427387904))) (.b2 .lt (.i2 .add (.var 3) (.iapp 12 (.cons (.int .u32 (.var 5)) (.cons (.int .i64 (.var 6)) (.cons (.int .i64 (.i2 .sub (.var 12) (.lit (1)))) .nil))))) (.var 11)))) (.b2 .or (.b2 .eq (.wrap .i64 (.i2 (.shr .u64) (.wrap .u64 (.wrap .i64 (.i2 .add (.var 12) (.var 13)))) (.lit (1)))) (.var 0)) (.b2 .or (.b2 .le (.lit (4611686018427387904)) (.i2 .add (.var 3) (.iapp 12 (.cons (.int .u32 (.var 5)) (.cons (.int .i64 (.var 6)) (.cons (.int .i64 (.wrap .i64 (.i2 (.shr .u64) (.wrap .u64 (.wrap .i64 (.i2 .add (.var 12) (.var 13)))) (.lit (1))))) .nil)))))) (.b2 .le (.var 11) (.i2 .add (.var 3) (.iapp 12 (.cons (.int .u32 (.var 5)) (.cons (.int .i64 (.var 6)) (.cons (.int .i64 (.wrap .i64 (.i2 (.shr .u64) (.wrap .u64 (.wrap .i64 (.i2 .add (.var 12) (.var 13)))) (.lit (1))))) .nil)))))))))))) (.i2 .sub (.wrap .i64 (.i2 (.shr .u64) (.wrap .u64 (.wrap .i64 (.i2 .add (.var 12) (.var 13)))) (.lit (1)))) (.var 12)) (.i2 .sub (.var 13) (.var 12)))))
 (.ret (.int .i64 (.var 12)))))
abbrev ycc_search : Con := ⟨161, [(.int .i64 (.var 0)), (.clo 162 (.cons (.ep (.cons (.int .i64) (.cons (.int .i64) (.cons (.int .i64) (.cons (.int .i64) (.cons (.int .u32) (.cons (.int .i64) (.cons (.int .u32) (.cons (.int .i64) (.cons (.int .i64) (.cons (.int .i64) .nil)))))))))) (.tup (.cons (.int .i64 (.var 1)) (.cons (.int .i64 (.var 2)) (.cons (.int .i64 (.var 3)) (.cons (.int .i64 (.var 4)) (.cons (.int .u32 (.var 5)) (.cons (.int .i64 (.var 6)) (.cons (.int .u32 (.var 7)) (.cons (.int .i64 (.var 8)) (.cons (.int .i64 (.var 9)) (.cons (.int .i64 (.var 10)) .nil))))))))))) (.lit 0) 0) (.cons (.ep (.cons (.int .i64) .nil) (.tup (.cons (.int .i64 (.var 11)) .nil)) (.lit 0) 0) .nil)))], (.b2 .and (.b2 .and (.b2 .and (.b2 .le (.lit (-9223372036854775808)) (.var 1)) (.b2 .le (.var 1) (.lit (9223372036854775807)))) (.b2 .and (.b2 .and (.b2 .le (.lit (-9223372036854775808)) (.var 2)) (.b2 .le (.var 2) (.lit (9223372036854775807)))) (.b2 .and (.b2 .and (.b2 .le (.lit (-9223372036854775808)) (.var 3)) (.b2 .le (.var 3) (.lit (9223372036854775807)))) (.b2 .and (.b2 .and (.b2 .le (.lit (-9223372036854775808)) (.var 4)) (.b2 .le (.var 4) (.lit (9223372036854775807)))) (.b2 .and (.b2 .and (.b2 .le (.lit (0)) (.var 5)) (.b2 .le (.var 5) (.lit (4294967295)))) (.b2 .and (.b2 .and (.b2 .le (.lit (-9223372036854775808)) (.var 6)) (.b2 .le (.var 6) (.lit (9223372036854775807)))) (.b2 .and (.b2 .and (.b2 .le (.lit (0)) (.var 7)) (.b2 .le (.var 7) (.lit (4294967295)))) (.b2 .and (.b2 .and (.b2 .le (.lit (-9223372036854775808)) (.var 8)) (.b2 .le (.var 8) (.lit (9223372036854775807)))) (.b2 .and (.b2 .and (.b2 .le (.lit (-9223372036854775808)) (.var 9)) (.b2 .le (.var 9) (.lit (9223372036854775807)))) (.b2 .and (.b2 .le (.lit (-9223372036854775808)) (.var 10)) (.b2 .le (.var 10) (.lit (9223372036854775807))))))))))))) (.b2 .and (.bapp 1 (.cons (.int .i64 (.var 1)) (.cons (.int .i64 (.var 2)) (.cons (.int .i64 (.var 3)) (.cons (.int .i64 (.var 4)) (.cons (.int .u32 (.var 5)) (.cons (.int .i64 (.var 6)) (.cons (.int .u32 (.var 7)) (.cons (.int .i64 (.var 8)) (.cons (.int .i64 (.var 9)) (.cons (.int .i64 (.var 10)) .nil))))))))))) (.b2 .and (.b2 .and (.b2 .le (.lit (-9223372036854775808)) (.var 11)) (.b2 .le (.var 11) (.lit (9223372036854775807)))) (.b2 .eq (.var 0) (.i2 .add (.var 10) (.lit (1))))))), (.int .i64 (.iapp 23 (.cons (.int .i64 (.var 3)) (.cons (.int .u32 (.var 5)) (.cons (.int .i64 (.var 6)) (.cons (.int .i64 (.var 11)) (.cons (.int .i64 (.var 10)) .nil))))))), ⟨12, 0, 0, 0⟩, none⟩
theorem search_w : walk Tryd.prog 229 ⟨[ycc_wcl], syG, [127, 2], [], []⟩ [⟨0, ⟨2, 0, 0, 0⟩, [(5, (.int .i64 (.var 12))), (6, (.int .i64 (.var 13)))], none, (.b2 .and (.b2 .le (.lit (0)) (.var 12)) (.b2 .and (.b2 .le (.var 12) (.var 13)) (.b2 .and (.b2 .le (.var 13) (.var 0)) (.b2 .and (.b2 .or (.b2 .eq (.var 12) (.lit (0))) (.b2 .and (.b2 .lt (.i2 .add (.var 3) (.iapp 12 (.cons (.int .u32 (.var 5)) (.cons (.int .i64 (.var 6)) (.cons (.int .i64 (.i2 .sub (.var 12) (.lit (1)))) .nil))))) (.lit (4611686018427387904))) (.b2 .lt (.i2 .add (.var 3) (.iapp 12 (.cons (.int .u32 (.var 5)) (.cons (.int .i64 (.var 6)) (.cons (.int .i64 (.i2 .sub (.var 12) (.lit (1)))) .nil))))) (.var 11)))) (.b2 .or (.b2 .eq (.var 13) (.var 0)) (.b2 .or (.b2 .le (.lit (4611686018427387904)) (.i2 .add (.var 3) (.iapp 12 (.cons (.int .u32 (.var 5)) (.cons (.int .i64 (.var 6)) (.cons (.int .i64 (.var 13)) .nil)))))) (.b2 .le (.var 11) (.i2 .add (.var 3) (.iapp 12 (.cons (.int .u32 (.var 5)) (.cons (.int .i64 (.var 6)) (.cons (.int .i64 (.var 13)) .nil)))))))))))), (.i2 .sub (.var 13) (.var 12)), 0, []⟩] .v ycc_search ycc_search.n 3000 = some search_tree := by kernel_rfl
theorem search_h (n : Int) (pe : Int) (pb : Int) (pt : Int) (pr : Int) (gm : Int) (gs : Int) (qm : Int) (qs : Int) (pp : Int) (pc : Int) (t : Int) (hc : holds (ycE [n, pe, pb, pt, pr, gm, gs, qm, qs, pp, pc, t] [] [] []) (.b2 .and (.b2 .and (.b2 .and (.b2 .le (.lit (-9223372036854775808)) (.var 1)) (.b2 .le (.var 1) (.lit (9223372036854775807)))) (.b2 .and (.b2 .and (.b2 .le (.lit (-9223372036854775808)) (.var 2)) (.b2 .le (.var 2) (.lit (9223372036854775807)))) (.b2 .and (.b2 .and (.b2 .le (.lit (-9223372036854775808)) (.var 3)) (.b2 .le (.var 3) (.lit (9223372036854775807)))) (.b2 .and (.b2 .and (.b2 .le (.lit (-9223372036854775808)) (.var 4)) (.b2 .le (.var 4) (.lit (9223372036854775807)))) (.b2 .and (.b2 .and (.b2 .le (.lit (0)) (.var 5)) (.b2 .le (.var 5) (.lit (4294967295)))) (.b2 .and (.b2 .and (.b2 .le (.lit (-9223372036854775808)) (.var 6)) (.b2 .le (.var 6) (.lit (9223372036854775807)))) (.b2 .and (.b2 .and (.b2 .le (.lit (0)) (.var 7)) (.b2 .le (.var 7) (.lit (4294967295)))) (.b2 .and (.b2 .and (.b2 .le (.lit (-9223372036854775808)) (.var 8)) (.b2 .le (.var 8) (.lit (9223372036854775807)))) (.b2 .and (.b2 .and (.b2 .le (.lit (-9223372036854775808)) (.var 9)) (.b2 .le (.var 9) (.lit (9223372036854775807)))) (.b2 .and (.b2 .le (.lit (-9223372036854775808)) (.var 10)) (.b2 .le (.var 10) (.lit (9223372036854775807))))))))))))) (.b2 .and (.bapp 1 (.cons (.int .i64 (.var 1)) (.cons (.int .i64 (.var 2)) (.cons (.int .i64 (.var 3)) (.cons (.int .i64 (.var 4)) (.cons (.int .u32 (.var 5)) (.cons (.int .i64 (.var 6)) (.cons (.int .u32 (.var 7)) (.cons (.int .i64 (.var 8)) (.cons (.int .i64 (.var 9)) (.cons (.int .i64 (.var 10)) .nil))))))))))) (.b2 .and (.b2 .and (.b2 .le (.lit (-9223372036854775808)) (.var 11)) (.b2 .le (.var 11) (.lit (9223372036854775807)))) (.b2 .eq (.var 0) (.i2 .add (.var 10) (.lit (1)))))))) (hty : patsTyp (ycE [n, pe, pb, pt, pr, gm, gs, qm, qs, pp, pc, t] [] [] []) [(.int .i64 (.var 0)), (.clo 162 (.cons (.ep (.cons (.int .i64) (.cons (.int .i64) (.cons (.int .i64) (.cons (.int .i64) (.cons (.int .u32) (.cons (.int .i64) (.cons (.int .u32) (.cons (.int .i64) (.cons (.int .i64) (.cons (.int .i64) .nil)))))))))) (.tup (.cons (.int .i64 (.var 1)) (.cons (.int .i64 (.var 2)) (.cons (.int .i64 (.var 3)) (.cons (.int .i64 (.var 4)) (.cons (.int .u32 (.var 5)) (.cons (.int .i64 (.var 6)) (.cons (.int .u32 (.var 7)) (.cons (.int .i64 (.var 8)) (.cons (.int .i64 (.var 9)) (.cons (.int .i64 (.var 10)) .nil))))))))))) (.lit 0) 0) (.cons (.ep (.cons (.int .i64) .nil) (.tup (.cons (.int .i64 (.var 11)) .nil)) (.lit 0) 0) .nil)))]) : search_tree.holds (fun v_ => v_ = denV (ycE [n, pe, pb, pt, pr, gm, gs, qm, qs, pp, pc, t] [] [] []) b0 (.int .i64 (.iapp 23 (.cons (.int .i64 (.var 3)) (.cons (.int .u32 (.var 5)) (.cons (.int .i64 (.var 6)) (.cons (.int .i64 (.var 11)) (.cons (.int .i64 (.var 10)) .nil)))))))) (ycE [n, pe, pb, pt, pr, gm, gs, qm, qs, pp, pc, t] [] [] []) := by
  simp only [Tree.holds, Sy.holds, AllN, Env.more, ycE, List.cons_append, List.nil_append, List.append_nil, denV, denI, denB, denL, I2.den, VOp.den, List.getD_cons_zero, List.getD_cons_succ, Cst.den, syso, syse, syio, sybo, ycb_pm, List.map_nil, List.map_cons, B2.ofInts, B2.denI, B2.denB, if_true, Bool.false_eq_true, if_false, Nat.div_one, Nat.mul_one, Nat.add_zero, holds] at hc
  simp only [patsTyp, patTyp, patTypL, ycE, denV, denL, List.getD_cons_zero, List.getD_cons_succ, and_true, true_and] at hty
  unfold search_tree
  simp only [Tree.holds, Sy.holds, AllN, Env.more, ycE, List.cons_append, List.nil_append, List.append_nil, denV, denI, denB, denL, I2.den, VOp.den, List.getD_cons_zero, List.getD_cons_succ, Cst.den, syso, syse, syio, sybo, yci_q, yci_wh, ycb_pm, List.map_nil, List.map_cons, B2.ofInts, B2.denI, B2.denB, if_true, Bool.false_eq_true, if_false, Nat.div_one, Nat.mul_one, Nat.add_zero]
  have hp : pgP pe pb pt pr gm gs qm qs pp pc := of_decide_eq_true hc.2.1
  obtain ⟨a1, a2, a3, a4, a5, a6, a7, a8, f1, f2, a11, a12, a13, a14⟩ := id hp
  refine ⟨?_, ?_⟩
  ·
   exact ⟨by omega, by omega, by omega, .inl True.intro, .inl True.intro⟩
  ·
   intro i0a i0b hi0
   refine ⟨fun h0 => ?_, fun h0 => ?_⟩
   ·
    refine ⟨?_, fun h1 => ?_⟩
    ·
     first
     | omega
     | (obtain ⟨g1, g2, g3, g4, g5⟩ := hi0
        have hm : i0a ≤ i0b → IntKind.wrap .i64 ((IntKind.wrap .u64 (IntKind.wrap .i64 (i0a + i0b))).fdiv (2 ^ Min.min (Int.toNat 1) (IntKind.bits .u64))) = (i0a + i0b) / 2 := fun h => mid_eq g1 g2 (by omega)
        have hm := hm g2
        have w1 : IntKind.wrap .i64 ((i0a + i0b) / 2 + 1) = (i0a + i0b) / 2 + 1 := by have := wr_i64 ((i0a + i0b) / 2 + 1); omega
        simp only [hm, hp, decide_true, true_and]
        omega)
    ·
     try simp only [hw1]
     try simp only [hw0]
     refine ⟨fun h2 => ?_, fun h2 => ?_⟩
     ·
      try simp only [hw1]
      try simp only [hw0]
      refine ⟨?_, ?_⟩
      ·
       obtain ⟨g1, g2, g3, g4, g5⟩ := hi0
       have hm : i0a ≤ i0b → IntKind.wrap .i64 ((IntKind.wrap .u64 (IntKind.wrap .i64 (i0a + i0b))).fdiv (2 ^ Min.min (Int.toNat 1) (IntKind.bits .u64))) = (i0a + i0b) / 2 := fun h => mid_eq g1 g2 (by omega)
       have hm := hm g2
       have w1 : IntKind.wrap .i64 ((i0a + i0b) / 2 + 1) = (i0a + i0b) / 2 + 1 := by have := wr_i64 ((i0a + i0b) / 2 + 1); omega
       first
       | (rw [hm] at *
          rw [w1]
          have k1 := qE_cg gm gs ((i0a + i0b) / 2 + 1 - 1) ((i0a + i0b) / 2)
          simp only [Bool.or_eq_true, decide_eq_true_eq] at *
          refine ⟨by omega, by omega, by omega, by omega, by omega⟩)
       | (simp only [hm] at *
          simp only [Bool.or_eq_true, decide_eq_true_eq] at *
          refine ⟨by omega, by omega, by omega, by omega, by omega⟩)
       | (simp only [hm, w1] at *
          have k1 := qE_cg gm gs ((i0a + i0b) / 2 + 1 - 1) ((i0a + i0b) / 2)
          simp only [Bool.or_eq_true, decide_eq_true_eq] at *
          refine ⟨by omega, by omega, by omega, by omega, by omega⟩)
       | skip
      ·
       obtain ⟨g1, g2, g3, g4, g5⟩ := hi0
       have hm : i0a ≤ i0b → IntKind.wrap .i64 ((IntKind.wrap .u64 (IntKind.wrap .i64 (i0a + i0b))).fdiv (2 ^ Min.min (Int.toNat 1) (IntKind.bits .u64))) = (i0a + i0b) / 2 := fun h => mid_eq g1 g2 (by omega)
       have hm := hm g2
       have w1 : IntKind.wrap .i64 ((i0a + i0b) / 2 + 1) = (i0a + i0b) / 2 + 1 := by have := wr_i64 ((i0a + i0b) / 2 + 1); omega
       simp only [hm, w1]
       omega
     ·
      try simp only [hw1]
      try simp only [hw0]
      refine ⟨?_, ?_⟩
      ·
       obtain ⟨g1, g2, g3, g4, g5⟩ := hi0
       have hm : i0a ≤ i0b → IntKind.wrap .i64 ((IntKind.wrap .u64 (IntKind.wrap .i64 (i0a + i0b))).fdiv (2 ^ Min.min (Int.toNat 1) (IntKind.bits .u64))) = (i0a + i0b) / 2 := fun h => mid_eq g1 g2 (by omega)
       have hm := hm g2
       have w1 : IntKind.wrap .i64 ((i0a + i0b) / 2 + 1) = (i0a + i0b) / 2 + 1 := by have := wr_i64 ((i0a + i0b) / 2 + 1); omega
       first
       | (rw [hm] at *
          rw [w1]
          have k1 := qE_cg gm gs ((i0a + i0b) / 2 + 1 - 1) ((i0a + i0b) / 2)
          simp only [Bool.or_eq_true, decide_eq_true_eq] at *
          refine ⟨by omega, by omega, by omega, by omega, by omega⟩)
       | (simp only [hm] at *
          simp only [Bool.or_eq_true, decide_eq_true_eq] at *
          refine ⟨by omega, by omega, by omega, by omega, by omega⟩)
       | (simp only [hm, w1] at *
          have k1 := qE_cg gm gs ((i0a + i0b) / 2 + 1 - 1) ((i0a + i0b) / 2)
          simp only [Bool.or_eq_true, decide_eq_true_eq] at *
          refine ⟨by omega, by omega, by omega, by omega, by omega⟩)
       | skip
      ·
       obtain ⟨g1, g2, g3, g4, g5⟩ := hi0
       have hm : i0a ≤ i0b → IntKind.wrap .i64 ((IntKind.wrap .u64 (IntKind.wrap .i64 (i0a + i0b))).fdiv (2 ^ Min.min (Int.toNat 1) (IntKind.bits .u64))) = (i0a + i0b) / 2 := fun h => mid_eq g1 g2 (by omega)
       have hm := hm g2
       have w1 : IntKind.wrap .i64 ((i0a + i0b) / 2 + 1) = (i0a + i0b) / 2 + 1 := by have := wr_i64 ((i0a + i0b) / 2 + 1); omega
       simp only [hm, w1]
       omega
   ·
    obtain ⟨g1, g2, g3, g4, g5⟩ := hi0
    have e : i0b = i0a := by omega
    rw [e] at g5
    exact congrArg (Value.int .i64) (wh_eq f1 ⟨g1, by omega, g4, by omega⟩).symm
theorem ycg_search : ycc_search.Good Tryd.prog syG (ycE [] [] [] []) := good_of_walk (Γ := ⟨[ycc_wcl], syG, [127, 2], [], []⟩) (ρ := ycE [] [] [] []) sym search_w rfl (fun _ _ _ _ => (ok_cons (Con.Good.env ycg_wcl _ _ _ _) ok_nil)) (fun n pe pb pt pr gm gs qm qs pp pc t hc hty => search_h n pe pb pt pr gm gs qm qs pp pc t hc hty)
def when_tree : Tree :=
 (.need (.b2 .and (.b2 .and (.b2 .le (.lit (-9223372036854775808)) (.var 0)) (.b2 .le (.var 0) (.lit (9223372036854775807)))) (.b2 .and (.b2 .and (.b2 .le (.lit (-9223372036854775808)) (.var 1)) (.b2 .le (.var 1) (.lit (9223372036854775807)))) (.b2 .and (.b2 .and (.b2 .le (.lit (-9223372036854775808)) (.var 2)) (.b2 .le (.var 2) (.lit (9223372036854775807)))) (.b2 .and (.b2 .and (.b2 .le (.lit (-9223372036854775808)) (.var 3)) (.b2 .le (.var 3) (.lit (9223372036854775807)))) (.b2 .and (.b2 .and (.b2 .le (.lit (0)) (.var 4)) (.b2 .le (.var 4) (.lit (4294967295)))) (.b2 .and (.b2 .and (.b2 .le (.lit (-9223372036854775808)) (.var 5)) (.b2 .le (.var 5) (.lit (9223372036854775807)))) (.b2 .and (.b2 .and (.b2 .le (.lit (0)) (.var 6)) (.b2 .le (.var 6) (.lit (4294967295)))) (.b2 .and (.b2 .and (.b2 .le (.lit (-9223372036854775808)) (.var 7)) (.b2 .le (.var 7) (.lit (9223372036854775807)))) (.b2 .and (.b2 .and (.b2 .le (.lit (-9223372036854775808)) (.var 8)) (.b2 .le (.var 8) (.lit (9223372036854775807)))) (.b2 .and (.b2 .le (.lit (-9223372036854775808)) (.var 9)) (.b2 .le (.var 9) (.lit (9223372036854775807)))))))))))))
 (.br (.not (.b2 .eq (.iapp 14 (.cons (.int .i64 (.var 0)) (.cons (.int .i64 (.var 1)) (.cons (.int .i64 (.var 2)) (.cons (.int .i64 (.var 3)) (.cons (.int .u32 (.var 4)) (.cons (.int .i64 (.var 5)) (.cons (.int .u32 (.var 6)) (.cons (.int .i64 (.var 7)) (.cons (.int .i64 (.var 8)) (.cons (.int .i64 (.var 9)) .nil))))))))))) (.lit (0))))
 (.ret (.tup (.cons (.int .i64 (.lit (0))) (.cons (.err (.iapp 14 (.cons (.int .i64 (.var 0)) (.cons (.int .i64 (.var 1)) (.cons (.int .i64 (.var 2)) (.cons (.int .i64 (.var 3)) (.cons (.int .u32 (.var 4)) (.cons (.int .i64 (.var 5)) (.cons (.int .u32 (.var 6)) (.cons (.int .i64 (.var 7)) (.cons (.int .i64 (.var 8)) (.cons (.int .i64 (.var 9)) .nil)))))))))))) .nil))))
 (.br (.b2 .lt (.var 10) (.var 2))
 (.ret (.tup (.cons (.int .i64 (.lit (0))) (.cons (.iface 229 (.int .i64 (.lit (10)))) .nil))))
 (.need (.b2 .and (.b2 .and (.b2 .and (.b2 .le (.lit (-9223372036854775808)) (.var 0)) (.b2 .le (.var 0) (.lit (9223372036854775807)))) (.b2 .and (.b2 .and (.b2 .le (.lit (-9223372036854775808)) (.var 1)) (.b2 .le (.var 1) (.lit (9223372036854775807)))) (.b2 .and (.b2 .and (.b2 .le (.lit (-9223372036854775808)) (.var 2)) (.b2 .le (.var 2) (.lit (9223372036854775807)))) (.b2 .and (.b2 .and (.b2 .le (.lit (-9223372036854775808)) (.var 3)) (.b2 .le (.var 3) (.lit (9223372036854775807)))) (.b2 .and (.b2 .and (.b2 .le (.lit (0)) (.var 4)) (.b2 .le (.var 4) (.lit (4294967295)))) (.b2 .and (.b2 .and (.b2 .le (.lit (-9223372036854775808)) (.var 5)) (.b2 .le (.var 5) (.lit (9223372036854775807)))) (.b2 .and (.b2 .and (.b2 .le (.lit (0)) (.var 6)) (.b2 .le (.var 6) (.lit (4294967295)))) (.b2 .and (.b2 .and (.b2 .le (.lit (-9223372036854775808)) (.var 7)) (.b2 .le (.var 7) (.lit (9223372036854775807)))) (.b2 .and (.b2 .and (.b2 .le (.lit (-9223372036854775808)) (.var 8)) (.b2 .le (.var 8) (.lit (9223372036854775807)))) (.b2 .and (.b2 .le (.lit (-9223372036854775808)) (.var 9)) (.b2 .le (.var 9) (.lit (9223372036854775807))))))))))))) (.b2 .and (.bapp 1 (.cons (.int .i64 (.var 0)) (.cons (.int .i64 (.var 1)) (.cons (.int .i64 (.var 2)) (.cons (.int .i64 (.var 3)) (.cons (.int .u32 (.var 4)) (.cons (.int .i64 (.var 5)) (.cons (.int .u32 (.var 6)) (.cons (.int .i64 (.var 7)) (.cons (.int .i64 (.var 8)) (.cons (.int .i64 (.var 9)) .nil))))))))))) (.b2 .and (.b2 .and (.b2 .le (.lit (-9223372036854775808)) (.var 10)) (.b2 .le (.var 10) (.lit (9223372036854775807)))) (.b2 .eq (.wrap .i64 (.i2 .add (.var 9) (.lit (1)))) (.i2 .add (.var 9) (.lit (1)))))))
 (.br (.b2 .lt (.var 9) (.iapp 23 (.cons (.int .i64 (.var 2)) (.cons (.int .u32 (.var 4)) (.cons (.int .i64 (.var 5)) (.cons (.int .i64 (.var 10)) (.cons (.int .i64 (.var 9)) .nil)))))))
 (.ret (.tup (.cons (.int .i64 (.lit (0))) (.cons (.iface 229 (.int .i64 (.lit (14)))) .nil))))
 (.ret (.tup (.cons (.int .i64 (.wrap .i64 (.i2 .add (.var 1) (.iapp 23 (.cons (.int .i64 (.var 2)) (.cons (.int .u32 (.var 4)) (.cons (.int .i64 (.var 5)) (.cons (.int .i64 (.var 10)) (.cons (.int .i64 (.var 9)) .nil))))))))) (.cons (.cst .nilI) .nil)))))))))
abbrev ycc_when : Con := ⟨82, [(.agg (.cons (.int .i64 (.var 0)) (.cons (.int .i64 (.var 1)) (.cons (.int .i64 (.var 2)) (.cons (.int .i64 (.var 3)) (.cons (.int .u32 (.var 4)) (.cons (.int .i64 (.var 5)) (.cons (.int .u32 (.var 6)) (.cons (.int .i64 (.var 7)) (.cons (.int .i64 (.var 8)) (.cons (.int .i64 (.var 9)) .nil))))))))))), (.int .i64 (.var 10))], (.b2 .and (.b2 .and (.b2 .and (.b2 .le (.lit (-9223372036854775808)) (.var 0)) (.b2 .le (.var 0) (.lit (9223372036854775807)))) (.b2 .and (.b2 .and (.b2 .le (.lit (-9223372036854775808)) (.var 1)) (.b2 .le (.var 1) (.lit (9223372036854775807)))) (.b2 .and (.b2 .and (.b2 .le (.lit (-9223372036854775808)) (.var 2)) (.b2 .le (.var 2) (.lit (9223372036854775807)))) (.b2 .and (.b2 .and (.b2 .le (.lit (-9223372036854775808)) (.var 3)) (.b2 .le (.var 3) (.lit (9223372036854775807)))) (.b2 .and (.b2 .and (.b2 .le (.lit (0)) (.var 4)) (.b2 .le (.var 4) (.lit (4294967295)))) (.b2 .and (.b2 .and (.b2 .le (.lit (-9223372036854775808)) (.var 5)) (.b2 .le (.var 5) (.lit (9223372036854775807)))) (.b2 .and (.b2 .and (.b2 .le (.lit (0)) (.var 6)) (.b2 .le (.var 6) (.lit (4294967295)))) (.b2 .and (.b2 .and (.b2 .le (.lit (-9223372036854775808)) (.var 7)) (.b2 .le (.var 7) (.lit (9223372036854775807)))) (.b2 .and (.b2 .and (.b2 .le (.lit (-9223372036854775808)) (.var 8)) (.b2 .le (.var 8) (.lit (9223372036854775807)))) (.b2 .and (.b2 .le (.lit (-9223372036854775808)) (.var 9)) (.b2 .le (.var 9) (.lit (9223372036854775807))))))))))))) (.b2 .and (.b2 .le (.lit (-9223372036854775808)) (.var 10)) (.b2 .le (.var 10) (.lit (9223372036854775807))))), (.tup (.cons (.int .i64 (.iapp 25 (.cons (.int .i64 (.var 0)) (.cons (.int .i64 (.var 1)) (.cons (.int .i64 (.var 2)) (.cons (.int .i64 (.var 3)) (.cons (.int .u32 (.var 4)) (.cons (.int .i64 (.var 5)) (.cons (.int .u32 (.var 6)) (.cons (.int .i64 (.var 7)) (.cons (.int .i64 (.var 8)) (.cons (.int .i64 (.var 9)) (.cons (.int .i64 (.var 10)) .nil))))))))))))) (.cons (.err (.iapp 24 (.cons (.int .i64 (.var 0)) (.cons (.int .i64 (.var 1)) (.cons (.int .i64 (.var 2)) (.cons (.int .i64 (.var 3)) (.cons (.int .u32 (.var 4)) (.cons (.int .i64 (.var 5)) (.cons (.int .u32 (.var 6)) (.cons (.int .i64 (.var 7)) (.cons (.int .i64 (.var 8)) (.cons (.int .i64 (.var 9)) (.cons (.int .i64 (.var 10)) .nil))))))))))))) .nil))), ⟨11, 0, 0, 0⟩, none⟩
theorem when_w : walk Tryd.prog 229 ⟨[ybc_pcheck, ycc_search], syG, [127, 2], [], []⟩ [] .v ycc_when ycc_when.n 3000 = some when_tree := by kernel_rfl
theorem when_h (pe : Int) (pb : Int) (pt : Int) (pr : Int) (gm : Int) (gs : Int) (qm : Int) (qs : Int) (pp : Int) (pc : Int) (t : Int) (hc : holds (ycE [pe, pb, pt, pr, gm, gs, qm, qs, pp, pc, t] [] [] []) (.b2 .and (.b2 .and (.b2 .and (.b2 .le (.lit (-9223372036854775808)) (.var 0)) (.b2 .le (.var 0) (.lit (9223372036854775807)))) (.b2 .and (.b2 .and (.b2 .le (.lit (-9223372036854775808)) (.var 1)) (.b2 .le (.var 1) (.lit (9223372036854775807)))) (.b2 .and (.b2 .and (.b2 .le (.lit (-9223372036854775808)) (.var 2)) (.b2 .le (.var 2) (.lit (9223372036854775807)))) (.b2 .and (.b2 .and (.b2 .le (.lit (-9223372036854775808)) (.var 3)) (.b2 .le (.var 3) (.lit (9223372036854775807)))) (.b2 .and (.b2 .and (.b2 .le (.lit (0)) (.var 4)) (.b2 .le (.var 4) (.lit (4294967295)))) (.b2 .and (.b2 .and (.b2 .le (.lit (-9223372036854775808)) (.var 5)) (.b2 .le (.var 5) (.lit (9223372036854775807)))) (.b2 .and (.b2 .and (.b2 .le (.lit (0)) (.var 6)) (.b2 .le (.var 6) (.lit (4294967295)))) (.b2 .and (.b2 .and (.b2 .le (.lit (-9223372036854775808)) (.var 7)) (.b2 .le (.var 7) (.lit (9223372036854775807)))) (.b2 .and (.b2 .and (.b2 .le (.lit (-9223372036854775808)) (.var 8)) (.b2 .le (.var 8) (.lit (9223372036854775807)))) (.b2 .and (.b2 .le (.lit (-9223372036854775808)) (.var 9)) (.b2 .le (.var 9) (.lit (9223372036854775807))))))))))))) (.b2 .and (.b2 .le (.lit (-9223372036854775808)) (.var 10)) (.b2 .le (.var 10) (.lit (9223372036854775807)))))) (hty : patsTyp (ycE [pe, pb, pt, pr, gm, gs, qm, qs, pp, pc, t] [] [] []) [(.agg (.cons (.int .i64 (.var 0)) (.cons (.int .i64 (.var 1)) (.cons (.int .i64 (.var 2)) (.cons (.int .i64 (.var 3)) (.cons (.int .u32 (.var 4)) (.cons (.int .i64 (.var 5)) (.cons (.int .u32 (.var 6)) (.cons (.int .i64 (.var 7)) (.cons (.int .i64 (.var 8)) (.cons (.int .i64 (.var 9)) .nil))))))))))), (.int .i64 (.var 10))]) : when_tree.holds (fun v_ => v_ = denV (ycE [pe, pb, pt, pr, gm, gs, qm, qs, pp, pc, t] [] [] []) b0 (.tup (.cons (.int .i64 (.iapp 25 (.cons (.int .i64 (.var 0)) (.cons (.int .i64 (.var 1)) (.cons (.int .i64 (.var 2)) (.cons (.int .i64 (.var 3)) (.cons (.int .u32 (.var 4)) (.cons (.int .i64 (.var 5)) (.cons (.int .u32 (.var 6)) (.cons (.int .i64 (.var 7)) (.cons (.int .i64 (.var 8)) (.cons (.int .i64 (.var 9)) (.cons (.int .i64 (.var 10)) .nil))))))))))))) (.cons (.err (.iapp 24 (.cons (.int .i64 (.var 0)) (.cons (.int .i64 (.var 1)) (.cons (.int .i64 (.var 2)) (.cons (.int .i64 (.var 3)) (.cons (.int .u32 (.var 4)) (.cons (.int .i64 (.var 5)) (.cons (.int .u32 (.var 6)) (.cons (.int .i64 (.var 7)) (.cons (.int .i64 (.var 8)) (.cons (.int .i64 (.var 9)) (.cons (.int .i64 (.var 10)) .nil))))))))))))) .nil)))) (ycE [pe, pb, pt, pr, gm, gs, qm, qs, pp, pc, t] [] [] []) := by
  simp only [Tree.holds, Sy.holds, AllN, Env.more, ycE, List.cons_append, List.nil_append, List.append_nil, denV, denI, denB, denL, I2.den, VOp.den, List.getD_cons_zero, List.getD_cons_succ, Cst.den, syso, syse, syio, sybo, List.map_nil, List.map_cons, B2.ofInts, B2.denI, B2.denB, if_true, Bool.false_eq_true, if_false, Nat.div_one, Nat.mul_one, Nat.add_zero, holds] at hc
  simp only [patsTyp, patTyp, patTypL, ycE, denV, denL, List.getD_cons_zero, List.getD_cons_succ, and_true, true_and] at hty
  unfold when_tree
  simp only [Tree.holds, Sy.holds, AllN, Env.more, ycE, List.cons_append, List.nil_append, List.append_nil, denV, denI, denB, denL, I2.den, VOp.den, List.getD_cons_zero, List.getD_cons_succ, Cst.den, syso, syse, syio, sybo, yci_pge, yci_wh, yci_whe, yci_whv, ycb_pm, List.map_nil, List.map_cons, B2.ofInts, B2.denI, B2.denB, if_true, Bool.false_eq_true, if_false, Nat.div_one, Nat.mul_one, Nat.add_zero]
  rcases wh_spec pe pb pt pr gm gs qm qs pp pc t with ⟨⟨hp, he⟩, z1, z2⟩ | ⟨⟨hp, he⟩, ⟨hk, z1, z2⟩ | ⟨hk, z1, z2⟩ | ⟨hk, z1, z2⟩⟩
  all_goals
   have hq := pg_bd pe pb pt pr gm gs qm qs pp pc
   have hn := wh_nn pt gm gs t pc
   refine ⟨?_, fun h0 => ?_⟩
   ·
    first
    | omega
    | exact absurd (of_decide_eq_true (by assumption)) hp
    | exact absurd (of_decide_eq_true (Decidable.of_not_not (by assumption))) hp
    | (simp only [hp, decide_true, true_and]
       omega)
   ·
    refine ⟨fun h1 => ?_, fun h1 => ?_⟩
    ·
     first
     | (exfalso; omega)
     | (rw [z1, z2, he]; done)
     | (rw [z1, z2, he]; rfl)
     | (rw [z1, z2]; done)
     | (rw [z1, z2, show IntKind.wrap .i64 (pb + whI pt gm gs t pc) = pb + whI pt gm gs t pc by (have := wr_i64 (pb + whI pt gm gs t pc); omega)]; done)
     | (rw [z1, z2, show IntKind.wrap .i64 (pb + whI pt gm gs t pc) = pb + whI pt gm gs t pc by (have := wr_i64 (pb + whI pt gm gs t pc); omega)]; rfl)
     | (rw [z1, z2]; rfl)
    ·
     refine ⟨fun h2 => ?_, fun h2 => ?_⟩
     ·
      first
      | (exfalso; omega)
      | (rw [z1, z2, he]; done)
      | (rw [z1, z2, he]; rfl)
      | (rw [z1, z2]; done)
      | (rw [z1, z2, show IntKind.wrap .i64 (pb + whI pt gm gs t pc) = pb + whI pt gm gs t pc by (have := wr_i64 (pb + whI pt gm gs t pc); omega)]; done)
      | (rw [z1, z2, show IntKind.wrap .i64 (pb + whI pt gm gs t pc) = pb + whI pt gm gs t pc by (have := wr_i64 (pb + whI pt gm gs t pc); omega)]; rfl)
      | (rw [z1, z2]; rfl)
     ·
      first | have hw0 : IntKind.wrap .i64 (pc + 1) = (pc + 1) := by (have hwx := wr_i64 (pc + 1); omega) | have wf0 := wr_i64 (pc + 1)
      refine ⟨?_, fun h3 => ?_⟩
      ·
       first
       | omega
       | exact absurd (of_decide_eq_true (by assumption)) hp
       | exact absurd (of_decide_eq_true (Decidable.of_not_not (by assumption))) hp
       | (simp only [hp, decide_true, true_and]
          omega)
      ·
       refine ⟨fun h4 => ?_, fun h4 => ?_⟩
       ·
        first
        | (exfalso; omega)
        | (rw [z1, z2, he]; done)
        | (rw [z1, z2, he]; rfl)
        | (rw [z1, z2]; done)
        | (rw [z1, z2, show IntKind.wrap .i64 (pb + whI pt gm gs t pc) = pb + whI pt gm gs t pc by (have := wr_i64 (pb + whI pt gm gs t pc); omega)]; done)
        | (rw [z1, z2, show IntKind.wrap .i64 (pb + whI pt gm gs t pc) = pb + whI pt gm gs t pc by (have := wr_i64 (pb + whI pt gm gs t pc); omega)]; rfl)
        | (rw [z1, z2]; rfl)
       ·
        first | have hw1 : IntKind.wrap .i64 (pb + (whI pt gm gs t pc)) = (pb + (whI pt gm gs t pc)) := by (have hwx := wr_i64 (pb + (whI pt gm gs t pc)); omega) | have wf1 := wr_i64 (pb + (whI pt gm gs t pc))
        first
        | (exfalso; omega)
        | (rw [z1, z2, he]; done)
        | (rw [z1, z2, he]; rfl)
        | (rw [z1, z2]; done)
        | (rw [z1, z2, show IntKind.wrap .i64 (pb + whI pt gm gs t pc) = pb + whI pt gm gs t pc by (have := wr_i64 (pb + whI pt gm gs t pc); omega)]; done)
        | (rw [z1, z2, show IntKind.wrap .i64 (pb + whI pt gm gs t pc) = pb + whI pt gm gs t pc by (have := wr_i64 (pb + whI pt gm gs t pc); omega)]; rfl)
        | (rw [z1, z2]; rfl)
theorem ycg_when : ycc_when.Good Tryd.prog syG (ycE [] [] [] []) := good_of_walk (Γ := ⟨[ybc_pcheck, ycc_search], syG, [127, 2], [], []⟩) (ρ := ycE [] [] [] []) sym when_w rfl (fun _ _ _ _ => (ok_cons (Con.Good.env (Con.Good.up ybg_pcheck ycup rfl) _ _ _ _) (ok_cons (Con.Good.env ycg_search _ _ _ _) ok_nil))) (fun pe pb pt pr gm gs qm qs pp pc t hc hty => when_h pe pb pt pr gm gs qm qs pp pc t hc hty)
end Go.Proofs.YtjhjgfnodhbacaaDoor
