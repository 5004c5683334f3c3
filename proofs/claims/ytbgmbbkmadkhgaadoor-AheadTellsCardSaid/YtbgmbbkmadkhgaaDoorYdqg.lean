/-
  Layer 22 by the second engine: the law.
-/
import Derived.Test.YtbgmbbkmadkhgaaDoorSycqg
import Derived.Test.YtbgmbbkmadkhgaaDoorYcqg
import Derived.Test.YtbgmbbkmadkhgaaDoorE00qg
import Derived.Test.YtbgmbbkmadkhgaaDoorNumqg
namespace Go.Proofs.YtbgmbbkmadkhgaaDoor
open Go.RowKit Go.Extern.Stop Go.Stop Go.Extern Go.Proofs.YtbgmbbkmadkhgaaDoor.Sy
set_option linter.unusedVariables false
set_option linter.unusedSimpArgs false
theorem num22_any (n : Int) (w : World) (hg : w.cell? ⟨0, 0, none⟩ = some asHandle) : Calls Tryd.prog 65 #[errVal 203 n] w fun e w' => e = .returned (.int .i64 n) ∧ Below w.heap.size w w' := by
  unfold errVal
  split
  · rename_i h; subst h; exact num22_nil _
  · exact num22_err _ _ hg
theorem s_f : fmP 2147483648 31 := by unfold fmP; decide
theorem s_1 : tmE 0 0 100 0 2147483648 31 2147483648 31 0 50 10 = 0 := by decide
theorem s_2 : tmT 0 0 100 0 2147483648 31 2147483648 31 0 50 10 = 110 := by decide
theorem s_3 : tmO 0 0 100 0 2147483648 31 2147483648 31 0 50 10 = 4 := by decide
theorem s_4 : tmE 0 0 100 0 2147483648 31 2147483648 31 0 50 51 = 14 := by decide
theorem s_5 : pgE 0 0 100 0 2147483648 31 2147483648 31 0 50 = 0 := by decide
theorem s_6 : gdV 0 0 100 0 2147483648 31 2147483648 31 0 50 = 50 := by decide
theorem s_q1 : whI 100 2147483648 31 120 50 = 20 := wh_eq s_f ⟨by decide, by decide, .inr ⟨by decide, by decide⟩, .inr (.inr (by decide))⟩
theorem s_q2 : whI 100 2147483648 31 151 50 = 51 := wh_eq s_f ⟨by decide, by decide, .inr ⟨by decide, by decide⟩, .inl (by decide)⟩
theorem s_7 : whE 0 0 100 0 2147483648 31 2147483648 31 0 50 120 = 0 ∧ whV 0 0 100 0 2147483648 31 2147483648 31 0 50 120 = 20 := by
  have h := wh_spec 0 0 100 0 2147483648 31 2147483648 31 0 50 120
  have h2 := s_q1
  have h3 := s_5
  omega
theorem s_8 : whE 0 0 100 0 2147483648 31 2147483648 31 0 50 151 = 14 := by
  have h := wh_spec 0 0 100 0 2147483648 31 2147483648 31 0 50 151
  have h2 := s_q2
  have h3 := s_5
  omega
noncomputable def ydI : Nat → List Value → Int
  | i, l => ycI i l
noncomputable def ydB : Nat → List Value → Bool
  | i, l => ycB i l
noncomputable def ydV : Nat → List Value → Value
  | i, l => ycV i l
noncomputable abbrev ydE (iv : List Int) (bv : List Bool) (vv : List Value) (sv : List ByteArray) : Env := { iv := iv, bv := bv, vv := vv, sv := sv, fi := ydI, fb := ydB, fv := ydV, et := 203 }
set_option maxHeartbeats 8000000 in
theorem ydup : Agree 26 3 0 (ycE [] [] [] []) (ydE [] [] [] []) := ⟨rfl, (by
    intro f hf
    funext l
    show ydI f l = ycI f l
    unfold ydI
    split <;> first | rfl | omega), (by
    intro f hf
    funext l
    show ydB f l = ycB f l
    unfold ydB
    split <;> first | rfl | omega), (by
    intro f hf
    funext l
    show ydV f l = ycV f l
    unfold ydV
    split <;> first | rfl | omega)⟩
theorem ydi_pge (k1 : IntKind) (e : Int) (k2 : IntKind) (b : Int) (k3 : IntKind) (t : Int) (k4 : IntKind) (r : Int) (k5 : IntKind) (gm : Int) (k6 : IntKind) (gs : Int) (k7 : IntKind) (pm : Int) (k8 : IntKind) (ps : Int) (k9 : IntKind) (p : Int) (k10 : IntKind) (c : Int) : ydI 14 [.int k1 e, .int k2 b, .int k3 t, .int k4 r, .int k5 gm, .int k6 gs, .int k7 pm, .int k8 ps, .int k9 p, .int k10 c] = pgE e b t r gm gs pm ps p c := rfl
theorem ydi_gdv (k1 : IntKind) (e : Int) (k2 : IntKind) (b : Int) (k3 : IntKind) (t : Int) (k4 : IntKind) (r : Int) (k5 : IntKind) (gm : Int) (k6 : IntKind) (gs : Int) (k7 : IntKind) (pm : Int) (k8 : IntKind) (ps : Int) (k9 : IntKind) (p : Int) (k10 : IntKind) (c : Int) : ydI 15 [.int k1 e, .int k2 b, .int k3 t, .int k4 r, .int k5 gm, .int k6 gs, .int k7 pm, .int k8 ps, .int k9 p, .int k10 c] = gdV e b t r gm gs pm ps p c := rfl
theorem ydi_tme (k1 : IntKind) (e : Int) (k2 : IntKind) (b : Int) (k3 : IntKind) (t : Int) (k4 : IntKind) (r : Int) (k5 : IntKind) (gm : Int) (k6 : IntKind) (gs : Int) (k7 : IntKind) (pm : Int) (k8 : IntKind) (ps : Int) (k9 : IntKind) (p : Int) (k10 : IntKind) (c : Int) (k11 : IntKind) (k : Int) : ydI 20 [.int k1 e, .int k2 b, .int k3 t, .int k4 r, .int k5 gm, .int k6 gs, .int k7 pm, .int k8 ps, .int k9 p, .int k10 c, .int k11 k] = tmE e b t r gm gs pm ps p c k := rfl
theorem ydi_tmt (k1 : IntKind) (e : Int) (k2 : IntKind) (b : Int) (k3 : IntKind) (t : Int) (k4 : IntKind) (r : Int) (k5 : IntKind) (gm : Int) (k6 : IntKind) (gs : Int) (k7 : IntKind) (pm : Int) (k8 : IntKind) (ps : Int) (k9 : IntKind) (p : Int) (k10 : IntKind) (c : Int) (k11 : IntKind) (k : Int) : ydI 21 [.int k1 e, .int k2 b, .int k3 t, .int k4 r, .int k5 gm, .int k6 gs, .int k7 pm, .int k8 ps, .int k9 p, .int k10 c, .int k11 k] = tmT e b t r gm gs pm ps p c k := rfl
theorem ydi_tmo (k1 : IntKind) (e : Int) (k2 : IntKind) (b : Int) (k3 : IntKind) (t : Int) (k4 : IntKind) (r : Int) (k5 : IntKind) (gm : Int) (k6 : IntKind) (gs : Int) (k7 : IntKind) (pm : Int) (k8 : IntKind) (ps : Int) (k9 : IntKind) (p : Int) (k10 : IntKind) (c : Int) (k11 : IntKind) (k : Int) : ydI 22 [.int k1 e, .int k2 b, .int k3 t, .int k4 r, .int k5 gm, .int k6 gs, .int k7 pm, .int k8 ps, .int k9 p, .int k10 c, .int k11 k] = tmO e b t r gm gs pm ps p c k := rfl
theorem ydi_whe (k1 : IntKind) (e : Int) (k2 : IntKind) (b : Int) (k3 : IntKind) (t : Int) (k4 : IntKind) (r : Int) (k5 : IntKind) (gm : Int) (k6 : IntKind) (gs : Int) (k7 : IntKind) (pm : Int) (k8 : IntKind) (ps : Int) (k9 : IntKind) (p : Int) (k10 : IntKind) (c : Int) (k11 : IntKind) (T : Int) : ydI 24 [.int k1 e, .int k2 b, .int k3 t, .int k4 r, .int k5 gm, .int k6 gs, .int k7 pm, .int k8 ps, .int k9 p, .int k10 c, .int k11 T] = whE e b t r gm gs pm ps p c T := rfl
theorem ydi_whv (k1 : IntKind) (e : Int) (k2 : IntKind) (b : Int) (k3 : IntKind) (t : Int) (k4 : IntKind) (r : Int) (k5 : IntKind) (gm : Int) (k6 : IntKind) (gs : Int) (k7 : IntKind) (pm : Int) (k8 : IntKind) (ps : Int) (k9 : IntKind) (p : Int) (k10 : IntKind) (c : Int) (k11 : IntKind) (T : Int) : ydI 25 [.int k1 e, .int k2 b, .int k3 t, .int k4 r, .int k5 gm, .int k6 gs, .int k7 pm, .int k8 ps, .int k9 p, .int k10 c, .int k11 T] = whV e b t r gm gs pm ps p c T := rfl
theorem ydb_pm (k1 : IntKind) (e : Int) (k2 : IntKind) (b : Int) (k3 : IntKind) (t : Int) (k4 : IntKind) (r : Int) (k5 : IntKind) (gm : Int) (k6 : IntKind) (gs : Int) (k7 : IntKind) (pm : Int) (k8 : IntKind) (ps : Int) (k9 : IntKind) (p : Int) (k10 : IntKind) (c : Int) : ydB 1 [.int k1 e, .int k2 b, .int k3 t, .int k4 r, .int k5 gm, .int k6 gs, .int k7 pm, .int k8 ps, .int k9 p, .int k10 c] = decide (pgP e b t r gm gs pm ps p c) := rfl
abbrev ydc_num : Con := ⟨65, [(.err (.var 0))], (.tt true), (.int .i64 (.var 0)), ⟨1, 0, 0, 0⟩, none⟩
theorem ydg_num : ydc_num.Good Tryd.prog syG (ydE [] [] [] []) := good_flat rfl rfl rfl (by
  intro n hc β ok w hG
  have hc' := hc
  simp only [Tree.holds, Sy.holds, AllN, Env.more, ydE, List.cons_append, List.nil_append, List.append_nil, denV, denI, denB, denL, I2.den, VOp.den, List.getD_cons_zero, List.getD_cons_succ, Cst.den, syso, syse, syio, sybo, List.map_nil, List.map_cons, B2.ofInts, B2.denI, B2.denB, if_true, Bool.false_eq_true, if_false, Nat.div_one, Nat.mul_one, Nat.add_zero, holds] at hc
  exact num22_any n w (hG _ (List.mem_singleton.2 rfl)).2.2)
def give_tree : Tree :=
 (.ret (.agg (.cons (.int .i64 (.var 0)) (.cons (.int .i64 (.var 1)) (.cons (.int .i64 (.var 2)) (.cons (.int .i64 (.var 3)) (.cons (.int .u32 (.var 4)) (.cons (.int .i64 (.var 5)) (.cons (.int .u32 (.var 6)) (.cons (.int .i64 (.var 7)) (.cons (.int .i64 (.var 8)) (.cons (.int .i64 (.var 9)) .nil))))))))))))
abbrev ydc_give : Con := ⟨59, [(.agg (.cons (.int .i64 (.var 0)) (.cons (.int .i64 (.var 1)) (.cons (.int .i64 (.var 2)) (.cons (.int .i64 (.var 3)) (.cons (.int .u32 (.var 4)) (.cons (.int .i64 (.var 5)) (.cons (.int .u32 (.var 6)) (.cons (.int .i64 (.var 7)) (.cons (.int .i64 (.var 8)) (.cons (.int .i64 (.var 9)) .nil)))))))))))], (.tt true), (.agg (.cons (.int .i64 (.var 0)) (.cons (.int .i64 (.var 1)) (.cons (.int .i64 (.var 2)) (.cons (.int .i64 (.var 3)) (.cons (.int .u32 (.var 4)) (.cons (.int .i64 (.var 5)) (.cons (.int .u32 (.var 6)) (.cons (.int .i64 (.var 7)) (.cons (.int .i64 (.var 8)) (.cons (.int .i64 (.var 9)) .nil))))))))))), ⟨10, 0, 0, 0⟩, none⟩
theorem give_w : walk Tryd.prog 203 ⟨[], syG, [], [], []⟩ [] .v ydc_give ydc_give.n 3000 = some give_tree := by kernel_rfl
theorem give_h (pe : Int) (pb : Int) (pt : Int) (pr : Int) (gm : Int) (gs : Int) (qm : Int) (qs : Int) (pp : Int) (pc : Int) (hc : holds (ydE [pe, pb, pt, pr, gm, gs, qm, qs, pp, pc] [] [] []) (.tt true)) (hty : patsTyp (ydE [pe, pb, pt, pr, gm, gs, qm, qs, pp, pc] [] [] []) [(.agg (.cons (.int .i64 (.var 0)) (.cons (.int .i64 (.var 1)) (.cons (.int .i64 (.var 2)) (.cons (.int .i64 (.var 3)) (.cons (.int .u32 (.var 4)) (.cons (.int .i64 (.var 5)) (.cons (.int .u32 (.var 6)) (.cons (.int .i64 (.var 7)) (.cons (.int .i64 (.var 8)) (.cons (.int .i64 (.var 9)) .nil)))))))))))]) : give_tree.holds (fun v_ => v_ = denV (ydE [pe, pb, pt, pr, gm, gs, qm, qs, pp, pc] [] [] []) b0 (.agg (.cons (.int .i64 (.var 0)) (.cons (.int .i64 (.var 1)) (.cons (.int .i64 (.var 2)) (.cons (.int .i64 (.var 3)) (.cons (.int .u32 (.var 4)) (.cons (.int .i64 (.var 5)) (.cons (.int .u32 (.var 6)) (.cons (.int .i64 (.var 7)) (.cons (.int .i64 (.var 8)) (.cons (.int .i64 (.var 9)) .nil)))))))))))) (ydE [pe, pb, pt, pr, gm, gs, qm, qs, pp, pc] [] [] []) := by
  simp only [Tree.holds, Sy.holds, AllN, Env.more, ydE, List.cons_append, List.nil_append, List.append_nil, denV, denI, denB, denL, I2.den, VOp.den, List.getD_cons_zero, List.getD_cons_succ, Cst.den, syso, syse, syio, sybo, List.map_nil, List.map_cons, B2.ofInts, B2.denI, B2.denB, if_true, Bool.false_eq_true, if_false, Nat.div_one, Nat.mul_one, Nat.add_zero, holds] at hc
  simp only [patsTyp, patTyp, patTypL, ydE, denV, denL, List.getD_cons_zero, List.getD_cons_succ, and_true, true_and] at hty
  unfold give_tree
  simp only [Tree.holds, Sy.holds, AllN, Env.more, ydE, List.cons_append, List.nil_append, List.append_nil, denV, denI, denB, denL, I2.den, VOp.den, List.getD_cons_zero, List.getD_cons_succ, Cst.den, syso, syse, syio, sybo, List.map_nil, List.map_cons, B2.ofInts, B2.denI, B2.denB, if_true, Bool.false_eq_true, if_false, Nat.div_one, Nat.mul_one, Nat.add_zero]
  all_goals first | omega | rfl | (simp only [Value.tuple.injEq, Value.agg.injEq, Value.int.injEq, Value.bool.injEq, Array.mk.injEq, List.cons.injEq, true_and, and_true]; omega) | (refine congrArg Value.bool (Bool.eq_iff_iff.2 ?_); simp only [beq_iff_eq, decide_eq_true_eq, true_iff, false_iff, Bool.false_eq_true, Bool.not_eq_true', Bool.and_eq_true, Bool.or_eq_true, decide_eq_false_iff_not]; omega)
theorem ydg_give : ydc_give.Good Tryd.prog syG (ydE [] [] [] []) := good_of_walk (Γ := ⟨[], syG, [], [], []⟩) (ρ := ydE [] [] [] []) sym give_w rfl (fun _ _ _ _ => ok_nil) (fun pe pb pt pr gm gs qm qs pp pc hc hty => give_h pe pb pt pr gm gs qm qs pp pc hc hty)
def sure22_tree : Tree :=
 (.br (.b2 .eq (.iapp 20 (.cons (.int .i64 (.lit (0))) (.cons (.int .i64 (.lit (0))) (.cons (.int .i64 (.lit (100))) (.cons (.int .i64 (.lit (0))) (.cons (.int .u32 (.lit (2147483648))) (.cons (.int .i64 (.lit (31))) (.cons (.int .u32 (.lit (2147483648))) (.cons (.int .i64 (.lit (31))) (.cons (.int .i64 (.lit (0))) (.cons (.int .i64 (.lit (50))) (.cons (.int .i64 (.lit (10))) .nil)))))))))))) (.lit (0)))
 (.br (.b2 .eq (.iapp 14 (.cons (.int .i64 (.lit (0))) (.cons (.int .i64 (.lit (0))) (.cons (.int .i64 (.lit (100))) (.cons (.int .i64 (.lit (0))) (.cons (.int .u32 (.lit (2147483648))) (.cons (.int .i64 (.lit (31))) (.cons (.int .u32 (.lit (2147483648))) (.cons (.int .i64 (.lit (31))) (.cons (.int .i64 (.lit (0))) (.cons (.int .i64 (.lit (50))) .nil))))))))))) (.lit (0)))
 (.br (.b2 .eq (.iapp 24 (.cons (.int .i64 (.lit (0))) (.cons (.int .i64 (.lit (0))) (.cons (.int .i64 (.lit (100))) (.cons (.int .i64 (.lit (0))) (.cons (.int .u32 (.lit (2147483648))) (.cons (.int .i64 (.lit (31))) (.cons (.int .u32 (.lit (2147483648))) (.cons (.int .i64 (.lit (31))) (.cons (.int .i64 (.lit (0))) (.cons (.int .i64 (.lit (50))) (.cons (.int .i64 (.lit (120))) .nil)))))))))))) (.lit (0)))
 (.br (.b2 .eq (.iapp 21 (.cons (.int .i64 (.lit (0))) (.cons (.int .i64 (.lit (0))) (.cons (.int .i64 (.lit (100))) (.cons (.int .i64 (.lit (0))) (.cons (.int .u32 (.lit (2147483648))) (.cons (.int .i64 (.lit (31))) (.cons (.int .u32 (.lit (2147483648))) (.cons (.int .i64 (.lit (31))) (.cons (.int .i64 (.lit (0))) (.cons (.int .i64 (.lit (50))) (.cons (.int .i64 (.lit (10))) .nil)))))))))))) (.lit (110)))
 (.br (.b2 .eq (.iapp 22 (.cons (.int .i64 (.lit (0))) (.cons (.int .i64 (.lit (0))) (.cons (.int .i64 (.lit (100))) (.cons (.int .i64 (.lit (0))) (.cons (.int .u32 (.lit (2147483648))) (.cons (.int .i64 (.lit (31))) (.cons (.int .u32 (.lit (2147483648))) (.cons (.int .i64 (.lit (31))) (.cons (.int .i64 (.lit (0))) (.cons (.int .i64 (.lit (50))) (.cons (.int .i64 (.lit (10))) .nil)))))))))))) (.lit (4)))
 (.br (.b2 .eq (.iapp 20 (.cons (.int .i64 (.lit (0))) (.cons (.int .i64 (.lit (0))) (.cons (.int .i64 (.lit (100))) (.cons (.int .i64 (.lit (0))) (.cons (.int .u32 (.lit (2147483648))) (.cons (.int .i64 (.lit (31))) (.cons (.int .u32 (.lit (2147483648))) (.cons (.int .i64 (.lit (31))) (.cons (.int .i64 (.lit (0))) (.cons (.int .i64 (.lit (50))) (.cons (.int .i64 (.lit (51))) .nil)))))))))))) (.lit (14)))
 (.br (.b2 .eq (.iapp 15 (.cons (.int .i64 (.lit (0))) (.cons (.int .i64 (.lit (0))) (.cons (.int .i64 (.lit (100))) (.cons (.int .i64 (.lit (0))) (.cons (.int .u32 (.lit (2147483648))) (.cons (.int .i64 (.lit (31))) (.cons (.int .u32 (.lit (2147483648))) (.cons (.int .i64 (.lit (31))) (.cons (.int .i64 (.lit (0))) (.cons (.int .i64 (.lit (50))) .nil))))))))))) (.lit (50)))
 (.br (.b2 .eq (.iapp 25 (.cons (.int .i64 (.lit (0))) (.cons (.int .i64 (.lit (0))) (.cons (.int .i64 (.lit (100))) (.cons (.int .i64 (.lit (0))) (.cons (.int .u32 (.lit (2147483648))) (.cons (.int .i64 (.lit (31))) (.cons (.int .u32 (.lit (2147483648))) (.cons (.int .i64 (.lit (31))) (.cons (.int .i64 (.lit (0))) (.cons (.int .i64 (.lit (50))) (.cons (.int .i64 (.lit (120))) .nil)))))))))))) (.lit (20)))
 (.ret (.bool (.b2 .eq (.iapp 24 (.cons (.int .i64 (.lit (0))) (.cons (.int .i64 (.lit (0))) (.cons (.int .i64 (.lit (100))) (.cons (.int .i64 (.lit (0))) (.cons (.int .u32 (.lit (2147483648))) (.cons (.int .i64 (.lit (31))) (.cons (.int .u32 (.lit (2147483648))) (.cons (.int .i64 (.lit (31))) (.cons (.int .i64 (.lit (0))) (.cons (.int .i64 (.lit (50))) (.cons (.int .i64 (.lit (151))) .nil)))))))))))) (.lit (14)))))
 (.ret (.bool (.tt false))))
 (.ret (.bool (.tt false))))
 (.ret (.bool (.tt false))))
 (.ret (.bool (.tt false))))
 (.ret (.bool (.tt false))))
 (.ret (.bool (.tt false))))
 (.ret (.bool (.tt false))))
 (.ret (.bool (.tt false))))
abbrev ydc_sure22 : Con := ⟨67, [], (.tt true), (.bool (.tt true)), ⟨0, 0, 0, 0⟩, none⟩
theorem sure22_w : walk Tryd.prog 203 ⟨[ybc_time, ybc_good, ycc_when, ydc_num], syG, [], [], []⟩ [] .v ydc_sure22 ydc_sure22.n 3000 = some sure22_tree := by kernel_rfl
theorem sure22_h  (hc : holds (ydE [] [] [] []) (.tt true)) (hty : patsTyp (ydE [] [] [] []) []) : sure22_tree.holds (fun v_ => v_ = denV (ydE [] [] [] []) b0 (.bool (.tt true))) (ydE [] [] [] []) := by
  simp only [Tree.holds, Sy.holds, AllN, Env.more, ydE, List.cons_append, List.nil_append, List.append_nil, denV, denI, denB, denL, I2.den, VOp.den, List.getD_cons_zero, List.getD_cons_succ, Cst.den, syso, syse, syio, sybo, List.map_nil, List.map_cons, B2.ofInts, B2.denI, B2.denB, if_true, Bool.false_eq_true, if_false, Nat.div_one, Nat.mul_one, Nat.add_zero, holds] at hc
  simp only [patsTyp, patTyp, patTypL, ydE, denV, denL, List.getD_cons_zero, List.getD_cons_succ, and_true, true_and] at hty
  unfold sure22_tree
  simp only [Tree.holds, Sy.holds, AllN, Env.more, ydE, List.cons_append, List.nil_append, List.append_nil, denV, denI, denB, denL, I2.den, VOp.den, List.getD_cons_zero, List.getD_cons_succ, Cst.den, syso, syse, syio, sybo, ydi_pge, ydi_gdv, ydi_tme, ydi_tmt, ydi_tmo, ydi_whe, ydi_whv, List.map_nil, List.map_cons, B2.ofInts, B2.denI, B2.denB, if_true, Bool.false_eq_true, if_false, Nat.div_one, Nat.mul_one, Nat.add_zero]
  have s1 := s_1
  have s2 := s_2
  have s3 := s_3
  have s4 := s_4
  have s5 := s_5
  have s6 := s_6
  have s7 := s_7
  have s8 := s_8
  refine ⟨fun h0 => ?_, fun h0 => ?_⟩
  ·
   refine ⟨fun h1 => ?_, fun h1 => ?_⟩
   ·
    refine ⟨fun h2 => ?_, fun h2 => ?_⟩
    ·
     refine ⟨fun h3 => ?_, fun h3 => ?_⟩
     ·
      refine ⟨fun h4 => ?_, fun h4 => ?_⟩
      ·
       refine ⟨fun h5 => ?_, fun h5 => ?_⟩
       ·
        refine ⟨fun h6 => ?_, fun h6 => ?_⟩
        ·
         refine ⟨fun h7 => ?_, fun h7 => ?_⟩
         ·
          first
          | (exfalso; omega)
          | (rw [s8]; rfl)
          | skip
         ·
          first
          | (exfalso; omega)
          | (rw [s8]; rfl)
          | skip
        ·
         first
         | (exfalso; omega)
         | (rw [s8]; rfl)
         | skip
       ·
        first
        | (exfalso; omega)
        | (rw [s8]; rfl)
        | skip
      ·
       first
       | (exfalso; omega)
       | (rw [s8]; rfl)
       | skip
     ·
      first
      | (exfalso; omega)
      | (rw [s8]; rfl)
      | skip
    ·
     first
     | (exfalso; omega)
     | (rw [s8]; rfl)
     | skip
   ·
    first
    | (exfalso; omega)
    | (rw [s8]; rfl)
    | skip
  ·
   first
   | (exfalso; omega)
   | (rw [s8]; rfl)
   | skip
theorem ydg_sure22 : ydc_sure22.Good Tryd.prog syG (ydE [] [] [] []) := good_of_walk (Γ := ⟨[ybc_time, ybc_good, ycc_when, ydc_num], syG, [], [], []⟩) (ρ := ydE [] [] [] []) sym sure22_w rfl (fun _ _ _ _ => (ok_cons (Con.Good.env (Con.Good.up (Con.Good.up ybg_time ycup rfl) ydup rfl) _ _ _ _) (ok_cons (Con.Good.env (Con.Good.up (Con.Good.up ybg_good ycup rfl) ydup rfl) _ _ _ _) (ok_cons (Con.Good.env (Con.Good.up ycg_when ydup rfl) _ _ _ _) (ok_cons (Con.Good.env ydg_num _ _ _ _) ok_nil))))) (fun hc hty => sure22_h  hc hty)
def wTells_tree : Tree :=
 (.need (.b2 .and (.b2 .and (.b2 .and (.b2 .le (.lit (-9223372036854775808)) (.var 0)) (.b2 .le (.var 0) (.lit (9223372036854775807)))) (.b2 .and (.b2 .and (.b2 .le (.lit (-9223372036854775808)) (.var 1)) (.b2 .le (.var 1) (.lit (9223372036854775807)))) (.b2 .and (.b2 .and (.b2 .le (.lit (-9223372036854775808)) (.var 2)) (.b2 .le (.var 2) (.lit (9223372036854775807)))) (.b2 .and (.b2 .and (.b2 .le (.lit (-9223372036854775808)) (.var 3)) (.b2 .le (.var 3) (.lit (9223372036854775807)))) (.b2 .and (.b2 .and (.b2 .le (.lit (0)) (.var 4)) (.b2 .le (.var 4) (.lit (4294967295)))) (.b2 .and (.b2 .and (.b2 .le (.lit (-9223372036854775808)) (.var 5)) (.b2 .le (.var 5) (.lit (9223372036854775807)))) (.b2 .and (.b2 .and (.b2 .le (.lit (0)) (.var 6)) (.b2 .le (.var 6) (.lit (4294967295)))) (.b2 .and (.b2 .and (.b2 .le (.lit (-9223372036854775808)) (.var 7)) (.b2 .le (.var 7) (.lit (9223372036854775807)))) (.b2 .and (.b2 .and (.b2 .le (.lit (-9223372036854775808)) (.var 8)) (.b2 .le (.var 8) (.lit (9223372036854775807)))) (.b2 .and (.b2 .le (.lit (-9223372036854775808)) (.var 9)) (.b2 .le (.var 9) (.lit (9223372036854775807))))))))))))) (.b2 .and (.b2 .le (.lit (-9223372036854775808)) (.var 10)) (.b2 .le (.var 10) (.lit (9223372036854775807)))))
 (.need (.b2 .and (.b2 .and (.b2 .and (.b2 .le (.lit (-9223372036854775808)) (.var 0)) (.b2 .le (.var 0) (.lit (9223372036854775807)))) (.b2 .and (.b2 .and (.b2 .le (.lit (-9223372036854775808)) (.var 1)) (.b2 .le (.var 1) (.lit (9223372036854775807)))) (.b2 .and (.b2 .and (.b2 .le (.lit (-9223372036854775808)) (.var 2)) (.b2 .le (.var 2) (.lit (9223372036854775807)))) (.b2 .and (.b2 .and (.b2 .le (.lit (-9223372036854775808)) (.var 3)) (.b2 .le (.var 3) (.lit (9223372036854775807)))) (.b2 .and (.b2 .and (.b2 .le (.lit (0)) (.var 4)) (.b2 .le (.var 4) (.lit (4294967295)))) (.b2 .and (.b2 .and (.b2 .le (.lit (-9223372036854775808)) (.var 5)) (.b2 .le (.var 5) (.lit (9223372036854775807)))) (.b2 .and (.b2 .and (.b2 .le (.lit (0)) (.var 6)) (.b2 .le (.var 6) (.lit (4294967295)))) (.b2 .and (.b2 .and (.b2 .le (.lit (-9223372036854775808)) (.var 7)) (.b2 .le (.var 7) (.lit (9223372036854775807)))) (.b2 .and (.b2 .and (.b2 .le (.lit (-9223372036854775808)) (.var 8)) (.b2 .le (.var 8) (.lit (9223372036854775807)))) (.b2 .and (.b2 .le (.lit (-9223372036854775808)) (.var 9)) (.b2 .le (.var 9) (.lit (9223372036854775807))))))))))))) (.b2 .and (.b2 .le (.lit (-9223372036854775808)) (.var 10)) (.b2 .le (.var 10) (.lit (9223372036854775807)))))
 (.need (.b2 .and (.b2 .and (.b2 .le (.lit (-9223372036854775808)) (.var 0)) (.b2 .le (.var 0) (.lit (9223372036854775807)))) (.b2 .and (.b2 .and (.b2 .le (.lit (-9223372036854775808)) (.var 1)) (.b2 .le (.var 1) (.lit (9223372036854775807)))) (.b2 .and (.b2 .and (.b2 .le (.lit (-9223372036854775808)) (.var 2)) (.b2 .le (.var 2) (.lit (9223372036854775807)))) (.b2 .and (.b2 .and (.b2 .le (.lit (-9223372036854775808)) (.var 3)) (.b2 .le (.var 3) (.lit (9223372036854775807)))) (.b2 .and (.b2 .and (.b2 .le (.lit (0)) (.var 4)) (.b2 .le (.var 4) (.lit (4294967295)))) (.b2 .and (.b2 .and (.b2 .le (.lit (-9223372036854775808)) (.var 5)) (.b2 .le (.var 5) (.lit (9223372036854775807)))) (.b2 .and (.b2 .and (.b2 .le (.lit (0)) (.var 6)) (.b2 .le (.var 6) (.lit (4294967295)))) (.b2 .and (.b2 .and (.b2 .le (.lit (-9223372036854775808)) (.var 7)) (.b2 .le (.var 7) (.lit (9223372036854775807)))) (.b2 .and (.b2 .and (.b2 .le (.lit (-9223372036854775808)) (.var 8)) (.b2 .le (.var 8) (.lit (9223372036854775807)))) (.b2 .and (.b2 .le (.lit (-9223372036854775808)) (.var 9)) (.b2 .le (.var 9) (.lit (9223372036854775807)))))))))))))
 (.need (.b2 .and (.b2 .and (.b2 .and (.b2 .le (.lit (-9223372036854775808)) (.var 0)) (.b2 .le (.var 0) (.lit (9223372036854775807)))) (.b2 .and (.b2 .and (.b2 .le (.lit (-9223372036854775808)) (.var 1)) (.b2 .le (.var 1) (.lit (9223372036854775807)))) (.b2 .and (.b2 .and (.b2 .le (.lit (-9223372036854775808)) (.var 2)) (.b2 .le (.var 2) (.lit (9223372036854775807)))) (.b2 .and (.b2 .and (.b2 .le (.lit (-9223372036854775808)) (.var 3)) (.b2 .le (.var 3) (.lit (9223372036854775807)))) (.b2 .and (.b2 .and (.b2 .le (.lit (0)) (.var 4)) (.b2 .le (.var 4) (.lit (4294967295)))) (.b2 .and (.b2 .and (.b2 .le (.lit (-9223372036854775808)) (.var 5)) (.b2 .le (.var 5) (.lit (9223372036854775807)))) (.b2 .and (.b2 .and (.b2 .le (.lit (0)) (.var 6)) (.b2 .le (.var 6) (.lit (4294967295)))) (.b2 .and (.b2 .and (.b2 .le (.lit (-9223372036854775808)) (.var 7)) (.b2 .le (.var 7) (.lit (9223372036854775807)))) (.b2 .and (.b2 .and (.b2 .le (.lit (-9223372036854775808)) (.var 8)) (.b2 .le (.var 8) (.lit (9223372036854775807)))) (.b2 .and (.b2 .le (.lit (-9223372036854775808)) (.var 9)) (.b2 .le (.var 9) (.lit (9223372036854775807))))))))))))) (.b2 .and (.b2 .le (.lit (-9223372036854775808)) (.var 11)) (.b2 .le (.var 11) (.lit (9223372036854775807)))))
 (.need (.b2 .and (.b2 .and (.b2 .and (.b2 .le (.lit (-9223372036854775808)) (.var 0)) (.b2 .le (.var 0) (.lit (9223372036854775807)))) (.b2 .and (.b2 .and (.b2 .le (.lit (-9223372036854775808)) (.var 1)) (.b2 .le (.var 1) (.lit (9223372036854775807)))) (.b2 .and (.b2 .and (.b2 .le (.lit (-9223372036854775808)) (.var 2)) (.b2 .le (.var 2) (.lit (9223372036854775807)))) (.b2 .and (.b2 .and (.b2 .le (.lit (-9223372036854775808)) (.var 3)) (.b2 .le (.var 3) (.lit (9223372036854775807)))) (.b2 .and (.b2 .and (.b2 .le (.lit (0)) (.var 4)) (.b2 .le (.var 4) (.lit (4294967295)))) (.b2 .and (.b2 .and (.b2 .le (.lit (-9223372036854775808)) (.var 5)) (.b2 .le (.var 5) (.lit (9223372036854775807)))) (.b2 .and (.b2 .and (.b2 .le (.lit (0)) (.var 6)) (.b2 .le (.var 6) (.lit (4294967295)))) (.b2 .and (.b2 .and (.b2 .le (.lit (-9223372036854775808)) (.var 7)) (.b2 .le (.var 7) (.lit (9223372036854775807)))) (.b2 .and (.b2 .and (.b2 .le (.lit (-9223372036854775808)) (.var 8)) (.b2 .le (.var 8) (.lit (9223372036854775807)))) (.b2 .and (.b2 .le (.lit (-9223372036854775808)) (.var 9)) (.b2 .le (.var 9) (.lit (9223372036854775807))))))))))))) (.b2 .and (.b2 .le (.lit (-9223372036854775808)) (.var 11)) (.b2 .le (.var 11) (.lit (9223372036854775807)))))
 (.need (.b2 .and (.b2 .and (.b2 .le (.lit (-9223372036854775808)) (.var 0)) (.b2 .le (.var 0) (.lit (9223372036854775807)))) (.b2 .and (.b2 .and (.b2 .le (.lit (-9223372036854775808)) (.var 1)) (.b2 .le (.var 1) (.lit (9223372036854775807)))) (.b2 .and (.b2 .and (.b2 .le (.lit (-9223372036854775808)) (.var 2)) (.b2 .le (.var 2) (.lit (9223372036854775807)))) (.b2 .and (.b2 .and (.b2 .le (.lit (-9223372036854775808)) (.var 3)) (.b2 .le (.var 3) (.lit (9223372036854775807)))) (.b2 .and (.b2 .and (.b2 .le (.lit (0)) (.var 4)) (.b2 .le (.var 4) (.lit (4294967295)))) (.b2 .and (.b2 .and (.b2 .le (.lit (-9223372036854775808)) (.var 5)) (.b2 .le (.var 5) (.lit (9223372036854775807)))) (.b2 .and (.b2 .and (.b2 .le (.lit (0)) (.var 6)) (.b2 .le (.var 6) (.lit (4294967295)))) (.b2 .and (.b2 .and (.b2 .le (.lit (-9223372036854775808)) (.var 7)) (.b2 .le (.var 7) (.lit (9223372036854775807)))) (.b2 .and (.b2 .and (.b2 .le (.lit (-9223372036854775808)) (.var 8)) (.b2 .le (.var 8) (.lit (9223372036854775807)))) (.b2 .and (.b2 .le (.lit (-9223372036854775808)) (.var 9)) (.b2 .le (.var 9) (.lit (9223372036854775807)))))))))))))
 (.br (.not (.bapp 1 (.cons (.int .i64 (.var 0)) (.cons (.int .i64 (.var 1)) (.cons (.int .i64 (.var 2)) (.cons (.int .i64 (.var 3)) (.cons (.int .u32 (.var 4)) (.cons (.int .i64 (.var 5)) (.cons (.int .u32 (.var 6)) (.cons (.int .i64 (.var 7)) (.cons (.int .i64 (.var 8)) (.cons (.int .i64 (.var 9)) .nil))))))))))))
 (.br (.b2 .eq (.iapp 14 (.cons (.int .i64 (.var 0)) (.cons (.int .i64 (.var 1)) (.cons (.int .i64 (.var 2)) (.cons (.int .i64 (.var 3)) (.cons (.int .u32 (.var 4)) (.cons (.int .i64 (.var 5)) (.cons (.int .u32 (.var 6)) (.cons (.int .i64 (.var 7)) (.cons (.int .i64 (.var 8)) (.cons (.int .i64 (.var 9)) .nil))))))))))) (.lit (1)))
 (.br (.b2 .eq (.iapp 15 (.cons (.int .i64 (.var 0)) (.cons (.int .i64 (.var 1)) (.cons (.int .i64 (.var 2)) (.cons (.int .i64 (.var 3)) (.cons (.int .u32 (.var 4)) (.cons (.int .i64 (.var 5)) (.cons (.int .u32 (.var 6)) (.cons (.int .i64 (.var 7)) (.cons (.int .i64 (.var 8)) (.cons (.int .i64 (.var 9)) .nil))))))))))) (.lit (0)))
 (.ret (.bool (.tt true)))
 (.ret (.bool (.tt false))))
 (.ret (.bool (.tt false))))
 (.br (.b2 .eq (.iapp 14 (.cons (.int .i64 (.var 0)) (.cons (.int .i64 (.var 1)) (.cons (.int .i64 (.var 2)) (.cons (.int .i64 (.var 3)) (.cons (.int .u32 (.var 4)) (.cons (.int .i64 (.var 5)) (.cons (.int .u32 (.var 6)) (.cons (.int .i64 (.var 7)) (.cons (.int .i64 (.var 8)) (.cons (.int .i64 (.var 9)) .nil))))))))))) (.lit (0)))
 (.br (.b2 .eq (.iapp 15 (.cons (.int .i64 (.var 0)) (.cons (.int .i64 (.var 1)) (.cons (.int .i64 (.var 2)) (.cons (.int .i64 (.var 3)) (.cons (.int .u32 (.var 4)) (.cons (.int .i64 (.var 5)) (.cons (.int .u32 (.var 6)) (.cons (.int .i64 (.var 7)) (.cons (.int .i64 (.var 8)) (.cons (.int .i64 (.var 9)) .nil))))))))))) (.wrap .i64 (.i2 .add (.var 1) (.var 9))))
 (.ret (.bool (.tt true)))
 (.ret (.bool (.tt false))))
 (.ret (.bool (.tt false)))))))))))
abbrev ydc_wTells : Con := ⟨8, [(.agg (.cons (.int .i64 (.var 0)) (.cons (.int .i64 (.var 1)) (.cons (.int .i64 (.var 2)) (.cons (.int .i64 (.var 3)) (.cons (.int .u32 (.var 4)) (.cons (.int .i64 (.var 5)) (.cons (.int .u32 (.var 6)) (.cons (.int .i64 (.var 7)) (.cons (.int .i64 (.var 8)) (.cons (.int .i64 (.var 9)) .nil))))))))))), (.int .i64 (.var 10)), (.int .i64 (.var 11))], (.b2 .and (.b2 .and (.b2 .and (.b2 .le (.lit (-9223372036854775808)) (.var 0)) (.b2 .le (.var 0) (.lit (9223372036854775807)))) (.b2 .and (.b2 .and (.b2 .le (.lit (-9223372036854775808)) (.var 1)) (.b2 .le (.var 1) (.lit (9223372036854775807)))) (.b2 .and (.b2 .and (.b2 .le (.lit (-9223372036854775808)) (.var 2)) (.b2 .le (.var 2) (.lit (9223372036854775807)))) (.b2 .and (.b2 .and (.b2 .le (.lit (-9223372036854775808)) (.var 3)) (.b2 .le (.var 3) (.lit (9223372036854775807)))) (.b2 .and (.b2 .and (.b2 .le (.lit (0)) (.var 4)) (.b2 .le (.var 4) (.lit (4294967295)))) (.b2 .and (.b2 .and (.b2 .le (.lit (-9223372036854775808)) (.var 5)) (.b2 .le (.var 5) (.lit (9223372036854775807)))) (.b2 .and (.b2 .and (.b2 .le (.lit (0)) (.var 6)) (.b2 .le (.var 6) (.lit (4294967295)))) (.b2 .and (.b2 .and (.b2 .le (.lit (-9223372036854775808)) (.var 7)) (.b2 .le (.var 7) (.lit (9223372036854775807)))) (.b2 .and (.b2 .and (.b2 .le (.lit (-9223372036854775808)) (.var 8)) (.b2 .le (.var 8) (.lit (9223372036854775807)))) (.b2 .and (.b2 .le (.lit (-9223372036854775808)) (.var 9)) (.b2 .le (.var 9) (.lit (9223372036854775807))))))))))))) (.b2 .and (.b2 .and (.b2 .le (.lit (-9223372036854775808)) (.var 10)) (.b2 .le (.var 10) (.lit (9223372036854775807)))) (.b2 .and (.b2 .le (.lit (-9223372036854775808)) (.var 11)) (.b2 .le (.var 11) (.lit (9223372036854775807)))))), (.bool (.tt true)), ⟨12, 0, 0, 0⟩, none⟩
theorem wTells_w : walk Tryd.prog 203 ⟨[ydc_give, ydc_num, ybc_time, ybc_rtime, ybc_good, ycc_when, ycc_rwhen, ybc_pmay, ydc_sure22], syG, [], [], []⟩ [] .v ydc_wTells ydc_wTells.n 3000 = some wTells_tree := by kernel_rfl
theorem wTells_h (pe : Int) (pb : Int) (pt : Int) (pr : Int) (gm : Int) (gs : Int) (qm : Int) (qs : Int) (pp : Int) (pc : Int) (k : Int) (t : Int) (hc : holds (ydE [pe, pb, pt, pr, gm, gs, qm, qs, pp, pc, k, t] [] [] []) (.b2 .and (.b2 .and (.b2 .and (.b2 .le (.lit (-9223372036854775808)) (.var 0)) (.b2 .le (.var 0) (.lit (9223372036854775807)))) (.b2 .and (.b2 .and (.b2 .le (.lit (-9223372036854775808)) (.var 1)) (.b2 .le (.var 1) (.lit (9223372036854775807)))) (.b2 .and (.b2 .and (.b2 .le (.lit (-9223372036854775808)) (.var 2)) (.b2 .le (.var 2) (.lit (9223372036854775807)))) (.b2 .and (.b2 .and (.b2 .le (.lit (-9223372036854775808)) (.var 3)) (.b2 .le (.var 3) (.lit (9223372036854775807)))) (.b2 .and (.b2 .and (.b2 .le (.lit (0)) (.var 4)) (.b2 .le (.var 4) (.lit (4294967295)))) (.b2 .and (.b2 .and (.b2 .le (.lit (-9223372036854775808)) (.var 5)) (.b2 .le (.var 5) (.lit (9223372036854775807)))) (.b2 .and (.b2 .and (.b2 .le (.lit (0)) (.var 6)) (.b2 .le (.var 6) (.lit (4294967295)))) (.b2 .and (.b2 .and (.b2 .le (.lit (-9223372036854775808)) (.var 7)) (.b2 .le (.var 7) (.lit (9223372036854775807)))) (.b2 .and (.b2 .and (.b2 .le (.lit (-9223372036854775808)) (.var 8)) (.b2 .le (.var 8) (.lit (9223372036854775807)))) (.b2 .and (.b2 .le (.lit (-9223372036854775808)) (.var 9)) (.b2 .le (.var 9) (.lit (9223372036854775807))))))))))))) (.b2 .and (.b2 .and (.b2 .le (.lit (-9223372036854775808)) (.var 10)) (.b2 .le (.var 10) (.lit (9223372036854775807)))) (.b2 .and (.b2 .le (.lit (-9223372036854775808)) (.var 11)) (.b2 .le (.var 11) (.lit (9223372036854775807))))))) (hty : patsTyp (ydE [pe, pb, pt, pr, gm, gs, qm, qs, pp, pc, k, t] [] [] []) [(.agg (.cons (.int .i64 (.var 0)) (.cons (.int .i64 (.var 1)) (.cons (.int .i64 (.var 2)) (.cons (.int .i64 (.var 3)) (.cons (.int .u32 (.var 4)) (.cons (.int .i64 (.var 5)) (.cons (.int .u32 (.var 6)) (.cons (.int .i64 (.var 7)) (.cons (.int .i64 (.var 8)) (.cons (.int .i64 (.var 9)) .nil))))))))))), (.int .i64 (.var 10)), (.int .i64 (.var 11))]) : wTells_tree.holds (fun v_ => v_ = denV (ydE [pe, pb, pt, pr, gm, gs, qm, qs, pp, pc, k, t] [] [] []) b0 (.bool (.tt true))) (ydE [pe, pb, pt, pr, gm, gs, qm, qs, pp, pc, k, t] [] [] []) := by
  simp only [Tree.holds, Sy.holds, AllN, Env.more, ydE, List.cons_append, List.nil_append, List.append_nil, denV, denI, denB, denL, I2.den, VOp.den, List.getD_cons_zero, List.getD_cons_succ, Cst.den, syso, syse, syio, sybo, List.map_nil, List.map_cons, B2.ofInts, B2.denI, B2.denB, if_true, Bool.false_eq_true, if_false, Nat.div_one, Nat.mul_one, Nat.add_zero, holds] at hc
  simp only [patsTyp, patTyp, patTypL, ydE, denV, denL, List.getD_cons_zero, List.getD_cons_succ, and_true, true_and] at hty
  unfold wTells_tree
  simp only [Tree.holds, Sy.holds, AllN, Env.more, ydE, List.cons_append, List.nil_append, List.append_nil, denV, denI, denB, denL, I2.den, VOp.den, List.getD_cons_zero, List.getD_cons_succ, Cst.den, syso, syse, syio, sybo, ydi_pge, ydi_gdv, ydb_pm, List.map_nil, List.map_cons, B2.ofInts, B2.denI, B2.denB, if_true, Bool.false_eq_true, if_false, Nat.div_one, Nat.mul_one, Nat.add_zero]
  refine ⟨?_, fun h0 => ?_⟩
  ·
   first
   | exact True.intro
   | exact hc.1
   | exact ⟨hc.1, hc.2.1⟩
   | exact ⟨hc.1, hc.2.2⟩
   | omega
  ·
   refine ⟨?_, fun h1 => ?_⟩
   ·
    first
    | exact True.intro
    | exact hc.1
    | exact ⟨hc.1, hc.2.1⟩
    | exact ⟨hc.1, hc.2.2⟩
    | omega
   ·
    refine ⟨?_, fun h2 => ?_⟩
    ·
     first
     | exact True.intro
     | exact hc.1
     | exact ⟨hc.1, hc.2.1⟩
     | exact ⟨hc.1, hc.2.2⟩
     | omega
    ·
     refine ⟨?_, fun h3 => ?_⟩
     ·
      first
      | exact True.intro
      | exact hc.1
      | exact ⟨hc.1, hc.2.1⟩
      | exact ⟨hc.1, hc.2.2⟩
      | omega
     ·
      refine ⟨?_, fun h4 => ?_⟩
      ·
       first
       | exact True.intro
       | exact hc.1
       | exact ⟨hc.1, hc.2.1⟩
       | exact ⟨hc.1, hc.2.2⟩
       | omega
      ·
       refine ⟨?_, fun h5 => ?_⟩
       ·
        first
        | exact True.intro
        | exact hc.1
        | exact ⟨hc.1, hc.2.1⟩
        | exact ⟨hc.1, hc.2.2⟩
        | omega
       ·
        refine ⟨fun h6 => ?_, fun h6 => ?_⟩
        ·
         refine ⟨fun h7 => ?_, fun h7 => ?_⟩
         ·
          refine ⟨fun h8 => ?_, fun h8 => ?_⟩
          ·
           first
           | exact True.intro
           | rfl
           | (by_cases hp : pgP pe pb pt pr gm gs qm qs pp pc
              · have e1 := pgE_y hp
                have e2 := gd_y hp
                have e3 := decide_eq_true hp
                have hq := pg_bd pe pb pt pr gm gs qm qs pp pc
                have w1 := wr_i64 (pb + pc)
                first
                | (exfalso; omega)
                | exact absurd e3 (by assumption)
                | skip
              · have e1 := pgE_n hp
                have e2 := gd_n hp
                have e3 := decide_eq_false hp
                first
                | (exfalso; omega)
                | exact absurd (of_decide_eq_true (by assumption)) hp
                | exact absurd (of_decide_eq_true (Decidable.of_not_not (by assumption))) hp
                | skip)
          ·
           first
           | exact True.intro
           | rfl
           | (by_cases hp : pgP pe pb pt pr gm gs qm qs pp pc
              · have e1 := pgE_y hp
                have e2 := gd_y hp
                have e3 := decide_eq_true hp
                have hq := pg_bd pe pb pt pr gm gs qm qs pp pc
                have w1 := wr_i64 (pb + pc)
                first
                | (exfalso; omega)
                | exact absurd e3 (by assumption)
                | skip
              · have e1 := pgE_n hp
                have e2 := gd_n hp
                have e3 := decide_eq_false hp
                first
                | (exfalso; omega)
                | exact absurd (of_decide_eq_true (by assumption)) hp
                | exact absurd (of_decide_eq_true (Decidable.of_not_not (by assumption))) hp
                | skip)
         ·
          first
          | exact True.intro
          | rfl
          | (by_cases hp : pgP pe pb pt pr gm gs qm qs pp pc
             · have e1 := pgE_y hp
               have e2 := gd_y hp
               have e3 := decide_eq_true hp
               have hq := pg_bd pe pb pt pr gm gs qm qs pp pc
               have w1 := wr_i64 (pb + pc)
               first
               | (exfalso; omega)
               | exact absurd e3 (by assumption)
               | skip
             · have e1 := pgE_n hp
               have e2 := gd_n hp
               have e3 := decide_eq_false hp
               first
               | (exfalso; omega)
               | exact absurd (of_decide_eq_true (by assumption)) hp
               | exact absurd (of_decide_eq_true (Decidable.of_not_not (by assumption))) hp
               | skip)
        ·
         refine ⟨fun h9 => ?_, fun h9 => ?_⟩
         ·
          refine ⟨fun h10 => ?_, fun h10 => ?_⟩
          ·
           first
           | exact True.intro
           | rfl
           | (by_cases hp : pgP pe pb pt pr gm gs qm qs pp pc
              · have e1 := pgE_y hp
                have e2 := gd_y hp
                have e3 := decide_eq_true hp
                have hq := pg_bd pe pb pt pr gm gs qm qs pp pc
                have w1 := wr_i64 (pb + pc)
                first
                | (exfalso; omega)
                | exact absurd e3 (by assumption)
                | skip
              · have e1 := pgE_n hp
                have e2 := gd_n hp
                have e3 := decide_eq_false hp
                first
                | (exfalso; omega)
                | exact absurd (of_decide_eq_true (by assumption)) hp
                | exact absurd (of_decide_eq_true (Decidable.of_not_not (by assumption))) hp
                | skip)
          ·
           first
           | exact True.intro
           | rfl
           | (by_cases hp : pgP pe pb pt pr gm gs qm qs pp pc
              · have e1 := pgE_y hp
                have e2 := gd_y hp
                have e3 := decide_eq_true hp
                have hq := pg_bd pe pb pt pr gm gs qm qs pp pc
                have w1 := wr_i64 (pb + pc)
                first
                | (exfalso; omega)
                | exact absurd e3 (by assumption)
                | skip
              · have e1 := pgE_n hp
                have e2 := gd_n hp
                have e3 := decide_eq_false hp
                first
                | (exfalso; omega)
                | exact absurd (of_decide_eq_true (by assumption)) hp
                | exact absurd (of_decide_eq_true (Decidable.of_not_not (by assumption))) hp
                | skip)
         ·
          first
          | exact True.intro
          | rfl
          | (by_cases hp : pgP pe pb pt pr gm gs qm qs pp pc
             · have e1 := pgE_y hp
               have e2 := gd_y hp
               have e3 := decide_eq_true hp
               have hq := pg_bd pe pb pt pr gm gs qm qs pp pc
               have w1 := wr_i64 (pb + pc)
               first
               | (exfalso; omega)
               | exact absurd e3 (by assumption)
               | skip
             · have e1 := pgE_n hp
               have e2 := gd_n hp
               have e3 := decide_eq_false hp
               first
               | (exfalso; omega)
               | exact absurd (of_decide_eq_true (by assumption)) hp
               | exact absurd (of_decide_eq_true (Decidable.of_not_not (by assumption))) hp
               | skip)
theorem ydg_wTells : ydc_wTells.Good Tryd.prog syG (ydE [] [] [] []) := good_of_walk (Γ := ⟨[ydc_give, ydc_num, ybc_time, ybc_rtime, ybc_good, ycc_when, ycc_rwhen, ybc_pmay, ydc_sure22], syG, [], [], []⟩) (ρ := ydE [] [] [] []) sym wTells_w rfl (fun _ _ _ _ => (ok_cons (Con.Good.env ydg_give _ _ _ _) (ok_cons (Con.Good.env ydg_num _ _ _ _) (ok_cons (Con.Good.env (Con.Good.up (Con.Good.up ybg_time ycup rfl) ydup rfl) _ _ _ _) (ok_cons (Con.Good.env (Con.Good.up (Con.Good.up ybg_rtime ycup rfl) ydup rfl) _ _ _ _) (ok_cons (Con.Good.env (Con.Good.up (Con.Good.up ybg_good ycup rfl) ydup rfl) _ _ _ _) (ok_cons (Con.Good.env (Con.Good.up ycg_when ydup rfl) _ _ _ _) (ok_cons (Con.Good.env (Con.Good.up ycg_rwhen ydup rfl) _ _ _ _) (ok_cons (Con.Good.env (Con.Good.up (Con.Good.up ybg_pmay ycup rfl) ydup rfl) _ _ _ _) (ok_cons (Con.Good.env ydg_sure22 _ _ _ _) ok_nil)))))))))) (fun pe pb pt pr gm gs qm qs pp pc k t hc hty => wTells_h pe pb pt pr gm gs qm qs pp pc k t hc hty)
end Go.Proofs.YtbgmbbkmadkhgaaDoor
