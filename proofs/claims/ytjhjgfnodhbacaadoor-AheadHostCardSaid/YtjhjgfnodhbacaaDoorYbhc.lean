/-
  Layer 22 by the second engine: pages and their times.
-/
import Derived.Test.YtjhjgfnodhbacaaDoorSychc
import Derived.Test.YtjhjgfnodhbacaaDoorYahc
import Derived.Test.YtjhjgfnodhbacaaDoorE00hc
namespace Go.Proofs.YtjhjgfnodhbacaaDoor
open Go.RowKit Go.Extern.Stop Go.Stop Go.Extern Go.Proofs.YtjhjgfnodhbacaaDoor.Sy
set_option linter.unusedVariables false
set_option linter.unusedSimpArgs false
noncomputable def ybI : Nat → List Value → Int
  | i, l => yaI i l
noncomputable def ybB : Nat → List Value → Bool
  | i, l => yaB i l
noncomputable def ybV : Nat → List Value → Value
  | i, l => yaV i l
noncomputable abbrev ybE (iv : List Int) (bv : List Bool) (vv : List Value) (sv : List ByteArray) : Env := { iv := iv, bv := bv, vv := vv, sv := sv, fi := ybI, fb := ybB, fv := ybV, et := 229 }
set_option maxHeartbeats 8000000 in
theorem ybup : Agree 26 3 0 (yaE [] [] [] []) (ybE [] [] [] []) := ⟨rfl, (by
    intro f hf
    funext l
    show ybI f l = yaI f l
    unfold ybI
    split <;> first | rfl | omega), (by
    intro f hf
    funext l
    show ybB f l = yaB f l
    unfold ybB
    split <;> first | rfl | omega), (by
    intro f hf
    funext l
    show ybV f l = yaV f l
    unfold ybV
    split <;> first | rfl | omega)⟩
theorem ybi_sz (k1 : IntKind) (a : Int) : ybI 0 [.int k1 a] = szE a := rfl
theorem ybi_sa (k1 : IntKind) (a : Int) : ybI 1 [.int k1 a] = satE a := rfl
theorem ybi_nv (k1 : IntKind) (a : Int) : ybI 2 [.int k1 a] = svE a := rfl
theorem ybi_ne (k1 : IntKind) (a : Int) : ybI 3 [.int k1 a] = erE a := rfl
theorem ybi_msn (k1 : IntKind) (a : Int) (k2 : IntKind) (b : Int) (k3 : IntKind) (c : Int) : ybI 8 [.int k1 a, .int k2 b, .int k3 c] = msN a b c := rfl
theorem ybi_mse (k1 : IntKind) (a : Int) (k2 : IntKind) (b : Int) (k3 : IntKind) (c : Int) : ybI 9 [.int k1 a, .int k2 b, .int k3 c] = msE a b c := rfl
theorem ybi_up (k1 : IntKind) (g : Int) (k2 : IntKind) (r : Int) : ybI 10 [.int k1 g, .int k2 r] = upK (g * r) := rfl
theorem ybi_hv (k1 : IntKind) (n : Int) (k2 : IntKind) (s : Int) : ybI 11 [.int k1 n, .int k2 s] = n / 2 ^ s.toNat := rfl
theorem ybi_fe (k1 : IntKind) (a : Int) (k2 : IntKind) (s : Int) : ybI 13 [.int k1 a, .int k2 s] = feE a s := rfl
theorem ybi_pge (k1 : IntKind) (e : Int) (k2 : IntKind) (b : Int) (k3 : IntKind) (t : Int) (k4 : IntKind) (r : Int) (k5 : IntKind) (gm : Int) (k6 : IntKind) (gs : Int) (k7 : IntKind) (pm : Int) (k8 : IntKind) (ps : Int) (k9 : IntKind) (p : Int) (k10 : IntKind) (c : Int) : ybI 14 [.int k1 e, .int k2 b, .int k3 t, .int k4 r, .int k5 gm, .int k6 gs, .int k7 pm, .int k8 ps, .int k9 p, .int k10 c] = pgE e b t r gm gs pm ps p c := rfl
theorem ybi_gdv (k1 : IntKind) (e : Int) (k2 : IntKind) (b : Int) (k3 : IntKind) (t : Int) (k4 : IntKind) (r : Int) (k5 : IntKind) (gm : Int) (k6 : IntKind) (gs : Int) (k7 : IntKind) (pm : Int) (k8 : IntKind) (ps : Int) (k9 : IntKind) (p : Int) (k10 : IntKind) (c : Int) : ybI 15 [.int k1 e, .int k2 b, .int k3 t, .int k4 r, .int k5 gm, .int k6 gs, .int k7 pm, .int k8 ps, .int k9 p, .int k10 c] = gdV e b t r gm gs pm ps p c := rfl
theorem ybi_atv (k1 : IntKind) (t : Int) (k2 : IntKind) (a : Int) (k3 : IntKind) (s : Int) (k4 : IntKind) (g : Int) : ybI 16 [.int k1 t, .int k2 a, .int k3 s, .int k4 g] = atV t a s g := rfl
theorem ybi_ate (k1 : IntKind) (t : Int) (k2 : IntKind) (a : Int) (k3 : IntKind) (s : Int) (k4 : IntKind) (g : Int) : ybI 17 [.int k1 t, .int k2 a, .int k3 s, .int k4 g] = atE t a s g := rfl
theorem ybi_bnv (k1 : IntKind) (r : Int) (k2 : IntKind) (a : Int) (k3 : IntKind) (s : Int) (k4 : IntKind) (p : Int) (k5 : IntKind) (g : Int) : ybI 18 [.int k1 r, .int k2 a, .int k3 s, .int k4 p, .int k5 g] = bnV r a s p g := rfl
theorem ybi_bne (k1 : IntKind) (a : Int) (k2 : IntKind) (s : Int) (k3 : IntKind) (g : Int) : ybI 19 [.int k1 a, .int k2 s, .int k3 g] = bnE a s g := rfl
theorem ybi_tme (k1 : IntKind) (e : Int) (k2 : IntKind) (b : Int) (k3 : IntKind) (t : Int) (k4 : IntKind) (r : Int) (k5 : IntKind) (gm : Int) (k6 : IntKind) (gs : Int) (k7 : IntKind) (pm : Int) (k8 : IntKind) (ps : Int) (k9 : IntKind) (p : Int) (k10 : IntKind) (c : Int) (k11 : IntKind) (k : Int) : ybI 20 [.int k1 e, .int k2 b, .int k3 t, .int k4 r, .int k5 gm, .int k6 gs, .int k7 pm, .int k8 ps, .int k9 p, .int k10 c, .int k11 k] = tmE e b t r gm gs pm ps p c k := rfl
theorem ybi_tmt (k1 : IntKind) (e : Int) (k2 : IntKind) (b : Int) (k3 : IntKind) (t : Int) (k4 : IntKind) (r : Int) (k5 : IntKind) (gm : Int) (k6 : IntKind) (gs : Int) (k7 : IntKind) (pm : Int) (k8 : IntKind) (ps : Int) (k9 : IntKind) (p : Int) (k10 : IntKind) (c : Int) (k11 : IntKind) (k : Int) : ybI 21 [.int k1 e, .int k2 b, .int k3 t, .int k4 r, .int k5 gm, .int k6 gs, .int k7 pm, .int k8 ps, .int k9 p, .int k10 c, .int k11 k] = tmT e b t r gm gs pm ps p c k := rfl
theorem ybi_tmo (k1 : IntKind) (e : Int) (k2 : IntKind) (b : Int) (k3 : IntKind) (t : Int) (k4 : IntKind) (r : Int) (k5 : IntKind) (gm : Int) (k6 : IntKind) (gs : Int) (k7 : IntKind) (pm : Int) (k8 : IntKind) (ps : Int) (k9 : IntKind) (p : Int) (k10 : IntKind) (c : Int) (k11 : IntKind) (k : Int) : ybI 22 [.int k1 e, .int k2 b, .int k3 t, .int k4 r, .int k5 gm, .int k6 gs, .int k7 pm, .int k8 ps, .int k9 p, .int k10 c, .int k11 k] = tmO e b t r gm gs pm ps p c k := rfl
theorem ybb_fm (k1 : IntKind) (a : Int) (k2 : IntKind) (s : Int) : ybB 0 [.int k1 a, .int k2 s] = decide (fmP a s) := rfl
theorem ybb_pm (k1 : IntKind) (e : Int) (k2 : IntKind) (b : Int) (k3 : IntKind) (t : Int) (k4 : IntKind) (r : Int) (k5 : IntKind) (gm : Int) (k6 : IntKind) (gs : Int) (k7 : IntKind) (pm : Int) (k8 : IntKind) (ps : Int) (k9 : IntKind) (p : Int) (k10 : IntKind) (c : Int) : ybB 1 [.int k1 e, .int k2 b, .int k3 t, .int k4 r, .int k5 gm, .int k6 gs, .int k7 pm, .int k8 ps, .int k9 p, .int k10 c] = decide (pgP e b t r gm gs pm ps p c) := rfl
def pcheck_tree : Tree :=
 (.br (.b2 .lt (.var 0) (.lit (0)))
 (.ret (.iface 229 (.int .i64 (.lit (1)))))
 (.br (.b2 .lt (.lit (1099511627776)) (.var 0))
 (.ret (.iface 229 (.int .i64 (.lit (1)))))
 (.br (.b2 .lt (.var 1) (.lit (0)))
 (.ret (.iface 229 (.int .i64 (.lit (1)))))
 (.br (.b2 .lt (.lit (1152921504606846976)) (.var 1))
 (.ret (.iface 229 (.int .i64 (.lit (1)))))
 (.need (.b2 .and (.b2 .le (.lit (-9223372036854775808)) (.var 2)) (.b2 .le (.var 2) (.lit (9223372036854775807))))
 (.br (.b2 .le (.lit (4611686018427387904)) (.iapp 0 (.cons (.int .i64 (.var 2)) .nil)))
 (.ret (.iface 229 (.int .i64 (.lit (1)))))
 (.br (.b2 .lt (.var 3) (.lit (0)))
 (.ret (.iface 229 (.int .i64 (.lit (1)))))
 (.br (.b2 .lt (.lit (2305843009213693952)) (.var 3))
 (.ret (.iface 229 (.int .i64 (.lit (1)))))
 (.br (.b2 .lt (.var 8) (.lit (0)))
 (.ret (.iface 229 (.int .i64 (.lit (1)))))
 (.br (.b2 .lt (.lit (2097152)) (.var 8))
 (.ret (.iface 229 (.int .i64 (.lit (1)))))
 (.br (.b2 .lt (.var 9) (.lit (1)))
 (.ret (.iface 229 (.int .i64 (.lit (1)))))
 (.br (.b2 .lt (.lit (1125899906842624)) (.var 9))
 (.ret (.iface 229 (.int .i64 (.lit (1)))))
 (.need (.b2 .and (.b2 .and (.b2 .le (.lit (0)) (.var 4)) (.b2 .le (.var 4) (.lit (4294967295)))) (.b2 .and (.b2 .le (.lit (-9223372036854775808)) (.var 5)) (.b2 .le (.var 5) (.lit (9223372036854775807)))))
 (.br (.not (.b2 .eq (.iapp 13 (.cons (.int .u32 (.var 4)) (.cons (.int .i64 (.var 5)) .nil))) (.lit (0))))
 (.ret (.iface 229 (.int .i64 (.lit (1)))))
 (.need (.b2 .and (.b2 .and (.b2 .le (.lit (0)) (.var 6)) (.b2 .le (.var 6) (.lit (4294967295)))) (.b2 .and (.b2 .le (.lit (-9223372036854775808)) (.var 7)) (.b2 .le (.var 7) (.lit (9223372036854775807)))))
 (.br (.not (.b2 .eq (.iapp 13 (.cons (.int .u32 (.var 6)) (.cons (.int .i64 (.var 7)) .nil))) (.lit (0))))
 (.ret (.iface 229 (.int .i64 (.lit (1)))))
 (.ret (.cst .nilI))))))))))))))))))
abbrev ybc_pcheck : Con := ⟨73, [(.agg (.cons (.int .i64 (.var 0)) (.cons (.int .i64 (.var 1)) (.cons (.int .i64 (.var 2)) (.cons (.int .i64 (.var 3)) (.cons (.int .u32 (.var 4)) (.cons (.int .i64 (.var 5)) (.cons (.int .u32 (.var 6)) (.cons (.int .i64 (.var 7)) (.cons (.int .i64 (.var 8)) (.cons (.int .i64 (.var 9)) .nil)))))))))))], (.b2 .and (.b2 .and (.b2 .le (.lit (-9223372036854775808)) (.var 0)) (.b2 .le (.var 0) (.lit (9223372036854775807)))) (.b2 .and (.b2 .and (.b2 .le (.lit (-9223372036854775808)) (.var 1)) (.b2 .le (.var 1) (.lit (9223372036854775807)))) (.b2 .and (.b2 .and (.b2 .le (.lit (-9223372036854775808)) (.var 2)) (.b2 .le (.var 2) (.lit (9223372036854775807)))) (.b2 .and (.b2 .and (.b2 .le (.lit (-9223372036854775808)) (.var 3)) (.b2 .le (.var 3) (.lit (9223372036854775807)))) (.b2 .and (.b2 .and (.b2 .le (.lit (0)) (.var 4)) (.b2 .le (.var 4) (.lit (4294967295)))) (.b2 .and (.b2 .and (.b2 .le (.lit (-9223372036854775808)) (.var 5)) (.b2 .le (.var 5) (.lit (9223372036854775807)))) (.b2 .and (.b2 .and (.b2 .le (.lit (0)) (.var 6)) (.b2 .le (.var 6) (.lit (4294967295)))) (.b2 .and (.b2 .and (.b2 .le (.lit (-9223372036854775808)) (.var 7)) (.b2 .le (.var 7) (.lit (9223372036854775807)))) (.b2 .and (.b2 .and (.b2 .le (.lit (-9223372036854775808)) (.var 8)) (.b2 .le (.var 8) (.lit (9223372036854775807)))) (.b2 .and (.b2 .le (.lit (-9223372036854775808)) (.var 9)) (.b2 .le (.var 9) (.lit (9223372036854775807))))))))))))), (.err (.iapp 14 (.cons (.int .i64 (.var 0)) (.cons (.int .i64 (.var 1)) (.cons (.int .i64 (.var 2)) (.cons (.int .i64 (.var 3)) (.cons (.int .u32 (.var 4)) (.cons (.int .i64 (.var 5)) (.cons (.int .u32 (.var 6)) (.cons (.int .i64 (.var 7)) (.cons (.int .i64 (.var 8)) (.cons (.int .i64 (.var 9)) .nil)))))))))))), ⟨10, 0, 0, 0⟩, none⟩
theorem pcheck_w : walk Tryd.prog 229 ⟨[yac_size, yac_rcheck], syG, [], [], []⟩ [] .v ybc_pcheck ybc_pcheck.n 3000 = some pcheck_tree := by kernel_rfl
theorem pcheck_h (pe : Int) (pb : Int) (pt : Int) (pr : Int) (gm : Int) (gs : Int) (qm : Int) (qs : Int) (pp : Int) (pc : Int) (hc : holds (ybE [pe, pb, pt, pr, gm, gs, qm, qs, pp, pc] [] [] []) (.b2 .and (.b2 .and (.b2 .le (.lit (-9223372036854775808)) (.var 0)) (.b2 .le (.var 0) (.lit (9223372036854775807)))) (.b2 .and (.b2 .and (.b2 .le (.lit (-9223372036854775808)) (.var 1)) (.b2 .le (.var 1) (.lit (9223372036854775807)))) (.b2 .and (.b2 .and (.b2 .le (.lit (-9223372036854775808)) (.var 2)) (.b2 .le (.var 2) (.lit (9223372036854775807)))) (.b2 .and (.b2 .and (.b2 .le (.lit (-9223372036854775808)) (.var 3)) (.b2 .le (.var 3) (.lit (9223372036854775807)))) (.b2 .and (.b2 .and (.b2 .le (.lit (0)) (.var 4)) (.b2 .le (.var 4) (.lit (4294967295)))) (.b2 .and (.b2 .and (.b2 .le (.lit (-9223372036854775808)) (.var 5)) (.b2 .le (.var 5) (.lit (9223372036854775807)))) (.b2 .and (.b2 .and (.b2 .le (.lit (0)) (.var 6)) (.b2 .le (.var 6) (.lit (4294967295)))) (.b2 .and (.b2 .and (.b2 .le (.lit (-9223372036854775808)) (.var 7)) (.b2 .le (.var 7) (.lit (9223372036854775807)))) (.b2 .and (.b2 .and (.b2 .le (.lit (-9223372036854775808)) (.var 8)) (.b2 .le (.var 8) (.lit (9223372036854775807)))) (.b2 .and (.b2 .le (.lit (-9223372036854775808)) (.var 9)) (.b2 .le (.var 9) (.lit (9223372036854775807)))))))))))))) (hty : patsTyp (ybE [pe, pb, pt, pr, gm, gs, qm, qs, pp, pc] [] [] []) [(.agg (.cons (.int .i64 (.var 0)) (.cons (.int .i64 (.var 1)) (.cons (.int .i64 (.var 2)) (.cons (.int .i64 (.var 3)) (.cons (.int .u32 (.var 4)) (.cons (.int .i64 (.var 5)) (.cons (.int .u32 (.var 6)) (.cons (.int .i64 (.var 7)) (.cons (.int .i64 (.var 8)) (.cons (.int .i64 (.var 9)) .nil)))))))))))]) : pcheck_tree.holds (fun v_ => v_ = denV (ybE [pe, pb, pt, pr, gm, gs, qm, qs, pp, pc] [] [] []) b0 (.err (.iapp 14 (.cons (.int .i64 (.var 0)) (.cons (.int .i64 (.var 1)) (.cons (.int .i64 (.var 2)) (.cons (.int .i64 (.var 3)) (.cons (.int .u32 (.var 4)) (.cons (.int .i64 (.var 5)) (.cons (.int .u32 (.var 6)) (.cons (.int .i64 (.var 7)) (.cons (.int .i64 (.var 8)) (.cons (.int .i64 (.var 9)) .nil))))))))))))) (ybE [pe, pb, pt, pr, gm, gs, qm, qs, pp, pc] [] [] []) := by
  simp only [Tree.holds, Sy.holds, AllN, Env.more, ybE, List.cons_append, List.nil_append, List.append_nil, denV, denI, denB, denL, I2.den, VOp.den, List.getD_cons_zero, List.getD_cons_succ, Cst.den, syso, syse, syio, sybo, List.map_nil, List.map_cons, B2.ofInts, B2.denI, B2.denB, if_true, Bool.false_eq_true, if_false, Nat.div_one, Nat.mul_one, Nat.add_zero, holds] at hc
  simp only [patsTyp, patTyp, patTypL, ybE, denV, denL, List.getD_cons_zero, List.getD_cons_succ, and_true, true_and] at hty
  unfold pcheck_tree
  simp only [Tree.holds, Sy.holds, AllN, Env.more, ybE, List.cons_append, List.nil_append, List.append_nil, denV, denI, denB, denL, I2.den, VOp.den, List.getD_cons_zero, List.getD_cons_succ, Cst.den, syso, syse, syio, sybo, ybi_sz, ybi_fe, ybi_pge, List.map_nil, List.map_cons, B2.ofInts, B2.denI, B2.denB, if_true, Bool.false_eq_true, if_false, Nat.div_one, Nat.mul_one, Nat.add_zero]
  have hz := szE_spec pt ⟨by omega, by omega⟩
  refine ⟨fun h0 => ?_, fun h0 => ?_⟩
  ·
   by_cases hp : pgP pe pb pt pr gm gs qm qs pp pc
   · rw [pgE_y hp]
     obtain ⟨a1, a2, a3, a4, a5, a6, a7, a8, f1, f2, a11, a12, a13, a14⟩ := hp
     have e1 := feE_y f1
     have e2 := feE_y f2
     first
     | (exfalso; omega)
     | rfl
   · rw [pgE_n hp]
     rcases fe_spec gm gs with ⟨f1, e1⟩ | ⟨f1, e1⟩ <;> rcases fe_spec qm qs with ⟨f2, e2⟩ | ⟨f2, e2⟩
     all_goals first
     | rfl
     | (exfalso; omega)
     | exact absurd ⟨by omega, by omega, by omega, by omega, by omega, by omega, by omega, by omega, f1, f2, by omega, by omega, by omega, by omega⟩ hp
  ·
   refine ⟨fun h1 => ?_, fun h1 => ?_⟩
   ·
    by_cases hp : pgP pe pb pt pr gm gs qm qs pp pc
    · rw [pgE_y hp]
      obtain ⟨a1, a2, a3, a4, a5, a6, a7, a8, f1, f2, a11, a12, a13, a14⟩ := hp
      have e1 := feE_y f1
      have e2 := feE_y f2
      first
      | (exfalso; omega)
      | rfl
    · rw [pgE_n hp]
      rcases fe_spec gm gs with ⟨f1, e1⟩ | ⟨f1, e1⟩ <;> rcases fe_spec qm qs with ⟨f2, e2⟩ | ⟨f2, e2⟩
      all_goals first
      | rfl
      | (exfalso; omega)
      | exact absurd ⟨by omega, by omega, by omega, by omega, by omega, by omega, by omega, by omega, f1, f2, by omega, by omega, by omega, by omega⟩ hp
   ·
    refine ⟨fun h2 => ?_, fun h2 => ?_⟩
    ·
     by_cases hp : pgP pe pb pt pr gm gs qm qs pp pc
     · rw [pgE_y hp]
       obtain ⟨a1, a2, a3, a4, a5, a6, a7, a8, f1, f2, a11, a12, a13, a14⟩ := hp
       have e1 := feE_y f1
       have e2 := feE_y f2
       first
       | (exfalso; omega)
       | rfl
     · rw [pgE_n hp]
       rcases fe_spec gm gs with ⟨f1, e1⟩ | ⟨f1, e1⟩ <;> rcases fe_spec qm qs with ⟨f2, e2⟩ | ⟨f2, e2⟩
       all_goals first
       | rfl
       | (exfalso; omega)
       | exact absurd ⟨by omega, by omega, by omega, by omega, by omega, by omega, by omega, by omega, f1, f2, by omega, by omega, by omega, by omega⟩ hp
    ·
     refine ⟨fun h3 => ?_, fun h3 => ?_⟩
     ·
      by_cases hp : pgP pe pb pt pr gm gs qm qs pp pc
      · rw [pgE_y hp]
        obtain ⟨a1, a2, a3, a4, a5, a6, a7, a8, f1, f2, a11, a12, a13, a14⟩ := hp
        have e1 := feE_y f1
        have e2 := feE_y f2
        first
        | (exfalso; omega)
        | rfl
      · rw [pgE_n hp]
        rcases fe_spec gm gs with ⟨f1, e1⟩ | ⟨f1, e1⟩ <;> rcases fe_spec qm qs with ⟨f2, e2⟩ | ⟨f2, e2⟩
        all_goals first
        | rfl
        | (exfalso; omega)
        | exact absurd ⟨by omega, by omega, by omega, by omega, by omega, by omega, by omega, by omega, f1, f2, by omega, by omega, by omega, by omega⟩ hp
     ·
      refine ⟨?_, fun h4 => ?_⟩
      ·
       omega
      ·
       refine ⟨fun h5 => ?_, fun h5 => ?_⟩
       ·
        by_cases hp : pgP pe pb pt pr gm gs qm qs pp pc
        · rw [pgE_y hp]
          obtain ⟨a1, a2, a3, a4, a5, a6, a7, a8, f1, f2, a11, a12, a13, a14⟩ := hp
          have e1 := feE_y f1
          have e2 := feE_y f2
          first
          | (exfalso; omega)
          | rfl
        · rw [pgE_n hp]
          rcases fe_spec gm gs with ⟨f1, e1⟩ | ⟨f1, e1⟩ <;> rcases fe_spec qm qs with ⟨f2, e2⟩ | ⟨f2, e2⟩
          all_goals first
          | rfl
          | (exfalso; omega)
          | exact absurd ⟨by omega, by omega, by omega, by omega, by omega, by omega, by omega, by omega, f1, f2, by omega, by omega, by omega, by omega⟩ hp
       ·
        refine ⟨fun h6 => ?_, fun h6 => ?_⟩
        ·
         by_cases hp : pgP pe pb pt pr gm gs qm qs pp pc
         · rw [pgE_y hp]
           obtain ⟨a1, a2, a3, a4, a5, a6, a7, a8, f1, f2, a11, a12, a13, a14⟩ := hp
           have e1 := feE_y f1
           have e2 := feE_y f2
           first
           | (exfalso; omega)
           | rfl
         · rw [pgE_n hp]
           rcases fe_spec gm gs with ⟨f1, e1⟩ | ⟨f1, e1⟩ <;> rcases fe_spec qm qs with ⟨f2, e2⟩ | ⟨f2, e2⟩
           all_goals first
           | rfl
           | (exfalso; omega)
           | exact absurd ⟨by omega, by omega, by omega, by omega, by omega, by omega, by omega, by omega, f1, f2, by omega, by omega, by omega, by omega⟩ hp
        ·
         refine ⟨fun h7 => ?_, fun h7 => ?_⟩
         ·
          by_cases hp : pgP pe pb pt pr gm gs qm qs pp pc
          · rw [pgE_y hp]
            obtain ⟨a1, a2, a3, a4, a5, a6, a7, a8, f1, f2, a11, a12, a13, a14⟩ := hp
            have e1 := feE_y f1
            have e2 := feE_y f2
            first
            | (exfalso; omega)
            | rfl
          · rw [pgE_n hp]
            rcases fe_spec gm gs with ⟨f1, e1⟩ | ⟨f1, e1⟩ <;> rcases fe_spec qm qs with ⟨f2, e2⟩ | ⟨f2, e2⟩
            all_goals first
            | rfl
            | (exfalso; omega)
            | exact absurd ⟨by omega, by omega, by omega, by omega, by omega, by omega, by omega, by omega, f1, f2, by omega, by omega, by omega, by omega⟩ hp
         ·
          refine ⟨fun h8 => ?_, fun h8 => ?_⟩
          ·
           by_cases hp : pgP pe pb pt pr gm gs qm qs pp pc
           · rw [pgE_y hp]
             obtain ⟨a1, a2, a3, a4, a5, a6, a7, a8, f1, f2, a11, a12, a13, a14⟩ := hp
             have e1 := feE_y f1
             have e2 := feE_y f2
             first
             | (exfalso; omega)
             | rfl
           · rw [pgE_n hp]
             rcases fe_spec gm gs with ⟨f1, e1⟩ | ⟨f1, e1⟩ <;> rcases fe_spec qm qs with ⟨f2, e2⟩ | ⟨f2, e2⟩
             all_goals first
             | rfl
             | (exfalso; omega)
             | exact absurd ⟨by omega, by omega, by omega, by omega, by omega, by omega, by omega, by omega, f1, f2, by omega, by omega, by omega, by omega⟩ hp
          ·
           refine ⟨fun h9 => ?_, fun h9 => ?_⟩
           ·
            by_cases hp : pgP pe pb pt pr gm gs qm qs pp pc
            · rw [pgE_y hp]
              obtain ⟨a1, a2, a3, a4, a5, a6, a7, a8, f1, f2, a11, a12, a13, a14⟩ := hp
              have e1 := feE_y f1
              have e2 := feE_y f2
              first
              | (exfalso; omega)
              | rfl
            · rw [pgE_n hp]
              rcases fe_spec gm gs with ⟨f1, e1⟩ | ⟨f1, e1⟩ <;> rcases fe_spec qm qs with ⟨f2, e2⟩ | ⟨f2, e2⟩
              all_goals first
              | rfl
              | (exfalso; omega)
              | exact absurd ⟨by omega, by omega, by omega, by omega, by omega, by omega, by omega, by omega, f1, f2, by omega, by omega, by omega, by omega⟩ hp
           ·
            refine ⟨fun h10 => ?_, fun h10 => ?_⟩
            ·
             by_cases hp : pgP pe pb pt pr gm gs qm qs pp pc
             · rw [pgE_y hp]
               obtain ⟨a1, a2, a3, a4, a5, a6, a7, a8, f1, f2, a11, a12, a13, a14⟩ := hp
               have e1 := feE_y f1
               have e2 := feE_y f2
               first
               | (exfalso; omega)
               | rfl
             · rw [pgE_n hp]
               rcases fe_spec gm gs with ⟨f1, e1⟩ | ⟨f1, e1⟩ <;> rcases fe_spec qm qs with ⟨f2, e2⟩ | ⟨f2, e2⟩
               all_goals first
               | rfl
               | (exfalso; omega)
               | exact absurd ⟨by omega, by omega, by omega, by omega, by omega, by omega, by omega, by omega, f1, f2, by omega, by omega, by omega, by omega⟩ hp
            ·
             refine ⟨fun h11 => ?_, fun h11 => ?_⟩
             ·
              by_cases hp : pgP pe pb pt pr gm gs qm qs pp pc
              · rw [pgE_y hp]
                obtain ⟨a1, a2, a3, a4, a5, a6, a7, a8, f1, f2, a11, a12, a13, a14⟩ := hp
                have e1 := feE_y f1
                have e2 := feE_y f2
                first
                | (exfalso; omega)
                | rfl
              · rw [pgE_n hp]
                rcases fe_spec gm gs with ⟨f1, e1⟩ | ⟨f1, e1⟩ <;> rcases fe_spec qm qs with ⟨f2, e2⟩ | ⟨f2, e2⟩
                all_goals first
                | rfl
                | (exfalso; omega)
                | exact absurd ⟨by omega, by omega, by omega, by omega, by omega, by omega, by omega, by omega, f1, f2, by omega, by omega, by omega, by omega⟩ hp
             ·
              refine ⟨?_, fun h12 => ?_⟩
              ·
               omega
              ·
               refine ⟨fun h13 => ?_, fun h13 => ?_⟩
               ·
                by_cases hp : pgP pe pb pt pr gm gs qm qs pp pc
                · rw [pgE_y hp]
                  obtain ⟨a1, a2, a3, a4, a5, a6, a7, a8, f1, f2, a11, a12, a13, a14⟩ := hp
                  have e1 := feE_y f1
                  have e2 := feE_y f2
                  first
                  | (exfalso; omega)
                  | rfl
                · rw [pgE_n hp]
                  rcases fe_spec gm gs with ⟨f1, e1⟩ | ⟨f1, e1⟩ <;> rcases fe_spec qm qs with ⟨f2, e2⟩ | ⟨f2, e2⟩
                  all_goals first
                  | rfl
                  | (exfalso; omega)
                  | exact absurd ⟨by omega, by omega, by omega, by omega, by omega, by omega, by omega, by omega, f1, f2, by omega, by omega, by omega, by omega⟩ hp
               ·
                refine ⟨?_, fun h14 => ?_⟩
                ·
                 omega
                ·
                 refine ⟨fun h15 => ?_, fun h15 => ?_⟩
                 ·
                  by_cases hp : pgP pe pb pt pr gm gs qm qs pp pc
                  · rw [pgE_y hp]
                    obtain ⟨a1, a2, a3, a4, a5, a6, a7, a8, f1, f2, a11, a12, a13, a14⟩ := hp
                    have e1 := feE_y f1
                    have e2 := feE_y f2
                    first
                    | (exfalso; omega)
                    | rfl
                  · rw [pgE_n hp]
                    rcases fe_spec gm gs with ⟨f1, e1⟩ | ⟨f1, e1⟩ <;> rcases fe_spec qm qs with ⟨f2, e2⟩ | ⟨f2, e2⟩
                    all_goals first
                    | rfl
                    | (exfalso; omega)
                    | exact absurd ⟨by omega, by omega, by omega, by omega, by omega, by omega, by omega, by omega, f1, f2, by omega, by omega, by omega, by omega⟩ hp
                 ·
                  by_cases hp : pgP pe pb pt pr gm gs qm qs pp pc
                  · rw [pgE_y hp]
                    obtain ⟨a1, a2, a3, a4, a5, a6, a7, a8, f1, f2, a11, a12, a13, a14⟩ := hp
                    have e1 := feE_y f1
                    have e2 := feE_y f2
                    first
                    | (exfalso; omega)
                    | rfl
                  · rw [pgE_n hp]
                    rcases fe_spec gm gs with ⟨f1, e1⟩ | ⟨f1, e1⟩ <;> rcases fe_spec qm qs with ⟨f2, e2⟩ | ⟨f2, e2⟩
                    all_goals first
                    | rfl
                    | (exfalso; omega)
                    | exact absurd ⟨by omega, by omega, by omega, by omega, by omega, by omega, by omega, by omega, f1, f2, by omega, by omega, by omega, by omega⟩ hp
theorem ybg_pcheck : ybc_pcheck.Good Tryd.prog syG (ybE [] [] [] []) := good_of_walk (Γ := ⟨[yac_size, yac_rcheck], syG, [], [], []⟩) (ρ := ybE [] [] [] []) sym pcheck_w rfl (fun _ _ _ _ => (ok_cons (Con.Good.env (Con.Good.up yag_size ybup rfl) _ _ _ _) (ok_cons (Con.Good.env (Con.Good.up yag_rcheck ybup rfl) _ _ _ _) ok_nil))) (fun pe pb pt pr gm gs qm qs pp pc hc hty => pcheck_h pe pb pt pr gm gs qm qs pp pc hc hty)
def at_tree : Tree :=
 (.need (.b2 .and (.b2 .and (.b2 .and (.b2 .le (.lit (0)) (.var 4)) (.b2 .le (.var 4) (.lit (4294967295)))) (.b2 .and (.b2 .le (.lit (-9223372036854775808)) (.var 5)) (.b2 .le (.var 5) (.lit (9223372036854775807))))) (.b2 .and (.bapp 0 (.cons (.int .u32 (.var 4)) (.cons (.int .i64 (.var 5)) .nil))) (.b2 .and (.b2 .le (.lit (-9223372036854775808)) (.var 10)) (.b2 .le (.var 10) (.lit (9223372036854775807))))))
 (.br (.not (.b2 .eq (.iapp 9 (.cons (.int .i64 (.var 10)) (.cons (.int .u32 (.var 4)) (.cons (.int .i64 (.var 5)) .nil)))) (.lit (0))))
 (.ret (.tup (.cons (.int .i64 (.lit (0))) (.cons (.iface 229 (.int .i64 (.lit (2)))) .nil))))
 (.need (.b2 .and (.b2 .and (.b2 .le (.lit (-9223372036854775808)) (.var 2)) (.b2 .le (.var 2) (.lit (9223372036854775807)))) (.b2 .and (.b2 .le (.lit (-9223372036854775808)) (.iapp 8 (.cons (.int .i64 (.var 10)) (.cons (.int .u32 (.var 4)) (.cons (.int .i64 (.var 5)) .nil))))) (.b2 .le (.iapp 8 (.cons (.int .i64 (.var 10)) (.cons (.int .u32 (.var 4)) (.cons (.int .i64 (.var 5)) .nil)))) (.lit (9223372036854775807)))))
 (.br (.not (.b2 .eq (.iapp 3 (.cons (.int .i64 (.i2 .add (.var 2) (.iapp 8 (.cons (.int .i64 (.var 10)) (.cons (.int .u32 (.var 4)) (.cons (.int .i64 (.var 5)) .nil)))))) .nil)) (.lit (0))))
 (.ret (.tup (.cons (.int .i64 (.lit (0))) (.cons (.iface 229 (.int .i64 (.lit (2)))) .nil))))
 (.need (.b2 .and (.b2 .le (.lit (-9223372036854775808)) (.iapp 2 (.cons (.int .i64 (.i2 .add (.var 2) (.iapp 8 (.cons (.int .i64 (.var 10)) (.cons (.int .u32 (.var 4)) (.cons (.int .i64 (.var 5)) .nil)))))) .nil))) (.b2 .le (.iapp 2 (.cons (.int .i64 (.i2 .add (.var 2) (.iapp 8 (.cons (.int .i64 (.var 10)) (.cons (.int .u32 (.var 4)) (.cons (.int .i64 (.var 5)) .nil)))))) .nil)) (.lit (9223372036854775807))))
 (.br (.b2 .le (.lit (4611686018427387904)) (.iapp 0 (.cons (.int .i64 (.iapp 2 (.cons (.int .i64 (.i2 .add (.var 2) (.iapp 8 (.cons (.int .i64 (.var 10)) (.cons (.int .u32 (.var 4)) (.cons (.int .i64 (.var 5)) .nil)))))) .nil))) .nil)))
 (.ret (.tup (.cons (.int .i64 (.lit (0))) (.cons (.iface 229 (.int .i64 (.lit (2)))) .nil))))
 (.ret (.tup (.cons (.int .i64 (.iapp 2 (.cons (.int .i64 (.i2 .add (.var 2) (.iapp 8 (.cons (.int .i64 (.var 10)) (.cons (.int .u32 (.var 4)) (.cons (.int .i64 (.var 5)) .nil)))))) .nil))) (.cons (.cst .nilI) .nil))))))))))
abbrev ybc_at : Con := ⟨159, [(.agg (.cons (.int .i64 (.var 0)) (.cons (.int .i64 (.var 1)) (.cons (.int .i64 (.var 2)) (.cons (.int .i64 (.var 3)) (.cons (.int .u32 (.var 4)) (.cons (.int .i64 (.var 5)) (.cons (.int .u32 (.var 6)) (.cons (.int .i64 (.var 7)) (.cons (.int .i64 (.var 8)) (.cons (.int .i64 (.var 9)) .nil))))))))))), (.int .i64 (.var 10))], (.b2 .and (.b2 .and (.b2 .and (.b2 .le (.lit (-9223372036854775808)) (.var 0)) (.b2 .le (.var 0) (.lit (9223372036854775807)))) (.b2 .and (.b2 .and (.b2 .le (.lit (-9223372036854775808)) (.var 1)) (.b2 .le (.var 1) (.lit (9223372036854775807)))) (.b2 .and (.b2 .and (.b2 .le (.lit (-9223372036854775808)) (.var 2)) (.b2 .le (.var 2) (.lit (9223372036854775807)))) (.b2 .and (.b2 .and (.b2 .le (.lit (-9223372036854775808)) (.var 3)) (.b2 .le (.var 3) (.lit (9223372036854775807)))) (.b2 .and (.b2 .and (.b2 .le (.lit (0)) (.var 4)) (.b2 .le (.var 4) (.lit (4294967295)))) (.b2 .and (.b2 .and (.b2 .le (.lit (-9223372036854775808)) (.var 5)) (.b2 .le (.var 5) (.lit (9223372036854775807)))) (.b2 .and (.b2 .and (.b2 .le (.lit (0)) (.var 6)) (.b2 .le (.var 6) (.lit (4294967295)))) (.b2 .and (.b2 .and (.b2 .le (.lit (-9223372036854775808)) (.var 7)) (.b2 .le (.var 7) (.lit (9223372036854775807)))) (.b2 .and (.b2 .and (.b2 .le (.lit (-9223372036854775808)) (.var 8)) (.b2 .le (.var 8) (.lit (9223372036854775807)))) (.b2 .and (.b2 .le (.lit (-9223372036854775808)) (.var 9)) (.b2 .le (.var 9) (.lit (9223372036854775807))))))))))))) (.b2 .and (.bapp 1 (.cons (.int .i64 (.var 0)) (.cons (.int .i64 (.var 1)) (.cons (.int .i64 (.var 2)) (.cons (.int .i64 (.var 3)) (.cons (.int .u32 (.var 4)) (.cons (.int .i64 (.var 5)) (.cons (.int .u32 (.var 6)) (.cons (.int .i64 (.var 7)) (.cons (.int .i64 (.var 8)) (.cons (.int .i64 (.var 9)) .nil))))))))))) (.b2 .and (.b2 .le (.lit (0)) (.var 10)) (.b2 .le (.var 10) (.lit (1125899906842624)))))), (.tup (.cons (.int .i64 (.iapp 16 (.cons (.int .i64 (.var 2)) (.cons (.int .u32 (.var 4)) (.cons (.int .i64 (.var 5)) (.cons (.int .i64 (.var 10)) .nil)))))) (.cons (.err (.iapp 17 (.cons (.int .i64 (.var 2)) (.cons (.int .u32 (.var 4)) (.cons (.int .i64 (.var 5)) (.cons (.int .i64 (.var 10)) .nil)))))) .nil))), ⟨11, 0, 0, 0⟩, none⟩
theorem at_w : walk Tryd.prog 229 ⟨[yac_scale, yac_nadd, yac_size], syG, [], [], []⟩ [] .v ybc_at ybc_at.n 3000 = some at_tree := by kernel_rfl
theorem at_h (pe : Int) (pb : Int) (pt : Int) (pr : Int) (gm : Int) (gs : Int) (qm : Int) (qs : Int) (pp : Int) (pc : Int) (g : Int) (hc : holds (ybE [pe, pb, pt, pr, gm, gs, qm, qs, pp, pc, g] [] [] []) (.b2 .and (.b2 .and (.b2 .and (.b2 .le (.lit (-9223372036854775808)) (.var 0)) (.b2 .le (.var 0) (.lit (9223372036854775807)))) (.b2 .and (.b2 .and (.b2 .le (.lit (-9223372036854775808)) (.var 1)) (.b2 .le (.var 1) (.lit (9223372036854775807)))) (.b2 .and (.b2 .and (.b2 .le (.lit (-9223372036854775808)) (.var 2)) (.b2 .le (.var 2) (.lit (9223372036854775807)))) (.b2 .and (.b2 .and (.b2 .le (.lit (-9223372036854775808)) (.var 3)) (.b2 .le (.var 3) (.lit (9223372036854775807)))) (.b2 .and (.b2 .and (.b2 .le (.lit (0)) (.var 4)) (.b2 .le (.var 4) (.lit (4294967295)))) (.b2 .and (.b2 .and (.b2 .le (.lit (-9223372036854775808)) (.var 5)) (.b2 .le (.var 5) (.lit (9223372036854775807)))) (.b2 .and (.b2 .and (.b2 .le (.lit (0)) (.var 6)) (.b2 .le (.var 6) (.lit (4294967295)))) (.b2 .and (.b2 .and (.b2 .le (.lit (-9223372036854775808)) (.var 7)) (.b2 .le (.var 7) (.lit (9223372036854775807)))) (.b2 .and (.b2 .and (.b2 .le (.lit (-9223372036854775808)) (.var 8)) (.b2 .le (.var 8) (.lit (9223372036854775807)))) (.b2 .and (.b2 .le (.lit (-9223372036854775808)) (.var 9)) (.b2 .le (.var 9) (.lit (9223372036854775807))))))))))))) (.b2 .and (.bapp 1 (.cons (.int .i64 (.var 0)) (.cons (.int .i64 (.var 1)) (.cons (.int .i64 (.var 2)) (.cons (.int .i64 (.var 3)) (.cons (.int .u32 (.var 4)) (.cons (.int .i64 (.var 5)) (.cons (.int .u32 (.var 6)) (.cons (.int .i64 (.var 7)) (.cons (.int .i64 (.var 8)) (.cons (.int .i64 (.var 9)) .nil))))))))))) (.b2 .and (.b2 .le (.lit (0)) (.var 10)) (.b2 .le (.var 10) (.lit (1125899906842624))))))) (hty : patsTyp (ybE [pe, pb, pt, pr, gm, gs, qm, qs, pp, pc, g] [] [] []) [(.agg (.cons (.int .i64 (.var 0)) (.cons (.int .i64 (.var 1)) (.cons (.int .i64 (.var 2)) (.cons (.int .i64 (.var 3)) (.cons (.int .u32 (.var 4)) (.cons (.int .i64 (.var 5)) (.cons (.int .u32 (.var 6)) (.cons (.int .i64 (.var 7)) (.cons (.int .i64 (.var 8)) (.cons (.int .i64 (.var 9)) .nil))))))))))), (.int .i64 (.var 10))]) : at_tree.holds (fun v_ => v_ = denV (ybE [pe, pb, pt, pr, gm, gs, qm, qs, pp, pc, g] [] [] []) b0 (.tup (.cons (.int .i64 (.iapp 16 (.cons (.int .i64 (.var 2)) (.cons (.int .u32 (.var 4)) (.cons (.int .i64 (.var 5)) (.cons (.int .i64 (.var 10)) .nil)))))) (.cons (.err (.iapp 17 (.cons (.int .i64 (.var 2)) (.cons (.int .u32 (.var 4)) (.cons (.int .i64 (.var 5)) (.cons (.int .i64 (.var 10)) .nil)))))) .nil)))) (ybE [pe, pb, pt, pr, gm, gs, qm, qs, pp, pc, g] [] [] []) := by
  simp only [Tree.holds, Sy.holds, AllN, Env.more, ybE, List.cons_append, List.nil_append, List.append_nil, denV, denI, denB, denL, I2.den, VOp.den, List.getD_cons_zero, List.getD_cons_succ, Cst.den, syso, syse, syio, sybo, ybb_pm, List.map_nil, List.map_cons, B2.ofInts, B2.denI, B2.denB, if_true, Bool.false_eq_true, if_false, Nat.div_one, Nat.mul_one, Nat.add_zero, holds] at hc
  simp only [patsTyp, patTyp, patTypL, ybE, denV, denL, List.getD_cons_zero, List.getD_cons_succ, and_true, true_and] at hty
  unfold at_tree
  simp only [Tree.holds, Sy.holds, AllN, Env.more, ybE, List.cons_append, List.nil_append, List.append_nil, denV, denI, denB, denL, I2.den, VOp.den, List.getD_cons_zero, List.getD_cons_succ, Cst.den, syso, syse, syio, sybo, ybi_sz, ybi_nv, ybi_ne, ybi_msn, ybi_mse, ybi_atv, ybi_ate, ybb_fm, List.map_nil, List.map_cons, B2.ofInts, B2.denI, B2.denB, if_true, Bool.false_eq_true, if_false, Nat.div_one, Nat.mul_one, Nat.add_zero]
  have hp : pgP pe pb pt pr gm gs qm qs pp pc := of_decide_eq_true hc.2.1
  obtain ⟨a1, a2, a3, a4, a5, a6, a7, a8, f1, f2, a11, a12, a13, a14⟩ := hp
  have hm := ms_spec f1 hc.2.2.1
  have ha := at_spec pt gm gs g
  have hs := svE_spec (pt + msN g gm gs)
  have hz := szE_spec (svE (pt + msN g gm gs)) ⟨by omega, by omega⟩
  refine ⟨?_, fun h0 => ?_⟩
  ·
   first
   | omega
   | (simp only [f1, f2, decide_true, true_and]; omega)
   | (simp only [f1, f2, hp, decide_true, true_and]; omega)
  ·
   refine ⟨fun h1 => ?_, fun h1 => ?_⟩
   ·
    rcases hm with ⟨c0, ⟨m1, m2, m3⟩ | ⟨m1, m2, m3⟩⟩ <;> rcases ha with ⟨z1, z2, z3⟩ | ⟨z1, z2, z3⟩
    all_goals first
    | (exfalso; omega)
    | (rw [z2, z3]; done)
    | (rw [z2, z3]; rfl)
    | (rw [z2, z3, m1]; done)
    | (rw [z2, z3, show svE (pt + msN g gm gs) = pt + qE gm gs g by omega]; done)
    | (rw [z2, z3, show svE (pt + msN g gm gs) = pt + qE gm gs g by omega]; rfl)
   ·
    refine ⟨?_, fun h2 => ?_⟩
    ·
     first
     | omega
     | (simp only [f1, f2, decide_true, true_and]; omega)
     | (simp only [f1, f2, hp, decide_true, true_and]; omega)
    ·
     refine ⟨fun h3 => ?_, fun h3 => ?_⟩
     ·
      rcases hm with ⟨c0, ⟨m1, m2, m3⟩ | ⟨m1, m2, m3⟩⟩ <;> rcases ha with ⟨z1, z2, z3⟩ | ⟨z1, z2, z3⟩
      all_goals first
      | (exfalso; omega)
      | (rw [z2, z3]; done)
      | (rw [z2, z3]; rfl)
      | (rw [z2, z3, m1]; done)
      | (rw [z2, z3, show svE (pt + msN g gm gs) = pt + qE gm gs g by omega]; done)
      | (rw [z2, z3, show svE (pt + msN g gm gs) = pt + qE gm gs g by omega]; rfl)
     ·
      refine ⟨?_, fun h4 => ?_⟩
      ·
       first
       | omega
       | (simp only [f1, f2, decide_true, true_and]; omega)
       | (simp only [f1, f2, hp, decide_true, true_and]; omega)
      ·
       refine ⟨fun h5 => ?_, fun h5 => ?_⟩
       ·
        rcases hm with ⟨c0, ⟨m1, m2, m3⟩ | ⟨m1, m2, m3⟩⟩ <;> rcases ha with ⟨z1, z2, z3⟩ | ⟨z1, z2, z3⟩
        all_goals first
        | (exfalso; omega)
        | (rw [z2, z3]; done)
        | (rw [z2, z3]; rfl)
        | (rw [z2, z3, m1]; done)
        | (rw [z2, z3, show svE (pt + msN g gm gs) = pt + qE gm gs g by omega]; done)
        | (rw [z2, z3, show svE (pt + msN g gm gs) = pt + qE gm gs g by omega]; rfl)
       ·
        rcases hm with ⟨c0, ⟨m1, m2, m3⟩ | ⟨m1, m2, m3⟩⟩ <;> rcases ha with ⟨z1, z2, z3⟩ | ⟨z1, z2, z3⟩
        all_goals first
        | (exfalso; omega)
        | (rw [z2, z3]; done)
        | (rw [z2, z3]; rfl)
        | (rw [z2, z3, m1]; done)
        | (rw [z2, z3, show svE (pt + msN g gm gs) = pt + qE gm gs g by omega]; done)
        | (rw [z2, z3, show svE (pt + msN g gm gs) = pt + qE gm gs g by omega]; rfl)
theorem ybg_at : ybc_at.Good Tryd.prog syG (ybE [] [] [] []) := good_of_walk (Γ := ⟨[yac_scale, yac_nadd, yac_size], syG, [], [], []⟩) (ρ := ybE [] [] [] []) sym at_w rfl (fun _ _ _ _ => (ok_cons (Con.Good.env (Con.Good.up yag_scale ybup rfl) _ _ _ _) (ok_cons (Con.Good.env (Con.Good.up yag_nadd ybup rfl) _ _ _ _) (ok_cons (Con.Good.env (Con.Good.up yag_size ybup rfl) _ _ _ _) ok_nil)))) (fun pe pb pt pr gm gs qm qs pp pc g hc hty => at_h pe pb pt pr gm gs qm qs pp pc g hc hty)
def bound_x0 : Tm := (.int .i64 (.i2 .add (.var 3) (.iapp 10 (.cons (.int .i64 (.iapp 1 (.cons (.int .i64 (.i2 .add (.iapp 8 (.cons (.int .i64 (.var 10)) (.cons (.int .u32 (.var 6)) (.cons (.int .i64 (.var 7)) .nil)))) (.lit (1)))) .nil))) (.cons (.int .i64 (.var 8)) .nil)))))
def bound_tree : Tree :=
 (.need (.b2 .and (.b2 .and (.b2 .and (.b2 .le (.lit (0)) (.var 6)) (.b2 .le (.var 6) (.lit (4294967295)))) (.b2 .and (.b2 .le (.lit (-9223372036854775808)) (.var 7)) (.b2 .le (.var 7) (.lit (9223372036854775807))))) (.b2 .and (.bapp 0 (.cons (.int .u32 (.var 6)) (.cons (.int .i64 (.var 7)) .nil))) (.b2 .and (.b2 .le (.lit (-9223372036854775808)) (.var 10)) (.b2 .le (.var 10) (.lit (9223372036854775807))))))
 (.br (.not (.b2 .eq (.iapp 9 (.cons (.int .i64 (.var 10)) (.cons (.int .u32 (.var 6)) (.cons (.int .i64 (.var 7)) .nil)))) (.lit (0))))
 (.ret (.tup (.cons (.int .i64 (.lit (0))) (.cons (.err (.iapp 9 (.cons (.int .i64 (.var 10)) (.cons (.int .u32 (.var 6)) (.cons (.int .i64 (.var 7)) .nil))))) .nil))))
 (.need (.b2 .and (.b2 .le (.lit (-9223372036854775808)) (.iapp 8 (.cons (.int .i64 (.var 10)) (.cons (.int .u32 (.var 6)) (.cons (.int .i64 (.var 7)) .nil))))) (.b2 .le (.iapp 8 (.cons (.int .i64 (.var 10)) (.cons (.int .u32 (.var 6)) (.cons (.int .i64 (.var 7)) .nil)))) (.lit (9223372036854775807))))
 (.need (.b2 .and (.b2 .le (.lit (0)) (.var 3)) (.b2 .and (.b2 .le (.var 3) (.lit (2305843009213693952))) (.b2 .and (.b2 .le (.lit (0)) (.var 8)) (.b2 .and (.b2 .le (.var 8) (.lit (2097152))) (.b2 .and (.b2 .le (.lit (0)) (.iapp 1 (.cons (.int .i64 (.i2 .add (.iapp 8 (.cons (.int .i64 (.var 10)) (.cons (.int .u32 (.var 6)) (.cons (.int .i64 (.var 7)) .nil)))) (.lit (1)))) .nil))) (.b2 .le (.iapp 1 (.cons (.int .i64 (.i2 .add (.iapp 8 (.cons (.int .i64 (.var 10)) (.cons (.int .u32 (.var 6)) (.cons (.int .i64 (.var 7)) .nil)))) (.lit (1)))) .nil)) (.lit (9223372036854775807))))))))
 (.need (.b2 .and (.b2 .and (.b2 .and (.b2 .le (.lit (0)) (.var 6)) (.b2 .le (.var 6) (.lit (4294967295)))) (.b2 .and (.b2 .le (.lit (-9223372036854775808)) (.var 7)) (.b2 .le (.var 7) (.lit (9223372036854775807))))) (.b2 .and (.bapp 0 (.cons (.int .u32 (.var 6)) (.cons (.int .i64 (.var 7)) .nil))) (.b2 .and (.b2 .le (.lit (0)) (.var 10)) (.b2 .le (.var 10) (.lit (1125899906842624))))))
 (.need (.b2 .and (.b2 .and (.b2 .le (.lit (-9223372036854775808)) (.iapp 1 (.cons bound_x0 .nil))) (.b2 .le (.iapp 1 (.cons bound_x0 .nil)) (.lit (9223372036854775807)))) (.b2 .and (.b2 .le (.lit (-9223372036854775808)) (.i2 .add (.iapp 11 (.cons (.int .i64 (.var 10)) (.cons (.int .i64 (.var 7)) .nil))) (.lit (2)))) (.b2 .le (.i2 .add (.iapp 11 (.cons (.int .i64 (.var 10)) (.cons (.int .i64 (.var 7)) .nil))) (.lit (2))) (.lit (9223372036854775807)))))
 (.need (.b2 .and (.b2 .le (.lit (-9223372036854775808)) (.iapp 1 (.cons (.int .i64 (.i2 .add (.iapp 1 (.cons bound_x0 .nil)) (.i2 .add (.iapp 11 (.cons (.int .i64 (.var 10)) (.cons (.int .i64 (.var 7)) .nil))) (.lit (2))))) .nil))) (.b2 .le (.iapp 1 (.cons (.int .i64 (.i2 .add (.iapp 1 (.cons bound_x0 .nil)) (.i2 .add (.iapp 11 (.cons (.int .i64 (.var 10)) (.cons (.int .i64 (.var 7)) .nil))) (.lit (2))))) .nil)) (.lit (9223372036854775807))))
 (.ret (.tup (.cons (.int .i64 (.iapp 1 (.cons (.int .i64 (.i2 .add (.iapp 1 (.cons (.int .i64 (.i2 .add (.iapp 1 (.cons bound_x0 .nil)) (.i2 .add (.iapp 11 (.cons (.int .i64 (.var 10)) (.cons (.int .i64 (.var 7)) .nil))) (.lit (2))))) .nil)) (.lit (2)))) .nil))) (.cons (.cst .nilI) .nil)))))))))))
abbrev ybc_bound : Con := ⟨160, [(.agg (.cons (.int .i64 (.var 0)) (.cons (.int .i64 (.var 1)) (.cons (.int .i64 (.var 2)) (.cons (.int .i64 (.var 3)) (.cons (.int .u32 (.var 4)) (.cons (.int .i64 (.var 5)) (.cons (.int .u32 (.var 6)) (.cons (.int .i64 (.var 7)) (.cons (.int .i64 (.var 8)) (.cons (.int .i64 (.var 9)) .nil))))))))))), (.int .i64 (.var 10))], (.b2 .and (.b2 .and (.b2 .and (.b2 .le (.lit (-9223372036854775808)) (.var 0)) (.b2 .le (.var 0) (.lit (9223372036854775807)))) (.b2 .and (.b2 .and (.b2 .le (.lit (-9223372036854775808)) (.var 1)) (.b2 .le (.var 1) (.lit (9223372036854775807)))) (.b2 .and (.b2 .and (.b2 .le (.lit (-9223372036854775808)) (.var 2)) (.b2 .le (.var 2) (.lit (9223372036854775807)))) (.b2 .and (.b2 .and (.b2 .le (.lit (-9223372036854775808)) (.var 3)) (.b2 .le (.var 3) (.lit (9223372036854775807)))) (.b2 .and (.b2 .and (.b2 .le (.lit (0)) (.var 4)) (.b2 .le (.var 4) (.lit (4294967295)))) (.b2 .and (.b2 .and (.b2 .le (.lit (-9223372036854775808)) (.var 5)) (.b2 .le (.var 5) (.lit (9223372036854775807)))) (.b2 .and (.b2 .and (.b2 .le (.lit (0)) (.var 6)) (.b2 .le (.var 6) (.lit (4294967295)))) (.b2 .and (.b2 .and (.b2 .le (.lit (-9223372036854775808)) (.var 7)) (.b2 .le (.var 7) (.lit (9223372036854775807)))) (.b2 .and (.b2 .and (.b2 .le (.lit (-9223372036854775808)) (.var 8)) (.b2 .le (.var 8) (.lit (9223372036854775807)))) (.b2 .and (.b2 .le (.lit (-9223372036854775808)) (.var 9)) (.b2 .le (.var 9) (.lit (9223372036854775807))))))))))))) (.b2 .and (.bapp 1 (.cons (.int .i64 (.var 0)) (.cons (.int .i64 (.var 1)) (.cons (.int .i64 (.var 2)) (.cons (.int .i64 (.var 3)) (.cons (.int .u32 (.var 4)) (.cons (.int .i64 (.var 5)) (.cons (.int .u32 (.var 6)) (.cons (.int .i64 (.var 7)) (.cons (.int .i64 (.var 8)) (.cons (.int .i64 (.var 9)) .nil))))))))))) (.b2 .and (.b2 .le (.lit (0)) (.var 10)) (.b2 .le (.var 10) (.lit (1125899906842624)))))), (.tup (.cons (.int .i64 (.iapp 18 (.cons (.int .i64 (.var 3)) (.cons (.int .u32 (.var 6)) (.cons (.int .i64 (.var 7)) (.cons (.int .i64 (.var 8)) (.cons (.int .i64 (.var 10)) .nil))))))) (.cons (.err (.iapp 19 (.cons (.int .u32 (.var 6)) (.cons (.int .i64 (.var 7)) (.cons (.int .i64 (.var 10)) .nil))))) .nil))), ⟨11, 0, 0, 0⟩, none⟩
theorem bound_w : walk Tryd.prog 229 ⟨[yac_scale, yac_grow, yac_addsat, yac_off], syG, [], [], []⟩ [] .v ybc_bound ybc_bound.n 3000 = some bound_tree := by kernel_rfl
theorem bound_h (pe : Int) (pb : Int) (pt : Int) (pr : Int) (gm : Int) (gs : Int) (qm : Int) (qs : Int) (pp : Int) (pc : Int) (g : Int) (hc : holds (ybE [pe, pb, pt, pr, gm, gs, qm, qs, pp, pc, g] [] [] []) (.b2 .and (.b2 .and (.b2 .and (.b2 .le (.lit (-9223372036854775808)) (.var 0)) (.b2 .le (.var 0) (.lit (9223372036854775807)))) (.b2 .and (.b2 .and (.b2 .le (.lit (-9223372036854775808)) (.var 1)) (.b2 .le (.var 1) (.lit (9223372036854775807)))) (.b2 .and (.b2 .and (.b2 .le (.lit (-9223372036854775808)) (.var 2)) (.b2 .le (.var 2) (.lit (9223372036854775807)))) (.b2 .and (.b2 .and (.b2 .le (.lit (-9223372036854775808)) (.var 3)) (.b2 .le (.var 3) (.lit (9223372036854775807)))) (.b2 .and (.b2 .and (.b2 .le (.lit (0)) (.var 4)) (.b2 .le (.var 4) (.lit (4294967295)))) (.b2 .and (.b2 .and (.b2 .le (.lit (-9223372036854775808)) (.var 5)) (.b2 .le (.var 5) (.lit (9223372036854775807)))) (.b2 .and (.b2 .and (.b2 .le (.lit (0)) (.var 6)) (.b2 .le (.var 6) (.lit (4294967295)))) (.b2 .and (.b2 .and (.b2 .le (.lit (-9223372036854775808)) (.var 7)) (.b2 .le (.var 7) (.lit (9223372036854775807)))) (.b2 .and (.b2 .and (.b2 .le (.lit (-9223372036854775808)) (.var 8)) (.b2 .le (.var 8) (.lit (9223372036854775807)))) (.b2 .and (.b2 .le (.lit (-9223372036854775808)) (.var 9)) (.b2 .le (.var 9) (.lit (9223372036854775807))))))))))))) (.b2 .and (.bapp 1 (.cons (.int .i64 (.var 0)) (.cons (.int .i64 (.var 1)) (.cons (.int .i64 (.var 2)) (.cons (.int .i64 (.var 3)) (.cons (.int .u32 (.var 4)) (.cons (.int .i64 (.var 5)) (.cons (.int .u32 (.var 6)) (.cons (.int .i64 (.var 7)) (.cons (.int .i64 (.var 8)) (.cons (.int .i64 (.var 9)) .nil))))))))))) (.b2 .and (.b2 .le (.lit (0)) (.var 10)) (.b2 .le (.var 10) (.lit (1125899906842624))))))) (hty : patsTyp (ybE [pe, pb, pt, pr, gm, gs, qm, qs, pp, pc, g] [] [] []) [(.agg (.cons (.int .i64 (.var 0)) (.cons (.int .i64 (.var 1)) (.cons (.int .i64 (.var 2)) (.cons (.int .i64 (.var 3)) (.cons (.int .u32 (.var 4)) (.cons (.int .i64 (.var 5)) (.cons (.int .u32 (.var 6)) (.cons (.int .i64 (.var 7)) (.cons (.int .i64 (.var 8)) (.cons (.int .i64 (.var 9)) .nil))))))))))), (.int .i64 (.var 10))]) : bound_tree.holds (fun v_ => v_ = denV (ybE [pe, pb, pt, pr, gm, gs, qm, qs, pp, pc, g] [] [] []) b0 (.tup (.cons (.int .i64 (.iapp 18 (.cons (.int .i64 (.var 3)) (.cons (.int .u32 (.var 6)) (.cons (.int .i64 (.var 7)) (.cons (.int .i64 (.var 8)) (.cons (.int .i64 (.var 10)) .nil))))))) (.cons (.err (.iapp 19 (.cons (.int .u32 (.var 6)) (.cons (.int .i64 (.var 7)) (.cons (.int .i64 (.var 10)) .nil))))) .nil)))) (ybE [pe, pb, pt, pr, gm, gs, qm, qs, pp, pc, g] [] [] []) := by
  simp only [Tree.holds, Sy.holds, AllN, Env.more, ybE, List.cons_append, List.nil_append, List.append_nil, denV, denI, denB, denL, I2.den, VOp.den, List.getD_cons_zero, List.getD_cons_succ, Cst.den, syso, syse, syio, sybo, ybb_pm, List.map_nil, List.map_cons, B2.ofInts, B2.denI, B2.denB, if_true, Bool.false_eq_true, if_false, Nat.div_one, Nat.mul_one, Nat.add_zero, holds] at hc
  simp only [patsTyp, patTyp, patTypL, ybE, denV, denL, List.getD_cons_zero, List.getD_cons_succ, and_true, true_and] at hty
  unfold bound_tree
  simp only [bound_x0]
  simp only [Tree.holds, Sy.holds, AllN, Env.more, ybE, List.cons_append, List.nil_append, List.append_nil, denV, denI, denB, denL, I2.den, VOp.den, List.getD_cons_zero, List.getD_cons_succ, Cst.den, syso, syse, syio, sybo, ybi_sa, ybi_msn, ybi_mse, ybi_up, ybi_hv, ybi_bnv, ybi_bne, ybb_fm, List.map_nil, List.map_cons, B2.ofInts, B2.denI, B2.denB, if_true, Bool.false_eq_true, if_false, Nat.div_one, Nat.mul_one, Nat.add_zero]
  have hp : pgP pe pb pt pr gm gs qm qs pp pc := of_decide_eq_true hc.2.1
  obtain ⟨a1, a2, a3, a4, a5, a6, a7, a8, f1, f2, a11, a12, a13, a14⟩ := hp
  have hm := ms_spec f2 hc.2.2.1
  have ha := bn_spec pr qm qs pp g
  have hh := hv_bd (n := g) (s := qs) hc.2.2.1
  have s1 := satE_spec (msN g qm qs + 1)
  have s2 := satE_spec (pr + upK (satE (msN g qm qs + 1) * pp))
  have s3 := satE_spec (satE (pr + upK (satE (msN g qm qs + 1) * pp)) + (g / 2 ^ qs.toNat + 2))
  refine ⟨?_, fun h0 => ?_⟩
  ·
   first
   | omega
   | (simp only [f1, f2, decide_true, true_and]; omega)
   | (simp only [f1, f2, hp, decide_true, true_and]; omega)
  ·
   refine ⟨fun h1 => ?_, fun h1 => ?_⟩
   ·
    rcases hm with ⟨c0, ⟨m1, m2, m3⟩ | ⟨m1, m2, m3⟩⟩ <;> rcases ha with ⟨z1, z2, z3⟩ | ⟨z1, z2, z3⟩
    all_goals first
    | (exfalso; omega)
    | (rw [z2, z3, m1]; done)
    | (rw [z2, z3]; rfl)
    | (rw [z2, z3]; unfold bnO; rw [m2]; done)
    | (rw [z2, z3]; unfold bnO; rw [m2]; rfl)
   ·
    refine ⟨?_, fun h2 => ?_⟩
    ·
     first
     | omega
     | (simp only [f1, f2, decide_true, true_and]; omega)
     | (simp only [f1, f2, hp, decide_true, true_and]; omega)
    ·
     refine ⟨?_, fun h3 => ?_⟩
     ·
      first
      | omega
      | (simp only [f1, f2, decide_true, true_and]; omega)
      | (simp only [f1, f2, hp, decide_true, true_and]; omega)
     ·
      refine ⟨?_, fun h4 => ?_⟩
      ·
       first
       | omega
       | (simp only [f1, f2, decide_true, true_and]; omega)
       | (simp only [f1, f2, hp, decide_true, true_and]; omega)
      ·
       refine ⟨?_, fun h5 => ?_⟩
       ·
        first
        | omega
        | (simp only [f1, f2, decide_true, true_and]; omega)
        | (simp only [f1, f2, hp, decide_true, true_and]; omega)
       ·
        refine ⟨?_, fun h6 => ?_⟩
        ·
         first
         | omega
         | (simp only [f1, f2, decide_true, true_and]; omega)
         | (simp only [f1, f2, hp, decide_true, true_and]; omega)
        ·
         rcases hm with ⟨c0, ⟨m1, m2, m3⟩ | ⟨m1, m2, m3⟩⟩ <;> rcases ha with ⟨z1, z2, z3⟩ | ⟨z1, z2, z3⟩
         all_goals first
         | (exfalso; omega)
         | (rw [z2, z3, m1]; done)
         | (rw [z2, z3]; rfl)
         | (rw [z2, z3]; unfold bnO; rw [m2]; done)
         | (rw [z2, z3]; unfold bnO; rw [m2]; rfl)
theorem ybg_bound : ybc_bound.Good Tryd.prog syG (ybE [] [] [] []) := good_of_walk (Γ := ⟨[yac_scale, yac_grow, yac_addsat, yac_off], syG, [], [], []⟩) (ρ := ybE [] [] [] []) sym bound_w rfl (fun _ _ _ _ => (ok_cons (Con.Good.env (Con.Good.up yag_scale ybup rfl) _ _ _ _) (ok_cons (Con.Good.env (Con.Good.up yag_grow ybup rfl) _ _ _ _) (ok_cons (Con.Good.env (Con.Good.up yag_addsat ybup rfl) _ _ _ _) (ok_cons (Con.Good.env (Con.Good.up yag_off ybup rfl) _ _ _ _) ok_nil))))) (fun pe pb pt pr gm gs qm qs pp pc g hc hty => bound_h pe pb pt pr gm gs qm qs pp pc g hc hty)
def time_tree : Tree :=
 (.need (.b2 .and (.b2 .and (.b2 .le (.lit (-9223372036854775808)) (.var 0)) (.b2 .le (.var 0) (.lit (9223372036854775807)))) (.b2 .and (.b2 .and (.b2 .le (.lit (-9223372036854775808)) (.var 1)) (.b2 .le (.var 1) (.lit (9223372036854775807)))) (.b2 .and (.b2 .and (.b2 .le (.lit (-9223372036854775808)) (.var 2)) (.b2 .le (.var 2) (.lit (9223372036854775807)))) (.b2 .and (.b2 .and (.b2 .le (.lit (-9223372036854775808)) (.var 3)) (.b2 .le (.var 3) (.lit (9223372036854775807)))) (.b2 .and (.b2 .and (.b2 .le (.lit (0)) (.var 4)) (.b2 .le (.var 4) (.lit (4294967295)))) (.b2 .and (.b2 .and (.b2 .le (.lit (-9223372036854775808)) (.var 5)) (.b2 .le (.var 5) (.lit (9223372036854775807)))) (.b2 .and (.b2 .and (.b2 .le (.lit (0)) (.var 6)) (.b2 .le (.var 6) (.lit (4294967295)))) (.b2 .and (.b2 .and (.b2 .le (.lit (-9223372036854775808)) (.var 7)) (.b2 .le (.var 7) (.lit (9223372036854775807)))) (.b2 .and (.b2 .and (.b2 .le (.lit (-9223372036854775808)) (.var 8)) (.b2 .le (.var 8) (.lit (9223372036854775807)))) (.b2 .and (.b2 .le (.lit (-9223372036854775808)) (.var 9)) (.b2 .le (.var 9) (.lit (9223372036854775807)))))))))))))
 (.br (.not (.b2 .eq (.iapp 14 (.cons (.int .i64 (.var 0)) (.cons (.int .i64 (.var 1)) (.cons (.int .i64 (.var 2)) (.cons (.int .i64 (.var 3)) (.cons (.int .u32 (.var 4)) (.cons (.int .i64 (.var 5)) (.cons (.int .u32 (.var 6)) (.cons (.int .i64 (.var 7)) (.cons (.int .i64 (.var 8)) (.cons (.int .i64 (.var 9)) .nil))))))))))) (.lit (0))))
 (.ret (.tup (.cons (.int .i64 (.lit (0))) (.cons (.int .i64 (.lit (0))) (.cons (.err (.iapp 14 (.cons (.int .i64 (.var 0)) (.cons (.int .i64 (.var 1)) (.cons (.int .i64 (.var 2)) (.cons (.int .i64 (.var 3)) (.cons (.int .u32 (.var 4)) (.cons (.int .i64 (.var 5)) (.cons (.int .u32 (.var 6)) (.cons (.int .i64 (.var 7)) (.cons (.int .i64 (.var 8)) (.cons (.int .i64 (.var 9)) .nil)))))))))))) .nil)))))
 (.br (.b2 .lt (.var 10) (.var 1))
 (.ret (.tup (.cons (.int .i64 (.lit (0))) (.cons (.int .i64 (.lit (0))) (.cons (.iface 229 (.int .i64 (.lit (10)))) .nil)))))
 (.br (.b2 .lt (.var 9) (.wrap .i64 (.i2 .sub (.var 10) (.var 1))))
 (.ret (.tup (.cons (.int .i64 (.lit (0))) (.cons (.int .i64 (.lit (0))) (.cons (.iface 229 (.int .i64 (.lit (14)))) .nil)))))
 (.need (.b2 .and (.b2 .and (.b2 .and (.b2 .le (.lit (-9223372036854775808)) (.var 0)) (.b2 .le (.var 0) (.lit (9223372036854775807)))) (.b2 .and (.b2 .and (.b2 .le (.lit (-9223372036854775808)) (.var 1)) (.b2 .le (.var 1) (.lit (9223372036854775807)))) (.b2 .and (.b2 .and (.b2 .le (.lit (-9223372036854775808)) (.var 2)) (.b2 .le (.var 2) (.lit (9223372036854775807)))) (.b2 .and (.b2 .and (.b2 .le (.lit (-9223372036854775808)) (.var 3)) (.b2 .le (.var 3) (.lit (9223372036854775807)))) (.b2 .and (.b2 .and (.b2 .le (.lit (0)) (.var 4)) (.b2 .le (.var 4) (.lit (4294967295)))) (.b2 .and (.b2 .and (.b2 .le (.lit (-9223372036854775808)) (.var 5)) (.b2 .le (.var 5) (.lit (9223372036854775807)))) (.b2 .and (.b2 .and (.b2 .le (.lit (0)) (.var 6)) (.b2 .le (.var 6) (.lit (4294967295)))) (.b2 .and (.b2 .and (.b2 .le (.lit (-9223372036854775808)) (.var 7)) (.b2 .le (.var 7) (.lit (9223372036854775807)))) (.b2 .and (.b2 .and (.b2 .le (.lit (-9223372036854775808)) (.var 8)) (.b2 .le (.var 8) (.lit (9223372036854775807)))) (.b2 .and (.b2 .le (.lit (-9223372036854775808)) (.var 9)) (.b2 .le (.var 9) (.lit (9223372036854775807))))))))))))) (.b2 .and (.bapp 1 (.cons (.int .i64 (.var 0)) (.cons (.int .i64 (.var 1)) (.cons (.int .i64 (.var 2)) (.cons (.int .i64 (.var 3)) (.cons (.int .u32 (.var 4)) (.cons (.int .i64 (.var 5)) (.cons (.int .u32 (.var 6)) (.cons (.int .i64 (.var 7)) (.cons (.int .i64 (.var 8)) (.cons (.int .i64 (.var 9)) .nil))))))))))) (.b2 .and (.b2 .le (.lit (0)) (.wrap .i64 (.i2 .sub (.var 10) (.var 1)))) (.b2 .le (.wrap .i64 (.i2 .sub (.var 10) (.var 1))) (.lit (1125899906842624))))))
 (.br (.not (.b2 .eq (.iapp 17 (.cons (.int .i64 (.var 2)) (.cons (.int .u32 (.var 4)) (.cons (.int .i64 (.var 5)) (.cons (.int .i64 (.wrap .i64 (.i2 .sub (.var 10) (.var 1)))) .nil))))) (.lit (0))))
 (.ret (.tup (.cons (.int .i64 (.lit (0))) (.cons (.int .i64 (.lit (0))) (.cons (.err (.iapp 17 (.cons (.int .i64 (.var 2)) (.cons (.int .u32 (.var 4)) (.cons (.int .i64 (.var 5)) (.cons (.int .i64 (.wrap .i64 (.i2 .sub (.var 10) (.var 1)))) .nil)))))) .nil)))))
 (.need (.b2 .and (.b2 .and (.b2 .and (.b2 .le (.lit (-9223372036854775808)) (.var 0)) (.b2 .le (.var 0) (.lit (9223372036854775807)))) (.b2 .and (.b2 .and (.b2 .le (.lit (-9223372036854775808)) (.var 1)) (.b2 .le (.var 1) (.lit (9223372036854775807)))) (.b2 .and (.b2 .and (.b2 .le (.lit (-9223372036854775808)) (.var 2)) (.b2 .le (.var 2) (.lit (9223372036854775807)))) (.b2 .and (.b2 .and (.b2 .le (.lit (-9223372036854775808)) (.var 3)) (.b2 .le (.var 3) (.lit (9223372036854775807)))) (.b2 .and (.b2 .and (.b2 .le (.lit (0)) (.var 4)) (.b2 .le (.var 4) (.lit (4294967295)))) (.b2 .and (.b2 .and (.b2 .le (.lit (-9223372036854775808)) (.var 5)) (.b2 .le (.var 5) (.lit (9223372036854775807)))) (.b2 .and (.b2 .and (.b2 .le (.lit (0)) (.var 6)) (.b2 .le (.var 6) (.lit (4294967295)))) (.b2 .and (.b2 .and (.b2 .le (.lit (-9223372036854775808)) (.var 7)) (.b2 .le (.var 7) (.lit (9223372036854775807)))) (.b2 .and (.b2 .and (.b2 .le (.lit (-9223372036854775808)) (.var 8)) (.b2 .le (.var 8) (.lit (9223372036854775807)))) (.b2 .and (.b2 .le (.lit (-9223372036854775808)) (.var 9)) (.b2 .le (.var 9) (.lit (9223372036854775807))))))))))))) (.b2 .and (.bapp 1 (.cons (.int .i64 (.var 0)) (.cons (.int .i64 (.var 1)) (.cons (.int .i64 (.var 2)) (.cons (.int .i64 (.var 3)) (.cons (.int .u32 (.var 4)) (.cons (.int .i64 (.var 5)) (.cons (.int .u32 (.var 6)) (.cons (.int .i64 (.var 7)) (.cons (.int .i64 (.var 8)) (.cons (.int .i64 (.var 9)) .nil))))))))))) (.b2 .and (.b2 .le (.lit (0)) (.wrap .i64 (.i2 .sub (.var 10) (.var 1)))) (.b2 .le (.wrap .i64 (.i2 .sub (.var 10) (.var 1))) (.lit (1125899906842624))))))
 (.br (.not (.b2 .eq (.iapp 19 (.cons (.int .u32 (.var 6)) (.cons (.int .i64 (.var 7)) (.cons (.int .i64 (.wrap .i64 (.i2 .sub (.var 10) (.var 1)))) .nil)))) (.lit (0))))
 (.ret (.tup (.cons (.int .i64 (.lit (0))) (.cons (.int .i64 (.lit (0))) (.cons (.err (.iapp 19 (.cons (.int .u32 (.var 6)) (.cons (.int .i64 (.var 7)) (.cons (.int .i64 (.wrap .i64 (.i2 .sub (.var 10) (.var 1)))) .nil))))) .nil)))))
 (.ret (.tup (.cons (.int .i64 (.iapp 16 (.cons (.int .i64 (.var 2)) (.cons (.int .u32 (.var 4)) (.cons (.int .i64 (.var 5)) (.cons (.int .i64 (.wrap .i64 (.i2 .sub (.var 10) (.var 1)))) .nil)))))) (.cons (.int .i64 (.iapp 18 (.cons (.int .i64 (.var 3)) (.cons (.int .u32 (.var 6)) (.cons (.int .i64 (.var 7)) (.cons (.int .i64 (.var 8)) (.cons (.int .i64 (.wrap .i64 (.i2 .sub (.var 10) (.var 1)))) .nil))))))) (.cons (.cst .nilI) .nil)))))))))))))
abbrev ybc_time : Con := ⟨80, [(.agg (.cons (.int .i64 (.var 0)) (.cons (.int .i64 (.var 1)) (.cons (.int .i64 (.var 2)) (.cons (.int .i64 (.var 3)) (.cons (.int .u32 (.var 4)) (.cons (.int .i64 (.var 5)) (.cons (.int .u32 (.var 6)) (.cons (.int .i64 (.var 7)) (.cons (.int .i64 (.var 8)) (.cons (.int .i64 (.var 9)) .nil))))))))))), (.int .i64 (.var 10))], (.b2 .and (.b2 .and (.b2 .and (.b2 .le (.lit (-9223372036854775808)) (.var 0)) (.b2 .le (.var 0) (.lit (9223372036854775807)))) (.b2 .and (.b2 .and (.b2 .le (.lit (-9223372036854775808)) (.var 1)) (.b2 .le (.var 1) (.lit (9223372036854775807)))) (.b2 .and (.b2 .and (.b2 .le (.lit (-9223372036854775808)) (.var 2)) (.b2 .le (.var 2) (.lit (9223372036854775807)))) (.b2 .and (.b2 .and (.b2 .le (.lit (-9223372036854775808)) (.var 3)) (.b2 .le (.var 3) (.lit (9223372036854775807)))) (.b2 .and (.b2 .and (.b2 .le (.lit (0)) (.var 4)) (.b2 .le (.var 4) (.lit (4294967295)))) (.b2 .and (.b2 .and (.b2 .le (.lit (-9223372036854775808)) (.var 5)) (.b2 .le (.var 5) (.lit (9223372036854775807)))) (.b2 .and (.b2 .and (.b2 .le (.lit (0)) (.var 6)) (.b2 .le (.var 6) (.lit (4294967295)))) (.b2 .and (.b2 .and (.b2 .le (.lit (-9223372036854775808)) (.var 7)) (.b2 .le (.var 7) (.lit (9223372036854775807)))) (.b2 .and (.b2 .and (.b2 .le (.lit (-9223372036854775808)) (.var 8)) (.b2 .le (.var 8) (.lit (9223372036854775807)))) (.b2 .and (.b2 .le (.lit (-9223372036854775808)) (.var 9)) (.b2 .le (.var 9) (.lit (9223372036854775807))))))))))))) (.b2 .and (.b2 .le (.lit (-9223372036854775808)) (.var 10)) (.b2 .le (.var 10) (.lit (9223372036854775807))))), (.tup (.cons (.int .i64 (.iapp 21 (.cons (.int .i64 (.var 0)) (.cons (.int .i64 (.var 1)) (.cons (.int .i64 (.var 2)) (.cons (.int .i64 (.var 3)) (.cons (.int .u32 (.var 4)) (.cons (.int .i64 (.var 5)) (.cons (.int .u32 (.var 6)) (.cons (.int .i64 (.var 7)) (.cons (.int .i64 (.var 8)) (.cons (.int .i64 (.var 9)) (.cons (.int .i64 (.var 10)) .nil))))))))))))) (.cons (.int .i64 (.iapp 22 (.cons (.int .i64 (.var 0)) (.cons (.int .i64 (.var 1)) (.cons (.int .i64 (.var 2)) (.cons (.int .i64 (.var 3)) (.cons (.int .u32 (.var 4)) (.cons (.int .i64 (.var 5)) (.cons (.int .u32 (.var 6)) (.cons (.int .i64 (.var 7)) (.cons (.int .i64 (.var 8)) (.cons (.int .i64 (.var 9)) (.cons (.int .i64 (.var 10)) .nil))))))))))))) (.cons (.err (.iapp 20 (.cons (.int .i64 (.var 0)) (.cons (.int .i64 (.var 1)) (.cons (.int .i64 (.var 2)) (.cons (.int .i64 (.var 3)) (.cons (.int .u32 (.var 4)) (.cons (.int .i64 (.var 5)) (.cons (.int .u32 (.var 6)) (.cons (.int .i64 (.var 7)) (.cons (.int .i64 (.var 8)) (.cons (.int .i64 (.var 9)) (.cons (.int .i64 (.var 10)) .nil))))))))))))) .nil)))), ⟨11, 0, 0, 0⟩, none⟩
theorem time_w : walk Tryd.prog 229 ⟨[ybc_pcheck, ybc_at, ybc_bound], syG, [], [], []⟩ [] .v ybc_time ybc_time.n 3000 = some time_tree := by kernel_rfl
theorem time_h (pe : Int) (pb : Int) (pt : Int) (pr : Int) (gm : Int) (gs : Int) (qm : Int) (qs : Int) (pp : Int) (pc : Int) (k : Int) (hc : holds (ybE [pe, pb, pt, pr, gm, gs, qm, qs, pp, pc, k] [] [] []) (.b2 .and (.b2 .and (.b2 .and (.b2 .le (.lit (-9223372036854775808)) (.var 0)) (.b2 .le (.var 0) (.lit (9223372036854775807)))) (.b2 .and (.b2 .and (.b2 .le (.lit (-9223372036854775808)) (.var 1)) (.b2 .le (.var 1) (.lit (9223372036854775807)))) (.b2 .and (.b2 .and (.b2 .le (.lit (-9223372036854775808)) (.var 2)) (.b2 .le (.var 2) (.lit (9223372036854775807)))) (.b2 .and (.b2 .and (.b2 .le (.lit (-9223372036854775808)) (.var 3)) (.b2 .le (.var 3) (.lit (9223372036854775807)))) (.b2 .and (.b2 .and (.b2 .le (.lit (0)) (.var 4)) (.b2 .le (.var 4) (.lit (4294967295)))) (.b2 .and (.b2 .and (.b2 .le (.lit (-9223372036854775808)) (.var 5)) (.b2 .le (.var 5) (.lit (9223372036854775807)))) (.b2 .and (.b2 .and (.b2 .le (.lit (0)) (.var 6)) (.b2 .le (.var 6) (.lit (4294967295)))) (.b2 .and (.b2 .and (.b2 .le (.lit (-9223372036854775808)) (.var 7)) (.b2 .le (.var 7) (.lit (9223372036854775807)))) (.b2 .and (.b2 .and (.b2 .le (.lit (-9223372036854775808)) (.var 8)) (.b2 .le (.var 8) (.lit (9223372036854775807)))) (.b2 .and (.b2 .le (.lit (-9223372036854775808)) (.var 9)) (.b2 .le (.var 9) (.lit (9223372036854775807))))))))))))) (.b2 .and (.b2 .le (.lit (-9223372036854775808)) (.var 10)) (.b2 .le (.var 10) (.lit (9223372036854775807)))))) (hty : patsTyp (ybE [pe, pb, pt, pr, gm, gs, qm, qs, pp, pc, k] [] [] []) [(.agg (.cons (.int .i64 (.var 0)) (.cons (.int .i64 (.var 1)) (.cons (.int .i64 (.var 2)) (.cons (.int .i64 (.var 3)) (.cons (.int .u32 (.var 4)) (.cons (.int .i64 (.var 5)) (.cons (.int .u32 (.var 6)) (.cons (.int .i64 (.var 7)) (.cons (.int .i64 (.var 8)) (.cons (.int .i64 (.var 9)) .nil))))))))))), (.int .i64 (.var 10))]) : time_tree.holds (fun v_ => v_ = denV (ybE [pe, pb, pt, pr, gm, gs, qm, qs, pp, pc, k] [] [] []) b0 (.tup (.cons (.int .i64 (.iapp 21 (.cons (.int .i64 (.var 0)) (.cons (.int .i64 (.var 1)) (.cons (.int .i64 (.var 2)) (.cons (.int .i64 (.var 3)) (.cons (.int .u32 (.var 4)) (.cons (.int .i64 (.var 5)) (.cons (.int .u32 (.var 6)) (.cons (.int .i64 (.var 7)) (.cons (.int .i64 (.var 8)) (.cons (.int .i64 (.var 9)) (.cons (.int .i64 (.var 10)) .nil))))))))))))) (.cons (.int .i64 (.iapp 22 (.cons (.int .i64 (.var 0)) (.cons (.int .i64 (.var 1)) (.cons (.int .i64 (.var 2)) (.cons (.int .i64 (.var 3)) (.cons (.int .u32 (.var 4)) (.cons (.int .i64 (.var 5)) (.cons (.int .u32 (.var 6)) (.cons (.int .i64 (.var 7)) (.cons (.int .i64 (.var 8)) (.cons (.int .i64 (.var 9)) (.cons (.int .i64 (.var 10)) .nil))))))))))))) (.cons (.err (.iapp 20 (.cons (.int .i64 (.var 0)) (.cons (.int .i64 (.var 1)) (.cons (.int .i64 (.var 2)) (.cons (.int .i64 (.var 3)) (.cons (.int .u32 (.var 4)) (.cons (.int .i64 (.var 5)) (.cons (.int .u32 (.var 6)) (.cons (.int .i64 (.var 7)) (.cons (.int .i64 (.var 8)) (.cons (.int .i64 (.var 9)) (.cons (.int .i64 (.var 10)) .nil))))))))))))) .nil))))) (ybE [pe, pb, pt, pr, gm, gs, qm, qs, pp, pc, k] [] [] []) := by
  simp only [Tree.holds, Sy.holds, AllN, Env.more, ybE, List.cons_append, List.nil_append, List.append_nil, denV, denI, denB, denL, I2.den, VOp.den, List.getD_cons_zero, List.getD_cons_succ, Cst.den, syso, syse, syio, sybo, List.map_nil, List.map_cons, B2.ofInts, B2.denI, B2.denB, if_true, Bool.false_eq_true, if_false, Nat.div_one, Nat.mul_one, Nat.add_zero, holds] at hc
  simp only [patsTyp, patTyp, patTypL, ybE, denV, denL, List.getD_cons_zero, List.getD_cons_succ, and_true, true_and] at hty
  unfold time_tree
  simp only [Tree.holds, Sy.holds, AllN, Env.more, ybE, List.cons_append, List.nil_append, List.append_nil, denV, denI, denB, denL, I2.den, VOp.den, List.getD_cons_zero, List.getD_cons_succ, Cst.den, syso, syse, syio, sybo, ybi_pge, ybi_atv, ybi_ate, ybi_bnv, ybi_bne, ybi_tme, ybi_tmt, ybi_tmo, ybb_pm, List.map_nil, List.map_cons, B2.ofInts, B2.denI, B2.denB, if_true, Bool.false_eq_true, if_false, Nat.div_one, Nat.mul_one, Nat.add_zero]
  rcases tm_spec pe pb pt pr gm gs qm qs pp pc k with ⟨⟨hp, he⟩, z1, z2, z3⟩ | ⟨⟨hp, he⟩, ⟨hk, z1, z2, z3⟩ | ⟨hk, z1, z2, z3⟩ | ⟨hk, z1, z2, z3⟩ | ⟨hk, z1, z2, z3⟩⟩
  all_goals
   have hq := pg_bd pe pb pt pr gm gs qm qs pp pc
   have ha := at_spec pt gm gs (k - pb)
   have hb := bn_spec pr qm qs pp (k - pb)
   refine ⟨?_, fun h0 => ?_⟩
   ·
    first
    | omega
    | exact absurd (of_decide_eq_true (by assumption)) hp
    | exact absurd (of_decide_eq_true (Decidable.of_not_not (by assumption))) hp
    | (obtain ⟨a1, a2, a3, a4, a5, a6, a7, a8, f1, f2, a11, a12, a13, a14⟩ := id hp
       simp only [hp, f1, f2, decide_true, true_and]
       omega)
   ·
    refine ⟨fun h1 => ?_, fun h1 => ?_⟩
    ·
     first
     | (exfalso; omega)
     | (rw [z1, z2, z3, he]; done)
     | (rw [z1, z2, z3, he]; rfl)
     | (rw [z1, z2, z3]; done)
     | (rw [z1, z2, z3]; rfl)
     | (rcases ha with ⟨y1, y2, y3⟩ | ⟨y1, y2, y3⟩ <;> rcases hb with ⟨x1, x2, x3⟩ | ⟨x1, x2, x3⟩ <;> first | (exfalso; omega) | (rw [z1, z2, z3, y3, x3]; done) | (rw [z1, z2, z3, y3, x3]; rfl) | (rw [z1, z2, z3, y2]; done) | (rw [z1, z2, z3, y2]; rfl) | (rw [z1, z2, z3, x2]; done) | (rw [z1, z2, z3, x2]; rfl))
    ·
     refine ⟨fun h2 => ?_, fun h2 => ?_⟩
     ·
      first
      | (exfalso; omega)
      | (rw [z1, z2, z3, he]; done)
      | (rw [z1, z2, z3, he]; rfl)
      | (rw [z1, z2, z3]; done)
      | (rw [z1, z2, z3]; rfl)
      | (rcases ha with ⟨y1, y2, y3⟩ | ⟨y1, y2, y3⟩ <;> rcases hb with ⟨x1, x2, x3⟩ | ⟨x1, x2, x3⟩ <;> first | (exfalso; omega) | (rw [z1, z2, z3, y3, x3]; done) | (rw [z1, z2, z3, y3, x3]; rfl) | (rw [z1, z2, z3, y2]; done) | (rw [z1, z2, z3, y2]; rfl) | (rw [z1, z2, z3, x2]; done) | (rw [z1, z2, z3, x2]; rfl))
     ·
      first | have hw0 : IntKind.wrap .i64 (k - pb) = (k - pb) := by (have hwx := wr_i64 (k - pb); omega) | have wf0 := wr_i64 (k - pb)
      refine ⟨fun h3 => ?_, fun h3 => ?_⟩
      ·
       first
       | (exfalso; omega)
       | (rw [z1, z2, z3, he]; done)
       | (rw [z1, z2, z3, he]; rfl)
       | (rw [z1, z2, z3]; done)
       | (rw [z1, z2, z3]; rfl)
       | (rcases ha with ⟨y1, y2, y3⟩ | ⟨y1, y2, y3⟩ <;> rcases hb with ⟨x1, x2, x3⟩ | ⟨x1, x2, x3⟩ <;> first | (exfalso; omega) | (rw [z1, z2, z3, y3, x3]; done) | (rw [z1, z2, z3, y3, x3]; rfl) | (rw [z1, z2, z3, y2]; done) | (rw [z1, z2, z3, y2]; rfl) | (rw [z1, z2, z3, x2]; done) | (rw [z1, z2, z3, x2]; rfl))
      ·
       refine ⟨?_, fun h4 => ?_⟩
       ·
        first
        | omega
        | exact absurd (of_decide_eq_true (by assumption)) hp
        | exact absurd (of_decide_eq_true (Decidable.of_not_not (by assumption))) hp
        | (obtain ⟨a1, a2, a3, a4, a5, a6, a7, a8, f1, f2, a11, a12, a13, a14⟩ := id hp
           simp only [hp, f1, f2, decide_true, true_and]
           omega)
       ·
        try simp only [hw0]
        refine ⟨fun h5 => ?_, fun h5 => ?_⟩
        ·
         try simp only [hw0]
         first
         | (exfalso; omega)
         | (rw [z1, z2, z3, he]; done)
         | (rw [z1, z2, z3, he]; rfl)
         | (rw [z1, z2, z3]; done)
         | (rw [z1, z2, z3]; rfl)
         | (rcases ha with ⟨y1, y2, y3⟩ | ⟨y1, y2, y3⟩ <;> rcases hb with ⟨x1, x2, x3⟩ | ⟨x1, x2, x3⟩ <;> first | (exfalso; omega) | (rw [z1, z2, z3, y3, x3]; done) | (rw [z1, z2, z3, y3, x3]; rfl) | (rw [z1, z2, z3, y2]; done) | (rw [z1, z2, z3, y2]; rfl) | (rw [z1, z2, z3, x2]; done) | (rw [z1, z2, z3, x2]; rfl))
        ·
         refine ⟨?_, fun h6 => ?_⟩
         ·
          first
          | omega
          | exact absurd (of_decide_eq_true (by assumption)) hp
          | exact absurd (of_decide_eq_true (Decidable.of_not_not (by assumption))) hp
          | (obtain ⟨a1, a2, a3, a4, a5, a6, a7, a8, f1, f2, a11, a12, a13, a14⟩ := id hp
             simp only [hp, f1, f2, decide_true, true_and]
             omega)
         ·
          try simp only [hw0]
          refine ⟨fun h7 => ?_, fun h7 => ?_⟩
          ·
           try simp only [hw0]
           first
           | (exfalso; omega)
           | (rw [z1, z2, z3, he]; done)
           | (rw [z1, z2, z3, he]; rfl)
           | (rw [z1, z2, z3]; done)
           | (rw [z1, z2, z3]; rfl)
           | (rcases ha with ⟨y1, y2, y3⟩ | ⟨y1, y2, y3⟩ <;> rcases hb with ⟨x1, x2, x3⟩ | ⟨x1, x2, x3⟩ <;> first | (exfalso; omega) | (rw [z1, z2, z3, y3, x3]; done) | (rw [z1, z2, z3, y3, x3]; rfl) | (rw [z1, z2, z3, y2]; done) | (rw [z1, z2, z3, y2]; rfl) | (rw [z1, z2, z3, x2]; done) | (rw [z1, z2, z3, x2]; rfl))
          ·
           try simp only [hw0]
           first
           | (exfalso; omega)
           | (rw [z1, z2, z3, he]; done)
           | (rw [z1, z2, z3, he]; rfl)
           | (rw [z1, z2, z3]; done)
           | (rw [z1, z2, z3]; rfl)
           | (rcases ha with ⟨y1, y2, y3⟩ | ⟨y1, y2, y3⟩ <;> rcases hb with ⟨x1, x2, x3⟩ | ⟨x1, x2, x3⟩ <;> first | (exfalso; omega) | (rw [z1, z2, z3, y3, x3]; done) | (rw [z1, z2, z3, y3, x3]; rfl) | (rw [z1, z2, z3, y2]; done) | (rw [z1, z2, z3, y2]; rfl) | (rw [z1, z2, z3, x2]; done) | (rw [z1, z2, z3, x2]; rfl))
theorem ybg_time : ybc_time.Good Tryd.prog syG (ybE [] [] [] []) := good_of_walk (Γ := ⟨[ybc_pcheck, ybc_at, ybc_bound], syG, [], [], []⟩) (ρ := ybE [] [] [] []) sym time_w rfl (fun _ _ _ _ => (ok_cons (Con.Good.env ybg_pcheck _ _ _ _) (ok_cons (Con.Good.env ybg_at _ _ _ _) (ok_cons (Con.Good.env ybg_bound _ _ _ _) ok_nil)))) (fun pe pb pt pr gm gs qm qs pp pc k hc hty => time_h pe pb pt pr gm gs qm qs pp pc k hc hty)
def good_tree : Tree :=
 (.need (.b2 .and (.b2 .and (.b2 .le (.lit (-9223372036854775808)) (.var 0)) (.b2 .le (.var 0) (.lit (9223372036854775807)))) (.b2 .and (.b2 .and (.b2 .le (.lit (-9223372036854775808)) (.var 1)) (.b2 .le (.var 1) (.lit (9223372036854775807)))) (.b2 .and (.b2 .and (.b2 .le (.lit (-9223372036854775808)) (.var 2)) (.b2 .le (.var 2) (.lit (9223372036854775807)))) (.b2 .and (.b2 .and (.b2 .le (.lit (-9223372036854775808)) (.var 3)) (.b2 .le (.var 3) (.lit (9223372036854775807)))) (.b2 .and (.b2 .and (.b2 .le (.lit (0)) (.var 4)) (.b2 .le (.var 4) (.lit (4294967295)))) (.b2 .and (.b2 .and (.b2 .le (.lit (-9223372036854775808)) (.var 5)) (.b2 .le (.var 5) (.lit (9223372036854775807)))) (.b2 .and (.b2 .and (.b2 .le (.lit (0)) (.var 6)) (.b2 .le (.var 6) (.lit (4294967295)))) (.b2 .and (.b2 .and (.b2 .le (.lit (-9223372036854775808)) (.var 7)) (.b2 .le (.var 7) (.lit (9223372036854775807)))) (.b2 .and (.b2 .and (.b2 .le (.lit (-9223372036854775808)) (.var 8)) (.b2 .le (.var 8) (.lit (9223372036854775807)))) (.b2 .and (.b2 .le (.lit (-9223372036854775808)) (.var 9)) (.b2 .le (.var 9) (.lit (9223372036854775807)))))))))))))
 (.br (.not (.b2 .eq (.iapp 14 (.cons (.int .i64 (.var 0)) (.cons (.int .i64 (.var 1)) (.cons (.int .i64 (.var 2)) (.cons (.int .i64 (.var 3)) (.cons (.int .u32 (.var 4)) (.cons (.int .i64 (.var 5)) (.cons (.int .u32 (.var 6)) (.cons (.int .i64 (.var 7)) (.cons (.int .i64 (.var 8)) (.cons (.int .i64 (.var 9)) .nil))))))))))) (.lit (0))))
 (.ret (.tup (.cons (.int .i64 (.lit (0))) (.cons (.err (.iapp 14 (.cons (.int .i64 (.var 0)) (.cons (.int .i64 (.var 1)) (.cons (.int .i64 (.var 2)) (.cons (.int .i64 (.var 3)) (.cons (.int .u32 (.var 4)) (.cons (.int .i64 (.var 5)) (.cons (.int .u32 (.var 6)) (.cons (.int .i64 (.var 7)) (.cons (.int .i64 (.var 8)) (.cons (.int .i64 (.var 9)) .nil)))))))))))) .nil))))
 (.ret (.tup (.cons (.int .i64 (.wrap .i64 (.i2 .add (.var 1) (.var 9)))) (.cons (.cst .nilI) .nil))))))
abbrev ybc_good : Con := ⟨158, [(.agg (.cons (.int .i64 (.var 0)) (.cons (.int .i64 (.var 1)) (.cons (.int .i64 (.var 2)) (.cons (.int .i64 (.var 3)) (.cons (.int .u32 (.var 4)) (.cons (.int .i64 (.var 5)) (.cons (.int .u32 (.var 6)) (.cons (.int .i64 (.var 7)) (.cons (.int .i64 (.var 8)) (.cons (.int .i64 (.var 9)) .nil)))))))))))], (.b2 .and (.b2 .and (.b2 .le (.lit (-9223372036854775808)) (.var 0)) (.b2 .le (.var 0) (.lit (9223372036854775807)))) (.b2 .and (.b2 .and (.b2 .le (.lit (-9223372036854775808)) (.var 1)) (.b2 .le (.var 1) (.lit (9223372036854775807)))) (.b2 .and (.b2 .and (.b2 .le (.lit (-9223372036854775808)) (.var 2)) (.b2 .le (.var 2) (.lit (9223372036854775807)))) (.b2 .and (.b2 .and (.b2 .le (.lit (-9223372036854775808)) (.var 3)) (.b2 .le (.var 3) (.lit (9223372036854775807)))) (.b2 .and (.b2 .and (.b2 .le (.lit (0)) (.var 4)) (.b2 .le (.var 4) (.lit (4294967295)))) (.b2 .and (.b2 .and (.b2 .le (.lit (-9223372036854775808)) (.var 5)) (.b2 .le (.var 5) (.lit (9223372036854775807)))) (.b2 .and (.b2 .and (.b2 .le (.lit (0)) (.var 6)) (.b2 .le (.var 6) (.lit (4294967295)))) (.b2 .and (.b2 .and (.b2 .le (.lit (-9223372036854775808)) (.var 7)) (.b2 .le (.var 7) (.lit (9223372036854775807)))) (.b2 .and (.b2 .and (.b2 .le (.lit (-9223372036854775808)) (.var 8)) (.b2 .le (.var 8) (.lit (9223372036854775807)))) (.b2 .and (.b2 .le (.lit (-9223372036854775808)) (.var 9)) (.b2 .le (.var 9) (.lit (9223372036854775807))))))))))))), (.tup (.cons (.int .i64 (.iapp 15 (.cons (.int .i64 (.var 0)) (.cons (.int .i64 (.var 1)) (.cons (.int .i64 (.var 2)) (.cons (.int .i64 (.var 3)) (.cons (.int .u32 (.var 4)) (.cons (.int .i64 (.var 5)) (.cons (.int .u32 (.var 6)) (.cons (.int .i64 (.var 7)) (.cons (.int .i64 (.var 8)) (.cons (.int .i64 (.var 9)) .nil)))))))))))) (.cons (.err (.iapp 14 (.cons (.int .i64 (.var 0)) (.cons (.int .i64 (.var 1)) (.cons (.int .i64 (.var 2)) (.cons (.int .i64 (.var 3)) (.cons (.int .u32 (.var 4)) (.cons (.int .i64 (.var 5)) (.cons (.int .u32 (.var 6)) (.cons (.int .i64 (.var 7)) (.cons (.int .i64 (.var 8)) (.cons (.int .i64 (.var 9)) .nil)))))))))))) .nil))), ⟨10, 0, 0, 0⟩, none⟩
theorem good_w : walk Tryd.prog 229 ⟨[ybc_pcheck], syG, [], [], []⟩ [] .v ybc_good ybc_good.n 3000 = some good_tree := by kernel_rfl
theorem good_h (pe : Int) (pb : Int) (pt : Int) (pr : Int) (gm : Int) (gs : Int) (qm : Int) (qs : Int) (pp : Int) (pc : Int) (hc : holds (ybE [pe, pb, pt, pr, gm, gs, qm, qs, pp, pc] [] [] []) (.b2 .and (.b2 .and (.b2 .le (.lit (-9223372036854775808)) (.var 0)) (.b2 .le (.var 0) (.lit (9223372036854775807)))) (.b2 .and (.b2 .and (.b2 .le (.lit (-9223372036854775808)) (.var 1)) (.b2 .le (.var 1) (.lit (9223372036854775807)))) (.b2 .and (.b2 .and (.b2 .le (.lit (-9223372036854775808)) (.var 2)) (.b2 .le (.var 2) (.lit (9223372036854775807)))) (.b2 .and (.b2 .and (.b2 .le (.lit (-9223372036854775808)) (.var 3)) (.b2 .le (.var 3) (.lit (9223372036854775807)))) (.b2 .and (.b2 .and (.b2 .le (.lit (0)) (.var 4)) (.b2 .le (.var 4) (.lit (4294967295)))) (.b2 .and (.b2 .and (.b2 .le (.lit (-9223372036854775808)) (.var 5)) (.b2 .le (.var 5) (.lit (9223372036854775807)))) (.b2 .and (.b2 .and (.b2 .le (.lit (0)) (.var 6)) (.b2 .le (.var 6) (.lit (4294967295)))) (.b2 .and (.b2 .and (.b2 .le (.lit (-9223372036854775808)) (.var 7)) (.b2 .le (.var 7) (.lit (9223372036854775807)))) (.b2 .and (.b2 .and (.b2 .le (.lit (-9223372036854775808)) (.var 8)) (.b2 .le (.var 8) (.lit (9223372036854775807)))) (.b2 .and (.b2 .le (.lit (-9223372036854775808)) (.var 9)) (.b2 .le (.var 9) (.lit (9223372036854775807)))))))))))))) (hty : patsTyp (ybE [pe, pb, pt, pr, gm, gs, qm, qs, pp, pc] [] [] []) [(.agg (.cons (.int .i64 (.var 0)) (.cons (.int .i64 (.var 1)) (.cons (.int .i64 (.var 2)) (.cons (.int .i64 (.var 3)) (.cons (.int .u32 (.var 4)) (.cons (.int .i64 (.var 5)) (.cons (.int .u32 (.var 6)) (.cons (.int .i64 (.var 7)) (.cons (.int .i64 (.var 8)) (.cons (.int .i64 (.var 9)) .nil)))))))))))]) : good_tree.holds (fun v_ => v_ = denV (ybE [pe, pb, pt, pr, gm, gs, qm, qs, pp, pc] [] [] []) b0 (.tup (.cons (.int .i64 (.iapp 15 (.cons (.int .i64 (.var 0)) (.cons (.int .i64 (.var 1)) (.cons (.int .i64 (.var 2)) (.cons (.int .i64 (.var 3)) (.cons (.int .u32 (.var 4)) (.cons (.int .i64 (.var 5)) (.cons (.int .u32 (.var 6)) (.cons (.int .i64 (.var 7)) (.cons (.int .i64 (.var 8)) (.cons (.int .i64 (.var 9)) .nil)))))))))))) (.cons (.err (.iapp 14 (.cons (.int .i64 (.var 0)) (.cons (.int .i64 (.var 1)) (.cons (.int .i64 (.var 2)) (.cons (.int .i64 (.var 3)) (.cons (.int .u32 (.var 4)) (.cons (.int .i64 (.var 5)) (.cons (.int .u32 (.var 6)) (.cons (.int .i64 (.var 7)) (.cons (.int .i64 (.var 8)) (.cons (.int .i64 (.var 9)) .nil)))))))))))) .nil)))) (ybE [pe, pb, pt, pr, gm, gs, qm, qs, pp, pc] [] [] []) := by
  simp only [Tree.holds, Sy.holds, AllN, Env.more, ybE, List.cons_append, List.nil_append, List.append_nil, denV, denI, denB, denL, I2.den, VOp.den, List.getD_cons_zero, List.getD_cons_succ, Cst.den, syso, syse, syio, sybo, List.map_nil, List.map_cons, B2.ofInts, B2.denI, B2.denB, if_true, Bool.false_eq_true, if_false, Nat.div_one, Nat.mul_one, Nat.add_zero, holds] at hc
  simp only [patsTyp, patTyp, patTypL, ybE, denV, denL, List.getD_cons_zero, List.getD_cons_succ, and_true, true_and] at hty
  unfold good_tree
  simp only [Tree.holds, Sy.holds, AllN, Env.more, ybE, List.cons_append, List.nil_append, List.append_nil, denV, denI, denB, denL, I2.den, VOp.den, List.getD_cons_zero, List.getD_cons_succ, Cst.den, syso, syse, syio, sybo, ybi_pge, ybi_gdv, List.map_nil, List.map_cons, B2.ofInts, B2.denI, B2.denB, if_true, Bool.false_eq_true, if_false, Nat.div_one, Nat.mul_one, Nat.add_zero]
  refine ⟨?_, fun h0 => ?_⟩
  ·
   omega
  ·
   refine ⟨fun h1 => ?_, fun h1 => ?_⟩
   ·
    by_cases hp : pgP pe pb pt pr gm gs qm qs pp pc
    · have e0 := pgE_y hp
      have e1 := gd_y hp
      obtain ⟨a1, a2, a3, a4, a5, a6, a7, a8, f1, f2, a11, a12, a13, a14⟩ := id hp
      first
      | exact absurd (pgE_y hp) (by assumption)
      | (rw [e0, e1, show IntKind.wrap .i64 (pb + pc) = pb + pc by have := wr_i64 (pb + pc); omega]; done)
      | (rw [e0, e1, show IntKind.wrap .i64 (pb + pc) = pb + pc by have := wr_i64 (pb + pc); omega]; rfl)
    · have := pgE_n hp
      first
      | (exfalso; omega)
      | (rw [pgE_n hp, gd_n hp]; done)
      | (rw [pgE_n hp, gd_n hp]; rfl)
   ·
    have wf0 := wr_i64 (pb + pc)
    by_cases hp : pgP pe pb pt pr gm gs qm qs pp pc
    · have e0 := pgE_y hp
      have e1 := gd_y hp
      obtain ⟨a1, a2, a3, a4, a5, a6, a7, a8, f1, f2, a11, a12, a13, a14⟩ := id hp
      first
      | exact absurd (pgE_y hp) (by assumption)
      | (rw [e0, e1, show IntKind.wrap .i64 (pb + pc) = pb + pc by have := wr_i64 (pb + pc); omega]; done)
      | (rw [e0, e1, show IntKind.wrap .i64 (pb + pc) = pb + pc by have := wr_i64 (pb + pc); omega]; rfl)
    · have := pgE_n hp
      first
      | (exfalso; omega)
      | (rw [pgE_n hp, gd_n hp]; done)
      | (rw [pgE_n hp, gd_n hp]; rfl)
theorem ybg_good : ybc_good.Good Tryd.prog syG (ybE [] [] [] []) := good_of_walk (Γ := ⟨[ybc_pcheck], syG, [], [], []⟩) (ρ := ybE [] [] [] []) sym good_w rfl (fun _ _ _ _ => (ok_cons (Con.Good.env ybg_pcheck _ _ _ _) ok_nil)) (fun pe pb pt pr gm gs qm qs pp pc hc hty => good_h pe pb pt pr gm gs qm qs pp pc hc hty)
end Go.Proofs.YtjhjgfnodhbacaaDoor
