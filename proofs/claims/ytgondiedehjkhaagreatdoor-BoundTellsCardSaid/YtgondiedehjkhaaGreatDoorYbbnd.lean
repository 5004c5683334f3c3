/-
 Layer 22 by the second engine: pages and their times.
-/
import Derived.Test.YtgondiedehjkhaaGreatDoorSycbnd
import Derived.Test.YtgondiedehjkhaaGreatDoorYabnd
import Derived.Test.YtgondiedehjkhaaGreatDoorE00bnd
namespace Go.Proofs.YtgondiedehjkhaaGreatDoor
open Go.RowKit Go.Extern.Stop Go.Stop Go.Extern Go.Proofs.YtgondiedehjkhaaGreatDoor.Sy
set_option linter.unusedVariables false
set_option linter.unusedSimpArgs false
abbrev xrybbndk0_ : Tm := (an_ (an_ (le_ lm_ v0_) (le_ v0_ lM_)) (an_ (an_ (le_ lm_ v1_) (le_ v1_ lM_)) (an_ (an_ (le_ lm_ v2_) (le_ v2_ lM_)) (an_ (an_ (le_ lm_ v3_) (le_ v3_ lM_)) (an_ (an_ (le_ (.lit 0) v4_) (le_ v4_ (.lit 4294967295))) (an_ (an_ (le_ lm_ v5_) (le_ v5_ lM_)) (an_ (an_ (le_ (.lit 0) v6_) (le_ v6_ (.lit 4294967295))) (an_ (an_ (le_ lm_ v7_) (le_ v7_ lM_)) (an_ (an_ (le_ lm_ v8_) (le_ v8_ lM_)) (an_ (le_ lm_ v9_) (le_ v9_ lM_)))))))))))
abbrev xrybbndk1_ : Tm := (.iapp 5 (.cons (.int .i64 (.iapp 2 (.cons (.int .i64 (ad_ (.iapp 8 (.cons (.int .i64 (wr_ (sb_ (.var 10) v1_))) (.cons (.int .u32 v6_) (.cons z7_ .nil)))) (.lit 1))) .nil))) (.cons (.int .i64 (.iapp 4 (.cons (.int .i64 (ad_ (.iapp 8 (.cons (.int .i64 (wr_ (sb_ (.var 10) v1_))) (.cons (.int .u32 v6_) (.cons z7_ .nil)))) (.lit 1))) .nil))) .nil)))
abbrev xrybbndk2_ : Tm := (.bapp 1 (.cons z0_ (.cons z1_ (.cons z2_ (.cons z3_ (.cons (.int .u32 v4_) (.cons z5_ (.cons (.int .u32 v6_) (.cons z7_ (.cons z8_ (.cons z9_ .nil)))))))))))
abbrev xrybbndk3_ : Tm := (.agg (.cons z0_ (.cons z1_ (.cons z2_ (.cons z3_ (.cons (.int .u32 v4_) (.cons z5_ (.cons (.int .u32 v6_) (.cons z7_ (.cons z8_ (.cons z9_ .nil)))))))))))
abbrev xrybbndk14_ : Tm := (.iapp 8 (.cons (.int .i64 (.var 10)) (.cons (.int .u32 v6_) (.cons z7_ .nil))))
abbrev xrybbndk4_ : Tm := (.iapp 1 (.cons (.int .i64 (ad_ v3_ (.iapp 10 (.cons (.int .i64 (.iapp 1 (.cons (.int .i64 (ad_ xrybbndk14_ (.lit 1))) .nil))) (.cons z8_ .nil))))) .nil))
abbrev xrybbndk5_ : Tm := (.iapp 8 (.cons (.int .i64 (.var 10)) (.cons (.int .u32 v4_) (.cons z5_ .nil))))
abbrev xrybbndk6_ : Tm := (an_ (an_ (le_ (.lit 0) v6_) (le_ v6_ (.lit 4294967295))) (an_ (le_ lm_ v7_) (le_ v7_ lM_)))
abbrev xrybbndk7_ : Tm := (wr_ (ad_ (ad_ (.iapp 11 (.cons (.int .i64 (wr_ (sb_ (.var 10) v1_))) (.cons z7_ .nil))) (.lit 2)) (.lit 2)))
abbrev xrybbndk8_ : Tm := (.iapp 17 (.cons z2_ (.cons (.int .u32 v4_) (.cons z5_ (.cons (.int .i64 (wr_ (sb_ (.var 10) v1_))) .nil)))))
abbrev xrybbndk9_ : Tm := (.iapp 14 (.cons z0_ (.cons z1_ (.cons z2_ (.cons z3_ (.cons (.int .u32 v4_) (.cons z5_ (.cons (.int .u32 v6_) (.cons z7_ (.cons z8_ (.cons z9_ .nil)))))))))))
abbrev xrybbndk10_ : Tm := (an_ (le_ (.lit 0) (wr_ (sb_ (.var 10) v1_))) (le_ (wr_ (sb_ (.var 10) v1_)) (.lit 1125899906842624)))
abbrev xrybbndk11_ : Tm := (.iapp 1 (.cons (.int .i64 (ad_ v3_ (.iapp 10 (.cons (.int .i64 xrybbndk1_) (.cons z8_ .nil))))) .nil))
abbrev xrybbndk12_ : Tm := (ad_ (.iapp 11 (.cons (.int .i64 (.var 10)) (.cons z7_ .nil))) (.lit 2))
abbrev xrybbndk13_ : Tm := (an_ (an_ (le_ (.lit 0) v4_) (le_ v4_ (.lit 4294967295))) (an_ (le_ lm_ v5_) (le_ v5_ lM_)))
abbrev xrybbndk15_ : Tm := (.iapp 2 (.cons (.int .i64 (ad_ v2_ xrybbndk5_)) .nil))
abbrev xrybbndk16_ : Tm := (an_ (le_ (.lit 0) (.var 10)) (le_ (.var 10) (.lit 1125899906842624)))
abbrev xrybbndk17_ : Tm := (.iapp 22 (.cons z0_ (.cons z1_ (.cons z2_ (.cons z3_ (.cons (.int .u32 v4_) (.cons z5_ (.cons (.int .u32 v6_) (.cons z7_ (.cons z8_ (.cons z9_ (.cons (.int .i64 (.var 10)) .nil))))))))))))
abbrev xrybbndk18_ : Tm := (.iapp 21 (.cons z0_ (.cons z1_ (.cons z2_ (.cons z3_ (.cons (.int .u32 v4_) (.cons z5_ (.cons (.int .u32 v6_) (.cons z7_ (.cons z8_ (.cons z9_ (.cons (.int .i64 (.var 10)) .nil))))))))))))
abbrev xrybbndk19_ : Tm := (.iapp 20 (.cons z0_ (.cons z1_ (.cons z2_ (.cons z3_ (.cons (.int .u32 v4_) (.cons z5_ (.cons (.int .u32 v6_) (.cons z7_ (.cons z8_ (.cons z9_ (.cons (.int .i64 (.var 10)) .nil))))))))))))
theorem up_nn (g r : Int) : g < 0 ∨ r < 0 ∨ 0 ≤ upK (g * r) := by
 by_cases h1 : g < 0
 · exact .inl h1
 · by_cases h2 : r < 0
   · exact .inr (.inl h2)
   · have := Int.mul_nonneg (show 0 ≤ g by omega) (show 0 ≤ r by omega)
     refine .inr (.inr ?_)
     unfold upK
     omega
theorem hv_or (n s : Int) : n < 0 ∨ (0 ≤ n / 2 ^ s.toNat ∧ n / 2 ^ s.toNat ≤ n) := by
 by_cases h : n < 0
 · exact .inl h
 · exact .inr (hv_bd (by omega))
theorem ms_or (e b t r gm gs pm ps p c g : Int) : pgE e b t r gm gs pm ps p c = 1 ∨ g < 0 ∨ (0 ≤ qE pm ps g ∧ ((msE g pm ps = 0 ∧ msN g pm ps = qE pm ps g ∧ qE pm ps g ≤ 9223372036854775807) ∨ (msE g pm ps = 2 ∧ msN g pm ps = 0 ∧ 9223372036854775807 < qE pm ps g))) := by
 by_cases hp : pgP e b t r gm gs pm ps p c
 · right
   obtain ⟨a1, a2, a3, a4, a5, a6, a7, a8, f1, f2, a11, a12, a13, a14⟩ := hp
   by_cases h : g < 0
   · exact .inl h
   · exact .inr (ms_spec f2 (by omega))
 · exact .inl (pgE_n hp)
noncomputable def ybI : Nat → List Value → Int
 | i, l => yaI i l
noncomputable def ybB : Nat → List Value → Bool
 | i, l => yaB i l
noncomputable def ybV : Nat → List Value → Value
 | i, l => yaV i l
noncomputable abbrev ybE (iv : List Int) (bv : List Bool) (vv : List Value) (sv : List ByteArray) : Env := { iv := iv, bv := bv, vv := vv, sv := sv, fi := ybI, fb := ybB, fv := ybV, et := 111 }
set_option maxHeartbeats 8000000 in
theorem ybup : Agree 26 3 0 (yaE [] [] [] []) (ybE [] [] [] []) := ⟨rfl, (by
   intro f hf
   funext l
   show ybI f l = yaI f l
   unfold ybI
   split <;> first | rfl | omega), (by
   intro f hf
   funext l
   show ybB f l = yaB f l
   unfold ybB
   split <;> first | rfl | omega), (by
   intro f hf
   funext l
   show ybV f l = yaV f l
   unfold ybV
   split <;> first | rfl | omega)⟩
theorem ybi_sz (k1 : IntKind) (a : Int) : ybI 0 [.int k1 a] = szE a := rfl
theorem ybi_sa (k1 : IntKind) (a : Int) : ybI 1 [.int k1 a] = satE a := rfl
theorem ybi_nv (k1 : IntKind) (a : Int) : ybI 2 [.int k1 a] = svE a := rfl
theorem ybi_ne (k1 : IntKind) (a : Int) : ybI 3 [.int k1 a] = erE a := rfl
theorem ybi_so (k1 : IntKind) (a : Int) : ybI 4 [.int k1 a] = soE a := rfl
theorem ybi_bd (k1 : IntKind) (a : Int) (k2 : IntKind) (o : Int) : ybI 5 [.int k1 a, .int k2 o] = bdE a o := rfl
theorem ybi_msn (k1 : IntKind) (a : Int) (k2 : IntKind) (b : Int) (k3 : IntKind) (c : Int) : ybI 8 [.int k1 a, .int k2 b, .int k3 c] = msN a b c := rfl
theorem ybi_mse (k1 : IntKind) (a : Int) (k2 : IntKind) (b : Int) (k3 : IntKind) (c : Int) : ybI 9 [.int k1 a, .int k2 b, .int k3 c] = msE a b c := rfl
theorem ybi_up (k1 : IntKind) (g : Int) (k2 : IntKind) (r : Int) : ybI 10 [.int k1 g, .int k2 r] = upK (g * r) := rfl
theorem ybi_hv (k1 : IntKind) (n : Int) (k2 : IntKind) (s : Int) : ybI 11 [.int k1 n, .int k2 s] = n / 2 ^ s.toNat := rfl
theorem ybi_fe (k1 : IntKind) (a : Int) (k2 : IntKind) (s : Int) : ybI 13 [.int k1 a, .int k2 s] = feE a s := rfl
theorem ybi_pge (k1 : IntKind) (e : Int) (k2 : IntKind) (b : Int) (k3 : IntKind) (t : Int) (k4 : IntKind) (r : Int) (k5 : IntKind) (gm : Int) (k6 : IntKind) (gs : Int) (k7 : IntKind) (pm : Int) (k8 : IntKind) (ps : Int) (k9 : IntKind) (p : Int) (k10 : IntKind) (c : Int) : ybI 14 [.int k1 e, .int k2 b, .int k3 t, .int k4 r, .int k5 gm, .int k6 gs, .int k7 pm, .int k8 ps, .int k9 p, .int k10 c] = pgE e b t r gm gs pm ps p c := rfl
theorem ybi_atv (k1 : IntKind) (t : Int) (k2 : IntKind) (a : Int) (k3 : IntKind) (s : Int) (k4 : IntKind) (g : Int) : ybI 16 [.int k1 t, .int k2 a, .int k3 s, .int k4 g] = atV t a s g := rfl
theorem ybi_ate (k1 : IntKind) (t : Int) (k2 : IntKind) (a : Int) (k3 : IntKind) (s : Int) (k4 : IntKind) (g : Int) : ybI 17 [.int k1 t, .int k2 a, .int k3 s, .int k4 g] = atE t a s g := rfl
theorem ybi_bnv (k1 : IntKind) (r : Int) (k2 : IntKind) (a : Int) (k3 : IntKind) (s : Int) (k4 : IntKind) (p : Int) (k5 : IntKind) (g : Int) : ybI 18 [.int k1 r, .int k2 a, .int k3 s, .int k4 p, .int k5 g] = bnV r a s p g := rfl
theorem ybi_bne (k1 : IntKind) (a : Int) (k2 : IntKind) (s : Int) (k3 : IntKind) (g : Int) : ybI 19 [.int k1 a, .int k2 s, .int k3 g] = bnE a s g := rfl
theorem ybi_tme (k1 : IntKind) (e : Int) (k2 : IntKind) (b : Int) (k3 : IntKind) (t : Int) (k4 : IntKind) (r : Int) (k5 : IntKind) (gm : Int) (k6 : IntKind) (gs : Int) (k7 : IntKind) (pm : Int) (k8 : IntKind) (ps : Int) (k9 : IntKind) (p : Int) (k10 : IntKind) (c : Int) (k11 : IntKind) (k : Int) : ybI 20 [.int k1 e, .int k2 b, .int k3 t, .int k4 r, .int k5 gm, .int k6 gs, .int k7 pm, .int k8 ps, .int k9 p, .int k10 c, .int k11 k] = tmE e b t r gm gs pm ps p c k := rfl
theorem ybi_tmt (k1 : IntKind) (e : Int) (k2 : IntKind) (b : Int) (k3 : IntKind) (t : Int) (k4 : IntKind) (r : Int) (k5 : IntKind) (gm : Int) (k6 : IntKind) (gs : Int) (k7 : IntKind) (pm : Int) (k8 : IntKind) (ps : Int) (k9 : IntKind) (p : Int) (k10 : IntKind) (c : Int) (k11 : IntKind) (k : Int) : ybI 21 [.int k1 e, .int k2 b, .int k3 t, .int k4 r, .int k5 gm, .int k6 gs, .int k7 pm, .int k8 ps, .int k9 p, .int k10 c, .int k11 k] = tmT e b t r gm gs pm ps p c k := rfl
theorem ybi_tmo (k1 : IntKind) (e : Int) (k2 : IntKind) (b : Int) (k3 : IntKind) (t : Int) (k4 : IntKind) (r : Int) (k5 : IntKind) (gm : Int) (k6 : IntKind) (gs : Int) (k7 : IntKind) (pm : Int) (k8 : IntKind) (ps : Int) (k9 : IntKind) (p : Int) (k10 : IntKind) (c : Int) (k11 : IntKind) (k : Int) : ybI 22 [.int k1 e, .int k2 b, .int k3 t, .int k4 r, .int k5 gm, .int k6 gs, .int k7 pm, .int k8 ps, .int k9 p, .int k10 c, .int k11 k] = tmO e b t r gm gs pm ps p c k := rfl
theorem ybb_fm (k1 : IntKind) (a : Int) (k2 : IntKind) (s : Int) : ybB 0 [.int k1 a, .int k2 s] = decide (fmP a s) := rfl
theorem ybb_pm (k1 : IntKind) (e : Int) (k2 : IntKind) (b : Int) (k3 : IntKind) (t : Int) (k4 : IntKind) (r : Int) (k5 : IntKind) (gm : Int) (k6 : IntKind) (gs : Int) (k7 : IntKind) (pm : Int) (k8 : IntKind) (ps : Int) (k9 : IntKind) (p : Int) (k10 : IntKind) (c : Int) : ybB 1 [.int k1 e, .int k2 b, .int k3 t, .int k4 r, .int k5 gm, .int k6 gs, .int k7 pm, .int k8 ps, .int k9 p, .int k10 c] = decide (pgP e b t r gm gs pm ps p c) := rfl
def pcheck_tree : Tree :=
 (.br (lt_ v0_ (.lit 0))
 (.ret (.iface 111 (.int .i64 (.lit 1))))
 (.br (lt_ (.lit 1099511627776) v0_)
 (.ret (.iface 111 (.int .i64 (.lit 1))))
 (.br (lt_ v1_ (.lit 0))
 (.ret (.iface 111 (.int .i64 (.lit 1))))
 (.br (lt_ (.lit 1152921504606846976) v1_)
 (.ret (.iface 111 (.int .i64 (.lit 1))))
 (.need (an_ (le_ lm_ v2_) (le_ v2_ lM_))
 (.br (le_ (.lit 4611686018427387904) (.iapp 0 (.cons z2_ .nil)))
 (.ret (.iface 111 (.int .i64 (.lit 1))))
 (.br (lt_ v3_ (.lit 0))
 (.ret (.iface 111 (.int .i64 (.lit 1))))
 (.br (lt_ (.lit 2305843009213693952) v3_)
 (.ret (.iface 111 (.int .i64 (.lit 1))))
 (.br (lt_ v8_ (.lit 0))
 (.ret (.iface 111 (.int .i64 (.lit 1))))
 (.br (lt_ (.lit 2097152) v8_)
 (.ret (.iface 111 (.int .i64 (.lit 1))))
 (.br (lt_ v9_ (.lit 1))
 (.ret (.iface 111 (.int .i64 (.lit 1))))
 (.br (lt_ (.lit 1125899906842624) v9_)
 (.ret (.iface 111 (.int .i64 (.lit 1))))
 (.need xrybbndk13_
 (.br (.not (eq_ (.iapp 13 (.cons (.int .u32 v4_) (.cons z5_ .nil))) (.lit 0)))
 (.ret (.iface 111 (.int .i64 (.lit 1))))
 (.need xrybbndk6_
 (.br (.not (eq_ (.iapp 13 (.cons (.int .u32 v6_) (.cons z7_ .nil))) (.lit 0)))
 (.ret (.iface 111 (.int .i64 (.lit 1))))
 (.ret (.cst .nilI))))))))))))))))))
abbrev ybc_pcheck : Con := ⟨17, [xrybbndk3_], xrybbndk0_, (.err xrybbndk9_), ⟨10, 0, 0, 0⟩, none⟩
theorem pcheck_w : walk Tryz.prog 111 ⟨[yac_size, yac_rcheck], syG, [], [], []⟩ [] .v ybc_pcheck ybc_pcheck.n 3000 = some pcheck_tree := by kernel_rfl
theorem pcheck_h (pe pb pt pr gm gs qm qs pp pc : Int) : Hyp_ ybc_pcheck pcheck_tree (ybE [pe, pb, pt, pr, gm, gs, qm, qs, pp, pc] [] [] []) := by
 intro hc hty
 simp only [ybc_pcheck, Sy.holds, ybE, denV, denI, denB, denL, I2.den, VOp.den, List.getD_cons_zero, List.getD_cons_succ, Cst.den, syso, syse, syio, sybo, B2.ofInts, B2.denI, B2.denB, if_true, Bool.false_eq_true, if_false, Nat.div_one, Nat.mul_one, Nat.add_zero] at hc
 simp only [ybc_pcheck, patsTyp, patTyp, patTypL, ybE, denV, denL, List.getD_cons_zero, List.getD_cons_succ, and_true, true_and] at hty
 unfold pcheck_tree
 simp only [ybc_pcheck, Tree.holds, Sy.holds, ybE, denV, denI, denB, denL, I2.den, VOp.den, List.getD_cons_zero, List.getD_cons_succ, Cst.den, syso, syse, syio, sybo, ybi_sz, ybi_fe, ybi_pge, B2.ofInts, B2.denI, B2.denB, if_true, Bool.false_eq_true, if_false, Nat.div_one, Nat.mul_one, Nat.add_zero]
 have hz := szE_spec pt ⟨by omega, by omega⟩
 refine ⟨fun h0 => ?_, fun h0 => ?_⟩
 refine ?a0; rotate_left
 refine ⟨fun h1 => ?_, fun h1 => ?_⟩
 refine ?a1; rotate_left
 refine ⟨fun h2 => ?_, fun h2 => ?_⟩
 refine ?a2; rotate_left
 refine ⟨fun h3 => ?_, fun h3 => ?_⟩
 refine ?a3; rotate_left
 refine ⟨?_, fun h4 => ?_⟩
 ·
  omega
 refine ⟨fun h5 => ?_, fun h5 => ?_⟩
 refine ?a4; rotate_left
 refine ⟨fun h6 => ?_, fun h6 => ?_⟩
 refine ?a5; rotate_left
 refine ⟨fun h7 => ?_, fun h7 => ?_⟩
 refine ?a6; rotate_left
 refine ⟨fun h8 => ?_, fun h8 => ?_⟩
 refine ?a7; rotate_left
 refine ⟨fun h9 => ?_, fun h9 => ?_⟩
 refine ?a8; rotate_left
 refine ⟨fun h10 => ?_, fun h10 => ?_⟩
 refine ?a9; rotate_left
 refine ⟨fun h11 => ?_, fun h11 => ?_⟩
 refine ?a10; rotate_left
 refine ⟨?_, fun h12 => ?_⟩
 ·
  omega
 refine ⟨fun h13 => ?_, fun h13 => ?_⟩
 refine ?a11; rotate_left
 refine ⟨?_, fun h14 => ?_⟩
 ·
  omega
 refine ⟨fun h15 => ?_, fun h15 => ?_⟩
 refine ?a12; rotate_left
 refine ?a13; rotate_left
 case a0 | a1 | a2 | a3 | a4 | a5 | a6 | a7 | a8 | a9 | a10 | a11 | a12 | a13 =>
  by_cases hp : pgP pe pb pt pr gm gs qm qs pp pc
  · rw [pgE_y hp]
    obtain ⟨a1, a2, a3, a4, a5, a6, a7, a8, f1, f2, a11, a12, a13, a14⟩ := hp
    have e1 := feE_y f1
    have e2 := feE_y f2
    first
    | (exfalso; omega)
    | rfl
  · rw [pgE_n hp]
    rcases fe_spec gm gs with ⟨f1, e1⟩ | ⟨f1, e1⟩ <;> rcases fe_spec qm qs with ⟨f2, e2⟩ | ⟨f2, e2⟩
    all_goals first
    | rfl
    | (exfalso; omega)
    | exact absurd ⟨by omega, by omega, by omega, by omega, by omega, by omega, by omega, by omega, f1, f2, by omega, by omega, by omega, by omega⟩ hp
theorem ybg_pcheck : ybc_pcheck.Good Tryz.prog syG (ybE [] [] [] []) := good_of_walk (Γ := ⟨[yac_size, yac_rcheck], syG, [], [], []⟩) (ρ := ybE [] [] [] []) sym pcheck_w rfl (fun _ _ _ _ => (ok_cons (Con.Good.env (Con.Good.up yag_size ybup rfl) _ _ _ _) (ok_cons (Con.Good.env (Con.Good.up yag_rcheck ybup rfl) _ _ _ _) ok_nil))) pcheck_h
def pmay_tree : Tree :=
 (.br (lt_ v0_ (.lit 0))
 (.ret (.bool (.tt false)))
 (.br (lt_ (.lit 1099511627776) v0_)
 (.ret (.bool (.tt false)))
 (.br (lt_ v1_ (.lit 0))
 (.ret (.bool (.tt false)))
 (.br (lt_ (.lit 1152921504606846976) v1_)
 (.ret (.bool (.tt false)))
 (.br (le_ v2_ (.lit (-4611686018427387904)))
 (.ret (.bool (.tt false)))
 (.br (le_ (.lit 4611686018427387904) v2_)
 (.ret (.bool (.tt false)))
 (.br (lt_ v3_ (.lit 0))
 (.ret (.bool (.tt false)))
 (.br (lt_ (.lit 2305843009213693952) v3_)
 (.ret (.bool (.tt false)))
 (.br (lt_ v8_ (.lit 0))
 (.ret (.bool (.tt false)))
 (.br (lt_ (.lit 2097152) v8_)
 (.ret (.bool (.tt false)))
 (.br (lt_ v9_ (.lit 1))
 (.ret (.bool (.tt false)))
 (.br (lt_ (.lit 1125899906842624) v9_)
 (.ret (.bool (.tt false)))
 (.need xrybbndk13_
 (.br (.bapp 0 (.cons (.int .u32 v4_) (.cons z5_ .nil)))
 (.need xrybbndk6_
 (.ret (.bool (.bapp 0 (.cons (.int .u32 v6_) (.cons z7_ .nil))))))
 (.ret (.bool (.tt false)))))))))))))))))
abbrev ybc_pmay : Con := ⟨18, [xrybbndk3_], xrybbndk0_, (.bool xrybbndk2_), ⟨10, 0, 0, 0⟩, none⟩
theorem pmay_w : walk Tryz.prog 111 ⟨[yac_rfmay], syG, [], [], []⟩ [] .v ybc_pmay ybc_pmay.n 3000 = some pmay_tree := by kernel_rfl
theorem pmay_h (pe pb pt pr gm gs qm qs pp pc : Int) : Hyp_ ybc_pmay pmay_tree (ybE [pe, pb, pt, pr, gm, gs, qm, qs, pp, pc] [] [] []) := by
 intro hc hty
 simp only [ybc_pmay, Sy.holds, ybE, denV, denI, denB, denL, I2.den, VOp.den, List.getD_cons_zero, List.getD_cons_succ, Cst.den, syso, syse, syio, sybo, B2.ofInts, B2.denI, B2.denB, if_true, Bool.false_eq_true, if_false, Nat.div_one, Nat.mul_one, Nat.add_zero] at hc
 simp only [ybc_pmay, patsTyp, patTyp, patTypL, ybE, denV, denL, List.getD_cons_zero, List.getD_cons_succ, and_true, true_and] at hty
 unfold pmay_tree
 simp only [ybc_pmay, Tree.holds, Sy.holds, ybE, denV, denI, denB, denL, I2.den, VOp.den, List.getD_cons_zero, List.getD_cons_succ, Cst.den, syso, syse, syio, sybo, ybb_fm, ybb_pm, B2.ofInts, B2.denI, B2.denB, if_true, Bool.false_eq_true, if_false, Nat.div_one, Nat.mul_one, Nat.add_zero]
 refine ⟨fun h0 => ?_, fun h0 => ?_⟩
 refine ?a0; rotate_left
 refine ⟨fun h1 => ?_, fun h1 => ?_⟩
 refine ?a1; rotate_left
 refine ⟨fun h2 => ?_, fun h2 => ?_⟩
 refine ?a2; rotate_left
 refine ⟨fun h3 => ?_, fun h3 => ?_⟩
 refine ?a3; rotate_left
 refine ⟨fun h4 => ?_, fun h4 => ?_⟩
 refine ?a4; rotate_left
 refine ⟨fun h5 => ?_, fun h5 => ?_⟩
 refine ?a5; rotate_left
 refine ⟨fun h6 => ?_, fun h6 => ?_⟩
 refine ?a6; rotate_left
 refine ⟨fun h7 => ?_, fun h7 => ?_⟩
 refine ?a7; rotate_left
 refine ⟨fun h8 => ?_, fun h8 => ?_⟩
 refine ?a8; rotate_left
 refine ⟨fun h9 => ?_, fun h9 => ?_⟩
 refine ?a9; rotate_left
 refine ⟨fun h10 => ?_, fun h10 => ?_⟩
 refine ?a10; rotate_left
 refine ⟨fun h11 => ?_, fun h11 => ?_⟩
 refine ?a11; rotate_left
 refine ⟨?_, fun h12 => ?_⟩
 ·
  omega
 refine ⟨fun h13 => ?_, fun h13 => ?_⟩
 refine ⟨?_, fun h14 => ?_⟩
 ·
  omega
 refine ?a12; rotate_left
 refine ?a13; rotate_left
 case a0 | a1 | a2 | a3 | a4 | a5 | a6 | a7 | a8 | a9 | a10 | a11 | a12 | a13 =>
  refine congrArg Value.bool ?_
  by_cases hp : pgP pe pb pt pr gm gs qm qs pp pc
  · have e0 := decide_eq_true hp
    obtain ⟨a1, a2, a3, a4, a5, a6, a7, a8, f1, f2, a11, a12, a13, a14⟩ := hp
    first
    | (exfalso; omega)
    | exact e0.symm
    | exact (decide_eq_true f2).trans e0.symm
    | exact absurd (decide_eq_true f1) (by assumption)
  · have e0 := decide_eq_false hp
    by_cases f1 : fmP gm gs
    · by_cases f2 : fmP qm qs
      · first
        | exact e0.symm
        | (exfalso; omega)
        | exact absurd ⟨by omega, by omega, by omega, by omega, by omega, by omega, by omega, by omega, f1, f2, by omega, by omega, by omega, by omega⟩ hp
        | exact absurd (decide_eq_true f1) (by assumption)
      · first
        | exact e0.symm
        | (exfalso; omega)
        | exact (decide_eq_false f2).trans e0.symm
        | exact absurd (decide_eq_true f1) (by assumption)
    · first
      | exact e0.symm
      | (exfalso; omega)
      | exact absurd (of_decide_eq_true (by assumption)) f1
theorem ybg_pmay : ybc_pmay.Good Tryz.prog syG (ybE [] [] [] []) := good_of_walk (Γ := ⟨[yac_rfmay], syG, [], [], []⟩) (ρ := ybE [] [] [] []) sym pmay_w rfl (fun _ _ _ _ => (ok_cons (Con.Good.env (Con.Good.up yag_rfmay ybup rfl) _ _ _ _) ok_nil)) pmay_h
def at_tree : Tree :=
 (.need (an_ xrybbndk13_ (an_ (.bapp 0 (.cons (.int .u32 v4_) (.cons z5_ .nil))) (an_ (le_ lm_ (.var 10)) (le_ (.var 10) lM_))))
 (.br (.not (eq_ (.iapp 9 (.cons (.int .i64 (.var 10)) (.cons (.int .u32 v4_) (.cons z5_ .nil)))) (.lit 0)))
 (.ret (.tup (.cons (.int .i64 (.lit 0)) (.cons (.iface 111 (.int .i64 (.lit 2))) .nil))))
 (.need (an_ (an_ (le_ lm_ v2_) (le_ v2_ lM_)) (an_ (le_ lm_ xrybbndk5_) (le_ xrybbndk5_ lM_)))
 (.br (.not (eq_ (.iapp 3 (.cons (.int .i64 (ad_ v2_ xrybbndk5_)) .nil)) (.lit 0)))
 (.ret (.tup (.cons (.int .i64 (.lit 0)) (.cons (.iface 111 (.int .i64 (.lit 2))) .nil))))
 (.need (an_ (le_ lm_ xrybbndk15_) (le_ xrybbndk15_ lM_))
 (.br (le_ (.lit 4611686018427387904) (.iapp 0 (.cons (.int .i64 xrybbndk15_) .nil)))
 (.ret (.tup (.cons (.int .i64 (.lit 0)) (.cons (.iface 111 (.int .i64 (.lit 2))) .nil))))
 (.ret (.tup (.cons (.int .i64 xrybbndk15_) (.cons (.cst .nilI) .nil))))))))))
abbrev ybc_at : Con := ⟨108, [xrybbndk3_, (.int .i64 (.var 10))], (an_ xrybbndk0_ (an_ xrybbndk2_ xrybbndk16_)), (.tup (.cons (.int .i64 (.iapp 16 (.cons z2_ (.cons (.int .u32 v4_) (.cons z5_ (.cons (.int .i64 (.var 10)) .nil)))))) (.cons (.err (.iapp 17 (.cons z2_ (.cons (.int .u32 v4_) (.cons z5_ (.cons (.int .i64 (.var 10)) .nil)))))) .nil))), ⟨11, 0, 0, 0⟩, none⟩
theorem at_w : walk Tryz.prog 111 ⟨[yac_scale, yac_nadd, yac_size], syG, [], [], []⟩ [] .v ybc_at ybc_at.n 3000 = some at_tree := by kernel_rfl
theorem at_h (pe pb pt pr gm gs qm qs pp pc g : Int) : Hyp_ ybc_at at_tree (ybE [pe, pb, pt, pr, gm, gs, qm, qs, pp, pc, g] [] [] []) := by
 intro hc hty
 simp only [ybc_at, Sy.holds, ybE, denV, denI, denB, denL, I2.den, VOp.den, List.getD_cons_zero, List.getD_cons_succ, Cst.den, syso, syse, syio, sybo, ybb_pm, B2.ofInts, B2.denI, B2.denB, if_true, Bool.false_eq_true, if_false, Nat.div_one, Nat.mul_one, Nat.add_zero] at hc
 simp only [ybc_at, patsTyp, patTyp, patTypL, ybE, denV, denL, List.getD_cons_zero, List.getD_cons_succ, and_true, true_and] at hty
 unfold at_tree
 simp only [ybc_at, Tree.holds, Sy.holds, ybE, denV, denI, denB, denL, I2.den, VOp.den, List.getD_cons_zero, List.getD_cons_succ, Cst.den, syso, syse, syio, sybo, ybi_sz, ybi_nv, ybi_ne, ybi_msn, ybi_mse, ybi_atv, ybi_ate, ybb_fm, B2.ofInts, B2.denI, B2.denB, if_true, Bool.false_eq_true, if_false, Nat.div_one, Nat.mul_one, Nat.add_zero]
 have hp : pgP pe pb pt pr gm gs qm qs pp pc := of_decide_eq_true hc.2.1
 obtain ⟨a1, a2, a3, a4, a5, a6, a7, a8, f1, f2, a11, a12, a13, a14⟩ := hp
 have hm := ms_spec f1 hc.2.2.1
 have ha := at_spec pt gm gs g
 have hs := svE_spec (pt + msN g gm gs)
 have hz := szE_spec (svE (pt + msN g gm gs)) ⟨by omega, by omega⟩
 refine ⟨?_, fun h0 => ?_⟩
 refine ?a0; rotate_left
 refine ⟨fun h1 => ?_, fun h1 => ?_⟩
 refine ?a1; rotate_left
 refine ⟨?_, fun h2 => ?_⟩
 refine ?a2; rotate_left
 refine ⟨fun h3 => ?_, fun h3 => ?_⟩
 refine ?a3; rotate_left
 refine ⟨?_, fun h4 => ?_⟩
 refine ?a4; rotate_left
 refine ⟨fun h5 => ?_, fun h5 => ?_⟩
 refine ?a5; rotate_left
 refine ?a6; rotate_left
 case a0 | a2 | a4 =>
  first
  | omega
  | (simp only [f1, f2, decide_true, true_and]; omega)
  | (simp only [f1, f2, hp, decide_true, true_and]; omega)
 case a1 | a3 | a5 | a6 =>
  rcases hm with ⟨c0, ⟨m1, m2, m3⟩ | ⟨m1, m2, m3⟩⟩ <;> rcases ha with ⟨z1, z2, z3⟩ | ⟨z1, z2, z3⟩
  all_goals first
  | (exfalso; omega)
  | (rw [z2, z3]; done)
  | (rw [z2, z3]; rfl)
  | (rw [z2, z3, m1]; done)
  | (rw [z2, z3, show svE (pt + msN g gm gs) = pt + qE gm gs g by omega]; done)
  | (rw [z2, z3, show svE (pt + msN g gm gs) = pt + qE gm gs g by omega]; rfl)
theorem ybg_at : ybc_at.Good Tryz.prog syG (ybE [] [] [] []) := good_of_walk (Γ := ⟨[yac_scale, yac_nadd, yac_size], syG, [], [], []⟩) (ρ := ybE [] [] [] []) sym at_w rfl (fun _ _ _ _ => (ok_cons (Con.Good.env (Con.Good.up yag_scale ybup rfl) _ _ _ _) (ok_cons (Con.Good.env (Con.Good.up yag_nadd ybup rfl) _ _ _ _) (ok_cons (Con.Good.env (Con.Good.up yag_size ybup rfl) _ _ _ _) ok_nil)))) at_h
def rat_tree : Tree :=
 (.need (an_ xrybbndk13_ (an_ (.bapp 0 (.cons (.int .u32 v4_) (.cons z5_ .nil))) (an_ (an_ (le_ lm_ (.var 10)) (le_ (.var 10) lM_)) (le_ (.lit 0) (.var 10)))))
 (.br (.not (eq_ (.iapp 9 (.cons (.int .i64 (.var 10)) (.cons (.int .u32 v4_) (.cons z5_ .nil)))) (.lit 0)))
 (.ret (.tup (.cons (.int .i64 (.lit 0)) (.cons (.int .i64 (.iapp 9 (.cons (.int .i64 (.var 10)) (.cons (.int .u32 v4_) (.cons z5_ .nil))))) .nil))))
 (.need (an_ (an_ (le_ lm_ v2_) (le_ v2_ lM_)) (an_ (le_ lm_ xrybbndk5_) (le_ xrybbndk5_ lM_)))
 (.br (.not (eq_ (.iapp 4 (.cons (.int .i64 (ad_ v2_ xrybbndk5_)) .nil)) (.lit 0)))
 (.ret (.tup (.cons (.int .i64 (.lit 0)) (.cons (.int .i64 (.lit 2)) .nil))))
 (.br (le_ (.lit 4611686018427387904) xrybbndk15_)
 (.ret (.tup (.cons (.int .i64 (.lit 0)) (.cons (.int .i64 (.lit 2)) .nil))))
 (.ret (.tup (.cons (.int .i64 xrybbndk15_) (.cons (.int .i64 (.lit 0)) .nil)))))))))
abbrev ybc_rat : Con := ⟨118, [xrybbndk3_, (.int .i64 (.var 10))], (an_ xrybbndk0_ (an_ xrybbndk2_ xrybbndk16_)), (.tup (.cons (.int .i64 (.iapp 16 (.cons z2_ (.cons (.int .u32 v4_) (.cons z5_ (.cons (.int .i64 (.var 10)) .nil)))))) (.cons (.int .i64 (.iapp 17 (.cons z2_ (.cons (.int .u32 v4_) (.cons z5_ (.cons (.int .i64 (.var 10)) .nil)))))) .nil))), ⟨11, 0, 0, 0⟩, none⟩
theorem rat_w : walk Tryz.prog 111 ⟨[yac_rscale, yac_rsum], syG, [], [], []⟩ [] .v ybc_rat ybc_rat.n 3000 = some rat_tree := by kernel_rfl
theorem rat_h (pe pb pt pr gm gs qm qs pp pc g : Int) : Hyp_ ybc_rat rat_tree (ybE [pe, pb, pt, pr, gm, gs, qm, qs, pp, pc, g] [] [] []) := by
 intro hc hty
 simp only [ybc_rat, Sy.holds, ybE, denV, denI, denB, denL, I2.den, VOp.den, List.getD_cons_zero, List.getD_cons_succ, Cst.den, syso, syse, syio, sybo, ybb_pm, B2.ofInts, B2.denI, B2.denB, if_true, Bool.false_eq_true, if_false, Nat.div_one, Nat.mul_one, Nat.add_zero] at hc
 simp only [ybc_rat, patsTyp, patTyp, patTypL, ybE, denV, denL, List.getD_cons_zero, List.getD_cons_succ, and_true, true_and] at hty
 unfold rat_tree
 simp only [ybc_rat, Tree.holds, Sy.holds, ybE, denV, denI, denB, denL, I2.den, VOp.den, List.getD_cons_zero, List.getD_cons_succ, Cst.den, syso, syse, syio, sybo, ybi_nv, ybi_so, ybi_msn, ybi_mse, ybi_atv, ybi_ate, ybb_fm, B2.ofInts, B2.denI, B2.denB, if_true, Bool.false_eq_true, if_false, Nat.div_one, Nat.mul_one, Nat.add_zero]
 have hp : pgP pe pb pt pr gm gs qm qs pp pc := of_decide_eq_true hc.2.1
 obtain ⟨a1, a2, a3, a4, a5, a6, a7, a8, f1, f2, a11, a12, a13, a14⟩ := hp
 have hm := ms_spec f1 hc.2.2.1
 have ha := at_spec pt gm gs g
 have hs := svE_spec (pt + msN g gm gs)
 refine ⟨?_, fun h0 => ?_⟩
 refine ?a0; rotate_left
 refine ⟨fun h1 => ?_, fun h1 => ?_⟩
 refine ?a1; rotate_left
 refine ⟨?_, fun h2 => ?_⟩
 refine ?a2; rotate_left
 refine ⟨fun h3 => ?_, fun h3 => ?_⟩
 refine ?a3; rotate_left
 refine ⟨fun h4 => ?_, fun h4 => ?_⟩
 refine ?a4; rotate_left
 refine ?a5; rotate_left
 case a0 | a2 =>
  first
  | omega
  | (simp only [f1, f2, decide_true, true_and]; omega)
  | (simp only [f1, f2, hp, decide_true, true_and]; omega)
 case a1 | a3 | a4 | a5 =>
  rcases hm with ⟨c0, ⟨m1, m2, m3⟩ | ⟨m1, m2, m3⟩⟩ <;> rcases ha with ⟨z1, z2, z3⟩ | ⟨z1, z2, z3⟩
  all_goals first
  | (exfalso; omega)
  | (rw [z2, z3]; done)
  | (rw [z2, z3]; rfl)
  | (rw [z2, z3, m1]; done)
  | (rw [z2, z3, show svE (pt + msN g gm gs) = pt + qE gm gs g by omega]; done)
  | (rw [z2, z3, show svE (pt + msN g gm gs) = pt + qE gm gs g by omega]; rfl)
theorem ybg_rat : ybc_rat.Good Tryz.prog syG (ybE [] [] [] []) := good_of_walk (Γ := ⟨[yac_rscale, yac_rsum], syG, [], [], []⟩) (ρ := ybE [] [] [] []) sym rat_w rfl (fun _ _ _ _ => (ok_cons (Con.Good.env (Con.Good.up yag_rscale ybup rfl) _ _ _ _) (ok_cons (Con.Good.env (Con.Good.up yag_rsum ybup rfl) _ _ _ _) ok_nil))) rat_h
def bound_tree : Tree :=
 (.need (an_ xrybbndk6_ (an_ (.bapp 0 (.cons (.int .u32 v6_) (.cons z7_ .nil))) (an_ (le_ lm_ (.var 10)) (le_ (.var 10) lM_))))
 (.br (.not (eq_ (.iapp 9 (.cons (.int .i64 (.var 10)) (.cons (.int .u32 v6_) (.cons z7_ .nil)))) (.lit 0)))
 (.ret (.tup (.cons (.int .i64 (.lit 0)) (.cons (.err (.iapp 9 (.cons (.int .i64 (.var 10)) (.cons (.int .u32 v6_) (.cons z7_ .nil))))) .nil))))
 (.need (an_ (le_ lm_ xrybbndk14_) (le_ xrybbndk14_ lM_))
 (.need (an_ (le_ (.lit 0) v3_) (an_ (le_ v3_ (.lit 2305843009213693952)) (an_ (le_ (.lit 0) v8_) (an_ (le_ v8_ (.lit 2097152)) (an_ (le_ (.lit 0) (.iapp 1 (.cons (.int .i64 (ad_ xrybbndk14_ (.lit 1))) .nil))) (le_ (.iapp 1 (.cons (.int .i64 (ad_ xrybbndk14_ (.lit 1))) .nil)) lM_))))))
 (.need (an_ xrybbndk6_ (an_ (.bapp 0 (.cons (.int .u32 v6_) (.cons z7_ .nil))) xrybbndk16_))
 (.need (an_ (an_ (le_ lm_ xrybbndk4_) (le_ xrybbndk4_ lM_)) (an_ (le_ lm_ xrybbndk12_) (le_ xrybbndk12_ lM_)))
 (.need (an_ (le_ lm_ (.iapp 1 (.cons (.int .i64 (ad_ xrybbndk4_ xrybbndk12_)) .nil))) (le_ (.iapp 1 (.cons (.int .i64 (ad_ xrybbndk4_ xrybbndk12_)) .nil)) lM_))
 (.ret (.tup (.cons (.int .i64 (.iapp 1 (.cons (.int .i64 (ad_ (.iapp 1 (.cons (.int .i64 (ad_ xrybbndk4_ xrybbndk12_)) .nil)) (.lit 2))) .nil))) (.cons (.cst .nilI) .nil)))))))))))
abbrev ybc_bound : Con := ⟨109, [xrybbndk3_, (.int .i64 (.var 10))], (an_ xrybbndk0_ (an_ xrybbndk2_ xrybbndk16_)), (.tup (.cons (.int .i64 (.iapp 18 (.cons z3_ (.cons (.int .u32 v6_) (.cons z7_ (.cons z8_ (.cons (.int .i64 (.var 10)) .nil))))))) (.cons (.err (.iapp 19 (.cons (.int .u32 v6_) (.cons z7_ (.cons (.int .i64 (.var 10)) .nil))))) .nil))), ⟨11, 0, 0, 0⟩, none⟩
theorem bound_w : walk Tryz.prog 111 ⟨[yac_scale, yac_grow, yac_addsat, yac_off], syG, [], [], []⟩ [] .v ybc_bound ybc_bound.n 3000 = some bound_tree := by kernel_rfl
theorem bound_h (pe pb pt pr gm gs qm qs pp pc g : Int) : Hyp_ ybc_bound bound_tree (ybE [pe, pb, pt, pr, gm, gs, qm, qs, pp, pc, g] [] [] []) := by
 intro hc hty
 simp only [ybc_bound, Sy.holds, ybE, denV, denI, denB, denL, I2.den, VOp.den, List.getD_cons_zero, List.getD_cons_succ, Cst.den, syso, syse, syio, sybo, ybb_pm, B2.ofInts, B2.denI, B2.denB, if_true, Bool.false_eq_true, if_false, Nat.div_one, Nat.mul_one, Nat.add_zero] at hc
 simp only [ybc_bound, patsTyp, patTyp, patTypL, ybE, denV, denL, List.getD_cons_zero, List.getD_cons_succ, and_true, true_and] at hty
 unfold bound_tree
 simp only [ybc_bound, Tree.holds, Sy.holds, ybE, denV, denI, denB, denL, I2.den, VOp.den, List.getD_cons_zero, List.getD_cons_succ, Cst.den, syso, syse, syio, sybo, ybi_sa, ybi_msn, ybi_mse, ybi_up, ybi_hv, ybi_bnv, ybi_bne, ybb_fm, B2.ofInts, B2.denI, B2.denB, if_true, Bool.false_eq_true, if_false, Nat.div_one, Nat.mul_one, Nat.add_zero]
 have hp : pgP pe pb pt pr gm gs qm qs pp pc := of_decide_eq_true hc.2.1
 obtain ⟨a1, a2, a3, a4, a5, a6, a7, a8, f1, f2, a11, a12, a13, a14⟩ := hp
 have hm := ms_spec f2 hc.2.2.1
 have ha := bn_spec pr qm qs pp g
 have hh := hv_bd (n := g) (s := qs) hc.2.2.1
 have s1 := satE_spec (msN g qm qs + 1)
 have s2 := satE_spec (pr + upK (satE (msN g qm qs + 1) * pp))
 have s3 := satE_spec (satE (pr + upK (satE (msN g qm qs + 1) * pp)) + (g / 2 ^ qs.toNat + 2))
 refine ⟨?_, fun h0 => ?_⟩
 refine ?a0; rotate_left
 refine ⟨fun h1 => ?_, fun h1 => ?_⟩
 refine ?a1; rotate_left
 refine ⟨?_, fun h2 => ?_⟩
 refine ?a2; rotate_left
 refine ⟨?_, fun h3 => ?_⟩
 refine ?a3; rotate_left
 refine ⟨?_, fun h4 => ?_⟩
 refine ?a4; rotate_left
 refine ⟨?_, fun h5 => ?_⟩
 refine ?a5; rotate_left
 refine ⟨?_, fun h6 => ?_⟩
 refine ?a6; rotate_left
 refine ?a7; rotate_left
 case a0 | a2 | a3 | a4 | a5 | a6 =>
  first
  | omega
  | (simp only [f1, f2, decide_true, true_and]; omega)
  | (simp only [f1, f2, hp, decide_true, true_and]; omega)
 case a1 | a7 =>
  rcases hm with ⟨c0, ⟨m1, m2, m3⟩ | ⟨m1, m2, m3⟩⟩ <;> rcases ha with ⟨z1, z2, z3⟩ | ⟨z1, z2, z3⟩
  all_goals first
  | (exfalso; omega)
  | (rw [z2, z3, m1]; done)
  | (rw [z2, z3]; rfl)
  | (rw [z2, z3]; unfold bnO; rw [m2]; done)
  | (rw [z2, z3]; unfold bnO; rw [m2]; rfl)
theorem ybg_bound : ybc_bound.Good Tryz.prog syG (ybE [] [] [] []) := good_of_walk (Γ := ⟨[yac_scale, yac_grow, yac_addsat, yac_off], syG, [], [], []⟩) (ρ := ybE [] [] [] []) sym bound_w rfl (fun _ _ _ _ => (ok_cons (Con.Good.env (Con.Good.up yag_scale ybup rfl) _ _ _ _) (ok_cons (Con.Good.env (Con.Good.up yag_grow ybup rfl) _ _ _ _) (ok_cons (Con.Good.env (Con.Good.up yag_addsat ybup rfl) _ _ _ _) (ok_cons (Con.Good.env (Con.Good.up yag_off ybup rfl) _ _ _ _) ok_nil))))) bound_h
def time_tree : Tree :=
 (.need xrybbndk0_
 (.br (.not (eq_ xrybbndk9_ (.lit 0)))
 (.ret (.tup (.cons (.int .i64 (.lit 0)) (.cons (.int .i64 (.lit 0)) (.cons (.err xrybbndk9_) .nil)))))
 (.br (lt_ (.var 10) v1_)
 (.ret (.tup (.cons (.int .i64 (.lit 0)) (.cons (.int .i64 (.lit 0)) (.cons (.iface 111 (.int .i64 (.lit 10))) .nil)))))
 (.br (lt_ v9_ (wr_ (sb_ (.var 10) v1_)))
 (.ret (.tup (.cons (.int .i64 (.lit 0)) (.cons (.int .i64 (.lit 0)) (.cons (.iface 111 (.int .i64 (.lit 14))) .nil)))))
 (.need (an_ xrybbndk0_ (an_ xrybbndk2_ xrybbndk10_))
 (.br (.not (eq_ xrybbndk8_ (.lit 0)))
 (.ret (.tup (.cons (.int .i64 (.lit 0)) (.cons (.int .i64 (.lit 0)) (.cons (.err xrybbndk8_) .nil)))))
 (.need (an_ xrybbndk0_ (an_ xrybbndk2_ xrybbndk10_))
 (.br (.not (eq_ (.iapp 19 (.cons (.int .u32 v6_) (.cons z7_ (.cons (.int .i64 (wr_ (sb_ (.var 10) v1_))) .nil)))) (.lit 0)))
 (.ret (.tup (.cons (.int .i64 (.lit 0)) (.cons (.int .i64 (.lit 0)) (.cons (.err (.iapp 19 (.cons (.int .u32 v6_) (.cons z7_ (.cons (.int .i64 (wr_ (sb_ (.var 10) v1_))) .nil))))) .nil)))))
 (.ret (.tup (.cons (.int .i64 (.iapp 16 (.cons z2_ (.cons (.int .u32 v4_) (.cons z5_ (.cons (.int .i64 (wr_ (sb_ (.var 10) v1_))) .nil)))))) (.cons (.int .i64 (.iapp 18 (.cons z3_ (.cons (.int .u32 v6_) (.cons z7_ (.cons z8_ (.cons (.int .i64 (wr_ (sb_ (.var 10) v1_))) .nil))))))) (.cons (.cst .nilI) .nil)))))))))))))
abbrev ybc_time : Con := ⟨61, [xrybbndk3_, (.int .i64 (.var 10))], (an_ xrybbndk0_ (an_ (le_ lm_ (.var 10)) (le_ (.var 10) lM_))), (.tup (.cons (.int .i64 xrybbndk18_) (.cons (.int .i64 xrybbndk17_) (.cons (.err xrybbndk19_) .nil)))), ⟨11, 0, 0, 0⟩, none⟩
theorem time_w : walk Tryz.prog 111 ⟨[ybc_pcheck, ybc_at, ybc_bound], syG, [], [], []⟩ [] .v ybc_time ybc_time.n 3000 = some time_tree := by kernel_rfl
theorem time_h (pe pb pt pr gm gs qm qs pp pc k : Int) : Hyp_ ybc_time time_tree (ybE [pe, pb, pt, pr, gm, gs, qm, qs, pp, pc, k] [] [] []) := by
 intro hc hty
 simp only [ybc_time, Sy.holds, ybE, denV, denI, denB, denL, I2.den, VOp.den, List.getD_cons_zero, List.getD_cons_succ, Cst.den, syso, syse, syio, sybo, B2.ofInts, B2.denI, B2.denB, if_true, Bool.false_eq_true, if_false, Nat.div_one, Nat.mul_one, Nat.add_zero] at hc
 simp only [ybc_time, patsTyp, patTyp, patTypL, ybE, denV, denL, List.getD_cons_zero, List.getD_cons_succ, and_true, true_and] at hty
 unfold time_tree
 simp only [ybc_time, Tree.holds, Sy.holds, ybE, denV, denI, denB, denL, I2.den, VOp.den, List.getD_cons_zero, List.getD_cons_succ, Cst.den, syso, syse, syio, sybo, ybi_pge, ybi_atv, ybi_ate, ybi_bnv, ybi_bne, ybi_tme, ybi_tmt, ybi_tmo, ybb_pm, B2.ofInts, B2.denI, B2.denB, if_true, Bool.false_eq_true, if_false, Nat.div_one, Nat.mul_one, Nat.add_zero]
 rcases tm_spec pe pb pt pr gm gs qm qs pp pc k with ⟨⟨hp, he⟩, z1, z2, z3⟩ | ⟨⟨hp, he⟩, ⟨hk, z1, z2, z3⟩ | ⟨hk, z1, z2, z3⟩ | ⟨hk, z1, z2, z3⟩ | ⟨hk, z1, z2, z3⟩⟩
 all_goals
  have hq := pg_bd pe pb pt pr gm gs qm qs pp pc
  have ha := at_spec pt gm gs (k - pb)
  have hb := bn_spec pr qm qs pp (k - pb)
  refine ⟨?_, fun h0 => ?_⟩
  rotate_left
  refine ⟨fun h1 => ?_, fun h1 => ?_⟩
  rotate_left
  refine ⟨fun h2 => ?_, fun h2 => ?_⟩
  rotate_left
  first | have hw0 : IntKind.wrap .i64 (k - pb) = (k - pb) := by (have hwx := wr_i64 (k - pb); omega) | have wf0 := wr_i64 (k - pb)
  refine ⟨fun h3 => ?_, fun h3 => ?_⟩
  rotate_left
  refine ⟨?_, fun h4 => ?_⟩
  rotate_left
  try simp only [hw0]
  refine ⟨fun h5 => ?_, fun h5 => ?_⟩
  try simp only [hw0]
  rotate_left
  refine ⟨?_, fun h6 => ?_⟩
  rotate_left
  try simp only [hw0]
  refine ⟨fun h7 => ?_, fun h7 => ?_⟩
  try simp only [hw0]
  rotate_left
  try simp only [hw0]
  rotate_left
 all_goals first
 | exact True.intro
 | (show @Eq Value _ _
    first
    | (exfalso; omega)
    | (rw [z1, z2, z3, he]; done)
    | (rw [z1, z2, z3, he]; rfl)
    | (rw [z1, z2, z3]; done)
    | (rw [z1, z2, z3]; rfl)
    | (rcases ha with ⟨y1, y2, y3⟩ | ⟨y1, y2, y3⟩ <;> rcases hb with ⟨x1, x2, x3⟩ | ⟨x1, x2, x3⟩ <;> first | (exfalso; omega) | (rw [z1, z2, z3, y3, x3]; done) | (rw [z1, z2, z3, y3, x3]; rfl) | (rw [z1, z2, z3, y2]; done) | (rw [z1, z2, z3, y2]; rfl) | (rw [z1, z2, z3, x2]; done) | (rw [z1, z2, z3, x2]; rfl))
    done)
 | (skip
    first
    | omega
    | exact absurd (of_decide_eq_true (by assumption)) hp
    | exact absurd (of_decide_eq_true (Decidable.of_not_not (by assumption))) hp
    | (obtain ⟨a1, a2, a3, a4, a5, a6, a7, a8, f1, f2, a11, a12, a13, a14⟩ := id hp
       simp only [hp, f1, f2, decide_true, true_and]
       omega)
    done)
theorem ybg_time : ybc_time.Good Tryz.prog syG (ybE [] [] [] []) := good_of_walk (Γ := ⟨[ybc_pcheck, ybc_at, ybc_bound], syG, [], [], []⟩) (ρ := ybE [] [] [] []) sym time_w rfl (fun _ _ _ _ => (ok_cons (Con.Good.env ybg_pcheck _ _ _ _) (ok_cons (Con.Good.env ybg_at _ _ _ _) (ok_cons (Con.Good.env ybg_bound _ _ _ _) ok_nil)))) time_h
def rtime_tree : Tree :=
 (.need xrybbndk0_
 (.br (.not xrybbndk2_)
 (.ret (.tup (.cons (.int .i64 (.lit 0)) (.cons (.int .i64 (.lit 0)) (.cons (.int .i64 (.lit 1)) .nil)))))
 (.br (lt_ (.var 10) v1_)
 (.ret (.tup (.cons (.int .i64 (.lit 0)) (.cons (.int .i64 (.lit 0)) (.cons (.int .i64 (.lit 10)) .nil)))))
 (.br (lt_ v9_ (wr_ (sb_ (.var 10) v1_)))
 (.ret (.tup (.cons (.int .i64 (.lit 0)) (.cons (.int .i64 (.lit 0)) (.cons (.int .i64 (.lit 14)) .nil)))))
 (.need (an_ xrybbndk0_ (an_ xrybbndk2_ xrybbndk10_))
 (.br (.not (eq_ xrybbndk8_ (.lit 0)))
 (.ret (.tup (.cons (.int .i64 (.lit 0)) (.cons (.int .i64 (.lit 0)) (.cons (.int .i64 xrybbndk8_) .nil)))))
 (.need (an_ xrybbndk6_ (an_ (.bapp 0 (.cons (.int .u32 v6_) (.cons z7_ .nil))) (an_ (an_ (le_ lm_ (wr_ (sb_ (.var 10) v1_))) (le_ (wr_ (sb_ (.var 10) v1_)) lM_)) (le_ (.lit 0) (wr_ (sb_ (.var 10) v1_))))))
 (.br (.not (eq_ (.iapp 9 (.cons (.int .i64 (wr_ (sb_ (.var 10) v1_))) (.cons (.int .u32 v6_) (.cons z7_ .nil)))) (.lit 0)))
 (.ret (.tup (.cons (.int .i64 (.lit 0)) (.cons (.int .i64 (.lit 0)) (.cons (.int .i64 (.iapp 9 (.cons (.int .i64 (wr_ (sb_ (.var 10) v1_))) (.cons (.int .u32 v6_) (.cons z7_ .nil))))) .nil)))))
 (.need (an_ (le_ lm_ (.iapp 8 (.cons (.int .i64 (wr_ (sb_ (.var 10) v1_))) (.cons (.int .u32 v6_) (.cons z7_ .nil))))) (le_ (.iapp 8 (.cons (.int .i64 (wr_ (sb_ (.var 10) v1_))) (.cons (.int .u32 v6_) (.cons z7_ .nil)))) lM_))
 (.need (an_ (le_ (.lit 0) v3_) (an_ (le_ v3_ (.lit 2305843009213693952)) (an_ (le_ (.lit 0) v8_) (an_ (le_ v8_ (.lit 2097152)) (an_ (le_ (.lit 0) xrybbndk1_) (le_ xrybbndk1_ lM_))))))
 (.need (an_ xrybbndk6_ (an_ (.bapp 0 (.cons (.int .u32 v6_) (.cons z7_ .nil))) xrybbndk10_))
 (.need (an_ (an_ (le_ lm_ xrybbndk11_) (le_ xrybbndk11_ lM_)) (an_ (le_ lm_ xrybbndk7_) (le_ xrybbndk7_ lM_)))
 (.ret (.tup (.cons (.int .i64 (.iapp 16 (.cons z2_ (.cons (.int .u32 v4_) (.cons z5_ (.cons (.int .i64 (wr_ (sb_ (.var 10) v1_))) .nil)))))) (.cons (.int .i64 (.iapp 5 (.cons (.int .i64 (.iapp 2 (.cons (.int .i64 (ad_ xrybbndk11_ xrybbndk7_)) .nil))) (.cons (.int .i64 (.iapp 4 (.cons (.int .i64 (ad_ xrybbndk11_ xrybbndk7_)) .nil))) .nil)))) (.cons (.int .i64 (.lit 0)) .nil)))))))))))))))))
abbrev ybc_rtime : Con := ⟨65, [xrybbndk3_, (.int .i64 (.var 10))], (an_ xrybbndk0_ (an_ (le_ lm_ (.var 10)) (le_ (.var 10) lM_))), (.tup (.cons (.int .i64 xrybbndk18_) (.cons (.int .i64 xrybbndk17_) (.cons (.int .i64 xrybbndk19_) .nil)))), ⟨11, 0, 0, 0⟩, none⟩
theorem rtime_w : walk Tryz.prog 111 ⟨[ybc_pmay, ybc_rat, yac_rscale, yac_rgrow, yac_rsum, yac_rbound, yac_roff], syG, [], [], []⟩ [] .v ybc_rtime ybc_rtime.n 3000 = some rtime_tree := by kernel_rfl
set_option maxHeartbeats 4000000 in
theorem rtime_h (pe pb pt pr gm gs qm qs pp pc k : Int) : Hyp_ ybc_rtime rtime_tree (ybE [pe, pb, pt, pr, gm, gs, qm, qs, pp, pc, k] [] [] []) := by
 intro hc hty
 simp only [ybc_rtime, Sy.holds, ybE, denV, denI, denB, denL, I2.den, VOp.den, List.getD_cons_zero, List.getD_cons_succ, Cst.den, syso, syse, syio, sybo, B2.ofInts, B2.denI, B2.denB, if_true, Bool.false_eq_true, if_false, Nat.div_one, Nat.mul_one, Nat.add_zero] at hc
 simp only [ybc_rtime, patsTyp, patTyp, patTypL, ybE, denV, denL, List.getD_cons_zero, List.getD_cons_succ, and_true, true_and] at hty
 unfold rtime_tree
 simp only [ybc_rtime, Tree.holds, Sy.holds, ybE, denV, denI, denB, denL, I2.den, VOp.den, List.getD_cons_zero, List.getD_cons_succ, Cst.den, syso, syse, syio, sybo, ybi_sa, ybi_nv, ybi_so, ybi_bd, ybi_msn, ybi_mse, ybi_up, ybi_hv, ybi_atv, ybi_ate, ybi_tme, ybi_tmt, ybi_tmo, ybb_fm, ybb_pm, B2.ofInts, B2.denI, B2.denB, if_true, Bool.false_eq_true, if_false, Nat.div_one, Nat.mul_one, Nat.add_zero]
 rcases tm_spec pe pb pt pr gm gs qm qs pp pc k with ⟨⟨hp, he⟩, z1, z2, z3⟩ | ⟨⟨hp, he⟩, ⟨hk, z1, z2, z3⟩ | ⟨hk, z1, z2, z3⟩ | ⟨hk, z1, z2, z3⟩ | ⟨hk, z1, z2, z3⟩⟩
 all_goals
  have hq := pg_bd pe pb pt pr gm gs qm qs pp pc
  have ha := at_spec pt gm gs (k - pb)
  have hm := ms_or pe pb pt pr gm gs qm qs pp pc (k - pb)
  have hh := hv_or (k - pb) qs
  have hh2 := hv_or (IntKind.wrap .i64 (k - pb)) qs
  have s1 := satE_spec (msN (k - pb) qm qs + 1)
  have s2 := satE_spec (pr + upK (satE (msN (k - pb) qm qs + 1) * pp))
  have s4 := up_nn (satE (msN (k - pb) qm qs + 1)) pp
  refine ⟨?_, fun h0 => ?_⟩
  rotate_left
  refine ⟨fun h1 => ?_, fun h1 => ?_⟩
  rotate_left
  refine ⟨fun h2 => ?_, fun h2 => ?_⟩
  rotate_left
  first | have hw0 : IntKind.wrap .i64 (k - pb) = (k - pb) := by (have hwx := wr_i64 (k - pb); omega) | have wf0 := wr_i64 (k - pb)
  refine ⟨fun h3 => ?_, fun h3 => ?_⟩
  rotate_left
  refine ⟨?_, fun h4 => ?_⟩
  rotate_left
  try simp only [hw0]
  refine ⟨fun h5 => ?_, fun h5 => ?_⟩
  try simp only [hw0]
  rotate_left
  refine ⟨?_, fun h6 => ?_⟩
  rotate_left
  try simp only [hw0]
  refine ⟨fun h7 => ?_, fun h7 => ?_⟩
  try simp only [hw0]
  rotate_left
  try simp only [hw0]
  refine ⟨?_, fun h8 => ?_⟩
  rotate_left
  try simp only [hw0]
  refine ⟨?_, fun h9 => ?_⟩
  rotate_left
  refine ⟨?_, fun h10 => ?_⟩
  rotate_left
  first | have hw1 : IntKind.wrap .i64 ((((IntKind.wrap .i64 (k - pb)) / 2 ^ qs.toNat) + 2) + 2) = ((((IntKind.wrap .i64 (k - pb)) / 2 ^ qs.toNat) + 2) + 2) := by (have hwx := wr_i64 ((((IntKind.wrap .i64 (k - pb)) / 2 ^ qs.toNat) + 2) + 2); omega) | have wf1 := wr_i64 ((((IntKind.wrap .i64 (k - pb)) / 2 ^ qs.toNat) + 2) + 2)
  try simp only [hw0]
  refine ⟨?_, fun h11 => ?_⟩
  rotate_left
  try simp only [hw1]
  try simp only [hw0]
  rotate_left
 all_goals first
 | exact True.intro
 | (show @Eq Value _ _
    first
    | (exfalso; omega)
    | (rw [z1, z2, z3]; done)
    | (rw [z1, z2, z3]; rfl)
    | exact absurd (decide_eq_true hp) (by assumption)
    | exact absurd (of_decide_eq_true (by assumption)) hp
    | exact absurd (of_decide_eq_true (Decidable.of_not_not (by assumption))) hp
    | (rcases ha with ⟨y1, y2, y3⟩ | ⟨y1, y2, y3⟩ <;> rcases hm with hm | hm | ⟨c0, ⟨m1, m2, m3⟩ | ⟨m1, m2, m3⟩⟩ <;> first | (exfalso; omega) | (rw [z1, z2, z3, y2]; done) | (rw [z1, z2, z3, m1]; done) | (rw [z1, z2, z3, y3]; unfold bnO; rw [m2] at s1 s2 s4; rw [hw0] at hw1; simp only [bd_sat, m2, hw1]; rw [sat_two (o := satE (pr + upK (satE (qE qm qs (k - pb) + 1) * pp))) (h := (k - pb) / 2 ^ qs.toNat) (by omega) (by omega)]; done))
    | skip
    done)
 | (skip
    first
    | omega
    | exact absurd (of_decide_eq_true (by assumption)) hp
    | exact absurd (of_decide_eq_true (Decidable.of_not_not (by assumption))) hp
    | (obtain ⟨a1, a2, a3, a4, a5, a6, a7, a8, f1, f2, a11, a12, a13, a14⟩ := id hp
       simp only [hp, f1, f2, decide_true, true_and]
       omega)
    | (rw [hw0] at hw1; simp only [hw1, bd_sat]; omega)
    | (simp only [bd_sat]; omega)
    done)
theorem ybg_rtime : ybc_rtime.Good Tryz.prog syG (ybE [] [] [] []) := good_of_walk (Γ := ⟨[ybc_pmay, ybc_rat, yac_rscale, yac_rgrow, yac_rsum, yac_rbound, yac_roff], syG, [], [], []⟩) (ρ := ybE [] [] [] []) sym rtime_w rfl (fun _ _ _ _ => (ok_cons (Con.Good.env ybg_pmay _ _ _ _) (ok_cons (Con.Good.env ybg_rat _ _ _ _) (ok_cons (Con.Good.env (Con.Good.up yag_rscale ybup rfl) _ _ _ _) (ok_cons (Con.Good.env (Con.Good.up yag_rgrow ybup rfl) _ _ _ _) (ok_cons (Con.Good.env (Con.Good.up yag_rsum ybup rfl) _ _ _ _) (ok_cons (Con.Good.env (Con.Good.up yag_rbound ybup rfl) _ _ _ _) (ok_cons (Con.Good.env (Con.Good.up yag_roff ybup rfl) _ _ _ _) ok_nil)))))))) rtime_h
end Go.Proofs.YtgondiedehjkhaaGreatDoor
