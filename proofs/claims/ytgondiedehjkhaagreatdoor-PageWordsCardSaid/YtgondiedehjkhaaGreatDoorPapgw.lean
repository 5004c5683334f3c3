/-
 Layer 19 by the second engine: the reference lays and reads.
-/
import Derived.Test.YtgondiedehjkhaaGreatDoorSycpgw
import Derived.Test.YtgondiedehjkhaaGreatDoorYzpgw
import Derived.Test.YtgondiedehjkhaaGreatDoorE00pgw
import Derived.Test.YtgondiedehjkhaaGreatDoorNumpgw
namespace Go.Proofs.YtgondiedehjkhaaGreatDoor
open Go.RowKit Go.Extern.Stop Go.Stop Go.Extern Go.Proofs.YtgondiedehjkhaaGreatDoor.Sy
set_option linter.unusedVariables false
set_option linter.unusedSimpArgs false
abbrev xrpapgwk0_ : Tm := (.tup (.cons (.int .i64 (.var 0)) (.cons (.int .i64 (.var 1)) (.cons (.int .i64 (.var 2)) (.cons (.int .i64 (.var 3)) (.cons (.int .u32 (.var 4)) (.cons (.int .i64 (.var 5)) (.cons (.int .u32 (.var 6)) (.cons (.int .i64 (.var 7)) (.cons (.int .i64 (.var 8)) (.cons (.int .i64 (.var 9)) .nil)))))))))))
abbrev xrpapgwk1_ : Tm := (.tup (.cons (.int .u64 (.var 0)) (.cons (.int .u64 (.var 1)) (.cons (.int .u64 (.var 2)) (.cons (.int .u64 (.var 3)) (.cons (.int .u64 (.var 4)) (.cons (.int .u64 (.var 5)) (.cons (.int .u64 (.var 6)) (.cons (.int .u64 (.var 7)) (.cons (.int .u64 (.var 8)) (.cons (.int .u64 (.var 9)) (.cons (.int .u64 (.var 10)) (.cons (.int .u64 (.var 11)) (.cons (.int .u64 (.var 12)) (.cons (.int .u64 (.var 13)) (.cons (.int .u64 (.var 14)) (.cons (.int .u64 (.var 15)) .nil)))))))))))))))))
abbrev xrpapgwk2_ : Tm := (.tup (.cons (.int .u64 (.var 1)) (.cons (.int .u64 (.var 2)) (.cons (.int .u64 (.var 3)) (.cons (.int .u64 (.var 4)) (.cons (.int .u64 (.var 5)) (.cons (.int .u64 (.var 6)) (.cons (.int .u64 (.var 7)) (.cons (.int .u64 (.var 8)) (.cons (.int .u64 (.var 9)) (.cons (.int .u64 (.var 10)) .nil)))))))))))
abbrev xrpapgwk3_ : Tm := (.b2 .and (.b2 .and (.b2 .le (.lit (-9223372036854775808)) (.var 0)) (.b2 .le (.var 0) (.lit (9223372036854775807)))) (.b2 .and (.b2 .and (.b2 .le (.lit (-9223372036854775808)) (.var 1)) (.b2 .le (.var 1) (.lit (9223372036854775807)))) (.b2 .and (.b2 .and (.b2 .le (.lit (-9223372036854775808)) (.var 2)) (.b2 .le (.var 2) (.lit (9223372036854775807)))) (.b2 .and (.b2 .and (.b2 .le (.lit (-9223372036854775808)) (.var 3)) (.b2 .le (.var 3) (.lit (9223372036854775807)))) (.b2 .and (.b2 .and (.b2 .le (.lit (0)) (.var 4)) (.b2 .le (.var 4) (.lit (4294967295)))) (.b2 .and (.b2 .and (.b2 .le (.lit (-9223372036854775808)) (.var 5)) (.b2 .le (.var 5) (.lit (9223372036854775807)))) (.b2 .and (.b2 .and (.b2 .le (.lit (0)) (.var 6)) (.b2 .le (.var 6) (.lit (4294967295)))) (.b2 .and (.b2 .and (.b2 .le (.lit (-9223372036854775808)) (.var 7)) (.b2 .le (.var 7) (.lit (9223372036854775807)))) (.b2 .and (.b2 .and (.b2 .le (.lit (-9223372036854775808)) (.var 8)) (.b2 .le (.var 8) (.lit (9223372036854775807)))) (.b2 .and (.b2 .le (.lit (-9223372036854775808)) (.var 9)) (.b2 .le (.var 9) (.lit (9223372036854775807)))))))))))))
abbrev xrpapgwk4_ : Tm := (.agg (.cons (.int .i64 (.lit (0))) (.cons (.int .i64 (.lit (0))) (.cons (.int .i64 (.lit (0))) (.cons (.int .i64 (.lit (0))) (.cons (.int .u32 (.lit (0))) (.cons (.int .i64 (.lit (0))) (.cons (.int .u32 (.lit (0))) (.cons (.int .i64 (.lit (0))) (.cons (.int .i64 (.lit (0))) (.cons (.int .i64 (.lit (0))) .nil)))))))))))
theorem ok_w10 (w1 w2 w3 w4 w5 w6 w7 w8 w9 w10 : Int) (v1 : 0 ≤ w1 ∧ w1 ≤ 18446744073709551615) (v2 : 0 ≤ w2 ∧ w2 ≤ 18446744073709551615) (v3 : 0 ≤ w3 ∧ w3 ≤ 18446744073709551615) (v4 : 0 ≤ w4 ∧ w4 ≤ 18446744073709551615) (v5 : 0 ≤ w5 ∧ w5 ≤ 18446744073709551615) (v6 : 0 ≤ w6 ∧ w6 ≤ 18446744073709551615) (v7 : 0 ≤ w7 ∧ w7 ≤ 18446744073709551615) (v8 : 0 ≤ w8 ∧ w8 ≤ 18446744073709551615) (v9 : 0 ≤ w9 ∧ w9 ≤ 18446744073709551615) (v10 : 0 ≤ w10 ∧ w10 ≤ 18446744073709551615) : okR (Sy.rows (Value.tuple #[.int .u64 w1, .int .u64 w2, .int .u64 w3, .int .u64 w4, .int .u64 w5, .int .u64 w6, .int .u64 w7, .int .u64 w8, .int .u64 w9, .int .u64 w10])) = true := okR_iff.2 fun x hx => by
 have hx : x ∈ [Value.int .u64 w1, .int .u64 w2, .int .u64 w3, .int .u64 w4, .int .u64 w5, .int .u64 w6, .int .u64 w7, .int .u64 w8, .int .u64 w9, .int .u64 w10] := hx
 simp only [List.mem_cons, List.not_mem_nil, or_false] at hx
 rcases hx with rfl | rfl | rfl | rfl | rfl | rfl | rfl | rfl | rfl | rfl <;> (intro k n e; cases e; simp [Lit.wf, IntKind.min, IntKind.max, IntKind.signed, IntKind.bits]; omega)
theorem of_rd {w0 w1 w2 w3 w4 w5 w6 w7 w8 w9 w10 w11 w12 w13 w14 w15 : Int} (v6 : 0 ≤ w6 ∧ w6 ≤ 18446744073709551615) (v8 : 0 ≤ w8 ∧ w8 ≤ 18446744073709551615) (z11 : w11 = 0) (z12 : w12 = 0) (z13 : w13 = 0) (z14 : w14 = 0) : ofP [.int .u64 w1, .int .u64 w2, .int .u64 w3, .int .u64 w4, .int .u64 w5, .int .u64 w6, .int .u64 w7, .int .u64 w8, .int .u64 w9, .int .u64 w10] ↔ rdC w0 w1 w2 w3 w4 w5 w6 w7 w8 w9 w10 w11 w12 w13 w14 w15 := by
 have t6 := s6_spec w6
 have t8 := s6_spec w8
 rw [of_ex]
 constructor
 · rintro ⟨b5, b7, b6, b8, hp⟩
   have e6 : s6 w6 = w6 := by omega
   have e8 : s6 w8 = w8 := by omega
   refine ⟨b5, b7, z11, z12, z13, z14, ?_⟩
   rw [e6, e8]
   exact hp
 · rintro ⟨b5, b7, _, _, _, _, hp⟩
   have f1 := hp.2.2.2.2.2.2.2.2.1
   have f2 := hp.2.2.2.2.2.2.2.2.2.1
   unfold fmP at f1 f2
   have e6 : s6 w6 = w6 := by omega
   have e8 : s6 w8 = w8 := by omega
   rw [e6, e8] at hp
   exact ⟨b5, b7, by omega, by omega, hp⟩
noncomputable def paI : Nat → List Value → Int
 | i, l => yzI i l
noncomputable def paB : Nat → List Value → Bool
 | i, l => yzB i l
noncomputable def paV : Nat → List Value → Value
 | i, l => yzV i l
noncomputable abbrev paE (iv : List Int) (bv : List Bool) (vv : List Value) (sv : List ByteArray) : Env := { iv := iv, bv := bv, vv := vv, sv := sv, fi := paI, fb := paB, fv := paV, et := 111 }
set_option maxHeartbeats 8000000 in
theorem paup : Agree 36 6 13 (yzE [] [] [] []) (paE [] [] [] []) := ⟨rfl, (by
   intro f hf
   funext l
   show paI f l = yzI f l
   unfold paI
   split <;> first | rfl | omega), (by
   intro f hf
   funext l
   show paB f l = yzB f l
   unfold paB
   split <;> first | rfl | omega), (by
   intro f hf
   funext l
   show paV f l = yzV f l
   unfold paV
   split <;> first | rfl | omega)⟩
theorem pai_pge (l : Value) : paI 24 [l] = pgL (rows l) := rfl
theorem pai_ws (l : Value) : paI 25 [l] = wsI (rows l) := rfl
theorem pai_ofe (l : Value) : paI 29 [l] = ofE (rows l) := rfl
theorem pai_ofn (l : Value) (k1 : IntKind) (k : Int) : paI 30 [l, .int k1 k] = ofN (rows l) k.toNat := rfl
theorem pai_law (l : Value) (k1 : IntKind) (q : Int) (k2 : IntKind) (k : Int) : paI 31 [l, .int k1 q, .int k2 k] = laW (rows l) q k.toNat := rfl
theorem pai_rde (l : Value) : paI 32 [l] = rdE (rows l) := rfl
theorem pai_rdn (l : Value) (k1 : IntKind) (k : Int) : paI 33 [l, .int k1 k] = rdN (rows l) k.toNat := rfl
theorem pab_okr (l : Value) : paB 0 [l] = okR (rows l) := rfl
theorem pab_pm (l : Value) : paB 5 [l] = pgB (rows l) := rfl
def rlayt_tree : Tree :=
 (.need xrpapgwk3_
 (.br (.not (.bapp 5 (.cons xrpapgwk0_ .nil)))
 (.ret (.tup (.cons (.agg (.cons (.int .u64 (.lit (0))) (.cons (.int .u64 (.lit (0))) (.cons (.int .u64 (.lit (0))) (.cons (.int .u64 (.lit (0))) (.cons (.int .u64 (.lit (0))) (.cons (.int .u64 (.lit (0))) (.cons (.int .u64 (.lit (0))) (.cons (.int .u64 (.lit (0))) (.cons (.int .u64 (.lit (0))) (.cons (.int .u64 (.lit (0))) (.cons (.int .u64 (.lit (0))) (.cons (.int .u64 (.lit (0))) (.cons (.int .u64 (.lit (0))) (.cons (.int .u64 (.lit (0))) (.cons (.int .u64 (.lit (0))) (.cons (.int .u64 (.lit (0))) .nil))))))))))))))))) (.cons (.int .i64 (.lit (1))) .nil))))
 (.need xrpapgwk3_
 (.need (.b2 .and (.b2 .and (.b2 .le (.lit (0)) (.wrap .u64 (.var 0))) (.b2 .le (.wrap .u64 (.var 0)) (.lit (18446744073709551615)))) (.b2 .and (.b2 .and (.b2 .le (.lit (0)) (.wrap .u64 (.var 1))) (.b2 .le (.wrap .u64 (.var 1)) (.lit (18446744073709551615)))) (.b2 .and (.b2 .and (.b2 .le (.lit (0)) (.wrap .u64 (.var 2))) (.b2 .le (.wrap .u64 (.var 2)) (.lit (18446744073709551615)))) (.b2 .and (.b2 .and (.b2 .le (.lit (0)) (.wrap .u64 (.var 3))) (.b2 .le (.wrap .u64 (.var 3)) (.lit (18446744073709551615)))) (.b2 .and (.b2 .and (.b2 .le (.lit (0)) (.wrap .u64 (.var 4))) (.b2 .le (.wrap .u64 (.var 4)) (.lit (18446744073709551615)))) (.b2 .and (.b2 .and (.b2 .le (.lit (0)) (.wrap .u64 (.var 5))) (.b2 .le (.wrap .u64 (.var 5)) (.lit (18446744073709551615)))) (.b2 .and (.b2 .and (.b2 .le (.lit (0)) (.wrap .u64 (.var 6))) (.b2 .le (.wrap .u64 (.var 6)) (.lit (18446744073709551615)))) (.b2 .and (.b2 .and (.b2 .le (.lit (0)) (.wrap .u64 (.var 7))) (.b2 .le (.wrap .u64 (.var 7)) (.lit (18446744073709551615)))) (.b2 .and (.b2 .and (.b2 .le (.lit (0)) (.wrap .u64 (.var 8))) (.b2 .le (.wrap .u64 (.var 8)) (.lit (18446744073709551615)))) (.b2 .and (.b2 .le (.lit (0)) (.wrap .u64 (.var 9))) (.b2 .le (.wrap .u64 (.var 9)) (.lit (18446744073709551615)))))))))))))
 (.ret (.tup (.cons (.agg (.cons (.int .u64 (.var 10)) (.cons (.int .u64 (.wrap .u64 (.var 0))) (.cons (.int .u64 (.wrap .u64 (.var 1))) (.cons (.int .u64 (.wrap .u64 (.var 2))) (.cons (.int .u64 (.wrap .u64 (.var 3))) (.cons (.int .u64 (.wrap .u64 (.var 4))) (.cons (.int .u64 (.wrap .u64 (.var 5))) (.cons (.int .u64 (.wrap .u64 (.var 6))) (.cons (.int .u64 (.wrap .u64 (.var 7))) (.cons (.int .u64 (.wrap .u64 (.var 8))) (.cons (.int .u64 (.wrap .u64 (.var 9))) (.cons (.int .u64 (.lit (0))) (.cons (.int .u64 (.lit (0))) (.cons (.int .u64 (.lit (0))) (.cons (.int .u64 (.lit (0))) (.cons (.int .u64 (.iapp 25 (.cons (.tup (.cons (.int .u64 (.wrap .u64 (.var 0))) (.cons (.int .u64 (.wrap .u64 (.var 1))) (.cons (.int .u64 (.wrap .u64 (.var 2))) (.cons (.int .u64 (.wrap .u64 (.var 3))) (.cons (.int .u64 (.wrap .u64 (.var 4))) (.cons (.int .u64 (.wrap .u64 (.var 5))) (.cons (.int .u64 (.wrap .u64 (.var 6))) (.cons (.int .u64 (.wrap .u64 (.var 7))) (.cons (.int .u64 (.wrap .u64 (.var 8))) (.cons (.int .u64 (.wrap .u64 (.var 9))) (.cons (.int .u64 (.lit (0))) (.cons (.int .u64 (.lit (0))) (.cons (.int .u64 (.lit (0))) (.cons (.int .u64 (.lit (0))) .nil))))))))))))))) .nil))) .nil))))))))))))))))) (.cons (.int .i64 (.lit (0))) .nil))))))))
abbrev pac_rlayt : Con := ⟨11, [(.agg (.cons (.int .i64 (.var 0)) (.cons (.int .i64 (.var 1)) (.cons (.int .i64 (.var 2)) (.cons (.int .i64 (.var 3)) (.cons (.int .u32 (.var 4)) (.cons (.int .i64 (.var 5)) (.cons (.int .u32 (.var 6)) (.cons (.int .i64 (.var 7)) (.cons (.int .i64 (.var 8)) (.cons (.int .i64 (.var 9)) .nil))))))))))), (.int .u64 (.var 10))], (.b2 .and xrpapgwk3_ (.b2 .and (.b2 .le (.lit (0)) (.var 10)) (.b2 .le (.var 10) (.lit (18446744073709551615))))), (.tup (.cons (.agg (.cons (.int .u64 (.iapp 31 (.cons xrpapgwk0_ (.cons (.int .u64 (.var 10)) (.cons (.int .i64 (.lit (0))) .nil))))) (.cons (.int .u64 (.iapp 31 (.cons xrpapgwk0_ (.cons (.int .u64 (.var 10)) (.cons (.int .i64 (.lit (1))) .nil))))) (.cons (.int .u64 (.iapp 31 (.cons xrpapgwk0_ (.cons (.int .u64 (.var 10)) (.cons (.int .i64 (.lit (2))) .nil))))) (.cons (.int .u64 (.iapp 31 (.cons xrpapgwk0_ (.cons (.int .u64 (.var 10)) (.cons (.int .i64 (.lit (3))) .nil))))) (.cons (.int .u64 (.iapp 31 (.cons xrpapgwk0_ (.cons (.int .u64 (.var 10)) (.cons (.int .i64 (.lit (4))) .nil))))) (.cons (.int .u64 (.iapp 31 (.cons xrpapgwk0_ (.cons (.int .u64 (.var 10)) (.cons (.int .i64 (.lit (5))) .nil))))) (.cons (.int .u64 (.iapp 31 (.cons xrpapgwk0_ (.cons (.int .u64 (.var 10)) (.cons (.int .i64 (.lit (6))) .nil))))) (.cons (.int .u64 (.iapp 31 (.cons xrpapgwk0_ (.cons (.int .u64 (.var 10)) (.cons (.int .i64 (.lit (7))) .nil))))) (.cons (.int .u64 (.iapp 31 (.cons xrpapgwk0_ (.cons (.int .u64 (.var 10)) (.cons (.int .i64 (.lit (8))) .nil))))) (.cons (.int .u64 (.iapp 31 (.cons xrpapgwk0_ (.cons (.int .u64 (.var 10)) (.cons (.int .i64 (.lit (9))) .nil))))) (.cons (.int .u64 (.iapp 31 (.cons xrpapgwk0_ (.cons (.int .u64 (.var 10)) (.cons (.int .i64 (.lit (10))) .nil))))) (.cons (.int .u64 (.iapp 31 (.cons xrpapgwk0_ (.cons (.int .u64 (.var 10)) (.cons (.int .i64 (.lit (11))) .nil))))) (.cons (.int .u64 (.iapp 31 (.cons xrpapgwk0_ (.cons (.int .u64 (.var 10)) (.cons (.int .i64 (.lit (12))) .nil))))) (.cons (.int .u64 (.iapp 31 (.cons xrpapgwk0_ (.cons (.int .u64 (.var 10)) (.cons (.int .i64 (.lit (13))) .nil))))) (.cons (.int .u64 (.iapp 31 (.cons xrpapgwk0_ (.cons (.int .u64 (.var 10)) (.cons (.int .i64 (.lit (14))) .nil))))) (.cons (.int .u64 (.iapp 31 (.cons xrpapgwk0_ (.cons (.int .u64 (.var 10)) (.cons (.int .i64 (.lit (15))) .nil))))) .nil))))))))))))))))) (.cons (.int .i64 (.iapp 24 (.cons xrpapgwk0_ .nil))) .nil))), ⟨11, 0, 0, 0⟩, none⟩
theorem rlayt_w : walk Tryz.prog 111 ⟨[zuc_pmay, zuc_rnums, zuc_rpsum], syG, [], [], []⟩ [] .v pac_rlayt pac_rlayt.n 3000 = some rlayt_tree := by kernel_rfl
theorem rlayt_h (pe pb pt pr gm gs qm qs pp pc q : Int) : Hyp_ pac_rlayt rlayt_tree (paE [pe, pb, pt, pr, gm, gs, qm, qs, pp, pc, q] [] [] []) := by
 intro hc hty
 simp only [pac_rlayt, Sy.holds, paE, denV, denI, denB, denL, I2.den, VOp.den, List.getD_cons_zero, List.getD_cons_succ, Cst.den, syso, syse, syio, sybo, B2.ofInts, B2.denI, B2.denB, if_true, Bool.false_eq_true, if_false, Nat.div_one, Nat.mul_one, Nat.add_zero] at hc
 simp only [pac_rlayt, patsTyp, patTyp, patTypL, paE, denV, denL, List.getD_cons_zero, List.getD_cons_succ, and_true, true_and] at hty
 unfold rlayt_tree
 simp only [pac_rlayt, Tree.holds, Sy.holds, paE, denV, denI, denB, denL, I2.den, VOp.den, List.getD_cons_zero, List.getD_cons_succ, Cst.den, syso, syse, syio, sybo, pai_pge, pai_ws, pai_law, pab_pm, B2.ofInts, B2.denI, B2.denB, if_true, Bool.false_eq_true, if_false, Nat.div_one, Nat.mul_one, Nat.add_zero]
 rcases pg_or (Sy.rows (pgT pe pb pt pr gm gs qm qs pp pc)) with ⟨q1, q2⟩ | ⟨q1, q2⟩
 all_goals
  simp only [pgT] at q1 q2
  refine ⟨?_, fun h0 => ?_⟩
  rotate_left
  refine ⟨fun h1 => ?_, fun h1 => ?_⟩
  rotate_left
  refine ⟨?_, fun h2 => ?_⟩
  rotate_left
  first | have hw0 : IntKind.wrap .u64 pe = pe := by (have hwx := wr_u64 pe; omega) | have wf0 := wr_u64 pe
  first | have hw1 : IntKind.wrap .u64 pb = pb := by (have hwx := wr_u64 pb; omega) | have wf1 := wr_u64 pb
  first | have hw2 : IntKind.wrap .u64 pt = pt := by (have hwx := wr_u64 pt; omega) | have wf2 := wr_u64 pt
  first | have hw3 : IntKind.wrap .u64 pr = pr := by (have hwx := wr_u64 pr; omega) | have wf3 := wr_u64 pr
  first | have hw4 : IntKind.wrap .u64 gm = gm := by (have hwx := wr_u64 gm; omega) | have wf4 := wr_u64 gm
  first | have hw5 : IntKind.wrap .u64 gs = gs := by (have hwx := wr_u64 gs; omega) | have wf5 := wr_u64 gs
  first | have hw6 : IntKind.wrap .u64 qm = qm := by (have hwx := wr_u64 qm; omega) | have wf6 := wr_u64 qm
  first | have hw7 : IntKind.wrap .u64 qs = qs := by (have hwx := wr_u64 qs; omega) | have wf7 := wr_u64 qs
  first | have hw8 : IntKind.wrap .u64 pp = pp := by (have hwx := wr_u64 pp; omega) | have wf8 := wr_u64 pp
  first | have hw9 : IntKind.wrap .u64 pc = pc := by (have hwx := wr_u64 pc; omega) | have wf9 := wr_u64 pc
  refine ⟨?_, fun h3 => ?_⟩
  rotate_left
  try simp only [hw9]
  try simp only [hw8]
  try simp only [hw7]
  try simp only [hw6]
  try simp only [hw5]
  try simp only [hw4]
  try simp only [hw3]
  try simp only [hw2]
  try simp only [hw1]
  try simp only [hw0]
  rotate_left
 all_goals first
 | exact True.intro
 | (show @Eq Value _ _
    first
    | exact absurd q1 (by assumption)
    | exact absurd (q1.symm.trans (by assumption)) (by decide)
    | exact absurd (q1.symm.trans (Decidable.of_not_not (by assumption))) (by decide)
    | (exfalso; omega)
    | exact absurd q2 (by assumption)
    | (simp only [la_n q1, q2]
       first | done | rfl)
    | (have hp : pgP pe pb pt pr gm gs qm qs pp pc := of_decide_eq_true q1
       obtain ⟨a1, a2, a3, a4, a5, a6, a7, a8, f1, f2, a11, a12, a13, a14⟩ := id hp
       unfold fmP at f1 f2
       have ht := u6_wrap (x := pt) (by omega) (by omega)
       have g_pe : IntKind.wrap .u64 pe = pe := by have := wr_u64 pe; omega
       have g_pb : IntKind.wrap .u64 pb = pb := by have := wr_u64 pb; omega
       have g_pr : IntKind.wrap .u64 pr = pr := by have := wr_u64 pr; omega
       have g_gs : IntKind.wrap .u64 gs = gs := by have := wr_u64 gs; omega
       have g_qs : IntKind.wrap .u64 qs = qs := by have := wr_u64 qs; omega
       have g_pp : IntKind.wrap .u64 pp = pp := by have := wr_u64 pp; omega
       have g_pc : IntKind.wrap .u64 pc = pc := by have := wr_u64 pc; omega
       simp only [la_y q1, q2]
       simp only [g_pe, g_pb, g_pr, g_gs, g_qs, g_pp, g_pc, wd0, wd1, wd2, wd3, wd4, wd5, wd6, wd7, wd8, wd9, wd10, wd11, wd12, wd13, wd14, wd15, rows_tup, ht]
       first | done | rfl)
    | skip
    done)
 | (skip
    first
    | omega
    | exact hc.1
    | (exfalso; omega)
    | (have hp : pgP pe pb pt pr gm gs qm qs pp pc := of_decide_eq_true q1
       obtain ⟨a1, a2, a3, a4, a5, a6, a7, a8, f1, f2, a11, a12, a13, a14⟩ := id hp
       unfold fmP at f1 f2
       have ht := u6_wrap (x := pt) (by omega) (by omega)
       have hu : 0 ≤ u6 pt ∧ u6 pt ≤ 18446744073709551615 := by unfold u6; split <;> omega
       simp only [ht]
       omega)
    | exact absurd (q1.symm.trans (by assumption)) (by decide)
    | exact absurd (q1.symm.trans (Decidable.of_not_not (by assumption))) (by decide)
    | skip
    done)
theorem pag_rlayt : pac_rlayt.Good Tryz.prog syG (paE [] [] [] []) := good_of_walk (Γ := ⟨[zuc_pmay, zuc_rnums, zuc_rpsum], syG, [], [], []⟩) (ρ := paE [] [] [] []) sym rlayt_w rfl (fun _ _ _ _ => (ok_cons (Con.Good.env (Con.Good.up (Con.Good.up (Con.Good.up (Con.Good.up zug_pmay zyup rfl) za9up rfl) yzup rfl) paup rfl) _ _ _ _) (ok_cons (Con.Good.env (Con.Good.up (Con.Good.up (Con.Good.up (Con.Good.up zug_rnums zyup rfl) za9up rfl) yzup rfl) paup rfl) _ _ _ _) (ok_cons (Con.Good.env (Con.Good.up (Con.Good.up (Con.Good.up (Con.Good.up zug_rpsum zyup rfl) za9up rfl) yzup rfl) paup rfl) _ _ _ _) ok_nil)))) rlayt_h
def rread_tree : Tree :=
 (.br (.b2 .eq (.i2 .rem (.var 0) (.lit (2))) (.lit (1)))
 (.ret (.tup (.cons xrpapgwk4_ (.cons (.int .i64 (.lit (15))) .nil))))
 (.need (.b2 .and (.b2 .and (.b2 .le (.lit (0)) (.var 1)) (.b2 .le (.var 1) (.lit (18446744073709551615)))) (.b2 .and (.b2 .and (.b2 .le (.lit (0)) (.var 2)) (.b2 .le (.var 2) (.lit (18446744073709551615)))) (.b2 .and (.b2 .and (.b2 .le (.lit (0)) (.var 3)) (.b2 .le (.var 3) (.lit (18446744073709551615)))) (.b2 .and (.b2 .and (.b2 .le (.lit (0)) (.var 4)) (.b2 .le (.var 4) (.lit (18446744073709551615)))) (.b2 .and (.b2 .and (.b2 .le (.lit (0)) (.var 5)) (.b2 .le (.var 5) (.lit (18446744073709551615)))) (.b2 .and (.b2 .and (.b2 .le (.lit (0)) (.var 6)) (.b2 .le (.var 6) (.lit (18446744073709551615)))) (.b2 .and (.b2 .and (.b2 .le (.lit (0)) (.var 7)) (.b2 .le (.var 7) (.lit (18446744073709551615)))) (.b2 .and (.b2 .and (.b2 .le (.lit (0)) (.var 8)) (.b2 .le (.var 8) (.lit (18446744073709551615)))) (.b2 .and (.b2 .and (.b2 .le (.lit (0)) (.var 9)) (.b2 .le (.var 9) (.lit (18446744073709551615)))) (.b2 .and (.b2 .and (.b2 .le (.lit (0)) (.var 10)) (.b2 .le (.var 10) (.lit (18446744073709551615)))) (.b2 .and (.b2 .and (.b2 .le (.lit (0)) (.var 11)) (.b2 .le (.var 11) (.lit (18446744073709551615)))) (.b2 .and (.b2 .and (.b2 .le (.lit (0)) (.var 12)) (.b2 .le (.var 12) (.lit (18446744073709551615)))) (.b2 .and (.b2 .and (.b2 .le (.lit (0)) (.var 13)) (.b2 .le (.var 13) (.lit (18446744073709551615)))) (.b2 .and (.b2 .le (.lit (0)) (.var 14)) (.b2 .le (.var 14) (.lit (18446744073709551615)))))))))))))))))
 (.br (.not (.b2 .eq (.var 15) (.iapp 25 (.cons (.tup (.cons (.int .u64 (.var 1)) (.cons (.int .u64 (.var 2)) (.cons (.int .u64 (.var 3)) (.cons (.int .u64 (.var 4)) (.cons (.int .u64 (.var 5)) (.cons (.int .u64 (.var 6)) (.cons (.int .u64 (.var 7)) (.cons (.int .u64 (.var 8)) (.cons (.int .u64 (.var 9)) (.cons (.int .u64 (.var 10)) (.cons (.int .u64 (.var 11)) (.cons (.int .u64 (.var 12)) (.cons (.int .u64 (.var 13)) (.cons (.int .u64 (.var 14)) .nil))))))))))))))) .nil))))
 (.ret (.tup (.cons xrpapgwk4_ (.cons (.int .i64 (.lit (4))) .nil))))
 (.br (.not (.b2 .eq (.var 11) (.lit (0))))
 (.ret (.tup (.cons xrpapgwk4_ (.cons (.int .i64 (.lit (3))) .nil))))
 (.br (.not (.b2 .eq (.var 12) (.lit (0))))
 (.ret (.tup (.cons xrpapgwk4_ (.cons (.int .i64 (.lit (3))) .nil))))
 (.br (.not (.b2 .eq (.var 13) (.lit (0))))
 (.ret (.tup (.cons xrpapgwk4_ (.cons (.int .i64 (.lit (3))) .nil))))
 (.br (.not (.b2 .eq (.var 14) (.lit (0))))
 (.ret (.tup (.cons xrpapgwk4_ (.cons (.int .i64 (.lit (3))) .nil))))
 (.need (.b2 .and (.bapp 0 (.cons xrpapgwk2_ .nil)) (.b2 .eq (.ofI (.vop (.len 1) (.cons xrpapgwk2_ .nil))) (.lit (10))))
 (.ret (.tup (.cons (.agg (.cons (.int .i64 (.iapp 30 (.cons xrpapgwk2_ (.cons (.int .i64 (.lit (0))) .nil)))) (.cons (.int .i64 (.iapp 30 (.cons xrpapgwk2_ (.cons (.int .i64 (.lit (1))) .nil)))) (.cons (.int .i64 (.iapp 30 (.cons xrpapgwk2_ (.cons (.int .i64 (.lit (2))) .nil)))) (.cons (.int .i64 (.iapp 30 (.cons xrpapgwk2_ (.cons (.int .i64 (.lit (3))) .nil)))) (.cons (.int .u32 (.iapp 30 (.cons xrpapgwk2_ (.cons (.int .i64 (.lit (4))) .nil)))) (.cons (.int .i64 (.iapp 30 (.cons xrpapgwk2_ (.cons (.int .i64 (.lit (5))) .nil)))) (.cons (.int .u32 (.iapp 30 (.cons xrpapgwk2_ (.cons (.int .i64 (.lit (6))) .nil)))) (.cons (.int .i64 (.iapp 30 (.cons xrpapgwk2_ (.cons (.int .i64 (.lit (7))) .nil)))) (.cons (.int .i64 (.iapp 30 (.cons xrpapgwk2_ (.cons (.int .i64 (.lit (8))) .nil)))) (.cons (.int .i64 (.iapp 30 (.cons xrpapgwk2_ (.cons (.int .i64 (.lit (9))) .nil)))) .nil))))))))))) (.cons (.int .i64 (.iapp 29 (.cons xrpapgwk2_ .nil))) .nil))))))))))))
abbrev pac_rread : Con := ⟨13, [(.agg (.cons (.int .u64 (.var 0)) (.cons (.int .u64 (.var 1)) (.cons (.int .u64 (.var 2)) (.cons (.int .u64 (.var 3)) (.cons (.int .u64 (.var 4)) (.cons (.int .u64 (.var 5)) (.cons (.int .u64 (.var 6)) (.cons (.int .u64 (.var 7)) (.cons (.int .u64 (.var 8)) (.cons (.int .u64 (.var 9)) (.cons (.int .u64 (.var 10)) (.cons (.int .u64 (.var 11)) (.cons (.int .u64 (.var 12)) (.cons (.int .u64 (.var 13)) (.cons (.int .u64 (.var 14)) (.cons (.int .u64 (.var 15)) .nil)))))))))))))))))], (.b2 .and (.b2 .and (.b2 .le (.lit (0)) (.var 0)) (.b2 .le (.var 0) (.lit (18446744073709551615)))) (.b2 .and (.b2 .and (.b2 .le (.lit (0)) (.var 1)) (.b2 .le (.var 1) (.lit (18446744073709551615)))) (.b2 .and (.b2 .and (.b2 .le (.lit (0)) (.var 2)) (.b2 .le (.var 2) (.lit (18446744073709551615)))) (.b2 .and (.b2 .and (.b2 .le (.lit (0)) (.var 3)) (.b2 .le (.var 3) (.lit (18446744073709551615)))) (.b2 .and (.b2 .and (.b2 .le (.lit (0)) (.var 4)) (.b2 .le (.var 4) (.lit (18446744073709551615)))) (.b2 .and (.b2 .and (.b2 .le (.lit (0)) (.var 5)) (.b2 .le (.var 5) (.lit (18446744073709551615)))) (.b2 .and (.b2 .and (.b2 .le (.lit (0)) (.var 6)) (.b2 .le (.var 6) (.lit (18446744073709551615)))) (.b2 .and (.b2 .and (.b2 .le (.lit (0)) (.var 7)) (.b2 .le (.var 7) (.lit (18446744073709551615)))) (.b2 .and (.b2 .and (.b2 .le (.lit (0)) (.var 8)) (.b2 .le (.var 8) (.lit (18446744073709551615)))) (.b2 .and (.b2 .and (.b2 .le (.lit (0)) (.var 9)) (.b2 .le (.var 9) (.lit (18446744073709551615)))) (.b2 .and (.b2 .and (.b2 .le (.lit (0)) (.var 10)) (.b2 .le (.var 10) (.lit (18446744073709551615)))) (.b2 .and (.b2 .and (.b2 .le (.lit (0)) (.var 11)) (.b2 .le (.var 11) (.lit (18446744073709551615)))) (.b2 .and (.b2 .and (.b2 .le (.lit (0)) (.var 12)) (.b2 .le (.var 12) (.lit (18446744073709551615)))) (.b2 .and (.b2 .and (.b2 .le (.lit (0)) (.var 13)) (.b2 .le (.var 13) (.lit (18446744073709551615)))) (.b2 .and (.b2 .and (.b2 .le (.lit (0)) (.var 14)) (.b2 .le (.var 14) (.lit (18446744073709551615)))) (.b2 .and (.b2 .le (.lit (0)) (.var 15)) (.b2 .le (.var 15) (.lit (18446744073709551615))))))))))))))))))), (.tup (.cons (.agg (.cons (.int .i64 (.iapp 33 (.cons xrpapgwk1_ (.cons (.int .i64 (.lit (0))) .nil)))) (.cons (.int .i64 (.iapp 33 (.cons xrpapgwk1_ (.cons (.int .i64 (.lit (1))) .nil)))) (.cons (.int .i64 (.iapp 33 (.cons xrpapgwk1_ (.cons (.int .i64 (.lit (2))) .nil)))) (.cons (.int .i64 (.iapp 33 (.cons xrpapgwk1_ (.cons (.int .i64 (.lit (3))) .nil)))) (.cons (.int .u32 (.iapp 33 (.cons xrpapgwk1_ (.cons (.int .i64 (.lit (4))) .nil)))) (.cons (.int .i64 (.iapp 33 (.cons xrpapgwk1_ (.cons (.int .i64 (.lit (5))) .nil)))) (.cons (.int .u32 (.iapp 33 (.cons xrpapgwk1_ (.cons (.int .i64 (.lit (6))) .nil)))) (.cons (.int .i64 (.iapp 33 (.cons xrpapgwk1_ (.cons (.int .i64 (.lit (7))) .nil)))) (.cons (.int .i64 (.iapp 33 (.cons xrpapgwk1_ (.cons (.int .i64 (.lit (8))) .nil)))) (.cons (.int .i64 (.iapp 33 (.cons xrpapgwk1_ (.cons (.int .i64 (.lit (9))) .nil)))) .nil))))))))))) (.cons (.int .i64 (.iapp 32 (.cons xrpapgwk1_ .nil))) .nil))), ⟨16, 0, 0, 0⟩, none⟩
theorem rread_w : walk Tryz.prog 111 ⟨[zuc_rpsum, zyc_rof], syG, [], [], []⟩ [] .v pac_rread pac_rread.n 3000 = some rread_tree := by kernel_rfl
set_option maxHeartbeats 4000000 in
theorem rread_h (w0 w1 w2 w3 w4 w5 w6 w7 w8 w9 w10 w11 w12 w13 w14 w15 : Int) : Hyp_ pac_rread rread_tree (paE [w0, w1, w2, w3, w4, w5, w6, w7, w8, w9, w10, w11, w12, w13, w14, w15] [] [] []) := by
 intro hc hty
 simp only [pac_rread, Sy.holds, paE, denV, denI, denB, denL, I2.den, VOp.den, List.getD_cons_zero, List.getD_cons_succ, Cst.den, syso, syse, syio, sybo, B2.ofInts, B2.denI, B2.denB, if_true, Bool.false_eq_true, if_false, Nat.div_one, Nat.mul_one, Nat.add_zero] at hc
 simp only [pac_rread, patsTyp, patTyp, patTypL, paE, denV, denL, List.getD_cons_zero, List.getD_cons_succ, and_true, true_and] at hty
 unfold rread_tree
 simp only [pac_rread, Tree.holds, Sy.holds, paE, denV, denI, denB, denL, I2.den, VOp.den, List.getD_cons_zero, List.getD_cons_succ, Cst.den, syso, syse, syio, sybo, pai_ws, pai_ofe, pai_ofn, pai_rde, pai_rdn, pab_okr, B2.ofInts, B2.denI, B2.denB, if_true, Bool.false_eq_true, if_false, Nat.div_one, Nat.mul_one, Nat.add_zero]
 obtain ⟨v0, v1, v2, v3, v4, v5, v6, v7, v8, v9, v10, v11, v12, v13, v14, v15⟩ := hc
 have ht := tm2 v0.1
 simp only [ht]
 have hv : Sy.rows (Value.tuple #[.int .u64 w1, .int .u64 w2, .int .u64 w3, .int .u64 w4, .int .u64 w5, .int .u64 w6, .int .u64 w7, .int .u64 w8, .int .u64 w9, .int .u64 w10]) = [.int .u64 w1, .int .u64 w2, .int .u64 w3, .int .u64 w4, .int .u64 w5, .int .u64 w6, .int .u64 w7, .int .u64 w8, .int .u64 w9, .int .u64 w10] := rfl
 have c0 : ci [.int .u64 w1, .int .u64 w2, .int .u64 w3, .int .u64 w4, .int .u64 w5, .int .u64 w6, .int .u64 w7, .int .u64 w8, .int .u64 w9, .int .u64 w10] (Int.toNat 0) = w1 := rfl
 have c1 : ci [.int .u64 w1, .int .u64 w2, .int .u64 w3, .int .u64 w4, .int .u64 w5, .int .u64 w6, .int .u64 w7, .int .u64 w8, .int .u64 w9, .int .u64 w10] (Int.toNat 1) = w2 := rfl
 have c2 : ci [.int .u64 w1, .int .u64 w2, .int .u64 w3, .int .u64 w4, .int .u64 w5, .int .u64 w6, .int .u64 w7, .int .u64 w8, .int .u64 w9, .int .u64 w10] (Int.toNat 2) = w3 := rfl
 have c3 : ci [.int .u64 w1, .int .u64 w2, .int .u64 w3, .int .u64 w4, .int .u64 w5, .int .u64 w6, .int .u64 w7, .int .u64 w8, .int .u64 w9, .int .u64 w10] (Int.toNat 3) = w4 := rfl
 have c4 : ci [.int .u64 w1, .int .u64 w2, .int .u64 w3, .int .u64 w4, .int .u64 w5, .int .u64 w6, .int .u64 w7, .int .u64 w8, .int .u64 w9, .int .u64 w10] (Int.toNat 4) = w5 := rfl
 have c5 : ci [.int .u64 w1, .int .u64 w2, .int .u64 w3, .int .u64 w4, .int .u64 w5, .int .u64 w6, .int .u64 w7, .int .u64 w8, .int .u64 w9, .int .u64 w10] (Int.toNat 5) = w6 := rfl
 have c6 : ci [.int .u64 w1, .int .u64 w2, .int .u64 w3, .int .u64 w4, .int .u64 w5, .int .u64 w6, .int .u64 w7, .int .u64 w8, .int .u64 w9, .int .u64 w10] (Int.toNat 6) = w7 := rfl
 have c7 : ci [.int .u64 w1, .int .u64 w2, .int .u64 w3, .int .u64 w4, .int .u64 w5, .int .u64 w6, .int .u64 w7, .int .u64 w8, .int .u64 w9, .int .u64 w10] (Int.toNat 7) = w8 := rfl
 have c8 : ci [.int .u64 w1, .int .u64 w2, .int .u64 w3, .int .u64 w4, .int .u64 w5, .int .u64 w6, .int .u64 w7, .int .u64 w8, .int .u64 w9, .int .u64 w10] (Int.toNat 8) = w9 := rfl
 have c9 : ci [.int .u64 w1, .int .u64 w2, .int .u64 w3, .int .u64 w4, .int .u64 w5, .int .u64 w6, .int .u64 w7, .int .u64 w8, .int .u64 w9, .int .u64 w10] (Int.toNat 9) = w10 := rfl
 have t5 := s6_spec w5
 have t7 := s6_spec w7
 refine ⟨fun h0 => ?_, fun h0 => ?_⟩
 refine ?a0; rotate_left
 refine ⟨?_, fun h1 => ?_⟩
 refine ?a1; rotate_left
 refine ⟨fun h2 => ?_, fun h2 => ?_⟩
 refine ?a2; rotate_left
 refine ⟨fun h3 => ?_, fun h3 => ?_⟩
 refine ?a3; rotate_left
 refine ⟨fun h4 => ?_, fun h4 => ?_⟩
 refine ?a4; rotate_left
 refine ⟨fun h5 => ?_, fun h5 => ?_⟩
 refine ?a5; rotate_left
 refine ⟨fun h6 => ?_, fun h6 => ?_⟩
 refine ?a6; rotate_left
 refine ⟨?_, fun h7 => ?_⟩
 refine ?a7; rotate_left
 refine ?a8; rotate_left
 case a0 | a2 | a3 | a4 | a5 | a6 | a8 =>
  first
  | (have hq : w0 % 2 = 1 := by omega
     obtain ⟨a, b⟩ := rd_15 w0 w1 w2 w3 w4 w5 w6 w7 w8 w9 w10 w11 w12 w13 w14 w15 hq
     simp only [a, b]
     first | done | rfl)
  | (have hq : ¬ w0 % 2 = 1 := by omega
     have h2 : ¬ w15 = wsI (Sy.rows (Value.tuple #[.int .u64 w1, .int .u64 w2, .int .u64 w3, .int .u64 w4, .int .u64 w5, .int .u64 w6, .int .u64 w7, .int .u64 w8, .int .u64 w9, .int .u64 w10, .int .u64 w11, .int .u64 w12, .int .u64 w13, .int .u64 w14])) := by assumption
     obtain ⟨a, b⟩ := rd_4 w0 w1 w2 w3 w4 w5 w6 w7 w8 w9 w10 w11 w12 w13 w14 w15 hq h2
     simp only [a, b]
     first | done | rfl)
  | (have hq : ¬ w0 % 2 = 1 := by omega
     have h2 : w15 = wsI (Sy.rows (Value.tuple #[.int .u64 w1, .int .u64 w2, .int .u64 w3, .int .u64 w4, .int .u64 w5, .int .u64 w6, .int .u64 w7, .int .u64 w8, .int .u64 w9, .int .u64 w10, .int .u64 w11, .int .u64 w12, .int .u64 w13, .int .u64 w14])) := Decidable.of_not_not (by assumption)
     by_cases z : w11 = 0 ∧ w12 = 0 ∧ w13 = 0 ∧ w14 = 0
     · obtain ⟨z11, z12, z13, z14⟩ := z
       have iff := of_rd (w0 := w0) (w1 := w1) (w2 := w2) (w3 := w3) (w4 := w4) (w5 := w5) (w6 := w6) (w7 := w7) (w8 := w8) (w9 := w9) (w10 := w10) (w11 := w11) (w12 := w12) (w13 := w13) (w14 := w14) (w15 := w15) v6 v8 z11 z12 z13 z14
       by_cases hP : ofP [.int .u64 w1, .int .u64 w2, .int .u64 w3, .int .u64 w4, .int .u64 w5, .int .u64 w6, .int .u64 w7, .int .u64 w8, .int .u64 w9, .int .u64 w10]
       · have hR := iff.1 hP
         obtain ⟨a, b0, b1, b2, b3, b4, b5, b6, b7, b8, b9⟩ := rd_0 w0 w1 w2 w3 w4 w5 w6 w7 w8 w9 w10 w11 w12 w13 w14 w15 hq h2 hR
         obtain ⟨e1, e2⟩ := of_y hP
         have s5 : s6 w5 = w5 := by have := hR.1; omega
         have s7 : s6 w7 = w7 := by have := hR.2.1; omega
         first
         | (exfalso; omega)
         | (simp only [hv, e1, e2, c0, c1, c2, c3, c4, c5, c6, c7, c8, c9, s5, s7, a, b0, b1, b2, b3, b4, b5, b6, b7, b8, b9]
            first | done | rfl)
       · obtain ⟨a, b⟩ := rd_3 w0 w1 w2 w3 w4 w5 w6 w7 w8 w9 w10 w11 w12 w13 w14 w15 hq h2 (fun h => hP (iff.2 h))
         obtain ⟨e1, e2⟩ := of_n hP
         first
         | (exfalso; omega)
         | (simp only [hv, e1, e2, a, b]
            first | done | rfl)
     · obtain ⟨a, b⟩ := rd_3 w0 w1 w2 w3 w4 w5 w6 w7 w8 w9 w10 w11 w12 w13 w14 w15 hq h2 (fun h => z ⟨h.2.2.1, h.2.2.2.1, h.2.2.2.2.1, h.2.2.2.2.2.1⟩)
       first
       | (exfalso; omega)
       | (simp only [a, b]
          first | done | rfl))
  | skip
 case a1 | a7 =>
  first
  | exact True.intro
  | omega
  | exact ⟨v1, v2, v3, v4, v5, v6, v7, v8, v9, v10, v11, v12, v13, v14⟩
  | exact ⟨ok_w10 w1 w2 w3 w4 w5 w6 w7 w8 w9 w10 v1 v2 v3 v4 v5 v6 v7 v8 v9 v10, by rfl⟩
  | exact ok_w10 w1 w2 w3 w4 w5 w6 w7 w8 w9 w10 v1 v2 v3 v4 v5 v6 v7 v8 v9 v10
  | skip
theorem pag_rread : pac_rread.Good Tryz.prog syG (paE [] [] [] []) := good_of_walk (Γ := ⟨[zuc_rpsum, zyc_rof], syG, [], [], []⟩) (ρ := paE [] [] [] []) sym rread_w rfl (fun _ _ _ _ => (ok_cons (Con.Good.env (Con.Good.up (Con.Good.up (Con.Good.up (Con.Good.up zug_rpsum zyup rfl) za9up rfl) yzup rfl) paup rfl) _ _ _ _) (ok_cons (Con.Good.env (Con.Good.up (Con.Good.up (Con.Good.up zyg_rof za9up rfl) yzup rfl) paup rfl) _ _ _ _) ok_nil))) rread_h
end Go.Proofs.YtgondiedehjkhaaGreatDoor
