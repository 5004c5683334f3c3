/-
 Layer 19 by the second engine: PageWords.
-/
import Derived.Test.YtgondiedehjkhaaGreatDoorSycpgw
import Derived.Test.YtgondiedehjkhaaGreatDoorPcpgw
import Derived.Test.YtgondiedehjkhaaGreatDoorE00pgw
import Derived.Test.YtgondiedehjkhaaGreatDoorNumpgw
namespace Go.Proofs.YtgondiedehjkhaaGreatDoor
open Go.RowKit Go.Extern.Stop Go.Stop Go.Extern Go.Proofs.YtgondiedehjkhaaGreatDoor.Sy
set_option linter.unusedVariables false
set_option linter.unusedSimpArgs false
abbrev xrpwpgwk0_ : Tm := (.b2 .and (.b2 .and (.b2 .le (.lit (-9223372036854775808)) (.var 12)) (.b2 .le (.var 12) (.lit (9223372036854775807)))) (.b2 .and (.b2 .and (.b2 .le (.lit (-9223372036854775808)) (.var 13)) (.b2 .le (.var 13) (.lit (9223372036854775807)))) (.b2 .and (.b2 .and (.b2 .le (.lit (-9223372036854775808)) (.var 14)) (.b2 .le (.var 14) (.lit (9223372036854775807)))) (.b2 .and (.b2 .and (.b2 .le (.lit (-9223372036854775808)) (.var 15)) (.b2 .le (.var 15) (.lit (9223372036854775807)))) (.b2 .and (.b2 .and (.b2 .le (.lit (0)) (.var 16)) (.b2 .le (.var 16) (.lit (4294967295)))) (.b2 .and (.b2 .and (.b2 .le (.lit (-9223372036854775808)) (.var 17)) (.b2 .le (.var 17) (.lit (9223372036854775807)))) (.b2 .and (.b2 .and (.b2 .le (.lit (0)) (.var 18)) (.b2 .le (.var 18) (.lit (4294967295)))) (.b2 .and (.b2 .and (.b2 .le (.lit (-9223372036854775808)) (.var 19)) (.b2 .le (.var 19) (.lit (9223372036854775807)))) (.b2 .and (.b2 .and (.b2 .le (.lit (-9223372036854775808)) (.var 20)) (.b2 .le (.var 20) (.lit (9223372036854775807)))) (.b2 .and (.b2 .le (.lit (-9223372036854775808)) (.var 21)) (.b2 .le (.var 21) (.lit (9223372036854775807)))))))))))))
abbrev xrpwpgwk1_ : Tm := (.b2 .and (.b2 .and (.b2 .le (.lit (0)) (.var 22)) (.b2 .le (.var 22) (.lit (18446744073709551615)))) (.b2 .and (.b2 .and (.b2 .le (.lit (0)) (.var 23)) (.b2 .le (.var 23) (.lit (18446744073709551615)))) (.b2 .and (.b2 .and (.b2 .le (.lit (0)) (.var 24)) (.b2 .le (.var 24) (.lit (18446744073709551615)))) (.b2 .and (.b2 .and (.b2 .le (.lit (0)) (.var 25)) (.b2 .le (.var 25) (.lit (18446744073709551615)))) (.b2 .and (.b2 .and (.b2 .le (.lit (0)) (.var 26)) (.b2 .le (.var 26) (.lit (18446744073709551615)))) (.b2 .and (.b2 .and (.b2 .le (.lit (0)) (.var 27)) (.b2 .le (.var 27) (.lit (18446744073709551615)))) (.b2 .and (.b2 .and (.b2 .le (.lit (0)) (.var 28)) (.b2 .le (.var 28) (.lit (18446744073709551615)))) (.b2 .and (.b2 .and (.b2 .le (.lit (0)) (.var 29)) (.b2 .le (.var 29) (.lit (18446744073709551615)))) (.b2 .and (.b2 .and (.b2 .le (.lit (0)) (.var 30)) (.b2 .le (.var 30) (.lit (18446744073709551615)))) (.b2 .and (.b2 .and (.b2 .le (.lit (0)) (.var 31)) (.b2 .le (.var 31) (.lit (18446744073709551615)))) (.b2 .and (.b2 .and (.b2 .le (.lit (0)) (.var 32)) (.b2 .le (.var 32) (.lit (18446744073709551615)))) (.b2 .and (.b2 .and (.b2 .le (.lit (0)) (.var 33)) (.b2 .le (.var 33) (.lit (18446744073709551615)))) (.b2 .and (.b2 .and (.b2 .le (.lit (0)) (.var 34)) (.b2 .le (.var 34) (.lit (18446744073709551615)))) (.b2 .and (.b2 .and (.b2 .le (.lit (0)) (.var 35)) (.b2 .le (.var 35) (.lit (18446744073709551615)))) (.b2 .and (.b2 .and (.b2 .le (.lit (0)) (.var 36)) (.b2 .le (.var 36) (.lit (18446744073709551615)))) (.b2 .and (.b2 .le (.lit (0)) (.var 37)) (.b2 .le (.var 37) (.lit (18446744073709551615)))))))))))))))))))
abbrev xrpwpgwk2_ : Tm := (.b2 .and (.b2 .and (.b2 .le (.lit (0)) (.var 0)) (.b2 .le (.var 0) (.lit (4294967295)))) (.b2 .and (.b2 .and (.b2 .le (.lit (-9223372036854775808)) (.var 1)) (.b2 .le (.var 1) (.lit (9223372036854775807)))) (.b2 .and (.b2 .and (.b2 .le (.lit (-9223372036854775808)) (.var 2)) (.b2 .le (.var 2) (.lit (9223372036854775807)))) (.b2 .and (.b2 .and (.b2 .le (.lit (-9223372036854775808)) (.var 3)) (.b2 .le (.var 3) (.lit (9223372036854775807)))) (.b2 .and (.b2 .and (.b2 .le (.lit (-9223372036854775808)) (.var 4)) (.b2 .le (.var 4) (.lit (9223372036854775807)))) (.b2 .and (.b2 .and (.b2 .le (.lit (-9223372036854775808)) (.var 5)) (.b2 .le (.var 5) (.lit (9223372036854775807)))) (.b2 .and (.b2 .and (.b2 .le (.lit (-9223372036854775808)) (.var 6)) (.b2 .le (.var 6) (.lit (9223372036854775807)))) (.b2 .and (.b2 .and (.b2 .le (.lit (-9223372036854775808)) (.var 7)) (.b2 .le (.var 7) (.lit (9223372036854775807)))) (.b2 .and (.b2 .and (.b2 .le (.lit (-9223372036854775808)) (.var 8)) (.b2 .le (.var 8) (.lit (9223372036854775807)))) (.b2 .and (.b2 .and (.b2 .le (.lit (-9223372036854775808)) (.var 9)) (.b2 .le (.var 9) (.lit (9223372036854775807)))) (.b2 .and (.b2 .and (.b2 .le (.lit (-9223372036854775808)) (.var 10)) (.b2 .le (.var 10) (.lit (9223372036854775807)))) (.b2 .and (.b2 .le (.lit (-9223372036854775808)) (.var 11)) (.b2 .le (.var 11) (.lit (9223372036854775807)))))))))))))))
abbrev xrpwpgwk3_ : Tm := (.b2 .and (.b2 .and (.b2 .le (.lit (0)) (.var 23)) (.b2 .le (.var 23) (.lit (18446744073709551615)))) (.b2 .and (.b2 .and (.b2 .le (.lit (0)) (.var 24)) (.b2 .le (.var 24) (.lit (18446744073709551615)))) (.b2 .and (.b2 .and (.b2 .le (.lit (0)) (.var 25)) (.b2 .le (.var 25) (.lit (18446744073709551615)))) (.b2 .and (.b2 .and (.b2 .le (.lit (0)) (.var 26)) (.b2 .le (.var 26) (.lit (18446744073709551615)))) (.b2 .and (.b2 .and (.b2 .le (.lit (0)) (.var 27)) (.b2 .le (.var 27) (.lit (18446744073709551615)))) (.b2 .and (.b2 .and (.b2 .le (.lit (0)) (.var 28)) (.b2 .le (.var 28) (.lit (18446744073709551615)))) (.b2 .and (.b2 .and (.b2 .le (.lit (0)) (.var 29)) (.b2 .le (.var 29) (.lit (18446744073709551615)))) (.b2 .and (.b2 .and (.b2 .le (.lit (0)) (.var 30)) (.b2 .le (.var 30) (.lit (18446744073709551615)))) (.b2 .and (.b2 .and (.b2 .le (.lit (0)) (.var 31)) (.b2 .le (.var 31) (.lit (18446744073709551615)))) (.b2 .and (.b2 .and (.b2 .le (.lit (0)) (.var 32)) (.b2 .le (.var 32) (.lit (18446744073709551615)))) (.b2 .and (.b2 .and (.b2 .le (.lit (0)) (.var 33)) (.b2 .le (.var 33) (.lit (18446744073709551615)))) (.b2 .and (.b2 .and (.b2 .le (.lit (0)) (.var 34)) (.b2 .le (.var 34) (.lit (18446744073709551615)))) (.b2 .and (.b2 .and (.b2 .le (.lit (0)) (.var 35)) (.b2 .le (.var 35) (.lit (18446744073709551615)))) (.b2 .and (.b2 .le (.lit (0)) (.var 36)) (.b2 .le (.var 36) (.lit (18446744073709551615)))))))))))))))))
abbrev xrpwpgwk4_ : Tm := (.tup (.cons (.int .i64 (.var 12)) (.cons (.int .i64 (.var 13)) (.cons (.int .i64 (.var 14)) (.cons (.int .i64 (.var 15)) (.cons (.int .u32 (.var 16)) (.cons (.int .i64 (.var 17)) (.cons (.int .u32 (.var 18)) (.cons (.int .i64 (.var 19)) (.cons (.int .i64 (.var 20)) (.cons (.int .i64 (.var 21)) .nil)))))))))))
abbrev xrpwpgwk5_ : Tm := (.b2 .and xrpwpgwk2_ (.b2 .and (.b2 .and (.b2 .le (.lit (-9223372036854775808)) (.var 12)) (.b2 .le (.var 12) (.lit (9223372036854775807)))) (.b2 .and (.b2 .le (.lit (-9223372036854775808)) (.var 21)) (.b2 .le (.var 21) (.lit (9223372036854775807))))))
noncomputable def pwI : Nat → List Value → Int
 | i, l => pqcI i l
noncomputable def pwB : Nat → List Value → Bool
 | i, l => pqcB i l
noncomputable def pwV : Nat → List Value → Value
 | i, l => pqcV i l
noncomputable abbrev pwE (iv : List Int) (bv : List Bool) (vv : List Value) (sv : List ByteArray) : Env := { iv := iv, bv := bv, vv := vv, sv := sv, fi := pwI, fb := pwB, fv := pwV, et := 111 }
set_option maxHeartbeats 8000000 in
theorem pwup : Agree 48 7 13 (pqcE [] [] [] []) (pwE [] [] [] []) := ⟨rfl, (by
   intro f hf
   funext l
   show pwI f l = pqcI f l
   unfold pwI
   split <;> first | rfl | omega), (by
   intro f hf
   funext l
   show pwB f l = pqcB f l
   unfold pwB
   split <;> first | rfl | omega), (by
   intro f hf
   funext l
   show pwV f l = pqcV f l
   unfold pwV
   split <;> first | rfl | omega)⟩
theorem pwi_pge (l : Value) : pwI 24 [l] = pgL (rows l) := rfl
theorem pwb_pm (l : Value) : pwB 5 [l] = pgB (rows l) := rfl
def wWords_tree : Tree :=
 (.need xrpwpgwk5_
 (.need xrpwpgwk5_
 (.need (.b2 .and xrpwpgwk0_ (.b2 .and (.b2 .le (.lit (0)) (.var 22)) (.b2 .le (.var 22) (.lit (18446744073709551615)))))
 (.need (.b2 .and xrpwpgwk0_ (.b2 .and (.b2 .le (.lit (0)) (.var 22)) (.b2 .le (.var 22) (.lit (18446744073709551615)))))
 (.need xrpwpgwk1_
 (.need xrpwpgwk1_
 (.need xrpwpgwk3_
 (.need xrpwpgwk3_
 (.need xrpwpgwk0_
 (.need xrpwpgwk0_
 (.br (.b2 .beq (.b2 .eq (.iapp 24 (.cons xrpwpgwk4_ .nil)) (.lit (0))) (.bapp 5 (.cons xrpwpgwk4_ .nil)))
 (.ret (.bool (.tt true)))
 (.ret (.bool (.tt false))))))))))))))
abbrev pwc_wWords : Con := ⟨3, [(.agg (.cons (.int .u32 (.var 0)) (.cons (.int .i64 (.var 1)) (.cons (.int .i64 (.var 2)) (.cons (.int .i64 (.var 3)) (.cons (.int .i64 (.var 4)) (.cons (.int .i64 (.var 5)) (.cons (.int .i64 (.var 6)) (.cons (.bool (.bvar 0)) (.cons (.int .i64 (.var 7)) (.cons (.int .i64 (.var 8)) (.cons (.int .i64 (.var 9)) (.cons (.int .i64 (.var 10)) (.cons (.int .i64 (.var 11)) .nil)))))))))))))), (.agg (.cons (.int .i64 (.var 12)) (.cons (.int .i64 (.var 13)) (.cons (.int .i64 (.var 14)) (.cons (.int .i64 (.var 15)) (.cons (.int .u32 (.var 16)) (.cons (.int .i64 (.var 17)) (.cons (.int .u32 (.var 18)) (.cons (.int .i64 (.var 19)) (.cons (.int .i64 (.var 20)) (.cons (.int .i64 (.var 21)) .nil))))))))))), (.agg (.cons (.int .u64 (.var 22)) (.cons (.int .u64 (.var 23)) (.cons (.int .u64 (.var 24)) (.cons (.int .u64 (.var 25)) (.cons (.int .u64 (.var 26)) (.cons (.int .u64 (.var 27)) (.cons (.int .u64 (.var 28)) (.cons (.int .u64 (.var 29)) (.cons (.int .u64 (.var 30)) (.cons (.int .u64 (.var 31)) (.cons (.int .u64 (.var 32)) (.cons (.int .u64 (.var 33)) (.cons (.int .u64 (.var 34)) (.cons (.int .u64 (.var 35)) (.cons (.int .u64 (.var 36)) (.cons (.int .u64 (.var 37)) .nil)))))))))))))))))], (.b2 .and xrpwpgwk2_ (.b2 .and xrpwpgwk0_ xrpwpgwk1_)), (.bool (.tt true)), ⟨38, 1, 0, 0⟩, none⟩
theorem wWords_w : walk Tryz.prog 111 ⟨[zyc_give19, pqcc_giveh, pqcc_pof, pqcc_rpof, yzc_layt, pac_rlayt, yzc_read, pac_rread, zuc_psum, zuc_rpsum, zuc_pcheck, zuc_pmay, zyc_num, za9c_sure19], syG, [], [], []⟩ [] .v pwc_wWords pwc_wWords.n 3000 = some wWords_tree := by kernel_rfl
theorem wWords_h (rm rs rr gp gi rl ro hb ht he sf ss pe pb pt pr gm gs qm qs pp pc w0 w1 w2 w3 w4 w5 w6 w7 w8 w9 w10 w11 w12 w13 w14 w15 : Int) (sy : Bool) : Hyp_ pwc_wWords wWords_tree (pwE [rm, rs, rr, gp, gi, rl, ro, hb, ht, he, sf, ss, pe, pb, pt, pr, gm, gs, qm, qs, pp, pc, w0, w1, w2, w3, w4, w5, w6, w7, w8, w9, w10, w11, w12, w13, w14, w15] [sy] [] []) := by
 intro hc hty
 simp only [pwc_wWords, Sy.holds, pwE, denV, denI, denB, denL, I2.den, VOp.den, List.getD_cons_zero, List.getD_cons_succ, Cst.den, syso, syse, syio, sybo, B2.ofInts, B2.denI, B2.denB, if_true, Bool.false_eq_true, if_false, Nat.div_one, Nat.mul_one, Nat.add_zero] at hc
 simp only [pwc_wWords, patsTyp, patTyp, patTypL, pwE, denV, denL, List.getD_cons_zero, List.getD_cons_succ, and_true, true_and] at hty
 unfold wWords_tree
 simp only [pwc_wWords, Tree.holds, Sy.holds, pwE, denV, denI, denB, denL, I2.den, VOp.den, List.getD_cons_zero, List.getD_cons_succ, Cst.den, syso, syse, syio, sybo, pwi_pge, pwb_pm, B2.ofInts, B2.denI, B2.denB, if_true, Bool.false_eq_true, if_false, Nat.div_one, Nat.mul_one, Nat.add_zero]
 rcases pg_or (Sy.rows (pgT pe pb pt pr gm gs qm qs pp pc)) with ⟨q1, q2⟩ | ⟨q1, q2⟩
 all_goals
  simp only [pgT] at q1 q2
  simp only [q1, q2]
  refine ⟨?_, fun h0 => ?_⟩
  rotate_left
  refine ⟨?_, fun h1 => ?_⟩
  rotate_left
  refine ⟨?_, fun h2 => ?_⟩
  rotate_left
  refine ⟨?_, fun h3 => ?_⟩
  rotate_left
  refine ⟨?_, fun h4 => ?_⟩
  rotate_left
  refine ⟨?_, fun h5 => ?_⟩
  rotate_left
  refine ⟨?_, fun h6 => ?_⟩
  rotate_left
  refine ⟨?_, fun h7 => ?_⟩
  rotate_left
  refine ⟨?_, fun h8 => ?_⟩
  rotate_left
  refine ⟨?_, fun h9 => ?_⟩
  rotate_left
  refine ⟨fun h10 => ?_, fun h10 => ?_⟩
  rotate_left
  rotate_left
 all_goals first
 | exact True.intro
 | (show @Eq Value _ _
    first
    | rfl
    | (exfalso; omega)
    | exact True.intro
    | exact absurd Bool.false_ne_true (by assumption)
    | (exfalso; simp_all; done)
    | skip
    done)
 | (skip
    first
    | exact True.intro
    | omega
    | skip
    done)
theorem pwg_wWords : pwc_wWords.Good Tryz.prog syG (pwE [] [] [] []) := good_of_walk (Γ := ⟨[zyc_give19, pqcc_giveh, pqcc_pof, pqcc_rpof, yzc_layt, pac_rlayt, yzc_read, pac_rread, zuc_psum, zuc_rpsum, zuc_pcheck, zuc_pmay, zyc_num, za9c_sure19], syG, [], [], []⟩) (ρ := pwE [] [] [] []) sym wWords_w rfl (fun _ _ _ _ => (ok_cons (Con.Good.env (Con.Good.up (Con.Good.up (Con.Good.up (Con.Good.up (Con.Good.up (Con.Good.up zyg_give19 za9up rfl) yzup rfl) paup rfl) pbup rfl) pqcup rfl) pwup rfl) _ _ _ _) (ok_cons (Con.Good.env (Con.Good.up pqcg_giveh pwup rfl) _ _ _ _) (ok_cons (Con.Good.env (Con.Good.up pqcg_pof pwup rfl) _ _ _ _) (ok_cons (Con.Good.env (Con.Good.up pqcg_rpof pwup rfl) _ _ _ _) (ok_cons (Con.Good.env (Con.Good.up (Con.Good.up (Con.Good.up (Con.Good.up yzg_layt paup rfl) pbup rfl) pqcup rfl) pwup rfl) _ _ _ _) (ok_cons (Con.Good.env (Con.Good.up (Con.Good.up (Con.Good.up pag_rlayt pbup rfl) pqcup rfl) pwup rfl) _ _ _ _) (ok_cons (Con.Good.env (Con.Good.up (Con.Good.up (Con.Good.up (Con.Good.up yzg_read paup rfl) pbup rfl) pqcup rfl) pwup rfl) _ _ _ _) (ok_cons (Con.Good.env (Con.Good.up (Con.Good.up (Con.Good.up pag_rread pbup rfl) pqcup rfl) pwup rfl) _ _ _ _) (ok_cons (Con.Good.env (Con.Good.up (Con.Good.up (Con.Good.up (Con.Good.up (Con.Good.up (Con.Good.up (Con.Good.up zug_psum zyup rfl) za9up rfl) yzup rfl) paup rfl) pbup rfl) pqcup rfl) pwup rfl) _ _ _ _) (ok_cons (Con.Good.env (Con.Good.up (Con.Good.up (Con.Good.up (Con.Good.up (Con.Good.up (Con.Good.up (Con.Good.up zug_rpsum zyup rfl) za9up rfl) yzup rfl) paup rfl) pbup rfl) pqcup rfl) pwup rfl) _ _ _ _) (ok_cons (Con.Good.env (Con.Good.up (Con.Good.up (Con.Good.up (Con.Good.up (Con.Good.up (Con.Good.up (Con.Good.up zug_pcheck zyup rfl) za9up rfl) yzup rfl) paup rfl) pbup rfl) pqcup rfl) pwup rfl) _ _ _ _) (ok_cons (Con.Good.env (Con.Good.up (Con.Good.up (Con.Good.up (Con.Good.up (Con.Good.up (Con.Good.up (Con.Good.up zug_pmay zyup rfl) za9up rfl) yzup rfl) paup rfl) pbup rfl) pqcup rfl) pwup rfl) _ _ _ _) (ok_cons (Con.Good.env (Con.Good.up (Con.Good.up (Con.Good.up (Con.Good.up (Con.Good.up (Con.Good.up zyg_num za9up rfl) yzup rfl) paup rfl) pbup rfl) pqcup rfl) pwup rfl) _ _ _ _) (ok_cons (Con.Good.env (Con.Good.up (Con.Good.up (Con.Good.up (Con.Good.up (Con.Good.up za9g_sure19 yzup rfl) paup rfl) pbup rfl) pqcup rfl) pwup rfl) _ _ _ _) ok_nil))))))))))))))) wWords_h
end Go.Proofs.YtgondiedehjkhaaGreatDoor
