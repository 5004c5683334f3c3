/-
 Layer 19 by the second engine: pages of hosts, PageWords.
-/
import Derived.Test.YtgondiedehjkhaaGreatDoorSycpgw
import Derived.Test.YtgondiedehjkhaaGreatDoorPbpgw
import Derived.Test.YtgondiedehjkhaaGreatDoorE00pgw
import Derived.Test.YtgondiedehjkhaaGreatDoorNumpgw
namespace Go.Proofs.YtgondiedehjkhaaGreatDoor
open Go.RowKit Go.Extern.Stop Go.Stop Go.Extern Go.Proofs.YtgondiedehjkhaaGreatDoor.Sy
set_option linter.unusedVariables false
set_option linter.unusedSimpArgs false
abbrev xrpcpgwk0_ : Tm := (.tup (.cons (.int .u32 (.var 0)) (.cons (.int .i64 (.var 1)) (.cons (.int .i64 (.var 2)) (.cons (.int .i64 (.var 3)) (.cons (.int .i64 (.var 4)) (.cons (.int .i64 (.var 5)) (.cons (.int .i64 (.var 6)) (.cons (.bool (.bvar 0)) (.cons (.int .i64 (.var 7)) (.cons (.int .i64 (.var 8)) (.cons (.int .i64 (.var 9)) (.cons (.int .i64 (.var 10)) (.cons (.int .i64 (.var 11)) .nil))))))))))))))
abbrev xrpcpgwk1_ : Tm := (.b2 .and (.b2 .and (.b2 .le (.lit (0)) (.var 0)) (.b2 .le (.var 0) (.lit (4294967295)))) (.b2 .and (.b2 .and (.b2 .le (.lit (-9223372036854775808)) (.var 1)) (.b2 .le (.var 1) (.lit (9223372036854775807)))) (.b2 .and (.b2 .and (.b2 .le (.lit (-9223372036854775808)) (.var 2)) (.b2 .le (.var 2) (.lit (9223372036854775807)))) (.b2 .and (.b2 .and (.b2 .le (.lit (-9223372036854775808)) (.var 3)) (.b2 .le (.var 3) (.lit (9223372036854775807)))) (.b2 .and (.b2 .and (.b2 .le (.lit (-9223372036854775808)) (.var 4)) (.b2 .le (.var 4) (.lit (9223372036854775807)))) (.b2 .and (.b2 .and (.b2 .le (.lit (-9223372036854775808)) (.var 5)) (.b2 .le (.var 5) (.lit (9223372036854775807)))) (.b2 .and (.b2 .and (.b2 .le (.lit (-9223372036854775808)) (.var 6)) (.b2 .le (.var 6) (.lit (9223372036854775807)))) (.b2 .and (.b2 .and (.b2 .le (.lit (-9223372036854775808)) (.var 7)) (.b2 .le (.var 7) (.lit (9223372036854775807)))) (.b2 .and (.b2 .and (.b2 .le (.lit (-9223372036854775808)) (.var 8)) (.b2 .le (.var 8) (.lit (9223372036854775807)))) (.b2 .and (.b2 .and (.b2 .le (.lit (-9223372036854775808)) (.var 9)) (.b2 .le (.var 9) (.lit (9223372036854775807)))) (.b2 .and (.b2 .and (.b2 .le (.lit (-9223372036854775808)) (.var 10)) (.b2 .le (.var 10) (.lit (9223372036854775807)))) (.b2 .and (.b2 .le (.lit (-9223372036854775808)) (.var 11)) (.b2 .le (.var 11) (.lit (9223372036854775807)))))))))))))))
abbrev xrpcpgwk2_ : Tm := (.agg (.cons (.int .i64 (.lit (0))) (.cons (.int .i64 (.lit (0))) (.cons (.int .i64 (.lit (0))) (.cons (.int .i64 (.lit (0))) (.cons (.int .u32 (.lit (0))) (.cons (.int .i64 (.lit (0))) (.cons (.int .u32 (.lit (0))) (.cons (.int .i64 (.lit (0))) (.cons (.int .i64 (.lit (0))) (.cons (.int .i64 (.lit (0))) .nil)))))))))))
abbrev xrpcpgwk8_ : Tm := (.iapp 37 (.cons (.int .u32 (.var 0)) (.cons (.int .i64 (.var 1)) (.cons (.int .i64 (.var 10)) .nil))))
abbrev xrpcpgwk7_ : Tm := (.iapp 38 (.cons (.int .u32 (.var 0)) (.cons (.int .i64 (.var 1)) (.cons (.int .i64 (.var 10)) .nil))))
abbrev xrpcpgwk3_ : Tm := (.agg (.cons (.int .i64 (.iapp 35 (.cons (.int .i64 (.iapp 46 (.cons xrpcpgwk0_ (.cons (.int .i64 (.var 12)) (.cons (.int .i64 (.var 13)) .nil))))) (.cons (.int .i64 (.var 12)) .nil)))) (.cons (.int .i64 (.iapp 35 (.cons (.int .i64 (.iapp 46 (.cons xrpcpgwk0_ (.cons (.int .i64 (.var 12)) (.cons (.int .i64 (.var 13)) .nil))))) (.cons (.int .i64 (.var 7)) .nil)))) (.cons (.int .i64 (.iapp 35 (.cons (.int .i64 (.iapp 46 (.cons xrpcpgwk0_ (.cons (.int .i64 (.var 12)) (.cons (.int .i64 (.var 13)) .nil))))) (.cons (.int .i64 (.var 8)) .nil)))) (.cons (.int .i64 (.iapp 35 (.cons (.int .i64 (.iapp 46 (.cons xrpcpgwk0_ (.cons (.int .i64 (.var 12)) (.cons (.int .i64 (.var 13)) .nil))))) (.cons (.int .i64 (.var 9)) .nil)))) (.cons (.int .u32 (.iapp 35 (.cons (.int .i64 (.iapp 46 (.cons xrpcpgwk0_ (.cons (.int .i64 (.var 12)) (.cons (.int .i64 (.var 13)) .nil))))) (.cons (.int .i64 xrpcpgwk8_) .nil)))) (.cons (.int .i64 (.iapp 35 (.cons (.int .i64 (.iapp 46 (.cons xrpcpgwk0_ (.cons (.int .i64 (.var 12)) (.cons (.int .i64 (.var 13)) .nil))))) (.cons (.int .i64 xrpcpgwk7_) .nil)))) (.cons (.int .u32 (.iapp 35 (.cons (.int .i64 (.iapp 46 (.cons xrpcpgwk0_ (.cons (.int .i64 (.var 12)) (.cons (.int .i64 (.var 13)) .nil))))) (.cons (.int .i64 (.var 0)) .nil)))) (.cons (.int .i64 (.iapp 35 (.cons (.int .i64 (.iapp 46 (.cons xrpcpgwk0_ (.cons (.int .i64 (.var 12)) (.cons (.int .i64 (.var 13)) .nil))))) (.cons (.int .i64 (.var 1)) .nil)))) (.cons (.int .i64 (.iapp 35 (.cons (.int .i64 (.iapp 46 (.cons xrpcpgwk0_ (.cons (.int .i64 (.var 12)) (.cons (.int .i64 (.var 13)) .nil))))) (.cons (.int .i64 (.iapp 47 (.cons (.int .i64 (.var 2)) (.cons (.int .i64 (.var 10)) .nil)))) .nil)))) (.cons (.int .i64 (.iapp 35 (.cons (.int .i64 (.iapp 46 (.cons xrpcpgwk0_ (.cons (.int .i64 (.var 12)) (.cons (.int .i64 (.var 13)) .nil))))) (.cons (.int .i64 (.var 13)) .nil)))) .nil)))))))))))
abbrev xrpcpgwk4_ : Tm := (.agg (.cons (.int .u32 (.var 0)) (.cons (.int .i64 (.var 1)) (.cons (.int .i64 (.var 2)) (.cons (.int .i64 (.var 3)) (.cons (.int .i64 (.var 4)) (.cons (.int .i64 (.var 5)) (.cons (.int .i64 (.var 6)) (.cons (.bool (.bvar 0)) (.cons (.int .i64 (.var 7)) (.cons (.int .i64 (.var 8)) (.cons (.int .i64 (.var 9)) (.cons (.int .i64 (.var 10)) (.cons (.int .i64 (.var 11)) .nil))))))))))))))
abbrev xrpcpgwk5_ : Tm := (.tup (.cons xrpcpgwk2_ (.cons (.iface 111 (.int .i64 (.lit (1)))) .nil)))
abbrev xrpcpgwk6_ : Tm := (.b2 .and xrpcpgwk1_ (.b2 .and (.b2 .and (.b2 .le (.lit (-9223372036854775808)) (.var 12)) (.b2 .le (.var 12) (.lit (9223372036854775807)))) (.b2 .and (.b2 .le (.lit (-9223372036854775808)) (.var 13)) (.b2 .le (.var 13) (.lit (9223372036854775807))))))
abbrev xrpcpgwk9_ : Tm := (.tup (.cons xrpcpgwk2_ (.cons (.int .i64 (.lit (1))) .nil)))
def plI (a b : Int) : Int := a + (if b < 0 then -b else b)
theorem plI_spec (a b : Int) : (b < 0 ∧ plI a b = a - b) ∨ (0 ≤ b ∧ plI a b = a + b) := by unfold plI; split <;> omega
def hofE (rm rs rr gp gi rl ro hb ht he sf ss : Int) (sy : Bool) (e c : Int) : Int := if ¬ hoP rm rs rr gp gi rl ro hb ht he sf ss ∨ e < 0 ∨ 1099511627776 < e ∨ c < 1 ∨ 1125899906842624 < c then 1 else if sy = false then 13 else adE rm rs sf
def hofL (l : List Value) (e c : Int) : Int := hofE (ci l 0) (ci l 1) (ci l 2) (ci l 3) (ci l 4) (ci l 5) (ci l 6) (ci l 8) (ci l 9) (ci l 10) (ci l 11) (ci l 12) (Go.Proofs.YtgondiedehjkhaaGreatDoor.Sy.boolOf (l.getD 7 Go.undef)) e c
theorem hof_eq (rm rs rr gp gi rl ro hb ht he sf ss : Int) (sy : Bool) (e c : Int) : hofL (Sy.rows (hoT rm rs rr gp gi rl ro hb ht he sf ss sy)) e c = hofE rm rs rr gp gi rl ro hb ht he sf ss sy e c := Eq.trans rfl rfl
theorem hof_or (rm rs rr gp gi rl ro hb ht he sf ss : Int) (sy : Bool) (e c : Int) : ((¬ hoP rm rs rr gp gi rl ro hb ht he sf ss ∧ hoE rm rs rr gp gi rl ro hb ht he sf ss = 1) ∧ hofE rm rs rr gp gi rl ro hb ht he sf ss sy e c = 1) ∨ ((hoP rm rs rr gp gi rl ro hb ht he sf ss ∧ hoE rm rs rr gp gi rl ro hb ht he sf ss = 0) ∧ (((e < 0 ∨ 1099511627776 < e ∨ c < 1 ∨ 1125899906842624 < c) ∧ hofE rm rs rr gp gi rl ro hb ht he sf ss sy e c = 1) ∨ ((0 ≤ e ∧ e ≤ 1099511627776 ∧ 1 ≤ c ∧ c ≤ 1125899906842624) ∧ ((sy = false ∧ hofE rm rs rr gp gi rl ro hb ht he sf ss sy e c = 13) ∨ (sy = true ∧ adE rm rs sf ≠ 0 ∧ hofE rm rs rr gp gi rl ro hb ht he sf ss sy e c = adE rm rs sf) ∨ (sy = true ∧ adE rm rs sf = 0 ∧ hofE rm rs rr gp gi rl ro hb ht he sf ss sy e c = 0))))) := by
 unfold hofE
 rcases hoE_or rm rs rr gp gi rl ro hb ht he sf ss with ⟨hp, h0⟩ | ⟨hp, h0⟩
 · right
   refine ⟨⟨hp, h0⟩, ?_⟩
   by_cases h : e < 0 ∨ 1099511627776 < e ∨ c < 1 ∨ 1125899906842624 < c
   · left
     rw [if_pos (.inr h)]
     exact ⟨h, rfl⟩
   · right
     rw [if_neg (fun x => x.elim (fun y => y hp) h)]
     refine ⟨by omega, ?_⟩
     cases sy with
     | false => left; exact ⟨rfl, if_pos rfl⟩
     | true =>
       right
       rw [if_neg (by decide)]
       by_cases ha : adE rm rs sf = 0
       · exact .inr ⟨rfl, ha, ha⟩
       · exact .inl ⟨rfl, ha, rfl⟩
 · left
   rw [if_pos (.inl hp)]
   exact ⟨⟨hp, h0⟩, rfl⟩
noncomputable def pqcI : Nat → List Value → Int
 | 46, [l, .int _ e, .int _ c] => hofL (rows l) e c
 | 47, [.int _ a, .int _ b] => plI a b
 | i, l => pbI i l
noncomputable def pqcB : Nat → List Value → Bool
 | i, l => pbB i l
noncomputable def pqcV : Nat → List Value → Value
 | i, l => pbV i l
noncomputable abbrev pqcE (iv : List Int) (bv : List Bool) (vv : List Value) (sv : List ByteArray) : Env := { iv := iv, bv := bv, vv := vv, sv := sv, fi := pqcI, fb := pqcB, fv := pqcV, et := 111 }
set_option maxHeartbeats 8000000 in
theorem pqcup : Agree 46 7 13 (pbE [] [] [] []) (pqcE [] [] [] []) := ⟨rfl, (by
   intro f hf
   funext l
   show pqcI f l = pbI f l
   unfold pqcI
   split <;> first | rfl | omega), (by
   intro f hf
   funext l
   show pqcB f l = pbB f l
   unfold pqcB
   split <;> first | rfl | omega), (by
   intro f hf
   funext l
   show pqcV f l = pbV f l
   unfold pqcV
   split <;> first | rfl | omega)⟩
theorem pqci_sz (k1 : IntKind) (a : Int) : pqcI 19 [.int k1 a] = szE a := rfl
theorem pqci_gz (k1 : IntKind) (e : Int) (k2 : IntKind) (x : Int) : pqcI 35 [.int k1 e, .int k2 x] = gzF e x := rfl
theorem pqci_ada (k1 : IntKind) (m : Int) (k2 : IntKind) (s : Int) (k3 : IntKind) (p : Int) : pqcI 37 [.int k1 m, .int k2 s, .int k3 p] = adA m s p := rfl
theorem pqci_ads (k1 : IntKind) (m : Int) (k2 : IntKind) (s : Int) (k3 : IntKind) (p : Int) : pqcI 38 [.int k1 m, .int k2 s, .int k3 p] = adS m s p := rfl
theorem pqci_ade (k1 : IntKind) (m : Int) (k2 : IntKind) (s : Int) (k3 : IntKind) (p : Int) : pqcI 39 [.int k1 m, .int k2 s, .int k3 p] = adE m s p := rfl
theorem pqci_hme (l : Value) : pqcI 43 [l] = hoL (rows l) := rfl
theorem pqci_gd (k1 : IntKind) (e : Int) (k2 : IntKind) (x : Int) : pqcI 44 [.int k1 e, .int k2 x] = gdF e x := rfl
theorem pqci_fce (l : Value) : pqcI 45 [l] = fcE (rows l) := rfl
theorem pqci_hof (l : Value) (k1 : IntKind) (e : Int) (k2 : IntKind) (c : Int) : pqcI 46 [l, .int k1 e, .int k2 c] = hofL (rows l) e c := rfl
theorem pqci_pl (k1 : IntKind) (a : Int) (k2 : IntKind) (b : Int) : pqcI 47 [.int k1 a, .int k2 b] = plI a b := rfl
theorem pqcb_hm (l : Value) : pqcB 6 [l] = hoB (rows l) := rfl
def pof_tree : Tree :=
 (.need xrpcpgwk1_
 (.br (.not (.b2 .eq (.iapp 43 (.cons xrpcpgwk0_ .nil)) (.lit (0))))
 (.ret xrpcpgwk5_)
 (.br (.b2 .lt (.var 12) (.lit (0)))
 (.ret xrpcpgwk5_)
 (.br (.b2 .lt (.lit (1099511627776)) (.var 12))
 (.ret xrpcpgwk5_)
 (.br (.b2 .lt (.var 13) (.lit (1)))
 (.ret xrpcpgwk5_)
 (.br (.b2 .lt (.lit (1125899906842624)) (.var 13))
 (.ret xrpcpgwk5_)
 (.br (.not (.bvar 0))
 (.ret (.tup (.cons xrpcpgwk2_ (.cons (.iface 111 (.int .i64 (.lit (13)))) .nil))))
 (.need xrpcpgwk1_
 (.br (.not (.b2 .eq (.iapp 45 (.cons xrpcpgwk0_ .nil)) (.lit (0))))
 (.ret (.tup (.cons xrpcpgwk2_ (.cons (.err (.iapp 45 (.cons xrpcpgwk0_ .nil))) .nil))))
 (.need (.b2 .and (.b2 .le (.lit (-9223372036854775808)) (.var 10)) (.b2 .le (.var 10) (.lit (9223372036854775807))))
 (.ret (.tup (.cons (.agg (.cons (.int .i64 (.var 12)) (.cons (.int .i64 (.var 7)) (.cons (.int .i64 (.var 8)) (.cons (.int .i64 (.var 9)) (.cons (.int .u32 (.iapp 44 (.cons (.int .i64 (.iapp 45 (.cons xrpcpgwk0_ .nil))) (.cons (.int .i64 xrpcpgwk8_) .nil)))) (.cons (.int .i64 (.iapp 44 (.cons (.int .i64 (.iapp 45 (.cons xrpcpgwk0_ .nil))) (.cons (.int .i64 xrpcpgwk7_) .nil)))) (.cons (.int .u32 (.var 0)) (.cons (.int .i64 (.var 1)) (.cons (.int .i64 (.wrap .i64 (.i2 .add (.var 2) (.iapp 19 (.cons (.int .i64 (.var 10)) .nil))))) (.cons (.int .i64 (.var 13)) .nil))))))))))) (.cons (.cst .nilI) .nil))))))))))))))
abbrev pqcc_pof : Con := ⟨6, [xrpcpgwk4_, (.int .i64 (.var 12)), (.int .i64 (.var 13))], xrpcpgwk6_, (.tup (.cons xrpcpgwk3_ (.cons (.err (.iapp 46 (.cons xrpcpgwk0_ (.cons (.int .i64 (.var 12)) (.cons (.int .i64 (.var 13)) .nil))))) .nil))), ⟨14, 1, 0, 0⟩, none⟩
theorem pof_w : walk Tryz.prog 111 ⟨[pbc_hcheckq, pbc_hfacg, zuc_size], syG, [], [], []⟩ [] .v pqcc_pof pqcc_pof.n 3000 = some pof_tree := by kernel_rfl
theorem pof_h (rm rs rr gp gi rl ro hb ht he sf ss e c : Int) (sy : Bool) : Hyp_ pqcc_pof pof_tree (pqcE [rm, rs, rr, gp, gi, rl, ro, hb, ht, he, sf, ss, e, c] [sy] [] []) := by
 intro hc hty
 simp only [pqcc_pof, Sy.holds, pqcE, denV, denI, denB, denL, I2.den, VOp.den, List.getD_cons_zero, List.getD_cons_succ, Cst.den, syso, syse, syio, sybo, B2.ofInts, B2.denI, B2.denB, if_true, Bool.false_eq_true, if_false, Nat.div_one, Nat.mul_one, Nat.add_zero] at hc
 simp only [pqcc_pof, patsTyp, patTyp, patTypL, pqcE, denV, denL, List.getD_cons_zero, List.getD_cons_succ, and_true, true_and] at hty
 unfold pof_tree
 simp only [pqcc_pof, Tree.holds, Sy.holds, pqcE, denV, denI, denB, denL, I2.den, VOp.den, List.getD_cons_zero, List.getD_cons_succ, Cst.den, syso, syse, syio, sybo, pqci_sz, pqci_gz, pqci_ada, pqci_ads, pqci_hme, pqci_gd, pqci_fce, pqci_hof, pqci_pl, B2.ofInts, B2.denI, B2.denB, if_true, Bool.false_eq_true, if_false, Nat.div_one, Nat.mul_one, Nat.add_zero]
 have hpl := plI_spec rr sf
 have hza := szE_spec sf ⟨by omega, by omega⟩
 have hwr := wr_i64 (rr + szE sf)
 rcases hof_or rm rs rr gp gi rl ro hb ht he sf ss sy e c with ⟨⟨hp, ho⟩, he0⟩ | ⟨⟨hp, ho⟩, ⟨q0, he0⟩ | ⟨q0, ⟨hs, he0⟩ | ⟨hs, ha, he0⟩ | ⟨hs, ha, he0⟩⟩⟩
 all_goals
  simp only [hoL_eq, hoB_eq, hof_eq]
  try have hd := decide_eq_true hp
  try have hd := decide_eq_false hp
  try have fe := fc_y (sy := sy) hp
  try have fe := fc_n (sy := sy) hp
  simp only [hoT] at fe
  try rw [fe]
  try simp only [ho, he0, hd, fe]
  skip
  refine ⟨?_, fun h0 => ?_⟩
  rotate_left
  refine ⟨fun h1 => ?_, fun h1 => ?_⟩
  rotate_left
  refine ⟨fun h2 => ?_, fun h2 => ?_⟩
  rotate_left
  refine ⟨fun h3 => ?_, fun h3 => ?_⟩
  rotate_left
  refine ⟨fun h4 => ?_, fun h4 => ?_⟩
  rotate_left
  refine ⟨fun h5 => ?_, fun h5 => ?_⟩
  rotate_left
  refine ⟨fun h6 => ?_, fun h6 => ?_⟩
  rotate_left
  refine ⟨?_, fun h7 => ?_⟩
  rotate_left
  refine ⟨fun h8 => ?_, fun h8 => ?_⟩
  rotate_left
  refine ⟨?_, fun h9 => ?_⟩
  rotate_left
  rotate_left
 all_goals first
 | exact True.intro
 | (show @Eq Value _ _
    first
    | (exfalso; omega)
    | exact absurd Bool.false_ne_true (by assumption)
    | exact absurd hs (by assumption)
    | (subst hs; contradiction)
    | (simp only [gz_n (show ¬ (1 : Int) = 0 by decide), gz_n (show ¬ (13 : Int) = 0 by decide)]; first | done | rfl)
    | (simp only [gz_n ha]; first | done | rfl)
    | (obtain ⟨f, a1, a2, a3, a4, a5, a6, a7, a8, a9, a10, a11, a12, a13, a14, a15, a16, a17, a18, a19, a20⟩ := id hp
       simp only [gz_y (show (0 : Int) = 0 from rfl), gdq_y ha]
       first
       | done
       | rfl
       | (rw [show IntKind.wrap .i64 (rr + szE sf) = plI rr sf by omega]; first | done | rfl)
       | (rw [show IntKind.wrap .i64 (rr + sf) = plI rr sf by (have := wr_i64 (rr + sf); omega)]; first | done | rfl)
       | (rw [show IntKind.wrap .i64 (rr - sf) = plI rr sf by (have := wr_i64 (rr - sf); omega)]; first | done | rfl))
    | skip
    done)
 | (skip
    first
    | omega
    | exact hc.1
    | (obtain ⟨f, a1, a2, a3, a4, a5, a6, a7, a8, a9, a10, a11, a12, a13, a14, a15, a16, a17, a18, a19, a20⟩ := id hp
       omega)
    | exact True.intro
    | skip
    done)
theorem pqcg_pof : pqcc_pof.Good Tryz.prog syG (pqcE [] [] [] []) := good_of_walk (Γ := ⟨[pbc_hcheckq, pbc_hfacg, zuc_size], syG, [], [], []⟩) (ρ := pqcE [] [] [] []) sym pof_w rfl (fun _ _ _ _ => (ok_cons (Con.Good.env (Con.Good.up pbg_hcheckq pqcup rfl) _ _ _ _) (ok_cons (Con.Good.env (Con.Good.up pbg_hfacg pqcup rfl) _ _ _ _) (ok_cons (Con.Good.env (Con.Good.up (Con.Good.up (Con.Good.up (Con.Good.up (Con.Good.up (Con.Good.up zug_size zyup rfl) za9up rfl) yzup rfl) paup rfl) pbup rfl) pqcup rfl) _ _ _ _) ok_nil)))) pof_h
def rpof_tree : Tree :=
 (.need xrpcpgwk1_
 (.br (.not (.bapp 6 (.cons xrpcpgwk0_ .nil)))
 (.ret xrpcpgwk9_)
 (.br (.b2 .lt (.var 12) (.lit (0)))
 (.ret xrpcpgwk9_)
 (.br (.b2 .lt (.lit (1099511627776)) (.var 12))
 (.ret xrpcpgwk9_)
 (.br (.b2 .lt (.var 13) (.lit (1)))
 (.ret xrpcpgwk9_)
 (.br (.b2 .lt (.lit (1125899906842624)) (.var 13))
 (.ret xrpcpgwk9_)
 (.br (.not (.bvar 0))
 (.ret (.tup (.cons xrpcpgwk2_ (.cons (.int .i64 (.lit (13))) .nil))))
 (.need (.b2 .and (.b2 .and (.b2 .and (.b2 .le (.lit (0)) (.var 0)) (.b2 .le (.var 0) (.lit (4294967295)))) (.b2 .and (.b2 .le (.lit (-9223372036854775808)) (.var 1)) (.b2 .le (.var 1) (.lit (9223372036854775807))))) (.b2 .and (.b2 .le (.lit (-9223372036854775808)) (.var 10)) (.b2 .le (.var 10) (.lit (9223372036854775807)))))
 (.br (.not (.b2 .eq (.iapp 39 (.cons (.int .u32 (.var 0)) (.cons (.int .i64 (.var 1)) (.cons (.int .i64 (.var 10)) .nil)))) (.lit (0))))
 (.ret (.tup (.cons xrpcpgwk2_ (.cons (.int .i64 (.iapp 39 (.cons (.int .u32 (.var 0)) (.cons (.int .i64 (.var 1)) (.cons (.int .i64 (.var 10)) .nil))))) .nil))))
 (.br (.b2 .lt (.var 10) (.lit (0)))
 (.ret (.tup (.cons (.agg (.cons (.int .i64 (.var 12)) (.cons (.int .i64 (.var 7)) (.cons (.int .i64 (.var 8)) (.cons (.int .i64 (.var 9)) (.cons (.int .u32 xrpcpgwk8_) (.cons (.int .i64 xrpcpgwk7_) (.cons (.int .u32 (.var 0)) (.cons (.int .i64 (.var 1)) (.cons (.int .i64 (.wrap .i64 (.i2 .sub (.var 2) (.var 10)))) (.cons (.int .i64 (.var 13)) .nil))))))))))) (.cons (.int .i64 (.lit (0))) .nil))))
 (.ret (.tup (.cons (.agg (.cons (.int .i64 (.var 12)) (.cons (.int .i64 (.var 7)) (.cons (.int .i64 (.var 8)) (.cons (.int .i64 (.var 9)) (.cons (.int .u32 xrpcpgwk8_) (.cons (.int .i64 xrpcpgwk7_) (.cons (.int .u32 (.var 0)) (.cons (.int .i64 (.var 1)) (.cons (.int .i64 (.wrap .i64 (.i2 .add (.var 2) (.var 10)))) (.cons (.int .i64 (.var 13)) .nil))))))))))) (.cons (.int .i64 (.lit (0))) .nil))))))))))))))
abbrev pqcc_rpof : Con := ⟨8, [xrpcpgwk4_, (.int .i64 (.var 12)), (.int .i64 (.var 13))], xrpcpgwk6_, (.tup (.cons xrpcpgwk3_ (.cons (.int .i64 (.iapp 46 (.cons xrpcpgwk0_ (.cons (.int .i64 (.var 12)) (.cons (.int .i64 (.var 13)) .nil))))) .nil))), ⟨14, 1, 0, 0⟩, none⟩
theorem rpof_w : walk Tryz.prog 111 ⟨[pbc_rmay18, pbc_radjust], syG, [], [], []⟩ [] .v pqcc_rpof pqcc_rpof.n 3000 = some rpof_tree := by kernel_rfl
theorem rpof_h (rm rs rr gp gi rl ro hb ht he sf ss e c : Int) (sy : Bool) : Hyp_ pqcc_rpof rpof_tree (pqcE [rm, rs, rr, gp, gi, rl, ro, hb, ht, he, sf, ss, e, c] [sy] [] []) := by
 intro hc hty
 simp only [pqcc_rpof, Sy.holds, pqcE, denV, denI, denB, denL, I2.den, VOp.den, List.getD_cons_zero, List.getD_cons_succ, Cst.den, syso, syse, syio, sybo, B2.ofInts, B2.denI, B2.denB, if_true, Bool.false_eq_true, if_false, Nat.div_one, Nat.mul_one, Nat.add_zero] at hc
 simp only [pqcc_rpof, patsTyp, patTyp, patTypL, pqcE, denV, denL, List.getD_cons_zero, List.getD_cons_succ, and_true, true_and] at hty
 unfold rpof_tree
 simp only [pqcc_rpof, Tree.holds, Sy.holds, pqcE, denV, denI, denB, denL, I2.den, VOp.den, List.getD_cons_zero, List.getD_cons_succ, Cst.den, syso, syse, syio, sybo, pqci_gz, pqci_ada, pqci_ads, pqci_ade, pqci_hof, pqci_pl, pqcb_hm, B2.ofInts, B2.denI, B2.denB, if_true, Bool.false_eq_true, if_false, Nat.div_one, Nat.mul_one, Nat.add_zero]
 have hpl := plI_spec rr sf
 have hza := szE_spec sf ⟨by omega, by omega⟩
 have hwr := wr_i64 (rr + szE sf)
 rcases hof_or rm rs rr gp gi rl ro hb ht he sf ss sy e c with ⟨⟨hp, ho⟩, he0⟩ | ⟨⟨hp, ho⟩, ⟨q0, he0⟩ | ⟨q0, ⟨hs, he0⟩ | ⟨hs, ha, he0⟩ | ⟨hs, ha, he0⟩⟩⟩
 all_goals
  simp only [hoL_eq, hoB_eq, hof_eq]
  try have hd := decide_eq_true hp
  try have hd := decide_eq_false hp
  try have fe := fc_y (sy := sy) hp
  try have fe := fc_n (sy := sy) hp
  simp only [hoT] at fe
  try rw [fe]
  try simp only [ho, he0, hd, fe]
  skip
  refine ⟨?_, fun h0 => ?_⟩
  rotate_left
  refine ⟨fun h1 => ?_, fun h1 => ?_⟩
  rotate_left
  refine ⟨fun h2 => ?_, fun h2 => ?_⟩
  rotate_left
  refine ⟨fun h3 => ?_, fun h3 => ?_⟩
  rotate_left
  refine ⟨fun h4 => ?_, fun h4 => ?_⟩
  rotate_left
  refine ⟨fun h5 => ?_, fun h5 => ?_⟩
  rotate_left
  refine ⟨fun h6 => ?_, fun h6 => ?_⟩
  rotate_left
  refine ⟨?_, fun h7 => ?_⟩
  rotate_left
  refine ⟨fun h8 => ?_, fun h8 => ?_⟩
  rotate_left
  refine ⟨fun h9 => ?_, fun h9 => ?_⟩
  rotate_left
  rotate_left
 all_goals first
 | exact True.intro
 | (show @Eq Value _ _
    first
    | (exfalso; omega)
    | exact absurd Bool.false_ne_true (by assumption)
    | exact absurd hs (by assumption)
    | (subst hs; contradiction)
    | (simp only [gz_n (show ¬ (1 : Int) = 0 by decide), gz_n (show ¬ (13 : Int) = 0 by decide)]; first | done | rfl)
    | (simp only [gz_n ha]; first | done | rfl)
    | (obtain ⟨f, a1, a2, a3, a4, a5, a6, a7, a8, a9, a10, a11, a12, a13, a14, a15, a16, a17, a18, a19, a20⟩ := id hp
       simp only [gz_y (show (0 : Int) = 0 from rfl), gdq_y ha]
       first
       | done
       | rfl
       | (rw [show IntKind.wrap .i64 (rr + szE sf) = plI rr sf by omega]; first | done | rfl)
       | (rw [show IntKind.wrap .i64 (rr + sf) = plI rr sf by (have := wr_i64 (rr + sf); omega)]; first | done | rfl)
       | (rw [show IntKind.wrap .i64 (rr - sf) = plI rr sf by (have := wr_i64 (rr - sf); omega)]; first | done | rfl))
    | skip
    done)
 | (skip
    first
    | omega
    | exact hc.1
    | (obtain ⟨f, a1, a2, a3, a4, a5, a6, a7, a8, a9, a10, a11, a12, a13, a14, a15, a16, a17, a18, a19, a20⟩ := id hp
       omega)
    | exact True.intro
    | skip
    done)
theorem pqcg_rpof : pqcc_rpof.Good Tryz.prog syG (pqcE [] [] [] []) := good_of_walk (Γ := ⟨[pbc_rmay18, pbc_radjust], syG, [], [], []⟩) (ρ := pqcE [] [] [] []) sym rpof_w rfl (fun _ _ _ _ => (ok_cons (Con.Good.env (Con.Good.up pbg_rmay18 pqcup rfl) _ _ _ _) (ok_cons (Con.Good.env (Con.Good.up pbg_radjust pqcup rfl) _ _ _ _) ok_nil))) rpof_h
def giveh_tree : Tree :=
 (.ret xrpcpgwk4_)
abbrev pqcc_giveh : Con := ⟨7, [xrpcpgwk4_], (.tt true), xrpcpgwk4_, ⟨12, 1, 0, 0⟩, none⟩
theorem giveh_w : walk Tryz.prog 111 ⟨[], syG, [], [], []⟩ [] .v pqcc_giveh pqcc_giveh.n 3000 = some giveh_tree := by kernel_rfl
theorem giveh_h (rm rs rr gp gi rl ro hb ht he sf ss : Int) (sy : Bool) : Hyp_ pqcc_giveh giveh_tree (pqcE [rm, rs, rr, gp, gi, rl, ro, hb, ht, he, sf, ss] [sy] [] []) := by
 intro hc hty
 simp only [pqcc_giveh, Sy.holds, pqcE, denV, denI, denB, denL, I2.den, VOp.den, List.getD_cons_zero, List.getD_cons_succ, Cst.den, syso, syse, syio, sybo, B2.ofInts, B2.denI, B2.denB, if_true, Bool.false_eq_true, if_false, Nat.div_one, Nat.mul_one, Nat.add_zero] at hc
 simp only [pqcc_giveh, patsTyp, patTyp, patTypL, pqcE, denV, denL, List.getD_cons_zero, List.getD_cons_succ, and_true, true_and] at hty
 unfold giveh_tree
 simp only [pqcc_giveh, Tree.holds, Sy.holds, pqcE, denV, denI, denB, denL, I2.den, VOp.den, List.getD_cons_zero, List.getD_cons_succ, Cst.den, syso, syse, syio, sybo, B2.ofInts, B2.denI, B2.denB, if_true, Bool.false_eq_true, if_false, Nat.div_one, Nat.mul_one, Nat.add_zero]
 all_goals first | omega | rfl | (simp only [Value.tuple.injEq, Value.agg.injEq, Value.int.injEq, Value.bool.injEq, Array.mk.injEq, List.cons.injEq, true_and, and_true]; omega) | (refine congrArg Value.bool (Bool.eq_iff_iff.2 ?_); simp only [beq_iff_eq, decide_eq_true_eq, true_iff, false_iff, Bool.false_eq_true, Bool.not_eq_true', Bool.and_eq_true, Bool.or_eq_true, decide_eq_false_iff_not]; omega)
theorem pqcg_giveh : pqcc_giveh.Good Tryz.prog syG (pqcE [] [] [] []) := good_of_walk (Γ := ⟨[], syG, [], [], []⟩) (ρ := pqcE [] [] [] []) sym giveh_w rfl (fun _ _ _ _ => ok_nil) giveh_h
end Go.Proofs.YtgondiedehjkhaaGreatDoor
