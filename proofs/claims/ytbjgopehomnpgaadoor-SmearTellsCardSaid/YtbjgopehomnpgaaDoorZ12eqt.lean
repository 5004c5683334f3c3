/-
  Layer 12: wTells.
-/
import Derived.Test.YtbjgopehomnpgaaDoorSycqt
import Derived.Test.YtbjgopehomnpgaaDoorZ12cqt
namespace Go.Proofs.YtbjgopehomnpgaaDoor
open Go.RowKit Go.Extern.Stop Go.Stop Go.Extern Go.Proofs.YtbjgopehomnpgaaDoor.Sy
set_option linter.unusedVariables false
set_option linter.unusedSimpArgs false
noncomputable def s12eI : Nat → List Value → Int
  | i, l => s12cI i l
noncomputable def s12eB : Nat → List Value → Bool
  | i, l => s12cB i l
noncomputable def s12eV : Nat → List Value → Value
  | i, l => s12cV i l
noncomputable abbrev s12eE (iv : List Int) (bv : List Bool) (vv : List Value) (sv : List ByteArray) : Env := { iv := iv, bv := bv, vv := vv, sv := sv, fi := s12eI, fb := s12eB, fv := s12eV, et := 182 }
set_option maxHeartbeats 8000000 in
theorem s12eup : Agree 41 4 0 (s12cE [] [] [] []) (s12eE [] [] [] []) := ⟨rfl, (by
    intro f hf
    funext l
    show s12eI f l = s12cI f l
    unfold s12eI
    split <;> first | rfl | omega), (by
    intro f hf
    funext l
    show s12eB f l = s12cB f l
    unfold s12eB
    split <;> first | rfl | omega), (by
    intro f hf
    funext l
    show s12eV f l = s12cV f l
    unfold s12eV
    split <;> first | rfl | omega)⟩
def wTells_tree : Tree :=
 (.br (lt_ (.lit 40) (.ofI (.vop (.len 1) (.cons o0_ .nil))))
 (.ret (.bool (.tt true)))
 (.need (an_ (an_ (an_ (le_ lm_ v0_) (le_ v0_ lM_)) (an_ (an_ (le_ lm_ v1_) (le_ v1_ lM_)) (an_ (le_ lm_ v2_) (le_ v2_ lM_)))) (an_ (le_ lm_ v5_) (le_ v5_ lM_)))
 (.need (an_ (an_ (an_ (le_ lm_ v0_) (le_ v0_ lM_)) (an_ (an_ (le_ lm_ v1_) (le_ v1_ lM_)) (an_ (le_ lm_ v2_) (le_ v2_ lM_)))) (an_ (le_ lm_ v5_) (le_ v5_ lM_)))
 (.ret (.bool (.tt true))))))
abbrev s12ec_wTells : Con := ⟨10, [(.agg (.cons z0_ (.cons z1_ (.cons z2_ .nil)))), (.agg (.cons z3_ (.cons z4_ (.cons (.hs .no (.cons (.int .i64) .nil) o0_) .nil)))), z5_], (an_ (an_ (an_ (le_ lm_ v0_) (le_ v0_ lM_)) (an_ (an_ (le_ lm_ v1_) (le_ v1_ lM_)) (an_ (le_ lm_ v2_) (le_ v2_ lM_)))) (an_ (le_ lm_ v5_) (le_ v5_ lM_))), (.bool (.tt true)), ⟨6, 0, 1, 0⟩, none⟩
theorem wTells_w : walk Tryd.prog 182 ⟨[s12cc_sure12, s12c_sat, s12bc_rat, s12cc_num], syG, [], [], []⟩ [] .v s12ec_wTells s12ec_wTells.n 3000 = some wTells_tree := by kernel_rfl
theorem wTells_h (k : Int) (B : Int) (A : Int) (b : Int) (t : Int) (n : Int) (l : Value) (hc : holds (s12eE [k, B, A, b, t, n] [] [l] []) (an_ (an_ (an_ (le_ lm_ v0_) (le_ v0_ lM_)) (an_ (an_ (le_ lm_ v1_) (le_ v1_ lM_)) (an_ (le_ lm_ v2_) (le_ v2_ lM_)))) (an_ (le_ lm_ v5_) (le_ v5_ lM_)))) (hty : patsTyp (s12eE [k, B, A, b, t, n] [] [l] []) [(.agg (.cons z0_ (.cons z1_ (.cons z2_ .nil)))), (.agg (.cons z3_ (.cons z4_ (.cons (.hs .no (.cons (.int .i64) .nil) o0_) .nil)))), z5_]) : wTells_tree.holds (fun v_ => v_ = denV (s12eE [k, B, A, b, t, n] [] [l] []) b0 (.bool (.tt true))) (s12eE [k, B, A, b, t, n] [] [l] []) := by
  simp only [Tree.holds, Sy.holds, AllN, Env.more, s12eE, List.cons_append, List.nil_append, List.append_nil, denV, denI, denB, denL, I2.den, VOp.den, List.getD_cons_zero, List.getD_cons_succ, Cst.den, syso, syse, syio, sybo, List.map_nil, List.map_cons, B2.ofInts, B2.denI, B2.denB, if_true, Bool.false_eq_true, if_false, Nat.div_one, Nat.mul_one, Nat.add_zero, holds] at hc
  simp only [patsTyp, patTyp, patTypL, s12eE, denV, denL, List.getD_cons_zero, List.getD_cons_succ, and_true, true_and] at hty
  have hL_l : typ (.sl (.cons (.int .i64) .nil)) l := by first | exact hty | exact hty.1 | exact hty.2 | exact hty.1.1 | exact hty.1.2 | exact hty.2.1 | exact hty.2.2 | exact hty.2.2.1 | exact hty.2.2.2
  have hN_l := typ_len (n := 1) hL_l rfl (by omega)
  simp only [Nat.div_one, Nat.mul_one] at hN_l
  unfold wTells_tree
  simp only [Tree.holds, Sy.holds, AllN, Env.more, s12eE, List.cons_append, List.nil_append, List.append_nil, denV, denI, denB, denL, I2.den, VOp.den, List.getD_cons_zero, List.getD_cons_succ, Cst.den, syso, syse, syio, sybo, List.map_nil, List.map_cons, B2.ofInts, B2.denI, B2.denB, if_true, Bool.false_eq_true, if_false, Nat.div_one, Nat.mul_one, Nat.add_zero]
  refine ⟨fun h0 => ?_, fun h0 => ?_⟩
  ·
   first
   | exact True.intro
   | rfl
   | (exfalso
      simp only [not_true_eq_false] at *
      done)
  ·
   refine ⟨?_, fun h1 => ?_⟩
   ·
    first
    | exact True.intro
    | omega
   ·
    refine ⟨?_, fun h2 => ?_⟩
    ·
     first
     | exact True.intro
     | omega
    ·
     first
     | exact True.intro
     | rfl
     | (exfalso
        simp only [not_true_eq_false] at *
        done)
theorem s12eg_wTells : s12ec_wTells.Good Tryd.prog syG (s12eE [] [] [] []) := good_of_walk (Γ := ⟨[s12cc_sure12, s12c_sat, s12bc_rat, s12cc_num], syG, [], [], []⟩) (ρ := s12eE [] [] [] []) sym wTells_w rfl (fun _ _ _ _ => (ok_cons (Con.Good.env (Con.Good.up s12cg_sure12 s12eup rfl) _ _ _ _) (ok_cons (Con.Good.env (Con.Good.up (Con.Good.up (Con.Good.up s12g_sat s12bup rfl) s12cup rfl) s12eup rfl) _ _ _ _) (ok_cons (Con.Good.env (Con.Good.up (Con.Good.up s12bg_rat s12cup rfl) s12eup rfl) _ _ _ _) (ok_cons (Con.Good.env (Con.Good.up s12cg_num s12eup rfl) _ _ _ _) ok_nil))))) (fun k B A b t n l hc hty => wTells_h k B A b t n l hc hty)
end Go.Proofs.YtbjgopehomnpgaaDoor
