/-
  Layer 12: wSteps.
-/
import Derived.Test.YtbjgopehomnpgaaDoorSycqt
import Derived.Test.YtbjgopehomnpgaaDoorZ12cqt
namespace Go.Proofs.YtbjgopehomnpgaaDoor
open Go.RowKit Go.Extern.Stop Go.Stop Go.Extern Go.Proofs.YtbjgopehomnpgaaDoor.Sy
set_option linter.unusedVariables false
set_option linter.unusedSimpArgs false
noncomputable def s12dI : Nat → List Value → Int
  | i, l => s12cI i l
noncomputable def s12dB : Nat → List Value → Bool
  | i, l => s12cB i l
noncomputable def s12dV : Nat → List Value → Value
  | i, l => s12cV i l
noncomputable abbrev s12dE (iv : List Int) (bv : List Bool) (vv : List Value) (sv : List ByteArray) : Env := { iv := iv, bv := bv, vv := vv, sv := sv, fi := s12dI, fb := s12dB, fv := s12dV, et := 182 }
set_option maxHeartbeats 8000000 in
theorem s12dup : Agree 41 4 0 (s12cE [] [] [] []) (s12dE [] [] [] []) := ⟨rfl, (by
    intro f hf
    funext l
    show s12dI f l = s12cI f l
    unfold s12dI
    split <;> first | rfl | omega), (by
    intro f hf
    funext l
    show s12dB f l = s12cB f l
    unfold s12dB
    split <;> first | rfl | omega), (by
    intro f hf
    funext l
    show s12dV f l = s12cV f l
    unfold s12dV
    split <;> first | rfl | omega)⟩
theorem s12di_may (k1 : IntKind) (b : Int) (k2 : IntKind) (t : Int) (l : Value) : s12dI 0 [.int k1 b, .int k2 t, l] = mayI b t (intsOf l) := rfl
theorem s12di_sln (k1 : IntKind) (B : Int) (k2 : IntKind) (A : Int) : s12dI 21 [.int k1 B, .int k2 A] = slN B A := rfl
theorem s12di_fits (k1 : IntKind) (k : Int) (k2 : IntKind) (B : Int) (k3 : IntKind) (A : Int) (k4 : IntKind) (b : Int) (k5 : IntKind) (t : Int) (l : Value) : s12dI 24 [.int k1 k, .int k2 B, .int k3 A, .int k4 b, .int k5 t, l] = fitsI k B A b t (intsOf l) := rfl
theorem s12di_wse (k1 : IntKind) (k : Int) (k2 : IntKind) (B : Int) (k3 : IntKind) (A : Int) (k4 : IntKind) (b : Int) (k5 : IntKind) (t : Int) (l : Value) (k6 : IntKind) (j : Int) : s12dI 34 [.int k1 k, .int k2 B, .int k3 A, .int k4 b, .int k5 t, l, .int k6 j] = wsE k B A b t (intsOf l) j := rfl
theorem s12di_wsb (k1 : IntKind) (k : Int) (k2 : IntKind) (B : Int) (k3 : IntKind) (A : Int) (k4 : IntKind) (b : Int) (k5 : IntKind) (t : Int) (l : Value) (k6 : IntKind) (j : Int) : s12dI 35 [.int k1 k, .int k2 B, .int k3 A, .int k4 b, .int k5 t, l, .int k6 j] = wsB k B A b t (intsOf l) j := rfl
theorem s12di_wsn (k1 : IntKind) (k : Int) (k2 : IntKind) (B : Int) (k3 : IntKind) (A : Int) (k4 : IntKind) (b : Int) (k5 : IntKind) (t : Int) (l : Value) (k6 : IntKind) (j : Int) : s12dI 36 [.int k1 k, .int k2 B, .int k3 A, .int k4 b, .int k5 t, l, .int k6 j] = wsN k B A b t (intsOf l) j := rfl
theorem s12di_wbj (k1 : IntKind) (B : Int) (k2 : IntKind) (b : Int) (l : Value) (k3 : IntKind) (j : Int) : s12dI 40 [.int k1 B, .int k2 b, l, .int k3 j] = wbJ B b (intsOf l) j.toNat := rfl
def wSteps_tree : Tree :=
 (.br (lt_ (.lit 40) (.ofI (.vop (.len 1) (.cons o0_ .nil))))
 (.ret (.bool (.tt true)))
 (.need (an_ (an_ (an_ (le_ lm_ v0_) (le_ v0_ lM_)) (an_ (an_ (le_ lm_ v1_) (le_ v1_ lM_)) (an_ (le_ lm_ v2_) (le_ v2_ lM_)))) (an_ (le_ lm_ v5_) (le_ v5_ lM_)))
 (.need (an_ (an_ (an_ (le_ lm_ v0_) (le_ v0_ lM_)) (an_ (an_ (le_ lm_ v1_) (le_ v1_ lM_)) (an_ (le_ lm_ v2_) (le_ v2_ lM_)))) (an_ (le_ lm_ v5_) (le_ v5_ lM_)))
 (.need (an_ (an_ (le_ lm_ v0_) (le_ v0_ lM_)) (an_ (an_ (le_ lm_ v1_) (le_ v1_ lM_)) (an_ (le_ lm_ v2_) (le_ v2_ lM_))))
 (.need (an_ (an_ (an_ (le_ lm_ v0_) (le_ v0_ lM_)) (an_ (an_ (le_ lm_ v1_) (le_ v1_ lM_)) (an_ (le_ lm_ v2_) (le_ v2_ lM_)))) (an_ (le_ lm_ v6_) (le_ v6_ lM_)))
 (.need (an_ (an_ (le_ lm_ v0_) (le_ v0_ lM_)) (an_ (an_ (le_ lm_ v1_) (le_ v1_ lM_)) (an_ (le_ lm_ v2_) (le_ v2_ lM_))))
 (.need (an_ (an_ (le_ lm_ v0_) (le_ v0_ lM_)) (an_ (an_ (le_ lm_ v1_) (le_ v1_ lM_)) (an_ (le_ lm_ v2_) (le_ v2_ lM_))))
 (.need (an_ (an_ (le_ lm_ v0_) (le_ v0_ lM_)) (an_ (an_ (le_ lm_ v1_) (le_ v1_ lM_)) (an_ (le_ lm_ v2_) (le_ v2_ lM_))))
 (.br (.not (eq_ (.iapp 24 (.cons z0_ (.cons z1_ (.cons z2_ (.cons z3_ (.cons z4_ (.cons o0_ .nil))))))) (.lit 0)))
 (.br (eq_ (.iapp 34 (.cons z0_ (.cons z1_ (.cons z2_ (.cons z3_ (.cons z4_ (.cons o0_ (.cons z6_ .nil)))))))) (.iapp 24 (.cons z0_ (.cons z1_ (.cons z2_ (.cons z3_ (.cons z4_ (.cons o0_ .nil))))))))
 (.br (eq_ (.iapp 35 (.cons z0_ (.cons z1_ (.cons z2_ (.cons z3_ (.cons z4_ (.cons o0_ (.cons z6_ .nil)))))))) (.lit 0))
 (.br (eq_ (.iapp 36 (.cons z0_ (.cons z1_ (.cons z2_ (.cons z3_ (.cons z4_ (.cons o0_ (.cons z6_ .nil)))))))) (.lit 0))
 (.ret (.bool (.tt true)))
 (.ret (.bool (.tt false))))
 (.ret (.bool (.tt false))))
 (.ret (.bool (.tt false))))
 (.br (eq_ v0_ (.lit 0))
 (.br (eq_ (.iapp 34 (.cons z0_ (.cons z1_ (.cons z2_ (.cons z3_ (.cons z4_ (.cons o0_ (.cons z6_ .nil)))))))) (.lit 1))
 (.br (eq_ (.iapp 35 (.cons z0_ (.cons z1_ (.cons z2_ (.cons z3_ (.cons z4_ (.cons o0_ (.cons z6_ .nil)))))))) (.lit 0))
 (.br (eq_ (.iapp 36 (.cons z0_ (.cons z1_ (.cons z2_ (.cons z3_ (.cons z4_ (.cons o0_ (.cons z6_ .nil)))))))) (.lit 0))
 (.ret (.bool (.tt true)))
 (.ret (.bool (.tt false))))
 (.ret (.bool (.tt false))))
 (.ret (.bool (.tt false))))
 (.br (lt_ v6_ (.lit 0))
 (.br (eq_ (.iapp 34 (.cons z0_ (.cons z1_ (.cons z2_ (.cons z3_ (.cons z4_ (.cons o0_ (.cons z6_ .nil)))))))) (.lit 1))
 (.br (eq_ (.iapp 35 (.cons z0_ (.cons z1_ (.cons z2_ (.cons z3_ (.cons z4_ (.cons o0_ (.cons z6_ .nil)))))))) (.lit 0))
 (.br (eq_ (.iapp 36 (.cons z0_ (.cons z1_ (.cons z2_ (.cons z3_ (.cons z4_ (.cons o0_ (.cons z6_ .nil)))))))) (.lit 0))
 (.ret (.bool (.tt true)))
 (.ret (.bool (.tt false))))
 (.ret (.bool (.tt false))))
 (.ret (.bool (.tt false))))
 (.br (le_ (.ofI (.vop (.len 1) (.cons o0_ .nil))) v6_)
 (.br (eq_ (.iapp 34 (.cons z0_ (.cons z1_ (.cons z2_ (.cons z3_ (.cons z4_ (.cons o0_ (.cons z6_ .nil)))))))) (.lit 1))
 (.br (eq_ (.iapp 35 (.cons z0_ (.cons z1_ (.cons z2_ (.cons z3_ (.cons z4_ (.cons o0_ (.cons z6_ .nil)))))))) (.lit 0))
 (.br (eq_ (.iapp 36 (.cons z0_ (.cons z1_ (.cons z2_ (.cons z3_ (.cons z4_ (.cons o0_ (.cons z6_ .nil)))))))) (.lit 0))
 (.ret (.bool (.tt true)))
 (.ret (.bool (.tt false))))
 (.ret (.bool (.tt false))))
 (.ret (.bool (.tt false))))
 (.need (an_ (an_ (le_ (.lit 0) v1_) (an_ (le_ v1_ (.lit 43200)) (an_ (le_ (.lit 0) v2_) (le_ v2_ (.lit 43200))))) (an_ (eq_ (.iapp 0 (.cons z3_ (.cons z4_ (.cons o0_ .nil)))) (.lit 0)) (an_ (le_ (.lit 0) v6_) (lt_ v6_ (.ofI (.vop (.len 1) (.cons o0_ .nil)))))))
 (.br (eq_ (.iapp 34 (.cons z0_ (.cons z1_ (.cons z2_ (.cons z3_ (.cons z4_ (.cons o0_ (.cons z6_ .nil)))))))) (.lit 0))
 (.br (eq_ (.iapp 35 (.cons z0_ (.cons z1_ (.cons z2_ (.cons z3_ (.cons z4_ (.cons o0_ (.cons z6_ .nil)))))))) (.iapp 40 (.cons z1_ (.cons z3_ (.cons o0_ (.cons z6_ .nil))))))
 (.br (eq_ (.iapp 36 (.cons z0_ (.cons z1_ (.cons z2_ (.cons z3_ (.cons z4_ (.cons o0_ (.cons z6_ .nil)))))))) (ad_ (.iapp 40 (.cons z1_ (.cons z3_ (.cons o0_ (.cons z6_ .nil))))) (.iapp 21 (.cons z1_ (.cons z2_ .nil)))))
 (.ret (.bool (.tt true)))
 (.ret (.bool (.tt false))))
 (.ret (.bool (.tt false))))
 (.ret (.bool (.tt false)))))))))))))))))
abbrev s12dc_wSteps : Con := ⟨9, [(.agg (.cons z0_ (.cons z1_ (.cons z2_ .nil)))), (.agg (.cons z3_ (.cons z4_ (.cons (.hs .no (.cons (.int .i64) .nil) o0_) .nil)))), (.agg (.cons z5_ (.cons z6_ .nil)))], (an_ (an_ (an_ (le_ lm_ v0_) (le_ v0_ lM_)) (an_ (an_ (le_ lm_ v1_) (le_ v1_ lM_)) (an_ (le_ lm_ v2_) (le_ v2_ lM_)))) (an_ (an_ (le_ lm_ v5_) (le_ v5_ lM_)) (an_ (le_ lm_ v6_) (le_ v6_ lM_)))), (.bool (.tt true)), ⟨7, 0, 1, 0⟩, none⟩
theorem wSteps_w : walk Tryd.prog 182 ⟨[s12cc_sure12, s12c_slag, s12bc_rlag, s12bc_rfits, s12c_sWin, s12c_scheck, s12c_rmay12, s12c_sfits, s12bc_rwin, s12cc_num], syG, [], [], []⟩ [] .v s12dc_wSteps s12dc_wSteps.n 3000 = some wSteps_tree := by kernel_rfl
theorem wSteps_h (k : Int) (B : Int) (A : Int) (b : Int) (t : Int) (x : Int) (y : Int) (l : Value) (hc : holds (s12dE [k, B, A, b, t, x, y] [] [l] []) (an_ (an_ (an_ (le_ lm_ v0_) (le_ v0_ lM_)) (an_ (an_ (le_ lm_ v1_) (le_ v1_ lM_)) (an_ (le_ lm_ v2_) (le_ v2_ lM_)))) (an_ (an_ (le_ lm_ v5_) (le_ v5_ lM_)) (an_ (le_ lm_ v6_) (le_ v6_ lM_))))) (hty : patsTyp (s12dE [k, B, A, b, t, x, y] [] [l] []) [(.agg (.cons z0_ (.cons z1_ (.cons z2_ .nil)))), (.agg (.cons z3_ (.cons z4_ (.cons (.hs .no (.cons (.int .i64) .nil) o0_) .nil)))), (.agg (.cons z5_ (.cons z6_ .nil)))]) : wSteps_tree.holds (fun v_ => v_ = denV (s12dE [k, B, A, b, t, x, y] [] [l] []) b0 (.bool (.tt true))) (s12dE [k, B, A, b, t, x, y] [] [l] []) := by
  simp only [Tree.holds, Sy.holds, AllN, Env.more, s12dE, List.cons_append, List.nil_append, List.append_nil, denV, denI, denB, denL, I2.den, VOp.den, List.getD_cons_zero, List.getD_cons_succ, Cst.den, syso, syse, syio, sybo, List.map_nil, List.map_cons, B2.ofInts, B2.denI, B2.denB, if_true, Bool.false_eq_true, if_false, Nat.div_one, Nat.mul_one, Nat.add_zero, holds] at hc
  simp only [patsTyp, patTyp, patTypL, s12dE, denV, denL, List.getD_cons_zero, List.getD_cons_succ, and_true, true_and] at hty
  have hL_l : typ (.sl (.cons (.int .i64) .nil)) l := by first | exact hty | exact hty.1 | exact hty.2 | exact hty.1.1 | exact hty.1.2 | exact hty.2.1 | exact hty.2.2 | exact hty.2.2.1 | exact hty.2.2.2
  have hN_l := typ_len (n := 1) hL_l rfl (by omega)
  simp only [Nat.div_one, Nat.mul_one] at hN_l
  unfold wSteps_tree
  simp only [Tree.holds, Sy.holds, AllN, Env.more, s12dE, List.cons_append, List.nil_append, List.append_nil, denV, denI, denB, denL, I2.den, VOp.den, List.getD_cons_zero, List.getD_cons_succ, Cst.den, syso, syse, syio, sybo, s12di_may, s12di_sln, s12di_fits, s12di_wse, s12di_wsb, s12di_wsn, s12di_wbj, List.map_nil, List.map_cons, B2.ofInts, B2.denI, B2.denB, if_true, Bool.false_eq_true, if_false, Nat.div_one, Nat.mul_one, Nat.add_zero]
  have hlen := ints_len l
  have y1 := ws_spec k B A b t (intsOf l) y
  refine ⟨fun h0 => ?_, fun h0 => ?_⟩
  ·
   first
   | exact True.intro
   | rfl
   | (exfalso; omega)
   | (exfalso
      simp only [not_true_eq_false] at *
      done)
  ·
   refine ⟨?_, fun h1 => ?_⟩
   ·
    first
    | exact True.intro
    | omega
    | (have ff := fit_facts (show fitsI k B A b t (intsOf l) = 0 by omega)
       omega)
   ·
    refine ⟨?_, fun h2 => ?_⟩
    ·
     first
     | exact True.intro
     | omega
     | (have ff := fit_facts (show fitsI k B A b t (intsOf l) = 0 by omega)
        omega)
    ·
     refine ⟨?_, fun h3 => ?_⟩
     ·
      first
      | exact True.intro
      | omega
      | (have ff := fit_facts (show fitsI k B A b t (intsOf l) = 0 by omega)
         omega)
     ·
      refine ⟨?_, fun h4 => ?_⟩
      ·
       first
       | exact True.intro
       | omega
       | (have ff := fit_facts (show fitsI k B A b t (intsOf l) = 0 by omega)
          omega)
      ·
       refine ⟨?_, fun h5 => ?_⟩
       ·
        first
        | exact True.intro
        | omega
        | (have ff := fit_facts (show fitsI k B A b t (intsOf l) = 0 by omega)
           omega)
       ·
        refine ⟨?_, fun h6 => ?_⟩
        ·
         first
         | exact True.intro
         | omega
         | (have ff := fit_facts (show fitsI k B A b t (intsOf l) = 0 by omega)
            omega)
        ·
         refine ⟨?_, fun h7 => ?_⟩
         ·
          first
          | exact True.intro
          | omega
          | (have ff := fit_facts (show fitsI k B A b t (intsOf l) = 0 by omega)
             omega)
         ·
          refine ⟨fun h8 => ?_, fun h8 => ?_⟩
          ·
           refine ⟨fun h9 => ?_, fun h9 => ?_⟩
           ·
            refine ⟨fun h10 => ?_, fun h10 => ?_⟩
            ·
             refine ⟨fun h11 => ?_, fun h11 => ?_⟩
             ·
              first
              | exact True.intro
              | rfl
              | (exfalso; omega)
              | (exfalso
                 simp only [not_true_eq_false] at *
                 done)
             ·
              first
              | exact True.intro
              | rfl
              | (exfalso; omega)
              | (exfalso
                 simp only [not_true_eq_false] at *
                 done)
            ·
             first
             | exact True.intro
             | rfl
             | (exfalso; omega)
             | (exfalso
                simp only [not_true_eq_false] at *
                done)
           ·
            first
            | exact True.intro
            | rfl
            | (exfalso; omega)
            | (exfalso
               simp only [not_true_eq_false] at *
               done)
          ·
           refine ⟨fun h12 => ?_, fun h12 => ?_⟩
           ·
            refine ⟨fun h13 => ?_, fun h13 => ?_⟩
            ·
             refine ⟨fun h14 => ?_, fun h14 => ?_⟩
             ·
              refine ⟨fun h15 => ?_, fun h15 => ?_⟩
              ·
               first
               | exact True.intro
               | rfl
               | (exfalso; omega)
               | (exfalso
                  simp only [not_true_eq_false] at *
                  done)
              ·
               first
               | exact True.intro
               | rfl
               | (exfalso; omega)
               | (exfalso
                  simp only [not_true_eq_false] at *
                  done)
             ·
              first
              | exact True.intro
              | rfl
              | (exfalso; omega)
              | (exfalso
                 simp only [not_true_eq_false] at *
                 done)
            ·
             first
             | exact True.intro
             | rfl
             | (exfalso; omega)
             | (exfalso
                simp only [not_true_eq_false] at *
                done)
           ·
            refine ⟨fun h16 => ?_, fun h16 => ?_⟩
            ·
             refine ⟨fun h17 => ?_, fun h17 => ?_⟩
             ·
              refine ⟨fun h18 => ?_, fun h18 => ?_⟩
              ·
               refine ⟨fun h19 => ?_, fun h19 => ?_⟩
               ·
                first
                | exact True.intro
                | rfl
                | (exfalso; omega)
                | (exfalso
                   simp only [not_true_eq_false] at *
                   done)
               ·
                first
                | exact True.intro
                | rfl
                | (exfalso; omega)
                | (exfalso
                   simp only [not_true_eq_false] at *
                   done)
              ·
               first
               | exact True.intro
               | rfl
               | (exfalso; omega)
               | (exfalso
                  simp only [not_true_eq_false] at *
                  done)
             ·
              first
              | exact True.intro
              | rfl
              | (exfalso; omega)
              | (exfalso
                 simp only [not_true_eq_false] at *
                 done)
            ·
             refine ⟨fun h20 => ?_, fun h20 => ?_⟩
             ·
              refine ⟨fun h21 => ?_, fun h21 => ?_⟩
              ·
               refine ⟨fun h22 => ?_, fun h22 => ?_⟩
               ·
                refine ⟨fun h23 => ?_, fun h23 => ?_⟩
                ·
                 first
                 | exact True.intro
                 | rfl
                 | (exfalso; omega)
                 | (exfalso
                    simp only [not_true_eq_false] at *
                    done)
                ·
                 first
                 | exact True.intro
                 | rfl
                 | (exfalso; omega)
                 | (exfalso
                    simp only [not_true_eq_false] at *
                    done)
               ·
                first
                | exact True.intro
                | rfl
                | (exfalso; omega)
                | (exfalso
                   simp only [not_true_eq_false] at *
                   done)
              ·
               first
               | exact True.intro
               | rfl
               | (exfalso; omega)
               | (exfalso
                  simp only [not_true_eq_false] at *
                  done)
             ·
              refine ⟨?_, fun h24 => ?_⟩
              ·
               first
               | exact True.intro
               | omega
               | (have ff := fit_facts (show fitsI k B A b t (intsOf l) = 0 by omega)
                  omega)
              ·
               refine ⟨fun h25 => ?_, fun h25 => ?_⟩
               ·
                refine ⟨fun h26 => ?_, fun h26 => ?_⟩
                ·
                 refine ⟨fun h27 => ?_, fun h27 => ?_⟩
                 ·
                  first
                  | exact True.intro
                  | rfl
                  | (exfalso; omega)
                  | (exfalso
                     simp only [not_true_eq_false] at *
                     done)
                 ·
                  first
                  | exact True.intro
                  | rfl
                  | (exfalso; omega)
                  | (exfalso
                     simp only [not_true_eq_false] at *
                     done)
                ·
                 first
                 | exact True.intro
                 | rfl
                 | (exfalso; omega)
                 | (exfalso
                    simp only [not_true_eq_false] at *
                    done)
               ·
                first
                | exact True.intro
                | rfl
                | (exfalso; omega)
                | (exfalso
                   simp only [not_true_eq_false] at *
                   done)
theorem s12dg_wSteps : s12dc_wSteps.Good Tryd.prog syG (s12dE [] [] [] []) := good_of_walk (Γ := ⟨[s12cc_sure12, s12c_slag, s12bc_rlag, s12bc_rfits, s12c_sWin, s12c_scheck, s12c_rmay12, s12c_sfits, s12bc_rwin, s12cc_num], syG, [], [], []⟩) (ρ := s12dE [] [] [] []) sym wSteps_w rfl (fun _ _ _ _ => (ok_cons (Con.Good.env (Con.Good.up s12cg_sure12 s12dup rfl) _ _ _ _) (ok_cons (Con.Good.env (Con.Good.up (Con.Good.up (Con.Good.up s12g_slag s12bup rfl) s12cup rfl) s12dup rfl) _ _ _ _) (ok_cons (Con.Good.env (Con.Good.up (Con.Good.up s12bg_rlag s12cup rfl) s12dup rfl) _ _ _ _) (ok_cons (Con.Good.env (Con.Good.up (Con.Good.up s12bg_rfits s12cup rfl) s12dup rfl) _ _ _ _) (ok_cons (Con.Good.env (Con.Good.up (Con.Good.up (Con.Good.up s12g_sWin s12bup rfl) s12cup rfl) s12dup rfl) _ _ _ _) (ok_cons (Con.Good.env (Con.Good.up (Con.Good.up (Con.Good.up s12g_scheck s12bup rfl) s12cup rfl) s12dup rfl) _ _ _ _) (ok_cons (Con.Good.env (Con.Good.up (Con.Good.up (Con.Good.up s12g_rmay12 s12bup rfl) s12cup rfl) s12dup rfl) _ _ _ _) (ok_cons (Con.Good.env (Con.Good.up (Con.Good.up (Con.Good.up s12g_sfits s12bup rfl) s12cup rfl) s12dup rfl) _ _ _ _) (ok_cons (Con.Good.env (Con.Good.up (Con.Good.up s12bg_rwin s12cup rfl) s12dup rfl) _ _ _ _) (ok_cons (Con.Good.env (Con.Good.up s12cg_num s12dup rfl) _ _ _ _) ok_nil))))))))))) (fun k B A b t x y l hc hty => wSteps_h k B A b t x y l hc hty)
end Go.Proofs.YtbjgopehomnpgaaDoor
