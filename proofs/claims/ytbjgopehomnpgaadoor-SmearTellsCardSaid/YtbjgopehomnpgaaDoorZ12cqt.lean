/-
  Layer 12: what the statements rest on.
-/
import Derived.Test.YtbjgopehomnpgaaDoorSycqt
import Derived.Test.YtbjgopehomnpgaaDoorZ12bqt
import Derived.Test.YtbjgopehomnpgaaDoorNumqt
namespace Go.Proofs.YtbjgopehomnpgaaDoor
open Go.RowKit Go.Extern.Stop Go.Stop Go.Extern Go.Proofs.YtbjgopehomnpgaaDoor.Sy
set_option linter.unusedVariables false
set_option linter.unusedSimpArgs false
theorem num12_any (n : Int) (w : World) (hg : w.cell? ⟨0, 0, none⟩ = some asHandle) : Calls Tryd.prog 70 #[errVal 182 n] w fun e w' => e = .returned (.int .i64 n) ∧ Below w.heap.size w w' := by
  unfold errVal
  split
  · rename_i h; subst h; exact num12_nil _
  · exact num12_err _ _ hg
theorem fit_facts {k B A b t : Int} {l : List Int} (h : fitsI k B A b t l = 0) : smI k B A = 0 ∧ mayI b t l = 0 ∧ mayL b t l = true ∧ (k = 0 ∨ fitL B A b l l.length = true) ∧ 0 ≤ B ∧ B ≤ 43200 ∧ 0 ≤ A ∧ A ≤ 43200 := by
  have s1 := smI_spec k B A
  have m1 := mayI_spec b t l
  rcases fitsI_spec k B A b t l with ⟨f, _⟩ | ⟨a, c, hd⟩
  · omega
  · have hm : mayL b t l = true := by
      rcases m1 with ⟨x, _⟩ | ⟨_, x, _⟩
      · omega
      · exact x
    refine ⟨a, c, hm, ?_, by omega, by omega, by omega, by omega⟩
    rcases hd with ⟨_, hd⟩ | ⟨_, _, hd⟩ | ⟨_, hd, _⟩
    · exact .inl hd
    · exact .inr hd
    · omega
noncomputable def s12cI : Nat → List Value → Int
  | i, l => s12bI i l
noncomputable def s12cB : Nat → List Value → Bool
  | i, l => s12bB i l
noncomputable def s12cV : Nat → List Value → Value
  | i, l => s12bV i l
noncomputable abbrev s12cE (iv : List Int) (bv : List Bool) (vv : List Value) (sv : List ByteArray) : Env := { iv := iv, bv := bv, vv := vv, sv := sv, fi := s12cI, fb := s12cB, fv := s12cV, et := 182 }
set_option maxHeartbeats 8000000 in
theorem s12cup : Agree 41 4 0 (s12bE [] [] [] []) (s12cE [] [] [] []) := ⟨rfl, (by
    intro f hf
    funext l
    show s12cI f l = s12bI f l
    unfold s12cI
    split <;> first | rfl | omega), (by
    intro f hf
    funext l
    show s12cB f l = s12bB f l
    unfold s12cB
    split <;> first | rfl | omega), (by
    intro f hf
    funext l
    show s12cV f l = s12bV f l
    unfold s12cV
    split <;> first | rfl | omega)⟩
theorem s12ci_sm (k1 : IntKind) (k : Int) (k2 : IntKind) (B : Int) (k3 : IntKind) (A : Int) : s12cI 20 [.int k1 k, .int k2 B, .int k3 A] = smI k B A := rfl
theorem s12ci_lge (k1 : IntKind) (k : Int) (k2 : IntKind) (B : Int) (k3 : IntKind) (A : Int) (k4 : IntKind) (g : Int) : s12cI 26 [.int k1 k, .int k2 B, .int k3 A, .int k4 g] = lagE k B A g := rfl
theorem s12ci_lgv (k1 : IntKind) (k : Int) (k2 : IntKind) (B : Int) (k3 : IntKind) (A : Int) (k4 : IntKind) (g : Int) : s12cI 27 [.int k1 k, .int k2 B, .int k3 A, .int k4 g] = lagV k B A g := rfl
theorem s12ci_ate (k1 : IntKind) (k : Int) (k2 : IntKind) (B : Int) (k3 : IntKind) (A : Int) (k4 : IntKind) (b : Int) (k5 : IntKind) (t : Int) (l : Value) (k6 : IntKind) (n : Int) : s12cI 30 [.int k1 k, .int k2 B, .int k3 A, .int k4 b, .int k5 t, l, .int k6 n] = atE k B A b t (intsOf l) n := rfl
theorem s12ci_atv (k1 : IntKind) (k : Int) (k2 : IntKind) (B : Int) (k3 : IntKind) (A : Int) (k4 : IntKind) (b : Int) (k5 : IntKind) (t : Int) (l : Value) (k6 : IntKind) (n : Int) : s12cI 31 [.int k1 k, .int k2 B, .int k3 A, .int k4 b, .int k5 t, l, .int k6 n] = atV k B A b t (intsOf l) n := rfl
theorem s12ci_wse (k1 : IntKind) (k : Int) (k2 : IntKind) (B : Int) (k3 : IntKind) (A : Int) (k4 : IntKind) (b : Int) (k5 : IntKind) (t : Int) (l : Value) (k6 : IntKind) (j : Int) : s12cI 34 [.int k1 k, .int k2 B, .int k3 A, .int k4 b, .int k5 t, l, .int k6 j] = wsE k B A b t (intsOf l) j := rfl
theorem s12ci_wsb (k1 : IntKind) (k : Int) (k2 : IntKind) (B : Int) (k3 : IntKind) (A : Int) (k4 : IntKind) (b : Int) (k5 : IntKind) (t : Int) (l : Value) (k6 : IntKind) (j : Int) : s12cI 35 [.int k1 k, .int k2 B, .int k3 A, .int k4 b, .int k5 t, l, .int k6 j] = wsB k B A b t (intsOf l) j := rfl
theorem s12ci_wsn (k1 : IntKind) (k : Int) (k2 : IntKind) (B : Int) (k3 : IntKind) (A : Int) (k4 : IntKind) (b : Int) (k5 : IntKind) (t : Int) (l : Value) (k6 : IntKind) (j : Int) : s12cI 36 [.int k1 k, .int k2 B, .int k3 A, .int k4 b, .int k5 t, l, .int k6 j] = wsN k B A b t (intsOf l) j := rfl
abbrev s12cc_num : Con := ⟨70, [(.err v0_)], (.tt true), z0_, ⟨1, 0, 0, 0⟩, none⟩
theorem s12cg_num : s12cc_num.Good Tryd.prog syG (s12cE [] [] [] []) := good_flat rfl rfl rfl (by
  intro n hc β ok w hG
  have hc' := hc
  simp only [Tree.holds, Sy.holds, AllN, Env.more, s12cE, List.cons_append, List.nil_append, List.append_nil, denV, denI, denB, denL, I2.den, VOp.den, List.getD_cons_zero, List.getD_cons_succ, Cst.den, syso, syse, syio, sybo, List.map_nil, List.map_cons, B2.ofInts, B2.denI, B2.denB, if_true, Bool.false_eq_true, if_false, Nat.div_one, Nat.mul_one, Nat.add_zero, holds] at hc
  exact num12_any n w (hG _ (List.mem_singleton.2 rfl)).2.2)
def sure12_tree : Tree :=
 (.need (an_ (le_ lm_ (.iapp 35 (.cons (.int .i64 (.lit 1)) (.cons (.int .i64 (.lit 0)) (.cons (.int .i64 (.lit 1)) (.cons (.int .i64 (.lit 10)) (.cons (.int .i64 (.lit 2000)) (.cons (.tup (.cons (.int .i64 (.lit 911)) .nil)) (.cons (.int .i64 (.lit 0)) .nil))))))))) (le_ (.iapp 35 (.cons (.int .i64 (.lit 1)) (.cons (.int .i64 (.lit 0)) (.cons (.int .i64 (.lit 1)) (.cons (.int .i64 (.lit 10)) (.cons (.int .i64 (.lit 2000)) (.cons (.tup (.cons (.int .i64 (.lit 911)) .nil)) (.cons (.int .i64 (.lit 0)) .nil)))))))) lM_))
 (.need (an_ (le_ lm_ (.iapp 36 (.cons (.int .i64 (.lit 1)) (.cons (.int .i64 (.lit 0)) (.cons (.int .i64 (.lit 1)) (.cons (.int .i64 (.lit 10)) (.cons (.int .i64 (.lit 2000)) (.cons (.tup (.cons (.int .i64 (.lit 911)) .nil)) (.cons (.int .i64 (.lit 0)) .nil))))))))) (le_ (.iapp 36 (.cons (.int .i64 (.lit 1)) (.cons (.int .i64 (.lit 0)) (.cons (.int .i64 (.lit 1)) (.cons (.int .i64 (.lit 10)) (.cons (.int .i64 (.lit 2000)) (.cons (.tup (.cons (.int .i64 (.lit 911)) .nil)) (.cons (.int .i64 (.lit 0)) .nil)))))))) lM_))
 (.br (eq_ (.iapp 26 (.cons (.int .i64 (.lit 1)) (.cons (.int .i64 (.lit 0)) (.cons (.int .i64 (.lit 1)) (.cons (.int .i64 (.lit 500000000)) .nil))))) (.lit 0))
 (.br (eq_ (.iapp 34 (.cons (.int .i64 (.lit 1)) (.cons (.int .i64 (.lit 0)) (.cons (.int .i64 (.lit 1)) (.cons (.int .i64 (.lit 10)) (.cons (.int .i64 (.lit 2000)) (.cons (.tup (.cons (.int .i64 (.lit 911)) .nil)) (.cons (.int .i64 (.lit 0)) .nil)))))))) (.lit 0))
 (.br (eq_ (.iapp 30 (.cons (.int .i64 (.lit 1)) (.cons (.int .i64 (.lit 0)) (.cons (.int .i64 (.lit 1)) (.cons (.int .i64 (.lit 10)) (.cons (.int .i64 (.lit 2000)) (.cons (.tup (.cons (.int .i64 (.lit 911)) .nil)) (.cons (.int .i64 (.iapp 35 (.cons (.int .i64 (.lit 1)) (.cons (.int .i64 (.lit 0)) (.cons (.int .i64 (.lit 1)) (.cons (.int .i64 (.lit 10)) (.cons (.int .i64 (.lit 2000)) (.cons (.tup (.cons (.int .i64 (.lit 911)) .nil)) (.cons (.int .i64 (.lit 0)) .nil))))))))) .nil)))))))) (.lit 0))
 (.br (eq_ (.iapp 30 (.cons (.int .i64 (.lit 1)) (.cons (.int .i64 (.lit 0)) (.cons (.int .i64 (.lit 1)) (.cons (.int .i64 (.lit 10)) (.cons (.int .i64 (.lit 2000)) (.cons (.tup (.cons (.int .i64 (.lit 911)) .nil)) (.cons (.int .i64 (.iapp 36 (.cons (.int .i64 (.lit 1)) (.cons (.int .i64 (.lit 0)) (.cons (.int .i64 (.lit 1)) (.cons (.int .i64 (.lit 10)) (.cons (.int .i64 (.lit 2000)) (.cons (.tup (.cons (.int .i64 (.lit 911)) .nil)) (.cons (.int .i64 (.lit 0)) .nil))))))))) .nil)))))))) (.lit 0))
 (.br (eq_ (.iapp 27 (.cons (.int .i64 (.lit 1)) (.cons (.int .i64 (.lit 0)) (.cons (.int .i64 (.lit 1)) (.cons (.int .i64 (.lit 500000000)) .nil))))) (.lit 250000000))
 (.br (eq_ (wr_ (sb_ (.iapp 36 (.cons (.int .i64 (.lit 1)) (.cons (.int .i64 (.lit 0)) (.cons (.int .i64 (.lit 1)) (.cons (.int .i64 (.lit 10)) (.cons (.int .i64 (.lit 2000)) (.cons (.tup (.cons (.int .i64 (.lit 911)) .nil)) (.cons (.int .i64 (.lit 0)) .nil)))))))) (.iapp 35 (.cons (.int .i64 (.lit 1)) (.cons (.int .i64 (.lit 0)) (.cons (.int .i64 (.lit 1)) (.cons (.int .i64 (.lit 10)) (.cons (.int .i64 (.lit 2000)) (.cons (.tup (.cons (.int .i64 (.lit 911)) .nil)) (.cons (.int .i64 (.lit 0)) .nil)))))))))) (.lit 2000000000))
 (.br (eq_ (wr_ (sb_ (.iapp 31 (.cons (.int .i64 (.lit 1)) (.cons (.int .i64 (.lit 0)) (.cons (.int .i64 (.lit 1)) (.cons (.int .i64 (.lit 10)) (.cons (.int .i64 (.lit 2000)) (.cons (.tup (.cons (.int .i64 (.lit 911)) .nil)) (.cons (.int .i64 (.iapp 36 (.cons (.int .i64 (.lit 1)) (.cons (.int .i64 (.lit 0)) (.cons (.int .i64 (.lit 1)) (.cons (.int .i64 (.lit 10)) (.cons (.int .i64 (.lit 2000)) (.cons (.tup (.cons (.int .i64 (.lit 911)) .nil)) (.cons (.int .i64 (.lit 0)) .nil))))))))) .nil)))))))) (.iapp 31 (.cons (.int .i64 (.lit 1)) (.cons (.int .i64 (.lit 0)) (.cons (.int .i64 (.lit 1)) (.cons (.int .i64 (.lit 10)) (.cons (.int .i64 (.lit 2000)) (.cons (.tup (.cons (.int .i64 (.lit 911)) .nil)) (.cons (.int .i64 (.iapp 35 (.cons (.int .i64 (.lit 1)) (.cons (.int .i64 (.lit 0)) (.cons (.int .i64 (.lit 1)) (.cons (.int .i64 (.lit 10)) (.cons (.int .i64 (.lit 2000)) (.cons (.tup (.cons (.int .i64 (.lit 911)) .nil)) (.cons (.int .i64 (.lit 0)) .nil))))))))) .nil)))))))))) (.lit 1000000000))
 (.br (eq_ (.iapp 31 (.cons (.int .i64 (.lit 1)) (.cons (.int .i64 (.lit 0)) (.cons (.int .i64 (.lit 1)) (.cons (.int .i64 (.lit 10)) (.cons (.int .i64 (.lit 2000)) (.cons (.tup (.cons (.int .i64 (.lit 911)) .nil)) (.cons (.int .i64 (.iapp 36 (.cons (.int .i64 (.lit 1)) (.cons (.int .i64 (.lit 0)) (.cons (.int .i64 (.lit 1)) (.cons (.int .i64 (.lit 10)) (.cons (.int .i64 (.lit 2000)) (.cons (.tup (.cons (.int .i64 (.lit 911)) .nil)) (.cons (.int .i64 (.lit 0)) .nil))))))))) .nil)))))))) (.lit 78796801000000000))
 (.ret (.bool (eq_ (.iapp 20 (.cons (.int .i64 (.lit 2)) (.cons (.int .i64 (.lit 0)) (.cons (.int .i64 (.lit 5)) .nil)))) (.lit 1))))
 (.ret (.bool (.tt false))))
 (.ret (.bool (.tt false))))
 (.ret (.bool (.tt false))))
 (.ret (.bool (.tt false))))
 (.ret (.bool (.tt false))))
 (.ret (.bool (.tt false))))
 (.ret (.bool (.tt false))))
 (.ret (.bool (.tt false))))))
abbrev s12cc_sure12 : Con := ⟨63, [], (.tt true), (.bool (.tt true)), ⟨0, 0, 0, 0⟩, none⟩
theorem sure12_w : walk Tryd.prog 182 ⟨[s12c_slag, s12c_sWin, s12c_sat, s12c_scheck, s12cc_num], syG, [], [], []⟩ [] .v s12cc_sure12 s12cc_sure12.n 3000 = some sure12_tree := by kernel_rfl
theorem sure12_h  (hc : holds (s12cE [] [] [] []) (.tt true)) (hty : patsTyp (s12cE [] [] [] []) []) : sure12_tree.holds (fun v_ => v_ = denV (s12cE [] [] [] []) b0 (.bool (.tt true))) (s12cE [] [] [] []) := by
  simp only [Tree.holds, Sy.holds, AllN, Env.more, s12cE, List.cons_append, List.nil_append, List.append_nil, denV, denI, denB, denL, I2.den, VOp.den, List.getD_cons_zero, List.getD_cons_succ, Cst.den, syso, syse, syio, sybo, List.map_nil, List.map_cons, B2.ofInts, B2.denI, B2.denB, if_true, Bool.false_eq_true, if_false, Nat.div_one, Nat.mul_one, Nat.add_zero, holds] at hc
  simp only [patsTyp, patTyp, patTypL, s12cE, denV, denL, List.getD_cons_zero, List.getD_cons_succ, and_true, true_and] at hty
  unfold sure12_tree
  simp only [Tree.holds, Sy.holds, AllN, Env.more, s12cE, List.cons_append, List.nil_append, List.append_nil, denV, denI, denB, denL, I2.den, VOp.den, List.getD_cons_zero, List.getD_cons_succ, Cst.den, syso, syse, syio, sybo, s12ci_sm, s12ci_lge, s12ci_lgv, s12ci_ate, s12ci_atv, s12ci_wse, s12ci_wsb, s12ci_wsn, List.map_nil, List.map_cons, B2.ofInts, B2.denI, B2.denB, if_true, Bool.false_eq_true, if_false, Nat.div_one, Nat.mul_one, Nat.add_zero]
  have e : intsOf (Value.tuple #[Value.int .i64 911]) = [911] := rfl
  have q1 : wsB 1 0 1 10 2000 [911] 0 = 78796810000000000 := by decide
  have q2 : wsN 1 0 1 10 2000 [911] 0 = 78796812000000000 := by decide
  have q3 : wsE 1 0 1 10 2000 [911] 0 = 0 := by decide
  have q4 : atE 1 0 1 10 2000 [911] 78796810000000000 = 0 := by decide
  have q5 : atE 1 0 1 10 2000 [911] 78796812000000000 = 0 := by decide
  have q6 : atV 1 0 1 10 2000 [911] 78796810000000000 = 78796800000000000 := by decide
  have q7 : atV 1 0 1 10 2000 [911] 78796812000000000 = 78796801000000000 := by decide
  have q8 : lagE 1 0 1 500000000 = 0 := by decide
  have q9 : lagV 1 0 1 500000000 = 250000000 := by decide
  have q10 : smI 2 0 5 = 1 := by decide
  have q11 : IntKind.wrap .i64 (78796812000000000 - 78796810000000000) = 2000000000 := by decide
  have q12 : IntKind.wrap .i64 (78796801000000000 - 78796800000000000) = 1000000000 := by decide
  refine ⟨?_, fun h0 => ?_⟩
  ·
   simp only [e, q1, q2, q3, q4, q5, q6, q7, q8, q9, q10, q11, q12]
   first
   | exact True.intro
   | omega
  ·
   refine ⟨?_, fun h1 => ?_⟩
   ·
    simp only [e, q1, q2, q3, q4, q5, q6, q7, q8, q9, q10, q11, q12]
    first
    | exact True.intro
    | omega
   ·
    refine ⟨fun h2 => ?_, fun h2 => ?_⟩
    ·
     refine ⟨fun h3 => ?_, fun h3 => ?_⟩
     ·
      refine ⟨fun h4 => ?_, fun h4 => ?_⟩
      ·
       refine ⟨fun h5 => ?_, fun h5 => ?_⟩
       ·
        refine ⟨fun h6 => ?_, fun h6 => ?_⟩
        ·
         refine ⟨fun h7 => ?_, fun h7 => ?_⟩
         ·
          refine ⟨fun h8 => ?_, fun h8 => ?_⟩
          ·
           refine ⟨fun h9 => ?_, fun h9 => ?_⟩
           ·
            simp only [e, q1, q2, q3, q4, q5, q6, q7, q8, q9, q10, q11, q12] at *
            first
            | rfl
            | (exfalso; omega)
            | (exfalso
               simp only [not_true_eq_false] at *
               done)
            | (exfalso
               simp at *
               done)
           ·
            simp only [e, q1, q2, q3, q4, q5, q6, q7, q8, q9, q10, q11, q12] at *
            first
            | rfl
            | (exfalso; omega)
            | (exfalso
               simp only [not_true_eq_false] at *
               done)
            | (exfalso
               simp at *
               done)
          ·
           simp only [e, q1, q2, q3, q4, q5, q6, q7, q8, q9, q10, q11, q12] at *
           first
           | rfl
           | (exfalso; omega)
           | (exfalso
              simp only [not_true_eq_false] at *
              done)
           | (exfalso
              simp at *
              done)
         ·
          simp only [e, q1, q2, q3, q4, q5, q6, q7, q8, q9, q10, q11, q12] at *
          first
          | rfl
          | (exfalso; omega)
          | (exfalso
             simp only [not_true_eq_false] at *
             done)
          | (exfalso
             simp at *
             done)
        ·
         simp only [e, q1, q2, q3, q4, q5, q6, q7, q8, q9, q10, q11, q12] at *
         first
         | rfl
         | (exfalso; omega)
         | (exfalso
            simp only [not_true_eq_false] at *
            done)
         | (exfalso
            simp at *
            done)
       ·
        simp only [e, q1, q2, q3, q4, q5, q6, q7, q8, q9, q10, q11, q12] at *
        first
        | rfl
        | (exfalso; omega)
        | (exfalso
           simp only [not_true_eq_false] at *
           done)
        | (exfalso
           simp at *
           done)
      ·
       simp only [e, q1, q2, q3, q4, q5, q6, q7, q8, q9, q10, q11, q12] at *
       first
       | rfl
       | (exfalso; omega)
       | (exfalso
          simp only [not_true_eq_false] at *
          done)
       | (exfalso
          simp at *
          done)
     ·
      simp only [e, q1, q2, q3, q4, q5, q6, q7, q8, q9, q10, q11, q12] at *
      first
      | rfl
      | (exfalso; omega)
      | (exfalso
         simp only [not_true_eq_false] at *
         done)
      | (exfalso
         simp at *
         done)
    ·
     simp only [e, q1, q2, q3, q4, q5, q6, q7, q8, q9, q10, q11, q12] at *
     first
     | rfl
     | (exfalso; omega)
     | (exfalso
        simp only [not_true_eq_false] at *
        done)
     | (exfalso
        simp at *
        done)
theorem s12cg_sure12 : s12cc_sure12.Good Tryd.prog syG (s12cE [] [] [] []) := good_of_walk (Γ := ⟨[s12c_slag, s12c_sWin, s12c_sat, s12c_scheck, s12cc_num], syG, [], [], []⟩) (ρ := s12cE [] [] [] []) sym sure12_w rfl (fun _ _ _ _ => (ok_cons (Con.Good.env (Con.Good.up (Con.Good.up s12g_slag s12bup rfl) s12cup rfl) _ _ _ _) (ok_cons (Con.Good.env (Con.Good.up (Con.Good.up s12g_sWin s12bup rfl) s12cup rfl) _ _ _ _) (ok_cons (Con.Good.env (Con.Good.up (Con.Good.up s12g_sat s12bup rfl) s12cup rfl) _ _ _ _) (ok_cons (Con.Good.env (Con.Good.up (Con.Good.up s12g_scheck s12bup rfl) s12cup rfl) _ _ _ _) (ok_cons (Con.Good.env s12cg_num _ _ _ _) ok_nil)))))) (fun hc hty => sure12_h  hc hty)
end Go.Proofs.YtbjgopehomnpgaaDoor
