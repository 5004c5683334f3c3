/-
  Layer 9: LeapForms.
-/
import Derived.Test.YtbjgopehomnpgaaDoorSycql
import Derived.Test.YtbjgopehomnpgaaDoorZ9lql
import Derived.Test.YtbjgopehomnpgaaDoorNumql
namespace Go.Proofs.YtbjgopehomnpgaaDoor
open Go.RowKit Go.Extern.Stop Go.Stop Go.Extern Go.Proofs.YtbjgopehomnpgaaDoor.Sy
set_option linter.unusedVariables false
set_option linter.unusedSimpArgs false
theorem num09_any (n : Int) (w : World) (hg : w.cell? ⟨0, 0, none⟩ = some asHandle) : Calls Tryd.prog 52 #[errVal 182 n] w fun e w' => e = .returned (.int .i64 n) ∧ Below w.heap.size w w' := by
  unfold errVal
  split
  · rename_i h; subst h; exact num09_nil _
  · exact num09_err _ _ hg
theorem lk_back {b t : Int} {L : List Int} (h : mayL b t L = true) : isB (Sy.rows (lkV b t L)) ∧ (Sy.rows (lkV b t L)).length ≤ 300 ∧ dcE (Sy.rows (lkV b t L)) = 0 ∧ dcB (Sy.rows (lkV b t L)) = b ∧ dcT (Sy.rows (lkV b t L)) = t ∧ dcL (Sy.rows (lkV b t L)) = rowsI L := by
  have hm := mayL_spec h
  have hEl : (encB b t L L.length).length = 17 + 8 * L.length := by rw [enc_len, List.take_length]
  have hs : slE (encB b t L L.length) 5 = 0 := by rcases sl_spec (encB b t L L.length) 5 with h | h | h <;> omega
  have e : lkV b t L = slV (encB b t L L.length) 5 := if_pos h
  obtain ⟨s1, s2, s3, s4⟩ := seal_back (isB_enc b t L L.length) hs
  have hbx : bx (Sy.rows (slV (encB b t L L.length) 5)) = byL (encB b t L L.length) := by
    unfold bx
    rw [s4]
    rfl
  obtain ⟨e1, e2, e3, e4, e5⟩ := enc_back (b := b) (t := t) (l := L) ⟨by omega, by omega⟩ ⟨by omega, by omega⟩ (fun d hd => by
    obtain ⟨i, hi, rfl⟩ := List.getElem_of_mem hd
    have := may_at h hi
    rw [List.getD_eq_getElem?_getD, List.getElem?_eq_getElem hi] at this
    simp only [Option.getD_some] at this
    omega) hm.2.2.2.2
  have hmI : mayI b t L = 0 := by
    rcases mayI_spec b t L with ⟨_, x⟩ | ⟨x, _⟩
    · rw [h] at x; cases x
    · exact x
  have hd := dc_spec (Sy.rows (slV (encB b t L L.length) 5))
  rw [hbx, e3, e1, e2, e4, e5] at hd
  rw [e]
  refine ⟨s1, by omega, ?_⟩
  rcases hd with ⟨_, x, _⟩ | ⟨_, _, r, _⟩ | ⟨_, E, _, _, B0, T0, L0⟩
  · omega
  · omega
  · exact ⟨E, B0, T0, L0⟩
noncomputable def ymI : Nat → List Value → Int
  | i, l => ylI i l
noncomputable def ymB : Nat → List Value → Bool
  | i, l => ylB i l
noncomputable def ymV : Nat → List Value → Value
  | i, l => ylV i l
noncomputable abbrev ymE (iv : List Int) (bv : List Bool) (vv : List Value) (sv : List ByteArray) : Env := { iv := iv, bv := bv, vv := vv, sv := sv, fi := ymI, fb := ymB, fv := ymV, et := 182 }
set_option maxHeartbeats 8000000 in
theorem ymup : Agree 34 9 12 (ylE [] [] [] []) (ymE [] [] [] []) := ⟨rfl, (by
    intro f hf
    funext l
    show ymI f l = ylI f l
    unfold ymI
    split <;> first | rfl | omega), (by
    intro f hf
    funext l
    show ymB f l = ylB f l
    unfold ymB
    split <;> first | rfl | omega), (by
    intro f hf
    funext l
    show ymV f l = ylV f l
    unfold ymV
    split <;> first | rfl | omega)⟩
theorem ymi_wrong (k1 : IntKind) (b : Int) (k2 : IntKind) (t : Int) (l : Value) (k3 : IntKind) (d : Int) : ymI 14 [.int k1 b, .int k2 t, l, .int k3 d] = wrongI b t (intsOf l) d := rfl
theorem ymi_lenI (k1 : IntKind) (b : Int) (k2 : IntKind) (t : Int) (l : Value) (k3 : IntKind) (d : Int) : ymI 17 [.int k1 b, .int k2 t, l, .int k3 d] = lenI b t (intsOf l) d := rfl
theorem ymi_begI (k1 : IntKind) (b : Int) (k2 : IntKind) (t : Int) (l : Value) (k3 : IntKind) (d : Int) : ymI 18 [.int k1 b, .int k2 t, l, .int k3 d] = begI b t (intsOf l) d := rfl
theorem ymi_utcE (k1 : IntKind) (b : Int) (k2 : IntKind) (t : Int) (l : Value) (k3 : IntKind) (n : Int) : ymI 19 [.int k1 b, .int k2 t, l, .int k3 n] = utcE b t (intsOf l) n := rfl
theorem ymi_utcD (k1 : IntKind) (b : Int) (k2 : IntKind) (t : Int) (l : Value) (k3 : IntKind) (n : Int) : ymI 20 [.int k1 b, .int k2 t, l, .int k3 n] = utcD b t (intsOf l) n := rfl
theorem ymi_utcS (k1 : IntKind) (b : Int) (k2 : IntKind) (t : Int) (l : Value) (k3 : IntKind) (n : Int) : ymI 21 [.int k1 b, .int k2 t, l, .int k3 n] = utcS b t (intsOf l) n := rfl
theorem ymi_utcN (k1 : IntKind) (b : Int) (k2 : IntKind) (t : Int) (l : Value) (k3 : IntKind) (n : Int) : ymI 22 [.int k1 b, .int k2 t, l, .int k3 n] = utcN b t (intsOf l) n := rfl
theorem ymi_lke (l : Value) (k1 : IntKind) (b : Int) (k2 : IntKind) (t : Int) : ymI 30 [l, .int k1 b, .int k2 t] = lkE b t (intsOf l) := rfl
theorem ymi_dce (c : Value) : ymI 31 [c] = dcE (rows c) := rfl
theorem ymi_dcb (c : Value) : ymI 32 [c] = dcB (rows c) := rfl
theorem ymi_dct (c : Value) : ymI 33 [c] = dcT (rows c) := rfl
theorem ymb_okr (l : Value) : ymB 0 [l] = okR (rows l) := rfl
theorem ymb_ist (k1 : IntKind) (b : Int) (k2 : IntKind) (t : Int) (l : Value) (k3 : IntKind) (d : Int) (k4 : IntKind) (u : Int) (m : Value) : ymB 7 [.int k1 b, .int k2 t, l, .int k3 d, .int k4 u, m] = decide (b = d ∧ t = u ∧ intsOf l = intsOf m) := rfl
theorem ymv_lkv (l : Value) (k1 : IntKind) (b : Int) (k2 : IntKind) (t : Int) : ymV 10 [l, .int k1 b, .int k2 t] = lkV b t (intsOf l) := rfl
theorem ymv_dcl (c : Value) : ymV 11 [c] = dcL (rows c) := rfl
abbrev ymc_num : Con := ⟨52, [(.err v0_)], (.tt true), z0_, ⟨1, 0, 0, 0⟩, none⟩
theorem ymg_num : ymc_num.Good Tryd.prog syG (ymE [] [] [] []) := good_flat rfl rfl rfl (by
  intro n hc β ok w hG
  have hc' := hc
  simp only [Tree.holds, Sy.holds, AllN, Env.more, ymE, List.cons_append, List.nil_append, List.append_nil, denV, denI, denB, denL, I2.den, VOp.den, List.getD_cons_zero, List.getD_cons_succ, Cst.den, syso, syse, syio, sybo, List.map_nil, List.map_cons, B2.ofInts, B2.denI, B2.denB, if_true, Bool.false_eq_true, if_false, Nat.div_one, Nat.mul_one, Nat.add_zero, holds] at hc
  exact num09_any n w (hG _ (List.mem_singleton.2 rfl)).2.2)
def sure9_tree : Tree :=
 (.need (an_ (le_ lm_ (wr_ (sb_ (.iapp 18 (.cons (.int .i64 (.lit 10)) (.cons (.int .i64 (.lit 20000)) (.cons (.tup (.cons (.int .i64 (.lit 911)) .nil)) (.cons (.int .i64 (.lit 912)) .nil))))) (.lit 1)))) (le_ (wr_ (sb_ (.iapp 18 (.cons (.int .i64 (.lit 10)) (.cons (.int .i64 (.lit 20000)) (.cons (.tup (.cons (.int .i64 (.lit 911)) .nil)) (.cons (.int .i64 (.lit 912)) .nil))))) (.lit 1))) lM_))
 (.br (eq_ (.iapp 14 (.cons (.int .i64 (.lit 10)) (.cons (.int .i64 (.lit 20000)) (.cons (.tup (.cons (.int .i64 (.lit 911)) .nil)) (.cons (.int .i64 (.lit 912)) .nil))))) (.lit 0))
 (.br (eq_ (.iapp 19 (.cons (.int .i64 (.lit 10)) (.cons (.int .i64 (.lit 20000)) (.cons (.tup (.cons (.int .i64 (.lit 911)) .nil)) (.cons (.int .i64 (wr_ (sb_ (.iapp 18 (.cons (.int .i64 (.lit 10)) (.cons (.int .i64 (.lit 20000)) (.cons (.tup (.cons (.int .i64 (.lit 911)) .nil)) (.cons (.int .i64 (.lit 912)) .nil))))) (.lit 1)))) .nil))))) (.lit 0))
 (.br (eq_ (.iapp 14 (.cons (.int .i64 (.lit 10)) (.cons (.int .i64 (.lit 20000)) (.cons (.tup (.cons (.int .i64 (.lit 911)) .nil)) (.cons (.int .i64 (.lit 911)) .nil))))) (.lit 0))
 (.br (eq_ (.iapp 18 (.cons (.int .i64 (.lit 10)) (.cons (.int .i64 (.lit 20000)) (.cons (.tup (.cons (.int .i64 (.lit 911)) .nil)) (.cons (.int .i64 (.lit 912)) .nil))))) (.lit 78796811000000000))
 (.br (an_ (eq_ (.iapp 20 (.cons (.int .i64 (.lit 10)) (.cons (.int .i64 (.lit 20000)) (.cons (.tup (.cons (.int .i64 (.lit 911)) .nil)) (.cons (.int .i64 (wr_ (sb_ (.iapp 18 (.cons (.int .i64 (.lit 10)) (.cons (.int .i64 (.lit 20000)) (.cons (.tup (.cons (.int .i64 (.lit 911)) .nil)) (.cons (.int .i64 (.lit 912)) .nil))))) (.lit 1)))) .nil))))) (.lit 911)) (an_ (eq_ (.iapp 21 (.cons (.int .i64 (.lit 10)) (.cons (.int .i64 (.lit 20000)) (.cons (.tup (.cons (.int .i64 (.lit 911)) .nil)) (.cons (.int .i64 (wr_ (sb_ (.iapp 18 (.cons (.int .i64 (.lit 10)) (.cons (.int .i64 (.lit 20000)) (.cons (.tup (.cons (.int .i64 (.lit 911)) .nil)) (.cons (.int .i64 (.lit 912)) .nil))))) (.lit 1)))) .nil))))) (.lit 86400)) (eq_ (.iapp 22 (.cons (.int .i64 (.lit 10)) (.cons (.int .i64 (.lit 20000)) (.cons (.tup (.cons (.int .i64 (.lit 911)) .nil)) (.cons (.int .i64 (wr_ (sb_ (.iapp 18 (.cons (.int .i64 (.lit 10)) (.cons (.int .i64 (.lit 20000)) (.cons (.tup (.cons (.int .i64 (.lit 911)) .nil)) (.cons (.int .i64 (.lit 912)) .nil))))) (.lit 1)))) .nil))))) (.lit 999999999))))
 (.br (eq_ (.iapp 14 (.cons (.int .i64 (.lit 10)) (.cons (.int .i64 (.lit 20000)) (.cons (.tup (.cons (.int .i64 (.lit 911)) .nil)) (.cons (.int .i64 (.lit 20000)) .nil))))) (.lit 10))
 (.ret (.bool (eq_ (.iapp 17 (.cons (.int .i64 (.lit 10)) (.cons (.int .i64 (.lit 20000)) (.cons (.tup (.cons (.int .i64 (.lit 911)) .nil)) (.cons (.int .i64 (.lit 911)) .nil))))) (.lit 86401))))
 (.ret (.bool (.tt false))))
 (.ret (.bool (.tt false))))
 (.ret (.bool (.tt false))))
 (.ret (.bool (.tt false))))
 (.ret (.bool (.tt false))))
 (.ret (.bool (.tt false)))))
abbrev ymc_sure9 : Con := ⟨47, [], (.tt true), (.bool (.tt true)), ⟨0, 0, 0, 0⟩, none⟩
theorem sure9_w : walk Tryd.prog 182 ⟨[yfc_LBegin, yfc_lutc, yfc_LAhead, yfc_LLength, ymc_num], syG, [], [], []⟩ [] .v ymc_sure9 ymc_sure9.n 3000 = some sure9_tree := by kernel_rfl
theorem sure9_h  (hc : holds (ymE [] [] [] []) (.tt true)) (hty : patsTyp (ymE [] [] [] []) []) : sure9_tree.holds (fun v_ => v_ = denV (ymE [] [] [] []) b0 (.bool (.tt true))) (ymE [] [] [] []) := by
  simp only [Tree.holds, Sy.holds, AllN, Env.more, ymE, List.cons_append, List.nil_append, List.append_nil, denV, denI, denB, denL, I2.den, VOp.den, List.getD_cons_zero, List.getD_cons_succ, Cst.den, syso, syse, syio, sybo, List.map_nil, List.map_cons, B2.ofInts, B2.denI, B2.denB, if_true, Bool.false_eq_true, if_false, Nat.div_one, Nat.mul_one, Nat.add_zero, holds] at hc
  simp only [patsTyp, patTyp, patTypL, ymE, denV, denL, List.getD_cons_zero, List.getD_cons_succ, and_true, true_and] at hty
  unfold sure9_tree
  simp only [Tree.holds, Sy.holds, AllN, Env.more, ymE, List.cons_append, List.nil_append, List.append_nil, denV, denI, denB, denL, I2.den, VOp.den, List.getD_cons_zero, List.getD_cons_succ, Cst.den, syso, syse, syio, sybo, ymi_wrong, ymi_lenI, ymi_begI, ymi_utcE, ymi_utcD, ymi_utcS, ymi_utcN, List.map_nil, List.map_cons, B2.ofInts, B2.denI, B2.denB, if_true, Bool.false_eq_true, if_false, Nat.div_one, Nat.mul_one, Nat.add_zero]
  have e : intsOf (Value.tuple #[Value.int .i64 911]) = [911] := rfl
  have q0 : wrongI 10 20000 [911] 912 = 0 := by decide
  have q1 : begI 10 20000 [911] 912 = 78796811000000000 := by decide
  have q2 : IntKind.wrap .i64 (78796811000000000 - 1) = 78796810999999999 := by decide
  have q3 : utcE 10 20000 [911] 78796810999999999 = 0 := by decide
  have q4 : utcD 10 20000 [911] 78796810999999999 = 911 := by decide
  have q5 : utcS 10 20000 [911] 78796810999999999 = 86400 := by decide
  have q6 : utcN 10 20000 [911] 78796810999999999 = 999999999 := by decide
  have q7 : wrongI 10 20000 [911] 20000 = 10 := by decide
  have q8 : wrongI 10 20000 [911] 911 = 0 := by decide
  have q9 : lenI 10 20000 [911] 911 = 86401 := by decide
  refine ⟨?_, fun h0 => ?_⟩
  ·
   simp only [e, q0, q1, q2, q3, q4, q5, q6, q7, q8, q9]
   first
   | exact True.intro
   | omega
  ·
   refine ⟨fun h1 => ?_, fun h1 => ?_⟩
   ·
    refine ⟨fun h2 => ?_, fun h2 => ?_⟩
    ·
     refine ⟨fun h3 => ?_, fun h3 => ?_⟩
     ·
      refine ⟨fun h4 => ?_, fun h4 => ?_⟩
      ·
       refine ⟨fun h5 => ?_, fun h5 => ?_⟩
       ·
        refine ⟨fun h6 => ?_, fun h6 => ?_⟩
        ·
         simp only [e, q0, q1, q2, q3, q4, q5, q6, q7, q8, q9] at *
         first
         | rfl
         | (exfalso; omega)
         | (exfalso
            simp only [not_true_eq_false] at *
            done)
         | (exfalso
            simp at *
            done)
        ·
         simp only [e, q0, q1, q2, q3, q4, q5, q6, q7, q8, q9] at *
         first
         | rfl
         | (exfalso; omega)
         | (exfalso
            simp only [not_true_eq_false] at *
            done)
         | (exfalso
            simp at *
            done)
       ·
        simp only [e, q0, q1, q2, q3, q4, q5, q6, q7, q8, q9] at *
        first
        | rfl
        | (exfalso; omega)
        | (exfalso
           simp only [not_true_eq_false] at *
           done)
        | (exfalso
           simp at *
           done)
      ·
       simp only [e, q0, q1, q2, q3, q4, q5, q6, q7, q8, q9] at *
       first
       | rfl
       | (exfalso; omega)
       | (exfalso
          simp only [not_true_eq_false] at *
          done)
       | (exfalso
          simp at *
          done)
     ·
      simp only [e, q0, q1, q2, q3, q4, q5, q6, q7, q8, q9] at *
      first
      | rfl
      | (exfalso; omega)
      | (exfalso
         simp only [not_true_eq_false] at *
         done)
      | (exfalso
         simp at *
         done)
    ·
     simp only [e, q0, q1, q2, q3, q4, q5, q6, q7, q8, q9] at *
     first
     | rfl
     | (exfalso; omega)
     | (exfalso
        simp only [not_true_eq_false] at *
        done)
     | (exfalso
        simp at *
        done)
   ·
    simp only [e, q0, q1, q2, q3, q4, q5, q6, q7, q8, q9] at *
    first
    | rfl
    | (exfalso; omega)
    | (exfalso
       simp only [not_true_eq_false] at *
       done)
    | (exfalso
       simp at *
       done)
theorem ymg_sure9 : ymc_sure9.Good Tryd.prog syG (ymE [] [] [] []) := good_of_walk (Γ := ⟨[yfc_LBegin, yfc_lutc, yfc_LAhead, yfc_LLength, ymc_num], syG, [], [], []⟩) (ρ := ymE [] [] [] []) sym sure9_w rfl (fun _ _ _ _ => (ok_cons (Con.Good.env (Con.Good.up (Con.Good.up yfg_LBegin ylup rfl) ymup rfl) _ _ _ _) (ok_cons (Con.Good.env (Con.Good.up (Con.Good.up yfg_lutc ylup rfl) ymup rfl) _ _ _ _) (ok_cons (Con.Good.env (Con.Good.up (Con.Good.up yfg_LAhead ylup rfl) ymup rfl) _ _ _ _) (ok_cons (Con.Good.env (Con.Good.up (Con.Good.up yfg_LLength ylup rfl) ymup rfl) _ _ _ _) (ok_cons (Con.Good.env ymg_num _ _ _ _) ok_nil)))))) (fun hc hty => sure9_h  hc hty)
def wForms_tree : Tree :=
 (.br (lt_ (.lit 60) (.ofI (.vop (.len 1) (.cons o0_ .nil))))
 (.ret (.bool (.tt true)))
 (.br (lt_ (.lit 600) (.ofI (.vop (.len 1) (.cons o1_ .nil))))
 (.ret (.bool (.tt true)))
 (.need (an_ (an_ (le_ lm_ v0_) (le_ v0_ lM_)) (an_ (le_ lm_ v1_) (le_ v1_ lM_)))
 (.need (an_ (an_ (le_ lm_ v0_) (le_ v0_ lM_)) (an_ (le_ lm_ v1_) (le_ v1_ lM_)))
 (.need (an_ (.bapp 0 (.cons o1_ .nil)) (le_ (.ofI (.vop (.len 1) (.cons o1_ .nil))) (.lit 4096)))
 (.need (an_ (.bapp 0 (.cons o1_ .nil)) (le_ (.ofI (.vop (.len 1) (.cons o1_ .nil))) (.lit 4096)))
 (.br (.not (.bapp 7 (.cons (.int .i64 (.iapp 32 (.cons o1_ .nil))) (.cons (.int .i64 (.iapp 33 (.cons o1_ .nil))) (.cons (.vapp 11 (.cons o1_ .nil)) (.cons (.int .i64 (.iapp 32 (.cons o1_ .nil))) (.cons (.int .i64 (.iapp 33 (.cons o1_ .nil))) (.cons (.vapp 11 (.cons o1_ .nil)) .nil))))))))
 (.ret (.bool (.tt false)))
 (.br (.not (eq_ (.iapp 30 (.cons o0_ (.cons z0_ (.cons z1_ .nil)))) (.lit 0)))
 (.ret (.bool (.tt true)))
 (.need (an_ (.bapp 0 (.cons (.vapp 10 (.cons o0_ (.cons z0_ (.cons z1_ .nil)))) .nil)) (le_ (.ofI (.vop (.len 1) (.cons (.vapp 10 (.cons o0_ (.cons z0_ (.cons z1_ .nil)))) .nil))) (.lit 4096)))
 (.br (eq_ (.iapp 31 (.cons (.vapp 10 (.cons o0_ (.cons z0_ (.cons z1_ .nil)))) .nil)) (.lit 0))
 (.br (.bapp 7 (.cons (.int .i64 (.iapp 32 (.cons (.vapp 10 (.cons o0_ (.cons z0_ (.cons z1_ .nil)))) .nil))) (.cons (.int .i64 (.iapp 33 (.cons (.vapp 10 (.cons o0_ (.cons z0_ (.cons z1_ .nil)))) .nil))) (.cons (.vapp 11 (.cons (.vapp 10 (.cons o0_ (.cons z0_ (.cons z1_ .nil)))) .nil)) (.cons z0_ (.cons z1_ (.cons o0_ .nil)))))))
 (.ret (.bool (.tt true)))
 (.ret (.bool (.tt false))))
 (.ret (.bool (.tt false)))))))))))))
abbrev ymc_wForms : Con := ⟨7, [(.agg (.cons z0_ (.cons z1_ (.cons (.hs .no (.cons (.int .i64) .nil) o0_) .nil)))), (.hs .no (.cons (.int .u8) .nil) o1_)], (an_ (an_ (le_ lm_ v0_) (le_ v0_ lM_)) (an_ (an_ (le_ lm_ v1_) (le_ v1_ lM_)) (.bapp 0 (.cons o1_ .nil)))), (.bool (.tt true)), ⟨2, 0, 2, 0⟩, none⟩
theorem wForms_w : walk Tryd.prog 182 ⟨[ymc_sure9, ylc_lenc, ylc_renc, ylc_ldec, ylc_rdec, ylc_isT, ymc_num], syG, [], [], []⟩ [] .v ymc_wForms ymc_wForms.n 3000 = some wForms_tree := by kernel_rfl
theorem wForms_h (b : Int) (t : Int) (l : Value) (c : Value) (hc : holds (ymE [b, t] [] [l, c] []) (an_ (an_ (le_ lm_ v0_) (le_ v0_ lM_)) (an_ (an_ (le_ lm_ v1_) (le_ v1_ lM_)) (.bapp 0 (.cons o1_ .nil))))) (hty : patsTyp (ymE [b, t] [] [l, c] []) [(.agg (.cons z0_ (.cons z1_ (.cons (.hs .no (.cons (.int .i64) .nil) o0_) .nil)))), (.hs .no (.cons (.int .u8) .nil) o1_)]) : wForms_tree.holds (fun v_ => v_ = denV (ymE [b, t] [] [l, c] []) b0 (.bool (.tt true))) (ymE [b, t] [] [l, c] []) := by
  simp only [Tree.holds, Sy.holds, AllN, Env.more, ymE, List.cons_append, List.nil_append, List.append_nil, denV, denI, denB, denL, I2.den, VOp.den, List.getD_cons_zero, List.getD_cons_succ, Cst.den, syso, syse, syio, sybo, ymb_okr, List.map_nil, List.map_cons, B2.ofInts, B2.denI, B2.denB, if_true, Bool.false_eq_true, if_false, Nat.div_one, Nat.mul_one, Nat.add_zero, holds] at hc
  simp only [patsTyp, patTyp, patTypL, ymE, denV, denL, List.getD_cons_zero, List.getD_cons_succ, and_true, true_and] at hty
  have hL_l : typ (.sl (.cons (.int .i64) .nil)) l := by first | exact hty | exact hty.1 | exact hty.2 | exact hty.1.1 | exact hty.1.2 | exact hty.2.1 | exact hty.2.2 | exact hty.2.2.1 | exact hty.2.2.2
  have hN_l := typ_len (n := 1) hL_l rfl (by omega)
  simp only [Nat.div_one, Nat.mul_one] at hN_l
  have hL_c : typ (.sl (.cons (.int .u8) .nil)) c := by first | exact hty | exact hty.1 | exact hty.2 | exact hty.1.1 | exact hty.1.2 | exact hty.2.1 | exact hty.2.2 | exact hty.2.2.1 | exact hty.2.2.2
  have hN_c := typ_len (n := 1) hL_c rfl (by omega)
  simp only [Nat.div_one, Nat.mul_one] at hN_c
  unfold wForms_tree
  simp only [Tree.holds, Sy.holds, AllN, Env.more, ymE, List.cons_append, List.nil_append, List.append_nil, denV, denI, denB, denL, I2.den, VOp.den, List.getD_cons_zero, List.getD_cons_succ, Cst.den, syso, syse, syio, sybo, ymi_lke, ymi_dce, ymi_dcb, ymi_dct, ymb_okr, ymb_ist, ymv_lkv, ymv_dcl, List.map_nil, List.map_cons, B2.ofInts, B2.denI, B2.denB, if_true, Bool.false_eq_true, if_false, Nat.div_one, Nat.mul_one, Nat.add_zero]
  refine ⟨fun h0 => ?_, fun h0 => ?_⟩
  ·
   first
   | exact True.intro
   | rfl
   | (exfalso
      simp only [and_self, decide_true, not_true_eq_false] at *
      done)
   | (exfalso
      have k1 := lk_spec b t (intsOf l)
      have hml : mayL b t (intsOf l) = true := by
        rcases k1 with ⟨_, x, _⟩ | ⟨x, _⟩
        · exact x
        · exfalso; omega
      obtain ⟨b1, b2, b3, b4, b5, b6⟩ := lk_back hml
      first
      | omega
      | (simp only [b4, b5, b6, ints_rowsI, and_self, decide_true, not_true_eq_false] at *
         done))
  ·
   refine ⟨fun h1 => ?_, fun h1 => ?_⟩
   ·
    first
    | exact True.intro
    | rfl
    | (exfalso
       simp only [and_self, decide_true, not_true_eq_false] at *
       done)
    | (exfalso
       have k1 := lk_spec b t (intsOf l)
       have hml : mayL b t (intsOf l) = true := by
         rcases k1 with ⟨_, x, _⟩ | ⟨x, _⟩
         · exact x
         · exfalso; omega
       obtain ⟨b1, b2, b3, b4, b5, b6⟩ := lk_back hml
       first
       | omega
       | (simp only [b4, b5, b6, ints_rowsI, and_self, decide_true, not_true_eq_false] at *
          done))
   ·
    refine ⟨?_, fun h2 => ?_⟩
    ·
     first
     | exact True.intro
     | exact ⟨hc.1, hc.2.1⟩
     | exact ⟨hc.2.2, by omega⟩
     | (
        have k1 := lk_spec b t (intsOf l)
        have hml : mayL b t (intsOf l) = true := by
          rcases k1 with ⟨_, x, _⟩ | ⟨x, _⟩
          · exact x
          · exfalso; omega
        obtain ⟨b1, b2, b3, b4, b5, b6⟩ := lk_back hml
        exact ⟨okR_isB b1, by omega⟩)
    ·
     refine ⟨?_, fun h3 => ?_⟩
     ·
      first
      | exact True.intro
      | exact ⟨hc.1, hc.2.1⟩
      | exact ⟨hc.2.2, by omega⟩
      | (
         have k1 := lk_spec b t (intsOf l)
         have hml : mayL b t (intsOf l) = true := by
           rcases k1 with ⟨_, x, _⟩ | ⟨x, _⟩
           · exact x
           · exfalso; omega
         obtain ⟨b1, b2, b3, b4, b5, b6⟩ := lk_back hml
         exact ⟨okR_isB b1, by omega⟩)
     ·
      refine ⟨?_, fun h4 => ?_⟩
      ·
       first
       | exact True.intro
       | exact ⟨hc.1, hc.2.1⟩
       | exact ⟨hc.2.2, by omega⟩
       | (
          have k1 := lk_spec b t (intsOf l)
          have hml : mayL b t (intsOf l) = true := by
            rcases k1 with ⟨_, x, _⟩ | ⟨x, _⟩
            · exact x
            · exfalso; omega
          obtain ⟨b1, b2, b3, b4, b5, b6⟩ := lk_back hml
          exact ⟨okR_isB b1, by omega⟩)
      ·
       refine ⟨?_, fun h5 => ?_⟩
       ·
        first
        | exact True.intro
        | exact ⟨hc.1, hc.2.1⟩
        | exact ⟨hc.2.2, by omega⟩
        | (
           have k1 := lk_spec b t (intsOf l)
           have hml : mayL b t (intsOf l) = true := by
             rcases k1 with ⟨_, x, _⟩ | ⟨x, _⟩
             · exact x
             · exfalso; omega
           obtain ⟨b1, b2, b3, b4, b5, b6⟩ := lk_back hml
           exact ⟨okR_isB b1, by omega⟩)
       ·
        refine ⟨fun h6 => ?_, fun h6 => ?_⟩
        ·
         first
         | exact True.intro
         | rfl
         | (exfalso
            simp only [and_self, decide_true, not_true_eq_false] at *
            done)
         | (exfalso
            have k1 := lk_spec b t (intsOf l)
            have hml : mayL b t (intsOf l) = true := by
              rcases k1 with ⟨_, x, _⟩ | ⟨x, _⟩
              · exact x
              · exfalso; omega
            obtain ⟨b1, b2, b3, b4, b5, b6⟩ := lk_back hml
            first
            | omega
            | (simp only [b4, b5, b6, ints_rowsI, and_self, decide_true, not_true_eq_false] at *
               done))
        ·
         refine ⟨fun h7 => ?_, fun h7 => ?_⟩
         ·
          first
          | exact True.intro
          | rfl
          | (exfalso
             simp only [and_self, decide_true, not_true_eq_false] at *
             done)
          | (exfalso
             have k1 := lk_spec b t (intsOf l)
             have hml : mayL b t (intsOf l) = true := by
               rcases k1 with ⟨_, x, _⟩ | ⟨x, _⟩
               · exact x
               · exfalso; omega
             obtain ⟨b1, b2, b3, b4, b5, b6⟩ := lk_back hml
             first
             | omega
             | (simp only [b4, b5, b6, ints_rowsI, and_self, decide_true, not_true_eq_false] at *
                done))
         ·
          refine ⟨?_, fun h8 => ?_⟩
          ·
           first
           | exact True.intro
           | exact ⟨hc.1, hc.2.1⟩
           | exact ⟨hc.2.2, by omega⟩
           | (
              have k1 := lk_spec b t (intsOf l)
              have hml : mayL b t (intsOf l) = true := by
                rcases k1 with ⟨_, x, _⟩ | ⟨x, _⟩
                · exact x
                · exfalso; omega
              obtain ⟨b1, b2, b3, b4, b5, b6⟩ := lk_back hml
              exact ⟨okR_isB b1, by omega⟩)
          ·
           refine ⟨fun h9 => ?_, fun h9 => ?_⟩
           ·
            refine ⟨fun h10 => ?_, fun h10 => ?_⟩
            ·
             first
             | exact True.intro
             | rfl
             | (exfalso
                simp only [and_self, decide_true, not_true_eq_false] at *
                done)
             | (exfalso
                have k1 := lk_spec b t (intsOf l)
                have hml : mayL b t (intsOf l) = true := by
                  rcases k1 with ⟨_, x, _⟩ | ⟨x, _⟩
                  · exact x
                  · exfalso; omega
                obtain ⟨b1, b2, b3, b4, b5, b6⟩ := lk_back hml
                first
                | omega
                | (simp only [b4, b5, b6, ints_rowsI, and_self, decide_true, not_true_eq_false] at *
                   done))
            ·
             first
             | exact True.intro
             | rfl
             | (exfalso
                simp only [and_self, decide_true, not_true_eq_false] at *
                done)
             | (exfalso
                have k1 := lk_spec b t (intsOf l)
                have hml : mayL b t (intsOf l) = true := by
                  rcases k1 with ⟨_, x, _⟩ | ⟨x, _⟩
                  · exact x
                  · exfalso; omega
                obtain ⟨b1, b2, b3, b4, b5, b6⟩ := lk_back hml
                first
                | omega
                | (simp only [b4, b5, b6, ints_rowsI, and_self, decide_true, not_true_eq_false] at *
                   done))
           ·
            first
            | exact True.intro
            | rfl
            | (exfalso
               simp only [and_self, decide_true, not_true_eq_false] at *
               done)
            | (exfalso
               have k1 := lk_spec b t (intsOf l)
               have hml : mayL b t (intsOf l) = true := by
                 rcases k1 with ⟨_, x, _⟩ | ⟨x, _⟩
                 · exact x
                 · exfalso; omega
               obtain ⟨b1, b2, b3, b4, b5, b6⟩ := lk_back hml
               first
               | omega
               | (simp only [b4, b5, b6, ints_rowsI, and_self, decide_true, not_true_eq_false] at *
                  done))
theorem ymg_wForms : ymc_wForms.Good Tryd.prog syG (ymE [] [] [] []) := good_of_walk (Γ := ⟨[ymc_sure9, ylc_lenc, ylc_renc, ylc_ldec, ylc_rdec, ylc_isT, ymc_num], syG, [], [], []⟩) (ρ := ymE [] [] [] []) sym wForms_w rfl (fun _ _ _ _ => (ok_cons (Con.Good.env ymg_sure9 _ _ _ _) (ok_cons (Con.Good.env (Con.Good.up ylg_lenc ymup rfl) _ _ _ _) (ok_cons (Con.Good.env (Con.Good.up ylg_renc ymup rfl) _ _ _ _) (ok_cons (Con.Good.env (Con.Good.up ylg_ldec ymup rfl) _ _ _ _) (ok_cons (Con.Good.env (Con.Good.up ylg_rdec ymup rfl) _ _ _ _) (ok_cons (Con.Good.env (Con.Good.up ylg_isT ymup rfl) _ _ _ _) (ok_cons (Con.Good.env ymg_num _ _ _ _) ok_nil)))))))) (fun b t l c hc hty => wForms_h b t l c hc hty)
end Go.Proofs.YtbjgopehomnpgaaDoor
