/-
  Layer 12 by the second engine: the reference.
-/
import Derived.Test.YtbjgopehomnpgaaDoorSycqt
import Derived.Test.YtbjgopehomnpgaaDoorZ12qt
namespace Go.Proofs.YtbjgopehomnpgaaDoor
open Go.RowKit Go.Extern.Stop Go.Stop Go.Extern Go.Proofs.YtbjgopehomnpgaaDoor.Sy
set_option linter.unusedVariables false
set_option linter.unusedSimpArgs false
noncomputable def s12bI : Nat → List Value → Int
  | 40, [.int _ B, .int _ b, l, .int _ j] => wbJ B b (intsOf l) j.toNat
  | i, l => s12I i l
noncomputable def s12bB : Nat → List Value → Bool
  | i, l => s12B i l
noncomputable def s12bV : Nat → List Value → Value
  | i, l => s12V i l
noncomputable abbrev s12bE (iv : List Int) (bv : List Bool) (vv : List Value) (sv : List ByteArray) : Env := { iv := iv, bv := bv, vv := vv, sv := sv, fi := s12bI, fb := s12bB, fv := s12bV, et := 182 }
set_option maxHeartbeats 8000000 in
theorem s12bup : Agree 40 4 0 (s12E [] [] [] []) (s12bE [] [] [] []) := ⟨rfl, (by
    intro f hf
    funext l
    show s12bI f l = s12I f l
    unfold s12bI
    split <;> first | rfl | omega), (by
    intro f hf
    funext l
    show s12bB f l = s12B f l
    unfold s12bB
    split <;> first | rfl | omega), (by
    intro f hf
    funext l
    show s12bV f l = s12V f l
    unfold s12bV
    split <;> first | rfl | omega)⟩
theorem s12bi_may (k1 : IntKind) (b : Int) (k2 : IntKind) (t : Int) (l : Value) : s12bI 0 [.int k1 b, .int k2 t, l] = mayI b t (intsOf l) := rfl
theorem s12bi_sec (k1 : IntKind) (b : Int) (l : Value) (k2 : IntKind) (d : Int) : s12bI 5 [.int k1 b, l, .int k2 d] = secL b (intsOf l) d := rfl
theorem s12bi_utcE (k1 : IntKind) (b : Int) (k2 : IntKind) (t : Int) (l : Value) (k3 : IntKind) (n : Int) : s12bI 9 [.int k1 b, .int k2 t, l, .int k3 n] = utcE b t (intsOf l) n := rfl
theorem s12bi_utcD (k1 : IntKind) (b : Int) (k2 : IntKind) (t : Int) (l : Value) (k3 : IntKind) (n : Int) : s12bI 10 [.int k1 b, .int k2 t, l, .int k3 n] = utcD b t (intsOf l) n := rfl
theorem s12bi_sm (k1 : IntKind) (k : Int) (k2 : IntKind) (B : Int) (k3 : IntKind) (A : Int) : s12bI 20 [.int k1 k, .int k2 B, .int k3 A] = smI k B A := rfl
theorem s12bi_sln (k1 : IntKind) (B : Int) (k2 : IntKind) (A : Int) : s12bI 21 [.int k1 B, .int k2 A] = slN B A := rfl
theorem s12bi_fits (k1 : IntKind) (k : Int) (k2 : IntKind) (B : Int) (k3 : IntKind) (A : Int) (k4 : IntKind) (b : Int) (k5 : IntKind) (t : Int) (l : Value) : s12bI 24 [.int k1 k, .int k2 B, .int k3 A, .int k4 b, .int k5 t, l] = fitsI k B A b t (intsOf l) := rfl
theorem s12bi_lge (k1 : IntKind) (k : Int) (k2 : IntKind) (B : Int) (k3 : IntKind) (A : Int) (k4 : IntKind) (g : Int) : s12bI 26 [.int k1 k, .int k2 B, .int k3 A, .int k4 g] = lagE k B A g := rfl
theorem s12bi_lgv (k1 : IntKind) (k : Int) (k2 : IntKind) (B : Int) (k3 : IntKind) (A : Int) (k4 : IntKind) (g : Int) : s12bI 27 [.int k1 k, .int k2 B, .int k3 A, .int k4 g] = lagV k B A g := rfl
theorem s12bi_mdn (k1 : IntKind) (a : Int) (k2 : IntKind) (b : Int) (k3 : IntKind) (c : Int) : s12bI 28 [.int k1 a, .int k2 b, .int k3 c] = mdN a b c := rfl
theorem s12bi_ate (k1 : IntKind) (k : Int) (k2 : IntKind) (B : Int) (k3 : IntKind) (A : Int) (k4 : IntKind) (b : Int) (k5 : IntKind) (t : Int) (l : Value) (k6 : IntKind) (n : Int) : s12bI 30 [.int k1 k, .int k2 B, .int k3 A, .int k4 b, .int k5 t, l, .int k6 n] = atE k B A b t (intsOf l) n := rfl
theorem s12bi_atv (k1 : IntKind) (k : Int) (k2 : IntKind) (B : Int) (k3 : IntKind) (A : Int) (k4 : IntKind) (b : Int) (k5 : IntKind) (t : Int) (l : Value) (k6 : IntKind) (n : Int) : s12bI 31 [.int k1 k, .int k2 B, .int k3 A, .int k4 b, .int k5 t, l, .int k6 n] = atV k B A b t (intsOf l) n := rfl
theorem s12bi_upf (k1 : IntKind) (a : Int) (k2 : IntKind) (b : Int) (k3 : IntKind) (c : Int) : s12bI 37 [.int k1 a, .int k2 b, .int k3 c] = upF a b c := rfl
theorem s12bi_wbj (k1 : IntKind) (B : Int) (k2 : IntKind) (b : Int) (l : Value) (k3 : IntKind) (j : Int) : s12bI 40 [.int k1 B, .int k2 b, l, .int k3 j] = wbJ B b (intsOf l) j.toNat := rfl
theorem s12bb_fitl (k1 : IntKind) (B : Int) (k2 : IntKind) (A : Int) (k3 : IntKind) (b : Int) (l : Value) (k4 : IntKind) (n : Int) : s12bB 2 [.int k1 B, .int k2 A, .int k3 b, l, .int k4 n] = fitL B A b (intsOf l) n.toNat := rfl
theorem s12bb_noj (k1 : IntKind) (B : Int) (k2 : IntKind) (A : Int) (k3 : IntKind) (b : Int) (l : Value) (k4 : IntKind) (n : Int) (k5 : IntKind) (m : Int) : s12bB 3 [.int k1 B, .int k2 A, .int k3 b, l, .int k4 n, .int k5 m] = noJ B A b (intsOf l) n m.toNat := rfl
def rwin_tree : Tree :=
 (.need (an_ (le_ (.lit 0) v5_) (lt_ v5_ (.ofI (.vop (.len 1) (.cons o0_ .nil)))))
 (.need (an_ (le_ (.lit 0) v3_) (an_ (le_ v3_ (.lit 100)) (an_ (le_ (.ofI (.vop (.len 1) (.cons o0_ .nil))) (.lit 32)) (an_ (le_ (.lit (-100000)) (wr_ (ad_ (.ofI (.vop (.sel 1 0) (.cons o0_ (.cons z5_ .nil)))) (.lit 1)))) (le_ (wr_ (ad_ (.ofI (.vop (.sel 1 0) (.cons o0_ (.cons z5_ .nil)))) (.lit 1))) (.lit 100000))))))
 (.ret (.tup (.cons (.int .i64 (wr_ (ml_ (wr_ (sb_ (wr_ (sb_ (.iapp 5 (.cons z3_ (.cons o0_ (.cons (.int .i64 (wr_ (ad_ (.ofI (.vop (.sel 1 0) (.cons o0_ (.cons z5_ .nil)))) (.lit 1)))) .nil)))) (.lit 1))) v1_)) (.lit 1000000000)))) (.cons (.int .i64 (wr_ (ml_ (wr_ (ad_ (.iapp 5 (.cons z3_ (.cons o0_ (.cons (.int .i64 (wr_ (ad_ (.ofI (.vop (.sel 1 0) (.cons o0_ (.cons z5_ .nil)))) (.lit 1)))) .nil)))) v2_)) (.lit 1000000000)))) .nil))))))
abbrev s12bc_rwin : Con := ⟨72, [(.agg (.cons z0_ (.cons z1_ (.cons z2_ .nil)))), (.agg (.cons z3_ (.cons z4_ (.cons (.hs .no (.cons (.int .i64) .nil) o0_) .nil)))), z5_], (an_ (an_ (le_ (.lit 0) v1_) (an_ (le_ v1_ (.lit 43200)) (an_ (le_ (.lit 0) v2_) (le_ v2_ (.lit 43200))))) (an_ (eq_ (.iapp 0 (.cons z3_ (.cons z4_ (.cons o0_ .nil)))) (.lit 0)) (an_ (le_ (.lit 0) v5_) (lt_ v5_ (.ofI (.vop (.len 1) (.cons o0_ .nil))))))), (.tup (.cons (.int .i64 (.iapp 40 (.cons z1_ (.cons z3_ (.cons o0_ (.cons z5_ .nil)))))) (.cons (.int .i64 (ad_ (.iapp 40 (.cons z1_ (.cons z3_ (.cons o0_ (.cons z5_ .nil))))) (.iapp 21 (.cons z1_ (.cons z2_ .nil))))) .nil))), ⟨6, 0, 1, 0⟩, none⟩
theorem rwin_w : walk Tryd.prog 182 ⟨[y9c_rsec], syG, [], [], []⟩ [] .v s12bc_rwin s12bc_rwin.n 3000 = some rwin_tree := by kernel_rfl
theorem rwin_h (k : Int) (B : Int) (A : Int) (b : Int) (t : Int) (j : Int) (l : Value) (hc : holds (s12bE [k, B, A, b, t, j] [] [l] []) (an_ (an_ (le_ (.lit 0) v1_) (an_ (le_ v1_ (.lit 43200)) (an_ (le_ (.lit 0) v2_) (le_ v2_ (.lit 43200))))) (an_ (eq_ (.iapp 0 (.cons z3_ (.cons z4_ (.cons o0_ .nil)))) (.lit 0)) (an_ (le_ (.lit 0) v5_) (lt_ v5_ (.ofI (.vop (.len 1) (.cons o0_ .nil)))))))) (hty : patsTyp (s12bE [k, B, A, b, t, j] [] [l] []) [(.agg (.cons z0_ (.cons z1_ (.cons z2_ .nil)))), (.agg (.cons z3_ (.cons z4_ (.cons (.hs .no (.cons (.int .i64) .nil) o0_) .nil)))), z5_]) : rwin_tree.holds (fun v_ => v_ = denV (s12bE [k, B, A, b, t, j] [] [l] []) b0 (.tup (.cons (.int .i64 (.iapp 40 (.cons z1_ (.cons z3_ (.cons o0_ (.cons z5_ .nil)))))) (.cons (.int .i64 (ad_ (.iapp 40 (.cons z1_ (.cons z3_ (.cons o0_ (.cons z5_ .nil))))) (.iapp 21 (.cons z1_ (.cons z2_ .nil))))) .nil)))) (s12bE [k, B, A, b, t, j] [] [l] []) := by
  simp only [Tree.holds, Sy.holds, AllN, Env.more, s12bE, List.cons_append, List.nil_append, List.append_nil, denV, denI, denB, denL, I2.den, VOp.den, List.getD_cons_zero, List.getD_cons_succ, Cst.den, syso, syse, syio, sybo, s12bi_may, List.map_nil, List.map_cons, B2.ofInts, B2.denI, B2.denB, if_true, Bool.false_eq_true, if_false, Nat.div_one, Nat.mul_one, Nat.add_zero, holds] at hc
  simp only [patsTyp, patTyp, patTypL, s12bE, denV, denL, List.getD_cons_zero, List.getD_cons_succ, and_true, true_and] at hty
  have hL_l : typ (.sl (.cons (.int .i64) .nil)) l := by first | exact hty | exact hty.1 | exact hty.2 | exact hty.1.1 | exact hty.1.2 | exact hty.2.1 | exact hty.2.2 | exact hty.2.2.1 | exact hty.2.2.2
  have hN_l := typ_len (n := 1) hL_l rfl (by omega)
  simp only [Nat.div_one, Nat.mul_one] at hN_l
  unfold rwin_tree
  simp only [Tree.holds, Sy.holds, AllN, Env.more, s12bE, List.cons_append, List.nil_append, List.append_nil, denV, denI, denB, denL, I2.den, VOp.den, List.getD_cons_zero, List.getD_cons_succ, Cst.den, syso, syse, syio, sybo, s12bi_sec, s12bi_sln, s12bi_wbj, List.map_nil, List.map_cons, B2.ofInts, B2.denI, B2.denB, if_true, Bool.false_eq_true, if_false, Nat.div_one, Nat.mul_one, Nat.add_zero]
  have m1 := mayI_spec b t (intsOf l)
  have n1 := slN_spec B A
  have hlen := ints_len l
  have hml : mayL b t (intsOf l) = true := by
    rcases m1 with ⟨x, _⟩ | ⟨_, x, _⟩
    · exfalso; omega
    · exact x
  have hsa := sec_at hml (i := j.toNat) (by omega)
  have hg := ints_get l (j := j.toNat) (by omega)
  have e9 : wbJ B b (intsOf l) j.toNat = (secL b (intsOf l) ((intsOf l).getD j.toNat 0) + 86400 - B) * 1000000000 := rfl
  have hs0 := secL_spec b (intsOf l) ((intsOf l).getD j.toNat 0)
  simp only [hg]
  have hd := wr_i64 ((intsOf l).getD j.toNat 0 + 1)
  have hd2 : IntKind.wrap .i64 ((intsOf l).getD j.toNat 0 + 1) = (intsOf l).getD j.toNat 0 + 1 := by omega
  simp only [hd2]
  refine ⟨?_, fun h0 => ?_⟩
  ·
   omega
  ·
   have wf0 := wr_i64 ((Go.RowKit.intOf ((rows l).getD (Int.toNat j) Go.undef)) + 1)
   refine ⟨?_, fun h1 => ?_⟩
   ·
    omega
   ·
    have wf1 := wr_i64 ((secL b (intsOf l) (IntKind.wrap .i64 ((Go.RowKit.intOf ((rows l).getD (Int.toNat j) Go.undef)) + 1))) - 1)
    have wf2 := wr_i64 ((IntKind.wrap .i64 ((secL b (intsOf l) (IntKind.wrap .i64 ((Go.RowKit.intOf ((rows l).getD (Int.toNat j) Go.undef)) + 1))) - 1)) - B)
    have wf3 := wr_i64 ((IntKind.wrap .i64 ((IntKind.wrap .i64 ((secL b (intsOf l) (IntKind.wrap .i64 ((Go.RowKit.intOf ((rows l).getD (Int.toNat j) Go.undef)) + 1))) - 1)) - B)) * 1000000000)
    have wf4 := wr_i64 ((secL b (intsOf l) (IntKind.wrap .i64 ((Go.RowKit.intOf ((rows l).getD (Int.toNat j) Go.undef)) + 1))) + A)
    have wf5 := wr_i64 ((IntKind.wrap .i64 ((secL b (intsOf l) (IntKind.wrap .i64 ((Go.RowKit.intOf ((rows l).getD (Int.toNat j) Go.undef)) + 1))) + A)) * 1000000000)
    try simp only [hw0]
    simp only [Value.tuple.injEq, Value.agg.injEq, Value.int.injEq, Value.bool.injEq, Array.mk.injEq, List.cons.injEq, true_and, and_true]
    have u1 := wr_i64 (secL b (intsOf l) ((intsOf l).getD j.toNat 0 + 1) - 1)
    have u2 := wr_i64 (IntKind.wrap .i64 (secL b (intsOf l) ((intsOf l).getD j.toNat 0 + 1) - 1) - B)
    have u3 := wr_i64 (IntKind.wrap .i64 (IntKind.wrap .i64 (secL b (intsOf l) ((intsOf l).getD j.toNat 0 + 1) - 1) - B) * 1000000000)
    have u4 := wr_i64 (secL b (intsOf l) ((intsOf l).getD j.toNat 0 + 1) + A)
    have u5 := wr_i64 (IntKind.wrap .i64 (secL b (intsOf l) ((intsOf l).getD j.toNat 0 + 1) + A) * 1000000000)
    exact ⟨by omega, by omega⟩
theorem s12bg_rwin : s12bc_rwin.Good Tryd.prog syG (s12bE [] [] [] []) := good_of_walk (Γ := ⟨[y9c_rsec], syG, [], [], []⟩) (ρ := s12bE [] [] [] []) sym rwin_w rfl (fun _ _ _ _ => (ok_cons (Con.Good.env (Con.Good.up (Con.Good.up (Con.Good.up y9g_rsec s12aup rfl) s12up rfl) s12bup rfl) _ _ _ _) ok_nil)) (fun k B A b t j l hc hty => rwin_h k B A b t j l hc hty)
def rfits_tree : Tree :=
 (.need (an_ (an_ (le_ lm_ v0_) (le_ v0_ lM_)) (an_ (an_ (le_ lm_ v1_) (le_ v1_ lM_)) (an_ (le_ lm_ v2_) (le_ v2_ lM_))))
 (.br (.not (eq_ (.iapp 20 (.cons z0_ (.cons z1_ (.cons z2_ .nil)))) (.lit 0)))
 (.ret (.int .i64 (.lit 1)))
 (.br (.not (eq_ (.iapp 0 (.cons z3_ (.cons z4_ (.cons o0_ .nil)))) (.lit 0)))
 (.ret (.int .i64 (.lit 1)))
 (.loop ⟨1, 0, 0, 0⟩ (an_ (le_ (.lit 1) (.lit 1)) (an_ (.b2 .or (le_ (.lit 1) (.ofI (.vop (.len 1) (.cons o0_ .nil)))) (eq_ (.lit 1) (.lit 1))) (.b2 .or (eq_ v0_ (.lit 0)) (.bapp 2 (.cons z1_ (.cons z2_ (.cons z3_ (.cons o0_ (.cons (.int .i64 (.lit 1)) .nil))))))))) (an_ (le_ (.lit 1) v5_) (an_ (.b2 .or (le_ v5_ (.ofI (.vop (.len 1) (.cons o0_ .nil)))) (eq_ v5_ (.lit 1))) (.b2 .or (eq_ v0_ (.lit 0)) (.bapp 2 (.cons z1_ (.cons z2_ (.cons z3_ (.cons o0_ (.cons z5_ .nil)))))))))
 (.br (lt_ v5_ (.ofI (.vop (.len 1) (.cons o0_ .nil))))
 (.need (an_ (an_ (le_ (.lit 0) v1_) (an_ (le_ v1_ (.lit 43200)) (an_ (le_ (.lit 0) v2_) (le_ v2_ (.lit 43200))))) (an_ (eq_ (.iapp 0 (.cons z3_ (.cons z4_ (.cons o0_ .nil)))) (.lit 0)) (an_ (le_ (.lit 0) (wr_ (sb_ v5_ (.lit 1)))) (lt_ (wr_ (sb_ v5_ (.lit 1))) (.ofI (.vop (.len 1) (.cons o0_ .nil)))))))
 (.need (an_ (an_ (le_ (.lit 0) v1_) (an_ (le_ v1_ (.lit 43200)) (an_ (le_ (.lit 0) v2_) (le_ v2_ (.lit 43200))))) (an_ (eq_ (.iapp 0 (.cons z3_ (.cons z4_ (.cons o0_ .nil)))) (.lit 0)) (an_ (le_ (.lit 0) v5_) (lt_ v5_ (.ofI (.vop (.len 1) (.cons o0_ .nil)))))))
 (.br (lt_ (.lit 0) v0_)
 (.br (lt_ (.iapp 40 (.cons z1_ (.cons z3_ (.cons o0_ (.cons z5_ .nil))))) (ad_ (.iapp 40 (.cons z1_ (.cons z3_ (.cons o0_ (.cons (.int .i64 (wr_ (sb_ v5_ (.lit 1)))) .nil))))) (.iapp 21 (.cons z1_ (.cons z2_ .nil)))))
 (.ret (.int .i64 (.lit 9)))
 (.back (an_ (le_ (.lit 1) (wr_ (ad_ v5_ (.lit 1)))) (an_ (.b2 .or (le_ (wr_ (ad_ v5_ (.lit 1))) (.ofI (.vop (.len 1) (.cons o0_ .nil)))) (eq_ (wr_ (ad_ v5_ (.lit 1))) (.lit 1))) (.b2 .or (eq_ v0_ (.lit 0)) (.bapp 2 (.cons z1_ (.cons z2_ (.cons z3_ (.cons o0_ (.cons (.int .i64 (wr_ (ad_ v5_ (.lit 1)))) .nil))))))))) (sb_ (ad_ (.ofI (.vop (.len 1) (.cons o0_ .nil))) (.lit 1)) (wr_ (ad_ v5_ (.lit 1)))) (sb_ (ad_ (.ofI (.vop (.len 1) (.cons o0_ .nil))) (.lit 1)) v5_)))
 (.back (an_ (le_ (.lit 1) (wr_ (ad_ v5_ (.lit 1)))) (an_ (.b2 .or (le_ (wr_ (ad_ v5_ (.lit 1))) (.ofI (.vop (.len 1) (.cons o0_ .nil)))) (eq_ (wr_ (ad_ v5_ (.lit 1))) (.lit 1))) (.b2 .or (eq_ v0_ (.lit 0)) (.bapp 2 (.cons z1_ (.cons z2_ (.cons z3_ (.cons o0_ (.cons (.int .i64 (wr_ (ad_ v5_ (.lit 1)))) .nil))))))))) (sb_ (ad_ (.ofI (.vop (.len 1) (.cons o0_ .nil))) (.lit 1)) (wr_ (ad_ v5_ (.lit 1)))) (sb_ (ad_ (.ofI (.vop (.len 1) (.cons o0_ .nil))) (.lit 1)) v5_)))))
 (.ret (.int .i64 (.lit 0))))))))
abbrev s12bc_rfits : Con := ⟨66, [(.agg (.cons z0_ (.cons z1_ (.cons z2_ .nil)))), (.agg (.cons z3_ (.cons z4_ (.cons (.hs .no (.cons (.int .i64) .nil) o0_) .nil))))], (an_ (an_ (le_ lm_ v0_) (le_ v0_ lM_)) (an_ (an_ (le_ lm_ v1_) (le_ v1_ lM_)) (an_ (le_ lm_ v2_) (le_ v2_ lM_)))), (.int .i64 (.iapp 24 (.cons z0_ (.cons z1_ (.cons z2_ (.cons z3_ (.cons z4_ (.cons o0_ .nil)))))))), ⟨5, 0, 1, 0⟩, none⟩
theorem rfits_w : walk Tryd.prog 182 ⟨[s12c_rmay12, y9c_rmay9, s12bc_rwin], syG, [], [], []⟩ [⟨0, ⟨1, 0, 0, 0⟩, [(5, z5_)], none, (an_ (le_ (.lit 1) v5_) (an_ (.b2 .or (le_ v5_ (.ofI (.vop (.len 1) (.cons o0_ .nil)))) (eq_ v5_ (.lit 1))) (.b2 .or (eq_ v0_ (.lit 0)) (.bapp 2 (.cons z1_ (.cons z2_ (.cons z3_ (.cons o0_ (.cons z5_ .nil))))))))), (sb_ (ad_ (.ofI (.vop (.len 1) (.cons o0_ .nil))) (.lit 1)) v5_), 0, []⟩] .v s12bc_rfits s12bc_rfits.n 3000 = some rfits_tree := by kernel_rfl
theorem rfits_h (k : Int) (B : Int) (A : Int) (b : Int) (t : Int) (l : Value) (hc : holds (s12bE [k, B, A, b, t] [] [l] []) (an_ (an_ (le_ lm_ v0_) (le_ v0_ lM_)) (an_ (an_ (le_ lm_ v1_) (le_ v1_ lM_)) (an_ (le_ lm_ v2_) (le_ v2_ lM_))))) (hty : patsTyp (s12bE [k, B, A, b, t] [] [l] []) [(.agg (.cons z0_ (.cons z1_ (.cons z2_ .nil)))), (.agg (.cons z3_ (.cons z4_ (.cons (.hs .no (.cons (.int .i64) .nil) o0_) .nil))))]) : rfits_tree.holds (fun v_ => v_ = denV (s12bE [k, B, A, b, t] [] [l] []) b0 (.int .i64 (.iapp 24 (.cons z0_ (.cons z1_ (.cons z2_ (.cons z3_ (.cons z4_ (.cons o0_ .nil))))))))) (s12bE [k, B, A, b, t] [] [l] []) := by
  simp only [Tree.holds, Sy.holds, AllN, Env.more, s12bE, List.cons_append, List.nil_append, List.append_nil, denV, denI, denB, denL, I2.den, VOp.den, List.getD_cons_zero, List.getD_cons_succ, Cst.den, syso, syse, syio, sybo, List.map_nil, List.map_cons, B2.ofInts, B2.denI, B2.denB, if_true, Bool.false_eq_true, if_false, Nat.div_one, Nat.mul_one, Nat.add_zero, holds] at hc
  simp only [patsTyp, patTyp, patTypL, s12bE, denV, denL, List.getD_cons_zero, List.getD_cons_succ, and_true, true_and] at hty
  have hL_l : typ (.sl (.cons (.int .i64) .nil)) l := by first | exact hty | exact hty.1 | exact hty.2 | exact hty.1.1 | exact hty.1.2 | exact hty.2.1 | exact hty.2.2 | exact hty.2.2.1 | exact hty.2.2.2
  have hN_l := typ_len (n := 1) hL_l rfl (by omega)
  simp only [Nat.div_one, Nat.mul_one] at hN_l
  unfold rfits_tree
  simp only [Tree.holds, Sy.holds, AllN, Env.more, s12bE, List.cons_append, List.nil_append, List.append_nil, denV, denI, denB, denL, I2.den, VOp.den, List.getD_cons_zero, List.getD_cons_succ, Cst.den, syso, syse, syio, sybo, s12bi_may, s12bi_sm, s12bi_sln, s12bi_fits, s12bi_wbj, s12bb_fitl, List.map_nil, List.map_cons, B2.ofInts, B2.denI, B2.denB, if_true, Bool.false_eq_true, if_false, Nat.div_one, Nat.mul_one, Nat.add_zero]
  have s1 := smI_spec k B A
  have f1 := fitsI_spec k B A b t (intsOf l)
  have m1 := mayI_spec b t (intsOf l)
  have n1 := slN_spec B A
  have hlen := ints_len l
  refine ⟨?_, fun h0 => ?_⟩
  ·
   omega
  ·
   refine ⟨fun h1 => ?_, fun h1 => ?_⟩
   ·
    refine congrArg (Value.int .i64) ?_
    omega
   ·
    refine ⟨fun h2 => ?_, fun h2 => ?_⟩
    ·
     refine congrArg (Value.int .i64) ?_
     omega
    ·
     refine ⟨?_, ?_⟩
     ·
      exact ⟨by omega, .inr trivial, .inr (by simp [fitL, fitJ])⟩
     ·
      intro i0a hi0
      refine ⟨fun h3 => ?_, fun h3 => ?_⟩
      ·
       have wf0 := wr_i64 (i0a - 1)
       refine ⟨?_, fun h4 => ?_⟩
       ·
        first
        | omega
        | (
           obtain ⟨q0, q1, q2⟩ := hi0
           have hw : IntKind.wrap .i64 (i0a + 1) = i0a + 1 := by have := wr_i64 (i0a + 1); omega
           have hw1 : IntKind.wrap .i64 (i0a - 1) = i0a - 1 := by have := wr_i64 (i0a - 1); omega
           have hz : (i0a - 1).toNat = i0a.toNat - 1 := by omega
           have hJ : fitJ B A b (intsOf l) i0a.toNat = decide (i0a.toNat = 0 ∨ wbJ B b (intsOf l) (i0a.toNat - 1) + slN B A ≤ wbJ B b (intsOf l) i0a.toNat) := rfl
           try simp only [hw, hw1, hz] at *
           exact ⟨⟨by omega, by omega, by omega, by omega⟩, by omega, by omega, by omega⟩)
       ·
        refine ⟨?_, fun h5 => ?_⟩
        ·
         first
         | omega
         | (
            obtain ⟨q0, q1, q2⟩ := hi0
            have hw : IntKind.wrap .i64 (i0a + 1) = i0a + 1 := by have := wr_i64 (i0a + 1); omega
            have hw1 : IntKind.wrap .i64 (i0a - 1) = i0a - 1 := by have := wr_i64 (i0a - 1); omega
            have hz : (i0a - 1).toNat = i0a.toNat - 1 := by omega
            have hJ : fitJ B A b (intsOf l) i0a.toNat = decide (i0a.toNat = 0 ∨ wbJ B b (intsOf l) (i0a.toNat - 1) + slN B A ≤ wbJ B b (intsOf l) i0a.toNat) := rfl
            try simp only [hw, hw1, hz] at *
            exact ⟨⟨by omega, by omega, by omega, by omega⟩, by omega, by omega, by omega⟩)
        ·
         refine ⟨fun h6 => ?_, fun h6 => ?_⟩
         ·
          try simp only [hw0]
          refine ⟨fun h7 => ?_, fun h7 => ?_⟩
          ·
           obtain ⟨q0, q1, q2⟩ := hi0
           have hw : IntKind.wrap .i64 (i0a + 1) = i0a + 1 := by have := wr_i64 (i0a + 1); omega
           have hw1 : IntKind.wrap .i64 (i0a - 1) = i0a - 1 := by have := wr_i64 (i0a - 1); omega
           have hz : (i0a - 1).toNat = i0a.toNat - 1 := by omega
           have hJ : fitJ B A b (intsOf l) i0a.toNat = decide (i0a.toNat = 0 ∨ wbJ B b (intsOf l) (i0a.toNat - 1) + slN B A ≤ wbJ B b (intsOf l) i0a.toNat) := rfl
           try simp only [hw, hw1, hz] at *
           refine congrArg (Value.int .i64) ?_
           by_cases hlt : i0a < ((Sy.rows l).length : Int)
           · have hfalse : fitJ B A b (intsOf l) i0a.toNat = false := by
               rw [hJ]
               exact decide_eq_false (by omega)
             have hbad : fitL B A b (intsOf l) (intsOf l).length = false := by
               cases hc : fitL B A b (intsOf l) (intsOf l).length with
               | false => rfl
               | true => rw [fitL_get hc (by omega)] at hfalse; cases hfalse
             rw [hbad] at f1
             simp only [Bool.false_eq_true, Bool.true_eq_false, and_false, and_true, or_false, false_or] at f1
             omega
           · by_cases hk : k = 0
             · omega
             · have hfl := q2.resolve_left hk
               have hfull : fitL B A b (intsOf l) (intsOf l).length = true := by
                 by_cases hz0 : (Sy.rows l).length = 0
                 · rw [hlen, hz0]; rfl
                 · rw [hlen, show (Sy.rows l).length = i0a.toNat by omega]; exact hfl
               rw [hfull] at f1
               simp only [Bool.false_eq_true, Bool.true_eq_false, and_false, and_true, or_false, false_or] at f1
               omega
          ·
           have wf1 := wr_i64 (i0a + 1)
           refine ⟨?_, ?_⟩
           ·
            obtain ⟨q0, q1, q2⟩ := hi0
            have hw : IntKind.wrap .i64 (i0a + 1) = i0a + 1 := by have := wr_i64 (i0a + 1); omega
            have hw1 : IntKind.wrap .i64 (i0a - 1) = i0a - 1 := by have := wr_i64 (i0a - 1); omega
            have hz : (i0a - 1).toNat = i0a.toNat - 1 := by omega
            have hJ : fitJ B A b (intsOf l) i0a.toNat = decide (i0a.toNat = 0 ∨ wbJ B b (intsOf l) (i0a.toNat - 1) + slN B A ≤ wbJ B b (intsOf l) i0a.toNat) := rfl
            try simp only [hw, hw1, hz] at *
            refine ⟨by omega, by omega, ?_⟩
            rcases q2 with q2 | q2
            · exact .inl q2
            · by_cases hk : k = 0
              · exact .inl hk
              · right
                rw [toNat_succ (by omega), fitL_succ, q2, Bool.true_and, hJ]
                exact decide_eq_true (.inr (by omega))
           ·
            have := wr_i64 (i0a + 1)
            omega
         ·
          have wf2 := wr_i64 (i0a + 1)
          refine ⟨?_, ?_⟩
          ·
           obtain ⟨q0, q1, q2⟩ := hi0
           have hw : IntKind.wrap .i64 (i0a + 1) = i0a + 1 := by have := wr_i64 (i0a + 1); omega
           have hw1 : IntKind.wrap .i64 (i0a - 1) = i0a - 1 := by have := wr_i64 (i0a - 1); omega
           have hz : (i0a - 1).toNat = i0a.toNat - 1 := by omega
           have hJ : fitJ B A b (intsOf l) i0a.toNat = decide (i0a.toNat = 0 ∨ wbJ B b (intsOf l) (i0a.toNat - 1) + slN B A ≤ wbJ B b (intsOf l) i0a.toNat) := rfl
           try simp only [hw, hw1, hz] at *
           refine ⟨by omega, by omega, ?_⟩
           rcases q2 with q2 | q2
           · exact .inl q2
           · by_cases hk : k = 0
             · exact .inl hk
             · right
               rw [toNat_succ (by omega), fitL_succ, q2, Bool.true_and, hJ]
               exact decide_eq_true (.inr (by omega))
          ·
           have := wr_i64 (i0a + 1)
           omega
      ·
       obtain ⟨q0, q1, q2⟩ := hi0
       have hw : IntKind.wrap .i64 (i0a + 1) = i0a + 1 := by have := wr_i64 (i0a + 1); omega
       have hw1 : IntKind.wrap .i64 (i0a - 1) = i0a - 1 := by have := wr_i64 (i0a - 1); omega
       have hz : (i0a - 1).toNat = i0a.toNat - 1 := by omega
       have hJ : fitJ B A b (intsOf l) i0a.toNat = decide (i0a.toNat = 0 ∨ wbJ B b (intsOf l) (i0a.toNat - 1) + slN B A ≤ wbJ B b (intsOf l) i0a.toNat) := rfl
       try simp only [hw, hw1, hz] at *
       refine congrArg (Value.int .i64) ?_
       by_cases hlt : i0a < ((Sy.rows l).length : Int)
       · have hfalse : fitJ B A b (intsOf l) i0a.toNat = false := by
           rw [hJ]
           exact decide_eq_false (by omega)
         have hbad : fitL B A b (intsOf l) (intsOf l).length = false := by
           cases hc : fitL B A b (intsOf l) (intsOf l).length with
           | false => rfl
           | true => rw [fitL_get hc (by omega)] at hfalse; cases hfalse
         rw [hbad] at f1
         simp only [Bool.false_eq_true, Bool.true_eq_false, and_false, and_true, or_false, false_or] at f1
         omega
       · by_cases hk : k = 0
         · omega
         · have hfl := q2.resolve_left hk
           have hfull : fitL B A b (intsOf l) (intsOf l).length = true := by
             by_cases hz0 : (Sy.rows l).length = 0
             · rw [hlen, hz0]; rfl
             · rw [hlen, show (Sy.rows l).length = i0a.toNat by omega]; exact hfl
           rw [hfull] at f1
           simp only [Bool.false_eq_true, Bool.true_eq_false, and_false, and_true, or_false, false_or] at f1
           omega
theorem s12bg_rfits : s12bc_rfits.Good Tryd.prog syG (s12bE [] [] [] []) := good_of_walk (Γ := ⟨[s12c_rmay12, y9c_rmay9, s12bc_rwin], syG, [], [], []⟩) (ρ := s12bE [] [] [] []) sym rfits_w rfl (fun _ _ _ _ => (ok_cons (Con.Good.env (Con.Good.up s12g_rmay12 s12bup rfl) _ _ _ _) (ok_cons (Con.Good.env (Con.Good.up (Con.Good.up (Con.Good.up y9g_rmay9 s12aup rfl) s12up rfl) s12bup rfl) _ _ _ _) (ok_cons (Con.Good.env s12bg_rwin _ _ _ _) ok_nil)))) (fun k B A b t l hc hty => rfits_h k B A b t l hc hty)
def rlag_tree : Tree :=
 (.need (an_ (an_ (le_ lm_ v0_) (le_ v0_ lM_)) (an_ (an_ (le_ lm_ v1_) (le_ v1_ lM_)) (an_ (le_ lm_ v2_) (le_ v2_ lM_))))
 (.br (.not (eq_ (.iapp 20 (.cons z0_ (.cons z1_ (.cons z2_ .nil)))) (.lit 0)))
 (.ret (.tup (.cons (.int .i64 (.lit 0)) (.cons (.int .i64 (.lit 1)) .nil))))
 (.br (eq_ v0_ (.lit 0))
 (.ret (.tup (.cons (.int .i64 (.lit 0)) (.cons (.int .i64 (.lit 1)) .nil))))
 (.br (lt_ v3_ (.lit 0))
 (.ret (.tup (.cons (.int .i64 (.lit 0)) (.cons (.int .i64 (.lit 1)) .nil))))
 (.br (lt_ (wr_ (ml_ (wr_ (ad_ (wr_ (ad_ v1_ v2_)) (.lit 1))) (.lit 1000000000))) v3_)
 (.ret (.tup (.cons (.int .i64 (.lit 0)) (.cons (.int .i64 (.lit 1)) .nil))))
 (.br (eq_ v0_ (.lit 1))
 (.need (an_ (le_ (.lit 1) (wr_ (ml_ (wr_ (ad_ (wr_ (ad_ v1_ v2_)) (.lit 1))) (.lit 1000000000)))) (an_ (le_ (wr_ (ml_ (wr_ (ad_ (wr_ (ad_ v1_ v2_)) (.lit 1))) (.lit 1000000000))) lM_) (an_ (le_ (.lit 0) v3_) (le_ v3_ (wr_ (ml_ (wr_ (ad_ (wr_ (ad_ v1_ v2_)) (.lit 1))) (.lit 1000000000)))))))
 (.ret (.tup (.cons (.int .i64 (.iapp 37 (.cons z3_ (.cons (.int .i64 (.lit 1000000000)) (.cons (.int .i64 (wr_ (ml_ (wr_ (ad_ (wr_ (ad_ v1_ v2_)) (.lit 1))) (.lit 1000000000)))) .nil))))) (.cons (.int .i64 (.lit 0)) .nil)))))
 (.br (lt_ v3_ (wr_ (.i2 .quo (wr_ (ml_ (wr_ (ad_ (wr_ (ad_ v1_ v2_)) (.lit 1))) (.lit 1000000000))) (.lit 2))))
 (.need (an_ (an_ (le_ lm_ v3_) (le_ v3_ lM_)) (an_ (le_ lm_ (wr_ (ml_ (wr_ (ad_ (wr_ (ad_ v1_ v2_)) (.lit 1))) (.lit 1000000000)))) (le_ (wr_ (ml_ (wr_ (ad_ (wr_ (ad_ v1_ v2_)) (.lit 1))) (.lit 1000000000))) lM_)))
 (.need (an_ (le_ (.lit 1) (wr_ (ml_ (wr_ (ad_ (wr_ (ad_ v1_ v2_)) (.lit 1))) (.lit 1000000000)))) (an_ (le_ (wr_ (ml_ (wr_ (ad_ (wr_ (ad_ v1_ v2_)) (.lit 1))) (.lit 1000000000))) lM_) (an_ (le_ (.lit 0) v3_) (an_ (le_ v3_ (wr_ (ml_ (wr_ (ad_ (wr_ (ad_ v1_ v2_)) (.lit 1))) (.lit 1000000000)))) (an_ (le_ (.lit 0) (.iapp 28 (.cons z3_ (.cons (.int .i64 (.lit 2000000000)) (.cons (.int .i64 (wr_ (ml_ (wr_ (ad_ (wr_ (ad_ v1_ v2_)) (.lit 1))) (.lit 1000000000)))) .nil))))) (le_ (.iapp 28 (.cons z3_ (.cons (.int .i64 (.lit 2000000000)) (.cons (.int .i64 (wr_ (ml_ (wr_ (ad_ (wr_ (ad_ v1_ v2_)) (.lit 1))) (.lit 1000000000)))) .nil)))) (.lit 2000000000)))))))
 (.ret (.tup (.cons (.int .i64 (.iapp 37 (.cons z3_ (.cons (.int .i64 (.iapp 28 (.cons z3_ (.cons (.int .i64 (.lit 2000000000)) (.cons (.int .i64 (wr_ (ml_ (wr_ (ad_ (wr_ (ad_ v1_ v2_)) (.lit 1))) (.lit 1000000000)))) .nil))))) (.cons (.int .i64 (wr_ (ml_ (wr_ (ad_ (wr_ (ad_ v1_ v2_)) (.lit 1))) (.lit 1000000000)))) .nil))))) (.cons (.int .i64 (.lit 0)) .nil))))))
 (.need (an_ (an_ (le_ lm_ (wr_ (sb_ (wr_ (ml_ (wr_ (ad_ (wr_ (ad_ v1_ v2_)) (.lit 1))) (.lit 1000000000))) v3_))) (le_ (wr_ (sb_ (wr_ (ml_ (wr_ (ad_ (wr_ (ad_ v1_ v2_)) (.lit 1))) (.lit 1000000000))) v3_)) lM_)) (an_ (le_ lm_ (wr_ (ml_ (wr_ (ad_ (wr_ (ad_ v1_ v2_)) (.lit 1))) (.lit 1000000000)))) (le_ (wr_ (ml_ (wr_ (ad_ (wr_ (ad_ v1_ v2_)) (.lit 1))) (.lit 1000000000))) lM_)))
 (.need (an_ (an_ (le_ lm_ (wr_ (sb_ (wr_ (ml_ (wr_ (ad_ (wr_ (ad_ v1_ v2_)) (.lit 1))) (.lit 1000000000))) v3_))) (le_ (wr_ (sb_ (wr_ (ml_ (wr_ (ad_ (wr_ (ad_ v1_ v2_)) (.lit 1))) (.lit 1000000000))) v3_)) lM_)) (an_ (an_ (le_ lm_ (.iapp 28 (.cons (.int .i64 (wr_ (sb_ (wr_ (ml_ (wr_ (ad_ (wr_ (ad_ v1_ v2_)) (.lit 1))) (.lit 1000000000))) v3_))) (.cons (.int .i64 (.lit 2000000000)) (.cons (.int .i64 (wr_ (ml_ (wr_ (ad_ (wr_ (ad_ v1_ v2_)) (.lit 1))) (.lit 1000000000)))) .nil))))) (le_ (.iapp 28 (.cons (.int .i64 (wr_ (sb_ (wr_ (ml_ (wr_ (ad_ (wr_ (ad_ v1_ v2_)) (.lit 1))) (.lit 1000000000))) v3_))) (.cons (.int .i64 (.lit 2000000000)) (.cons (.int .i64 (wr_ (ml_ (wr_ (ad_ (wr_ (ad_ v1_ v2_)) (.lit 1))) (.lit 1000000000)))) .nil)))) lM_)) (an_ (le_ lm_ (wr_ (ml_ (wr_ (ad_ (wr_ (ad_ v1_ v2_)) (.lit 1))) (.lit 1000000000)))) (le_ (wr_ (ml_ (wr_ (ad_ (wr_ (ad_ v1_ v2_)) (.lit 1))) (.lit 1000000000))) lM_))))
 (.ret (.tup (.cons (.int .i64 (wr_ (sb_ (.lit 1000000000) (.iapp 28 (.cons (.int .i64 (wr_ (sb_ (wr_ (ml_ (wr_ (ad_ (wr_ (ad_ v1_ v2_)) (.lit 1))) (.lit 1000000000))) v3_))) (.cons (.int .i64 (.iapp 28 (.cons (.int .i64 (wr_ (sb_ (wr_ (ml_ (wr_ (ad_ (wr_ (ad_ v1_ v2_)) (.lit 1))) (.lit 1000000000))) v3_))) (.cons (.int .i64 (.lit 2000000000)) (.cons (.int .i64 (wr_ (ml_ (wr_ (ad_ (wr_ (ad_ v1_ v2_)) (.lit 1))) (.lit 1000000000)))) .nil))))) (.cons (.int .i64 (wr_ (ml_ (wr_ (ad_ (wr_ (ad_ v1_ v2_)) (.lit 1))) (.lit 1000000000)))) .nil))))))) (.cons (.int .i64 (.lit 0)) .nil)))))))))))))
abbrev s12bc_rlag : Con := ⟨65, [(.agg (.cons z0_ (.cons z1_ (.cons z2_ .nil)))), z3_], (an_ (an_ (an_ (le_ lm_ v0_) (le_ v0_ lM_)) (an_ (an_ (le_ lm_ v1_) (le_ v1_ lM_)) (an_ (le_ lm_ v2_) (le_ v2_ lM_)))) (an_ (le_ lm_ v3_) (le_ v3_ lM_))), (.tup (.cons (.int .i64 (.iapp 27 (.cons z0_ (.cons z1_ (.cons z2_ (.cons z3_ .nil)))))) (.cons (.int .i64 (.iapp 26 (.cons z0_ (.cons z1_ (.cons z2_ (.cons z3_ .nil)))))) .nil))), ⟨4, 0, 0, 0⟩, none⟩
theorem rlag_w : walk Tryd.prog 182 ⟨[s12c_rmay12, s12c_rmdiv, s12c_rup], syG, [], [], []⟩ [] .v s12bc_rlag s12bc_rlag.n 3000 = some rlag_tree := by kernel_rfl
set_option maxHeartbeats 4000000 in
theorem rlag_h (k : Int) (B : Int) (A : Int) (g : Int) (hc : holds (s12bE [k, B, A, g] [] [] []) (an_ (an_ (an_ (le_ lm_ v0_) (le_ v0_ lM_)) (an_ (an_ (le_ lm_ v1_) (le_ v1_ lM_)) (an_ (le_ lm_ v2_) (le_ v2_ lM_)))) (an_ (le_ lm_ v3_) (le_ v3_ lM_)))) (hty : patsTyp (s12bE [k, B, A, g] [] [] []) [(.agg (.cons z0_ (.cons z1_ (.cons z2_ .nil)))), z3_]) : rlag_tree.holds (fun v_ => v_ = denV (s12bE [k, B, A, g] [] [] []) b0 (.tup (.cons (.int .i64 (.iapp 27 (.cons z0_ (.cons z1_ (.cons z2_ (.cons z3_ .nil)))))) (.cons (.int .i64 (.iapp 26 (.cons z0_ (.cons z1_ (.cons z2_ (.cons z3_ .nil)))))) .nil)))) (s12bE [k, B, A, g] [] [] []) := by
  simp only [Tree.holds, Sy.holds, AllN, Env.more, s12bE, List.cons_append, List.nil_append, List.append_nil, denV, denI, denB, denL, I2.den, VOp.den, List.getD_cons_zero, List.getD_cons_succ, Cst.den, syso, syse, syio, sybo, List.map_nil, List.map_cons, B2.ofInts, B2.denI, B2.denB, if_true, Bool.false_eq_true, if_false, Nat.div_one, Nat.mul_one, Nat.add_zero, holds] at hc
  simp only [patsTyp, patTyp, patTypL, s12bE, denV, denL, List.getD_cons_zero, List.getD_cons_succ, and_true, true_and] at hty
  unfold rlag_tree
  simp only [Tree.holds, Sy.holds, AllN, Env.more, s12bE, List.cons_append, List.nil_append, List.append_nil, denV, denI, denB, denL, I2.den, VOp.den, List.getD_cons_zero, List.getD_cons_succ, Cst.den, syso, syse, syio, sybo, s12bi_sm, s12bi_lge, s12bi_lgv, s12bi_mdn, s12bi_upf, List.map_nil, List.map_cons, B2.ofInts, B2.denI, B2.denB, if_true, Bool.false_eq_true, if_false, Nat.div_one, Nat.mul_one, Nat.add_zero]
  have e1 := lagE_spec k B A g
  have n1 := slN_spec B A
  refine ⟨?_, fun h0 => ?_⟩
  ·
   first
   | omega
   | (
      have nn1 := wr_i64 (B + A)
      have nn2 := wr_i64 (IntKind.wrap .i64 (B + A) + 1)
      have nn3 := wr_i64 (IntKind.wrap .i64 (IntKind.wrap .i64 (B + A) + 1) * 1000000000)
      by_cases hsm : smI k B A = 0
      · have s1 := smI_spec k B A
        have nn : IntKind.wrap .i64 (IntKind.wrap .i64 (IntKind.wrap .i64 (B + A) + 1) * 1000000000) = slN B A := by omega
        have hh : (slN B A).tdiv 2 = slN B A / 2 := Int.tdiv_eq_ediv_of_nonneg (by omega)
        have hh2 : IntKind.wrap .i64 (slN B A / 2) = slN B A / 2 := by have := wr_i64 (slN B A / 2); omega
        clear s1 nn1 nn2 nn3
        simp only [nn, hh, hh2] at *
        rcases e1 with ⟨E, V0, Z⟩ | ⟨E, hs, hk, g0, g1, B0, B1, A0, A1, N0, N1, NE, hk2⟩
        · omega
        · obtain ⟨y1, y2, y3, y4, y6, x1, x2, x3⟩ := lg_facts (B := B) (A := A) g0 g1 (by omega) (by omega)
          try simp only [x1, x2, y1.1, y1.2.1, y2, y3.1, y3.2.1, y4, y6.1, y6.2.1] at *
          omega
      · omega)
  ·
   refine ⟨fun h1 => ?_, fun h1 => ?_⟩
   ·
    first
    | (
       have nn1 := wr_i64 (B + A)
       have nn2 := wr_i64 (IntKind.wrap .i64 (B + A) + 1)
       have nn3 := wr_i64 (IntKind.wrap .i64 (IntKind.wrap .i64 (B + A) + 1) * 1000000000)
       by_cases hsm : smI k B A = 0
       · have s1 := smI_spec k B A
         have nn : IntKind.wrap .i64 (IntKind.wrap .i64 (IntKind.wrap .i64 (B + A) + 1) * 1000000000) = slN B A := by omega
         have hh : (slN B A).tdiv 2 = slN B A / 2 := Int.tdiv_eq_ediv_of_nonneg (by omega)
         have hh2 : IntKind.wrap .i64 (slN B A / 2) = slN B A / 2 := by have := wr_i64 (slN B A / 2); omega
         clear s1 nn1 nn2 nn3
         simp only [nn, hh, hh2] at *
         rcases e1 with ⟨E, V0, Z⟩ | ⟨E, hs, hk, g0, g1, B0, B1, A0, A1, N0, N1, NE, hk2⟩
         · have s1 := smI_spec k B A
           first
           | (rw [E, V0]
              done)
           | (rw [E, V0]
              rfl)
           | (exfalso; omega)
         · obtain ⟨y1, y2, y3, y4, y6, x1, x2, x3⟩ := lg_facts (B := B) (A := A) g0 g1 (by omega) (by omega)
           try simp only [x1, x2, y1.1, y1.2.1, y2, y3.1, y3.2.1, y4, y6.1, y6.2.1] at *
           rcases lagV_spec k B A g with ⟨q, _⟩ | ⟨_, q, v⟩ | ⟨_, q, c, v⟩ | ⟨_, q, c, v⟩
           all_goals first
           | (exfalso; omega)
           | (exfalso
              simp only [not_true_eq_false] at *
              done)
           | (rw [E, v]
              done)
           | (rw [E, v]
              rfl)
           | (rw [E, v]
              simp only [Value.tuple.injEq, Array.mk.injEq, List.cons.injEq, Value.int.injEq, true_and, and_true]
              omega)
           | (rw [E, v]
              simp only [Value.tuple.injEq, Array.mk.injEq, List.cons.injEq, Value.int.injEq, true_and, and_true]
              exact ⟨by omega, rfl⟩)
       · rcases e1 with ⟨E, V0, Z⟩ | ⟨E, hs, _⟩
         · have s1 := smI_spec k B A
           first
           | (rw [E, V0]
              done)
           | (rw [E, V0]
              rfl)
           | (exfalso; omega)
         · exact absurd hs hsm)
   ·
    refine ⟨fun h2 => ?_, fun h2 => ?_⟩
    ·
     first
     | (
        have nn1 := wr_i64 (B + A)
        have nn2 := wr_i64 (IntKind.wrap .i64 (B + A) + 1)
        have nn3 := wr_i64 (IntKind.wrap .i64 (IntKind.wrap .i64 (B + A) + 1) * 1000000000)
        by_cases hsm : smI k B A = 0
        · have s1 := smI_spec k B A
          have nn : IntKind.wrap .i64 (IntKind.wrap .i64 (IntKind.wrap .i64 (B + A) + 1) * 1000000000) = slN B A := by omega
          have hh : (slN B A).tdiv 2 = slN B A / 2 := Int.tdiv_eq_ediv_of_nonneg (by omega)
          have hh2 : IntKind.wrap .i64 (slN B A / 2) = slN B A / 2 := by have := wr_i64 (slN B A / 2); omega
          clear s1 nn1 nn2 nn3
          simp only [nn, hh, hh2] at *
          rcases e1 with ⟨E, V0, Z⟩ | ⟨E, hs, hk, g0, g1, B0, B1, A0, A1, N0, N1, NE, hk2⟩
          · have s1 := smI_spec k B A
            first
            | (rw [E, V0]
               done)
            | (rw [E, V0]
               rfl)
            | (exfalso; omega)
          · obtain ⟨y1, y2, y3, y4, y6, x1, x2, x3⟩ := lg_facts (B := B) (A := A) g0 g1 (by omega) (by omega)
            try simp only [x1, x2, y1.1, y1.2.1, y2, y3.1, y3.2.1, y4, y6.1, y6.2.1] at *
            rcases lagV_spec k B A g with ⟨q, _⟩ | ⟨_, q, v⟩ | ⟨_, q, c, v⟩ | ⟨_, q, c, v⟩
            all_goals first
            | (exfalso; omega)
            | (exfalso
               simp only [not_true_eq_false] at *
               done)
            | (rw [E, v]
               done)
            | (rw [E, v]
               rfl)
            | (rw [E, v]
               simp only [Value.tuple.injEq, Array.mk.injEq, List.cons.injEq, Value.int.injEq, true_and, and_true]
               omega)
            | (rw [E, v]
               simp only [Value.tuple.injEq, Array.mk.injEq, List.cons.injEq, Value.int.injEq, true_and, and_true]
               exact ⟨by omega, rfl⟩)
        · rcases e1 with ⟨E, V0, Z⟩ | ⟨E, hs, _⟩
          · have s1 := smI_spec k B A
            first
            | (rw [E, V0]
               done)
            | (rw [E, V0]
               rfl)
            | (exfalso; omega)
          · exact absurd hs hsm)
    ·
     refine ⟨fun h3 => ?_, fun h3 => ?_⟩
     ·
      first
      | (
         have nn1 := wr_i64 (B + A)
         have nn2 := wr_i64 (IntKind.wrap .i64 (B + A) + 1)
         have nn3 := wr_i64 (IntKind.wrap .i64 (IntKind.wrap .i64 (B + A) + 1) * 1000000000)
         by_cases hsm : smI k B A = 0
         · have s1 := smI_spec k B A
           have nn : IntKind.wrap .i64 (IntKind.wrap .i64 (IntKind.wrap .i64 (B + A) + 1) * 1000000000) = slN B A := by omega
           have hh : (slN B A).tdiv 2 = slN B A / 2 := Int.tdiv_eq_ediv_of_nonneg (by omega)
           have hh2 : IntKind.wrap .i64 (slN B A / 2) = slN B A / 2 := by have := wr_i64 (slN B A / 2); omega
           clear s1 nn1 nn2 nn3
           simp only [nn, hh, hh2] at *
           rcases e1 with ⟨E, V0, Z⟩ | ⟨E, hs, hk, g0, g1, B0, B1, A0, A1, N0, N1, NE, hk2⟩
           · have s1 := smI_spec k B A
             first
             | (rw [E, V0]
                done)
             | (rw [E, V0]
                rfl)
             | (exfalso; omega)
           · obtain ⟨y1, y2, y3, y4, y6, x1, x2, x3⟩ := lg_facts (B := B) (A := A) g0 g1 (by omega) (by omega)
             try simp only [x1, x2, y1.1, y1.2.1, y2, y3.1, y3.2.1, y4, y6.1, y6.2.1] at *
             rcases lagV_spec k B A g with ⟨q, _⟩ | ⟨_, q, v⟩ | ⟨_, q, c, v⟩ | ⟨_, q, c, v⟩
             all_goals first
             | (exfalso; omega)
             | (exfalso
                simp only [not_true_eq_false] at *
                done)
             | (rw [E, v]
                done)
             | (rw [E, v]
                rfl)
             | (rw [E, v]
                simp only [Value.tuple.injEq, Array.mk.injEq, List.cons.injEq, Value.int.injEq, true_and, and_true]
                omega)
             | (rw [E, v]
                simp only [Value.tuple.injEq, Array.mk.injEq, List.cons.injEq, Value.int.injEq, true_and, and_true]
                exact ⟨by omega, rfl⟩)
         · rcases e1 with ⟨E, V0, Z⟩ | ⟨E, hs, _⟩
           · have s1 := smI_spec k B A
             first
             | (rw [E, V0]
                done)
             | (rw [E, V0]
                rfl)
             | (exfalso; omega)
           · exact absurd hs hsm)
     ·
      refine ⟨fun h4 => ?_, fun h4 => ?_⟩
      ·
       first
       | (
          have nn1 := wr_i64 (B + A)
          have nn2 := wr_i64 (IntKind.wrap .i64 (B + A) + 1)
          have nn3 := wr_i64 (IntKind.wrap .i64 (IntKind.wrap .i64 (B + A) + 1) * 1000000000)
          by_cases hsm : smI k B A = 0
          · have s1 := smI_spec k B A
            have nn : IntKind.wrap .i64 (IntKind.wrap .i64 (IntKind.wrap .i64 (B + A) + 1) * 1000000000) = slN B A := by omega
            have hh : (slN B A).tdiv 2 = slN B A / 2 := Int.tdiv_eq_ediv_of_nonneg (by omega)
            have hh2 : IntKind.wrap .i64 (slN B A / 2) = slN B A / 2 := by have := wr_i64 (slN B A / 2); omega
            clear s1 nn1 nn2 nn3
            simp only [nn, hh, hh2] at *
            rcases e1 with ⟨E, V0, Z⟩ | ⟨E, hs, hk, g0, g1, B0, B1, A0, A1, N0, N1, NE, hk2⟩
            · have s1 := smI_spec k B A
              first
              | (rw [E, V0]
                 done)
              | (rw [E, V0]
                 rfl)
              | (exfalso; omega)
            · obtain ⟨y1, y2, y3, y4, y6, x1, x2, x3⟩ := lg_facts (B := B) (A := A) g0 g1 (by omega) (by omega)
              try simp only [x1, x2, y1.1, y1.2.1, y2, y3.1, y3.2.1, y4, y6.1, y6.2.1] at *
              rcases lagV_spec k B A g with ⟨q, _⟩ | ⟨_, q, v⟩ | ⟨_, q, c, v⟩ | ⟨_, q, c, v⟩
              all_goals first
              | (exfalso; omega)
              | (exfalso
                 simp only [not_true_eq_false] at *
                 done)
              | (rw [E, v]
                 done)
              | (rw [E, v]
                 rfl)
              | (rw [E, v]
                 simp only [Value.tuple.injEq, Array.mk.injEq, List.cons.injEq, Value.int.injEq, true_and, and_true]
                 omega)
              | (rw [E, v]
                 simp only [Value.tuple.injEq, Array.mk.injEq, List.cons.injEq, Value.int.injEq, true_and, and_true]
                 exact ⟨by omega, rfl⟩)
          · rcases e1 with ⟨E, V0, Z⟩ | ⟨E, hs, _⟩
            · have s1 := smI_spec k B A
              first
              | (rw [E, V0]
                 done)
              | (rw [E, V0]
                 rfl)
              | (exfalso; omega)
            · exact absurd hs hsm)
      ·
       refine ⟨fun h5 => ?_, fun h5 => ?_⟩
       ·
        refine ⟨?_, fun h6 => ?_⟩
        ·
         first
         | omega
         | (
            have nn1 := wr_i64 (B + A)
            have nn2 := wr_i64 (IntKind.wrap .i64 (B + A) + 1)
            have nn3 := wr_i64 (IntKind.wrap .i64 (IntKind.wrap .i64 (B + A) + 1) * 1000000000)
            by_cases hsm : smI k B A = 0
            · have s1 := smI_spec k B A
              have nn : IntKind.wrap .i64 (IntKind.wrap .i64 (IntKind.wrap .i64 (B + A) + 1) * 1000000000) = slN B A := by omega
              have hh : (slN B A).tdiv 2 = slN B A / 2 := Int.tdiv_eq_ediv_of_nonneg (by omega)
              have hh2 : IntKind.wrap .i64 (slN B A / 2) = slN B A / 2 := by have := wr_i64 (slN B A / 2); omega
              clear s1 nn1 nn2 nn3
              simp only [nn, hh, hh2] at *
              rcases e1 with ⟨E, V0, Z⟩ | ⟨E, hs, hk, g0, g1, B0, B1, A0, A1, N0, N1, NE, hk2⟩
              · omega
              · obtain ⟨y1, y2, y3, y4, y6, x1, x2, x3⟩ := lg_facts (B := B) (A := A) g0 g1 (by omega) (by omega)
                try simp only [x1, x2, y1.1, y1.2.1, y2, y3.1, y3.2.1, y4, y6.1, y6.2.1] at *
                omega
            · omega)
        ·
         try simp only [hw2]
         try simp only [hw1]
         try simp only [hw0]
         first
         | (
            have nn1 := wr_i64 (B + A)
            have nn2 := wr_i64 (IntKind.wrap .i64 (B + A) + 1)
            have nn3 := wr_i64 (IntKind.wrap .i64 (IntKind.wrap .i64 (B + A) + 1) * 1000000000)
            by_cases hsm : smI k B A = 0
            · have s1 := smI_spec k B A
              have nn : IntKind.wrap .i64 (IntKind.wrap .i64 (IntKind.wrap .i64 (B + A) + 1) * 1000000000) = slN B A := by omega
              have hh : (slN B A).tdiv 2 = slN B A / 2 := Int.tdiv_eq_ediv_of_nonneg (by omega)
              have hh2 : IntKind.wrap .i64 (slN B A / 2) = slN B A / 2 := by have := wr_i64 (slN B A / 2); omega
              clear s1 nn1 nn2 nn3
              simp only [nn, hh, hh2] at *
              rcases e1 with ⟨E, V0, Z⟩ | ⟨E, hs, hk, g0, g1, B0, B1, A0, A1, N0, N1, NE, hk2⟩
              · have s1 := smI_spec k B A
                first
                | (rw [E, V0]
                   done)
                | (rw [E, V0]
                   rfl)
                | (exfalso; omega)
              · obtain ⟨y1, y2, y3, y4, y6, x1, x2, x3⟩ := lg_facts (B := B) (A := A) g0 g1 (by omega) (by omega)
                try simp only [x1, x2, y1.1, y1.2.1, y2, y3.1, y3.2.1, y4, y6.1, y6.2.1] at *
                rcases lagV_spec k B A g with ⟨q, _⟩ | ⟨_, q, v⟩ | ⟨_, q, c, v⟩ | ⟨_, q, c, v⟩
                all_goals first
                | (exfalso; omega)
                | (exfalso
                   simp only [not_true_eq_false] at *
                   done)
                | (rw [E, v]
                   done)
                | (rw [E, v]
                   rfl)
                | (rw [E, v]
                   simp only [Value.tuple.injEq, Array.mk.injEq, List.cons.injEq, Value.int.injEq, true_and, and_true]
                   omega)
                | (rw [E, v]
                   simp only [Value.tuple.injEq, Array.mk.injEq, List.cons.injEq, Value.int.injEq, true_and, and_true]
                   exact ⟨by omega, rfl⟩)
            · rcases e1 with ⟨E, V0, Z⟩ | ⟨E, hs, _⟩
              · have s1 := smI_spec k B A
                first
                | (rw [E, V0]
                   done)
                | (rw [E, V0]
                   rfl)
                | (exfalso; omega)
              · exact absurd hs hsm)
       ·
        refine ⟨fun h7 => ?_, fun h7 => ?_⟩
        ·
         refine ⟨?_, fun h8 => ?_⟩
         ·
          first
          | omega
          | (
             have nn1 := wr_i64 (B + A)
             have nn2 := wr_i64 (IntKind.wrap .i64 (B + A) + 1)
             have nn3 := wr_i64 (IntKind.wrap .i64 (IntKind.wrap .i64 (B + A) + 1) * 1000000000)
             by_cases hsm : smI k B A = 0
             · have s1 := smI_spec k B A
               have nn : IntKind.wrap .i64 (IntKind.wrap .i64 (IntKind.wrap .i64 (B + A) + 1) * 1000000000) = slN B A := by omega
               have hh : (slN B A).tdiv 2 = slN B A / 2 := Int.tdiv_eq_ediv_of_nonneg (by omega)
               have hh2 : IntKind.wrap .i64 (slN B A / 2) = slN B A / 2 := by have := wr_i64 (slN B A / 2); omega
               clear s1 nn1 nn2 nn3
               simp only [nn, hh, hh2] at *
               rcases e1 with ⟨E, V0, Z⟩ | ⟨E, hs, hk, g0, g1, B0, B1, A0, A1, N0, N1, NE, hk2⟩
               · omega
               · obtain ⟨y1, y2, y3, y4, y6, x1, x2, x3⟩ := lg_facts (B := B) (A := A) g0 g1 (by omega) (by omega)
                 try simp only [x1, x2, y1.1, y1.2.1, y2, y3.1, y3.2.1, y4, y6.1, y6.2.1] at *
                 omega
             · omega)
         ·
          try simp only [hw2]
          try simp only [hw1]
          try simp only [hw0]
          refine ⟨?_, fun h9 => ?_⟩
          ·
           first
           | omega
           | (
              have nn1 := wr_i64 (B + A)
              have nn2 := wr_i64 (IntKind.wrap .i64 (B + A) + 1)
              have nn3 := wr_i64 (IntKind.wrap .i64 (IntKind.wrap .i64 (B + A) + 1) * 1000000000)
              by_cases hsm : smI k B A = 0
              · have s1 := smI_spec k B A
                have nn : IntKind.wrap .i64 (IntKind.wrap .i64 (IntKind.wrap .i64 (B + A) + 1) * 1000000000) = slN B A := by omega
                have hh : (slN B A).tdiv 2 = slN B A / 2 := Int.tdiv_eq_ediv_of_nonneg (by omega)
                have hh2 : IntKind.wrap .i64 (slN B A / 2) = slN B A / 2 := by have := wr_i64 (slN B A / 2); omega
                clear s1 nn1 nn2 nn3
                simp only [nn, hh, hh2] at *
                rcases e1 with ⟨E, V0, Z⟩ | ⟨E, hs, hk, g0, g1, B0, B1, A0, A1, N0, N1, NE, hk2⟩
                · omega
                · obtain ⟨y1, y2, y3, y4, y6, x1, x2, x3⟩ := lg_facts (B := B) (A := A) g0 g1 (by omega) (by omega)
                  try simp only [x1, x2, y1.1, y1.2.1, y2, y3.1, y3.2.1, y4, y6.1, y6.2.1] at *
                  omega
              · omega)
          ·
           try simp only [hw2]
           try simp only [hw1]
           try simp only [hw0]
           first
           | (
              have nn1 := wr_i64 (B + A)
              have nn2 := wr_i64 (IntKind.wrap .i64 (B + A) + 1)
              have nn3 := wr_i64 (IntKind.wrap .i64 (IntKind.wrap .i64 (B + A) + 1) * 1000000000)
              by_cases hsm : smI k B A = 0
              · have s1 := smI_spec k B A
                have nn : IntKind.wrap .i64 (IntKind.wrap .i64 (IntKind.wrap .i64 (B + A) + 1) * 1000000000) = slN B A := by omega
                have hh : (slN B A).tdiv 2 = slN B A / 2 := Int.tdiv_eq_ediv_of_nonneg (by omega)
                have hh2 : IntKind.wrap .i64 (slN B A / 2) = slN B A / 2 := by have := wr_i64 (slN B A / 2); omega
                clear s1 nn1 nn2 nn3
                simp only [nn, hh, hh2] at *
                rcases e1 with ⟨E, V0, Z⟩ | ⟨E, hs, hk, g0, g1, B0, B1, A0, A1, N0, N1, NE, hk2⟩
                · have s1 := smI_spec k B A
                  first
                  | (rw [E, V0]
                     done)
                  | (rw [E, V0]
                     rfl)
                  | (exfalso; omega)
                · obtain ⟨y1, y2, y3, y4, y6, x1, x2, x3⟩ := lg_facts (B := B) (A := A) g0 g1 (by omega) (by omega)
                  try simp only [x1, x2, y1.1, y1.2.1, y2, y3.1, y3.2.1, y4, y6.1, y6.2.1] at *
                  rcases lagV_spec k B A g with ⟨q, _⟩ | ⟨_, q, v⟩ | ⟨_, q, c, v⟩ | ⟨_, q, c, v⟩
                  all_goals first
                  | (exfalso; omega)
                  | (exfalso
                     simp only [not_true_eq_false] at *
                     done)
                  | (rw [E, v]
                     done)
                  | (rw [E, v]
                     rfl)
                  | (rw [E, v]
                     simp only [Value.tuple.injEq, Array.mk.injEq, List.cons.injEq, Value.int.injEq, true_and, and_true]
                     omega)
                  | (rw [E, v]
                     simp only [Value.tuple.injEq, Array.mk.injEq, List.cons.injEq, Value.int.injEq, true_and, and_true]
                     exact ⟨by omega, rfl⟩)
              · rcases e1 with ⟨E, V0, Z⟩ | ⟨E, hs, _⟩
                · have s1 := smI_spec k B A
                  first
                  | (rw [E, V0]
                     done)
                  | (rw [E, V0]
                     rfl)
                  | (exfalso; omega)
                · exact absurd hs hsm)
        ·
         refine ⟨?_, fun h10 => ?_⟩
         ·
          first
          | omega
          | (
             have nn1 := wr_i64 (B + A)
             have nn2 := wr_i64 (IntKind.wrap .i64 (B + A) + 1)
             have nn3 := wr_i64 (IntKind.wrap .i64 (IntKind.wrap .i64 (B + A) + 1) * 1000000000)
             by_cases hsm : smI k B A = 0
             · have s1 := smI_spec k B A
               have nn : IntKind.wrap .i64 (IntKind.wrap .i64 (IntKind.wrap .i64 (B + A) + 1) * 1000000000) = slN B A := by omega
               have hh : (slN B A).tdiv 2 = slN B A / 2 := Int.tdiv_eq_ediv_of_nonneg (by omega)
               have hh2 : IntKind.wrap .i64 (slN B A / 2) = slN B A / 2 := by have := wr_i64 (slN B A / 2); omega
               clear s1 nn1 nn2 nn3
               simp only [nn, hh, hh2] at *
               rcases e1 with ⟨E, V0, Z⟩ | ⟨E, hs, hk, g0, g1, B0, B1, A0, A1, N0, N1, NE, hk2⟩
               · omega
               · obtain ⟨y1, y2, y3, y4, y6, x1, x2, x3⟩ := lg_facts (B := B) (A := A) g0 g1 (by omega) (by omega)
                 try simp only [x1, x2, y1.1, y1.2.1, y2, y3.1, y3.2.1, y4, y6.1, y6.2.1] at *
                 omega
             · omega)
         ·
          try simp only [hw4]
          try simp only [hw2]
          try simp only [hw1]
          try simp only [hw0]
          refine ⟨?_, fun h11 => ?_⟩
          ·
           first
           | omega
           | (
              have nn1 := wr_i64 (B + A)
              have nn2 := wr_i64 (IntKind.wrap .i64 (B + A) + 1)
              have nn3 := wr_i64 (IntKind.wrap .i64 (IntKind.wrap .i64 (B + A) + 1) * 1000000000)
              by_cases hsm : smI k B A = 0
              · have s1 := smI_spec k B A
                have nn : IntKind.wrap .i64 (IntKind.wrap .i64 (IntKind.wrap .i64 (B + A) + 1) * 1000000000) = slN B A := by omega
                have hh : (slN B A).tdiv 2 = slN B A / 2 := Int.tdiv_eq_ediv_of_nonneg (by omega)
                have hh2 : IntKind.wrap .i64 (slN B A / 2) = slN B A / 2 := by have := wr_i64 (slN B A / 2); omega
                clear s1 nn1 nn2 nn3
                simp only [nn, hh, hh2] at *
                rcases e1 with ⟨E, V0, Z⟩ | ⟨E, hs, hk, g0, g1, B0, B1, A0, A1, N0, N1, NE, hk2⟩
                · omega
                · obtain ⟨y1, y2, y3, y4, y6, x1, x2, x3⟩ := lg_facts (B := B) (A := A) g0 g1 (by omega) (by omega)
                  try simp only [x1, x2, y1.1, y1.2.1, y2, y3.1, y3.2.1, y4, y6.1, y6.2.1] at *
                  omega
              · omega)
          ·
           try simp only [hw4]
           try simp only [hw2]
           try simp only [hw1]
           try simp only [hw0]
           first
           | (
              have nn1 := wr_i64 (B + A)
              have nn2 := wr_i64 (IntKind.wrap .i64 (B + A) + 1)
              have nn3 := wr_i64 (IntKind.wrap .i64 (IntKind.wrap .i64 (B + A) + 1) * 1000000000)
              by_cases hsm : smI k B A = 0
              · have s1 := smI_spec k B A
                have nn : IntKind.wrap .i64 (IntKind.wrap .i64 (IntKind.wrap .i64 (B + A) + 1) * 1000000000) = slN B A := by omega
                have hh : (slN B A).tdiv 2 = slN B A / 2 := Int.tdiv_eq_ediv_of_nonneg (by omega)
                have hh2 : IntKind.wrap .i64 (slN B A / 2) = slN B A / 2 := by have := wr_i64 (slN B A / 2); omega
                clear s1 nn1 nn2 nn3
                simp only [nn, hh, hh2] at *
                rcases e1 with ⟨E, V0, Z⟩ | ⟨E, hs, hk, g0, g1, B0, B1, A0, A1, N0, N1, NE, hk2⟩
                · have s1 := smI_spec k B A
                  first
                  | (rw [E, V0]
                     done)
                  | (rw [E, V0]
                     rfl)
                  | (exfalso; omega)
                · obtain ⟨y1, y2, y3, y4, y6, x1, x2, x3⟩ := lg_facts (B := B) (A := A) g0 g1 (by omega) (by omega)
                  try simp only [x1, x2, y1.1, y1.2.1, y2, y3.1, y3.2.1, y4, y6.1, y6.2.1] at *
                  rcases lagV_spec k B A g with ⟨q, _⟩ | ⟨_, q, v⟩ | ⟨_, q, c, v⟩ | ⟨_, q, c, v⟩
                  all_goals first
                  | (exfalso; omega)
                  | (exfalso
                     simp only [not_true_eq_false] at *
                     done)
                  | (rw [E, v]
                     done)
                  | (rw [E, v]
                     rfl)
                  | (rw [E, v]
                     simp only [Value.tuple.injEq, Array.mk.injEq, List.cons.injEq, Value.int.injEq, true_and, and_true]
                     omega)
                  | (rw [E, v]
                     simp only [Value.tuple.injEq, Array.mk.injEq, List.cons.injEq, Value.int.injEq, true_and, and_true]
                     exact ⟨by omega, rfl⟩)
              · rcases e1 with ⟨E, V0, Z⟩ | ⟨E, hs, _⟩
                · have s1 := smI_spec k B A
                  first
                  | (rw [E, V0]
                     done)
                  | (rw [E, V0]
                     rfl)
                  | (exfalso; omega)
                · exact absurd hs hsm)
theorem s12bg_rlag : s12bc_rlag.Good Tryd.prog syG (s12bE [] [] [] []) := good_of_walk (Γ := ⟨[s12c_rmay12, s12c_rmdiv, s12c_rup], syG, [], [], []⟩) (ρ := s12bE [] [] [] []) sym rlag_w rfl (fun _ _ _ _ => (ok_cons (Con.Good.env (Con.Good.up s12g_rmay12 s12bup rfl) _ _ _ _) (ok_cons (Con.Good.env (Con.Good.up s12g_rmdiv s12bup rfl) _ _ _ _) (ok_cons (Con.Good.env (Con.Good.up s12g_rup s12bup rfl) _ _ _ _) ok_nil)))) (fun k B A g hc hty => rlag_h k B A g hc hty)
def rat_tree : Tree :=
 (.need (an_ (an_ (le_ lm_ v0_) (le_ v0_ lM_)) (an_ (an_ (le_ lm_ v1_) (le_ v1_ lM_)) (an_ (le_ lm_ v2_) (le_ v2_ lM_))))
 (.br (.not (eq_ (.iapp 24 (.cons z0_ (.cons z1_ (.cons z2_ (.cons z3_ (.cons z4_ (.cons o0_ .nil))))))) (.lit 0)))
 (.ret (.tup (.cons (.int .i64 (.lit 0)) (.cons (.int .i64 (.iapp 24 (.cons z0_ (.cons z1_ (.cons z2_ (.cons z3_ (.cons z4_ (.cons o0_ .nil)))))))) .nil))))
 (.need (an_ (le_ lm_ v5_) (le_ v5_ lM_))
 (.br (.not (eq_ (.iapp 9 (.cons z3_ (.cons z4_ (.cons o0_ (.cons z5_ .nil))))) (.lit 0)))
 (.ret (.tup (.cons (.int .i64 (.lit 0)) (.cons (.int .i64 (.iapp 9 (.cons z3_ (.cons z4_ (.cons o0_ (.cons z5_ .nil)))))) .nil))))
 (.loop ⟨1, 0, 0, 0⟩ (an_ (le_ (.lit 0) (.lit 0)) (an_ (le_ (.lit 0) (.ofI (.vop (.len 1) (.cons o0_ .nil)))) (.bapp 3 (.cons z1_ (.cons z2_ (.cons z3_ (.cons o0_ (.cons z5_ (.cons (.int .i64 (.lit 0)) .nil))))))))) (an_ (le_ (.lit 0) v6_) (an_ (le_ v6_ (.ofI (.vop (.len 1) (.cons o0_ .nil)))) (.bapp 3 (.cons z1_ (.cons z2_ (.cons z3_ (.cons o0_ (.cons z5_ (.cons z6_ .nil)))))))))
 (.br (lt_ v6_ (.ofI (.vop (.len 1) (.cons o0_ .nil))))
 (.br (lt_ (.lit 0) v0_)
 (.need (an_ (an_ (le_ (.lit 0) v1_) (an_ (le_ v1_ (.lit 43200)) (an_ (le_ (.lit 0) v2_) (le_ v2_ (.lit 43200))))) (an_ (eq_ (.iapp 0 (.cons z3_ (.cons z4_ (.cons o0_ .nil)))) (.lit 0)) (an_ (le_ (.lit 0) v6_) (lt_ v6_ (.ofI (.vop (.len 1) (.cons o0_ .nil)))))))
 (.br (le_ (.iapp 40 (.cons z1_ (.cons z3_ (.cons o0_ (.cons z6_ .nil))))) v5_)
 (.br (lt_ v5_ (ad_ (.iapp 40 (.cons z1_ (.cons z3_ (.cons o0_ (.cons z6_ .nil))))) (.iapp 21 (.cons z1_ (.cons z2_ .nil)))))
 (.need (an_ (an_ (an_ (le_ lm_ v0_) (le_ v0_ lM_)) (an_ (an_ (le_ lm_ v1_) (le_ v1_ lM_)) (an_ (le_ lm_ v2_) (le_ v2_ lM_)))) (an_ (le_ lm_ (wr_ (sb_ v5_ (.iapp 40 (.cons z1_ (.cons z3_ (.cons o0_ (.cons z6_ .nil)))))))) (le_ (wr_ (sb_ v5_ (.iapp 40 (.cons z1_ (.cons z3_ (.cons o0_ (.cons z6_ .nil))))))) lM_)))
 (.need (an_ (le_ (.lit 0) v6_) (lt_ v6_ (.ofI (.vop (.len 1) (.cons o0_ .nil)))))
 (.need (an_ (le_ (.lit 0) v3_) (an_ (le_ v3_ (.lit 100)) (an_ (le_ (.ofI (.vop (.len 1) (.cons o0_ .nil))) (.lit 32)) (an_ (le_ (.lit (-100000)) (.ofI (.vop (.sel 1 0) (.cons o0_ (.cons z6_ .nil))))) (le_ (.ofI (.vop (.sel 1 0) (.cons o0_ (.cons z6_ .nil)))) (.lit 100000))))))
 (.need (an_ (le_ (.lit 0) v6_) (lt_ v6_ (.ofI (.vop (.len 1) (.cons o0_ .nil)))))
 (.ret (.tup (.cons (.int .i64 (wr_ (sb_ (wr_ (sb_ v5_ (wr_ (ml_ (wr_ (sb_ (.iapp 5 (.cons z3_ (.cons o0_ (.cons (.int .i64 (.ofI (.vop (.sel 1 0) (.cons o0_ (.cons z6_ .nil))))) .nil)))) (wr_ (ml_ (.lit 86400) (.ofI (.vop (.sel 1 0) (.cons o0_ (.cons z6_ .nil)))))))) (.lit 1000000000))))) (.iapp 27 (.cons z0_ (.cons z1_ (.cons z2_ (.cons (.int .i64 (wr_ (sb_ v5_ (.iapp 40 (.cons z1_ (.cons z3_ (.cons o0_ (.cons z6_ .nil)))))))) .nil)))))))) (.cons (.int .i64 (.lit 0)) .nil))))))))
 (.back (an_ (le_ (.lit 0) (wr_ (ad_ v6_ (.lit 1)))) (an_ (le_ (wr_ (ad_ v6_ (.lit 1))) (.ofI (.vop (.len 1) (.cons o0_ .nil)))) (.bapp 3 (.cons z1_ (.cons z2_ (.cons z3_ (.cons o0_ (.cons z5_ (.cons (.int .i64 (wr_ (ad_ v6_ (.lit 1)))) .nil))))))))) (sb_ (.ofI (.vop (.len 1) (.cons o0_ .nil))) (wr_ (ad_ v6_ (.lit 1)))) (sb_ (.ofI (.vop (.len 1) (.cons o0_ .nil))) v6_)))
 (.back (an_ (le_ (.lit 0) (wr_ (ad_ v6_ (.lit 1)))) (an_ (le_ (wr_ (ad_ v6_ (.lit 1))) (.ofI (.vop (.len 1) (.cons o0_ .nil)))) (.bapp 3 (.cons z1_ (.cons z2_ (.cons z3_ (.cons o0_ (.cons z5_ (.cons (.int .i64 (wr_ (ad_ v6_ (.lit 1)))) .nil))))))))) (sb_ (.ofI (.vop (.len 1) (.cons o0_ .nil))) (wr_ (ad_ v6_ (.lit 1)))) (sb_ (.ofI (.vop (.len 1) (.cons o0_ .nil))) v6_))))
 (.need (an_ (le_ (.lit 0) v3_) (an_ (le_ v3_ (.lit 100)) (an_ (le_ (.ofI (.vop (.len 1) (.cons o0_ .nil))) (.lit 32)) (an_ (le_ (.lit (-100000)) (.iapp 10 (.cons z3_ (.cons z4_ (.cons o0_ (.cons z5_ .nil)))))) (le_ (.iapp 10 (.cons z3_ (.cons z4_ (.cons o0_ (.cons z5_ .nil))))) (.lit 100000))))))
 (.ret (.tup (.cons (.int .i64 (wr_ (sb_ v5_ (wr_ (ml_ (wr_ (sb_ (.iapp 5 (.cons z3_ (.cons o0_ (.cons (.int .i64 (.iapp 10 (.cons z3_ (.cons z4_ (.cons o0_ (.cons z5_ .nil)))))) .nil)))) (wr_ (ml_ (.lit 86400) (.iapp 10 (.cons z3_ (.cons z4_ (.cons o0_ (.cons z5_ .nil))))))))) (.lit 1000000000)))))) (.cons (.int .i64 (.lit 0)) .nil))))))
 (.need (an_ (le_ (.lit 0) v3_) (an_ (le_ v3_ (.lit 100)) (an_ (le_ (.ofI (.vop (.len 1) (.cons o0_ .nil))) (.lit 32)) (an_ (le_ (.lit (-100000)) (.iapp 10 (.cons z3_ (.cons z4_ (.cons o0_ (.cons z5_ .nil)))))) (le_ (.iapp 10 (.cons z3_ (.cons z4_ (.cons o0_ (.cons z5_ .nil))))) (.lit 100000))))))
 (.ret (.tup (.cons (.int .i64 (wr_ (sb_ v5_ (wr_ (ml_ (wr_ (sb_ (.iapp 5 (.cons z3_ (.cons o0_ (.cons (.int .i64 (.iapp 10 (.cons z3_ (.cons z4_ (.cons o0_ (.cons z5_ .nil)))))) .nil)))) (wr_ (ml_ (.lit 86400) (.iapp 10 (.cons z3_ (.cons z4_ (.cons o0_ (.cons z5_ .nil))))))))) (.lit 1000000000)))))) (.cons (.int .i64 (.lit 0)) .nil)))))))))))
abbrev s12bc_rat : Con := ⟨74, [(.agg (.cons z0_ (.cons z1_ (.cons z2_ .nil)))), (.agg (.cons z3_ (.cons z4_ (.cons (.hs .no (.cons (.int .i64) .nil) o0_) .nil)))), z5_], (an_ (an_ (an_ (le_ lm_ v0_) (le_ v0_ lM_)) (an_ (an_ (le_ lm_ v1_) (le_ v1_ lM_)) (an_ (le_ lm_ v2_) (le_ v2_ lM_)))) (an_ (le_ lm_ v5_) (le_ v5_ lM_))), (.tup (.cons (.int .i64 (.iapp 31 (.cons z0_ (.cons z1_ (.cons z2_ (.cons z3_ (.cons z4_ (.cons o0_ (.cons z5_ .nil))))))))) (.cons (.int .i64 (.iapp 30 (.cons z0_ (.cons z1_ (.cons z2_ (.cons z3_ (.cons z4_ (.cons o0_ (.cons z5_ .nil))))))))) .nil))), ⟨6, 0, 1, 0⟩, none⟩
theorem rat_w : walk Tryd.prog 182 ⟨[s12bc_rfits, y9c_rutc, y9c_rsec, s12bc_rlag, s12bc_rwin], syG, [], [], []⟩ [⟨0, ⟨1, 0, 0, 0⟩, [(10, z6_)], none, (an_ (le_ (.lit 0) v6_) (an_ (le_ v6_ (.ofI (.vop (.len 1) (.cons o0_ .nil)))) (.bapp 3 (.cons z1_ (.cons z2_ (.cons z3_ (.cons o0_ (.cons z5_ (.cons z6_ .nil))))))))), (sb_ (.ofI (.vop (.len 1) (.cons o0_ .nil))) v6_), 0, []⟩] .v s12bc_rat s12bc_rat.n 3000 = some rat_tree := by kernel_rfl
set_option maxHeartbeats 4000000 in
theorem rat_h (k : Int) (B : Int) (A : Int) (b : Int) (t : Int) (n : Int) (l : Value) (hc : holds (s12bE [k, B, A, b, t, n] [] [l] []) (an_ (an_ (an_ (le_ lm_ v0_) (le_ v0_ lM_)) (an_ (an_ (le_ lm_ v1_) (le_ v1_ lM_)) (an_ (le_ lm_ v2_) (le_ v2_ lM_)))) (an_ (le_ lm_ v5_) (le_ v5_ lM_)))) (hty : patsTyp (s12bE [k, B, A, b, t, n] [] [l] []) [(.agg (.cons z0_ (.cons z1_ (.cons z2_ .nil)))), (.agg (.cons z3_ (.cons z4_ (.cons (.hs .no (.cons (.int .i64) .nil) o0_) .nil)))), z5_]) : rat_tree.holds (fun v_ => v_ = denV (s12bE [k, B, A, b, t, n] [] [l] []) b0 (.tup (.cons (.int .i64 (.iapp 31 (.cons z0_ (.cons z1_ (.cons z2_ (.cons z3_ (.cons z4_ (.cons o0_ (.cons z5_ .nil))))))))) (.cons (.int .i64 (.iapp 30 (.cons z0_ (.cons z1_ (.cons z2_ (.cons z3_ (.cons z4_ (.cons o0_ (.cons z5_ .nil))))))))) .nil)))) (s12bE [k, B, A, b, t, n] [] [l] []) := by
  simp only [Tree.holds, Sy.holds, AllN, Env.more, s12bE, List.cons_append, List.nil_append, List.append_nil, denV, denI, denB, denL, I2.den, VOp.den, List.getD_cons_zero, List.getD_cons_succ, Cst.den, syso, syse, syio, sybo, List.map_nil, List.map_cons, B2.ofInts, B2.denI, B2.denB, if_true, Bool.false_eq_true, if_false, Nat.div_one, Nat.mul_one, Nat.add_zero, holds] at hc
  simp only [patsTyp, patTyp, patTypL, s12bE, denV, denL, List.getD_cons_zero, List.getD_cons_succ, and_true, true_and] at hty
  have hL_l : typ (.sl (.cons (.int .i64) .nil)) l := by first | exact hty | exact hty.1 | exact hty.2 | exact hty.1.1 | exact hty.1.2 | exact hty.2.1 | exact hty.2.2 | exact hty.2.2.1 | exact hty.2.2.2
  have hN_l := typ_len (n := 1) hL_l rfl (by omega)
  simp only [Nat.div_one, Nat.mul_one] at hN_l
  unfold rat_tree
  simp only [Tree.holds, Sy.holds, AllN, Env.more, s12bE, List.cons_append, List.nil_append, List.append_nil, denV, denI, denB, denL, I2.den, VOp.den, List.getD_cons_zero, List.getD_cons_succ, Cst.den, syso, syse, syio, sybo, s12bi_may, s12bi_sec, s12bi_utcE, s12bi_utcD, s12bi_sln, s12bi_fits, s12bi_lgv, s12bi_ate, s12bi_atv, s12bi_wbj, s12bb_noj, List.map_nil, List.map_cons, B2.ofInts, B2.denI, B2.denB, if_true, Bool.false_eq_true, if_false, Nat.div_one, Nat.mul_one, Nat.add_zero]
  have s1 := smI_spec k B A
  have f1 := fitsI_spec k B A b t (intsOf l)
  have m1 := mayI_spec b t (intsOf l)
  have n1 := slN_spec B A
  have hlen := ints_len l
  have a1 := at_spec k B A b t n (intsOf l)
  have u1 := utc_spec b t (intsOf l) n
  have x1 := utcE_spec b t (intsOf l) n
  refine ⟨?_, fun h0 => ?_⟩
  ·
   first
   | omega
   | exact ⟨⟨by omega, by omega, by omega⟩, by omega⟩
  ·
   refine ⟨fun h1 => ?_, fun h1 => ?_⟩
   ·
    first
    | (rw [at_bad (show atE k B A b t (intsOf l) n ≠ 0 by omega), show atE k B A b t (intsOf l) n = fitsI k B A b t (intsOf l) by omega]
       done)
    | (rw [at_bad (show atE k B A b t (intsOf l) n ≠ 0 by omega), show atE k B A b t (intsOf l) n = utcE b t (intsOf l) n by omega]
       done)
    | (exfalso; omega)
   ·
    refine ⟨?_, fun h2 => ?_⟩
    ·
     first
     | omega
     | exact ⟨⟨by omega, by omega, by omega⟩, by omega⟩
    ·
     refine ⟨fun h3 => ?_, fun h3 => ?_⟩
     ·
      first
      | (rw [at_bad (show atE k B A b t (intsOf l) n ≠ 0 by omega), show atE k B A b t (intsOf l) n = fitsI k B A b t (intsOf l) by omega]
         done)
      | (rw [at_bad (show atE k B A b t (intsOf l) n ≠ 0 by omega), show atE k B A b t (intsOf l) n = utcE b t (intsOf l) n by omega]
         done)
      | (exfalso; omega)
     ·
      refine ⟨?_, ?_⟩
      ·
       exact ⟨by omega, by omega, rfl⟩
      ·
       intro i0a hi0
       refine ⟨fun h4 => ?_, fun h4 => ?_⟩
       ·
        refine ⟨fun h5 => ?_, fun h5 => ?_⟩
        ·
         refine ⟨?_, fun h6 => ?_⟩
         ·
          have up : utcE b t (intsOf l) n = 0 → wrongI b t (intsOf l) (utcD b t (intsOf l) n) = 0 ∧ -50000 ≤ utcD b t (intsOf l) n ∧ utcD b t (intsOf l) n < t := fun h => by
            have := utc_parts h
            exact ⟨wrong_ok this.1 this.2.1 this.2.2.1, this.2.1, this.2.2.1⟩
          have us := secL_spec b (intsOf l) (utcD b t (intsOf l) n)
          first
          | omega
          | (have up2 := up (by omega)
             omega)
          | (
             obtain ⟨q0, q1, q2⟩ := hi0
             have hi : i0a.toNat < (Sy.rows l).length := by omega
             have hml : mayL b t (intsOf l) = true := by
               rcases m1 with ⟨x, _⟩ | ⟨_, x, _⟩
               · exfalso; omega
               · exact x
             have hsa := sec_at hml (i := i0a.toNat) (by omega)
             have hg := ints_get l hi
             have hs0 := secL_spec b (intsOf l) ((intsOf l).getD i0a.toNat 0)
             have e9 : wbJ B b (intsOf l) i0a.toNat = (secL b (intsOf l) ((intsOf l).getD i0a.toNat 0) + 86400 - B) * 1000000000 := rfl
             have hz := wr_i64 (n - wbJ B b (intsOf l) i0a.toNat)
             have hI := inJ_spec B A b (intsOf l) n i0a.toNat
             have li := lag_in (k := k) (B := B) (A := A) (g := n - wbJ B b (intsOf l) i0a.toNat)
             have le := lagE_spec k B A (n - wbJ B b (intsOf l) i0a.toNat)
             simp only [hg] at *
             first
             | omega
             | exact ⟨⟨by omega, by omega, by omega⟩, by omega⟩
             | exact ⟨⟨by omega, by omega, by omega, by omega⟩, by omega, by omega, by omega⟩
             | exact ⟨by omega, by omega, by omega, by omega, by omega⟩)
         ·
          refine ⟨fun h7 => ?_, fun h7 => ?_⟩
          ·
           refine ⟨fun h8 => ?_, fun h8 => ?_⟩
           ·
            have wf0 := wr_i64 (n - (wbJ B b (intsOf l) i0a.toNat))
            refine ⟨?_, fun h9 => ?_⟩
            ·
             have up : utcE b t (intsOf l) n = 0 → wrongI b t (intsOf l) (utcD b t (intsOf l) n) = 0 ∧ -50000 ≤ utcD b t (intsOf l) n ∧ utcD b t (intsOf l) n < t := fun h => by
               have := utc_parts h
               exact ⟨wrong_ok this.1 this.2.1 this.2.2.1, this.2.1, this.2.2.1⟩
             have us := secL_spec b (intsOf l) (utcD b t (intsOf l) n)
             first
             | omega
             | (have up2 := up (by omega)
                omega)
             | (
                obtain ⟨q0, q1, q2⟩ := hi0
                have hi : i0a.toNat < (Sy.rows l).length := by omega
                have hml : mayL b t (intsOf l) = true := by
                  rcases m1 with ⟨x, _⟩ | ⟨_, x, _⟩
                  · exfalso; omega
                  · exact x
                have hsa := sec_at hml (i := i0a.toNat) (by omega)
                have hg := ints_get l hi
                have hs0 := secL_spec b (intsOf l) ((intsOf l).getD i0a.toNat 0)
                have e9 : wbJ B b (intsOf l) i0a.toNat = (secL b (intsOf l) ((intsOf l).getD i0a.toNat 0) + 86400 - B) * 1000000000 := rfl
                have hz := wr_i64 (n - wbJ B b (intsOf l) i0a.toNat)
                have hI := inJ_spec B A b (intsOf l) n i0a.toNat
                have li := lag_in (k := k) (B := B) (A := A) (g := n - wbJ B b (intsOf l) i0a.toNat)
                have le := lagE_spec k B A (n - wbJ B b (intsOf l) i0a.toNat)
                simp only [hg] at *
                first
                | omega
                | exact ⟨⟨by omega, by omega, by omega⟩, by omega⟩
                | exact ⟨⟨by omega, by omega, by omega, by omega⟩, by omega, by omega, by omega⟩
                | exact ⟨by omega, by omega, by omega, by omega, by omega⟩)
            ·
             refine ⟨?_, fun h10 => ?_⟩
             ·
              have up : utcE b t (intsOf l) n = 0 → wrongI b t (intsOf l) (utcD b t (intsOf l) n) = 0 ∧ -50000 ≤ utcD b t (intsOf l) n ∧ utcD b t (intsOf l) n < t := fun h => by
                have := utc_parts h
                exact ⟨wrong_ok this.1 this.2.1 this.2.2.1, this.2.1, this.2.2.1⟩
              have us := secL_spec b (intsOf l) (utcD b t (intsOf l) n)
              first
              | omega
              | (have up2 := up (by omega)
                 omega)
              | (
                 obtain ⟨q0, q1, q2⟩ := hi0
                 have hi : i0a.toNat < (Sy.rows l).length := by omega
                 have hml : mayL b t (intsOf l) = true := by
                   rcases m1 with ⟨x, _⟩ | ⟨_, x, _⟩
                   · exfalso; omega
                   · exact x
                 have hsa := sec_at hml (i := i0a.toNat) (by omega)
                 have hg := ints_get l hi
                 have hs0 := secL_spec b (intsOf l) ((intsOf l).getD i0a.toNat 0)
                 have e9 : wbJ B b (intsOf l) i0a.toNat = (secL b (intsOf l) ((intsOf l).getD i0a.toNat 0) + 86400 - B) * 1000000000 := rfl
                 have hz := wr_i64 (n - wbJ B b (intsOf l) i0a.toNat)
                 have hI := inJ_spec B A b (intsOf l) n i0a.toNat
                 have li := lag_in (k := k) (B := B) (A := A) (g := n - wbJ B b (intsOf l) i0a.toNat)
                 have le := lagE_spec k B A (n - wbJ B b (intsOf l) i0a.toNat)
                 simp only [hg] at *
                 first
                 | omega
                 | exact ⟨⟨by omega, by omega, by omega⟩, by omega⟩
                 | exact ⟨⟨by omega, by omega, by omega, by omega⟩, by omega, by omega, by omega⟩
                 | exact ⟨by omega, by omega, by omega, by omega, by omega⟩)
             ·
              refine ⟨?_, fun h11 => ?_⟩
              ·
               have up : utcE b t (intsOf l) n = 0 → wrongI b t (intsOf l) (utcD b t (intsOf l) n) = 0 ∧ -50000 ≤ utcD b t (intsOf l) n ∧ utcD b t (intsOf l) n < t := fun h => by
                 have := utc_parts h
                 exact ⟨wrong_ok this.1 this.2.1 this.2.2.1, this.2.1, this.2.2.1⟩
               have us := secL_spec b (intsOf l) (utcD b t (intsOf l) n)
               first
               | omega
               | (have up2 := up (by omega)
                  omega)
               | (
                  obtain ⟨q0, q1, q2⟩ := hi0
                  have hi : i0a.toNat < (Sy.rows l).length := by omega
                  have hml : mayL b t (intsOf l) = true := by
                    rcases m1 with ⟨x, _⟩ | ⟨_, x, _⟩
                    · exfalso; omega
                    · exact x
                  have hsa := sec_at hml (i := i0a.toNat) (by omega)
                  have hg := ints_get l hi
                  have hs0 := secL_spec b (intsOf l) ((intsOf l).getD i0a.toNat 0)
                  have e9 : wbJ B b (intsOf l) i0a.toNat = (secL b (intsOf l) ((intsOf l).getD i0a.toNat 0) + 86400 - B) * 1000000000 := rfl
                  have hz := wr_i64 (n - wbJ B b (intsOf l) i0a.toNat)
                  have hI := inJ_spec B A b (intsOf l) n i0a.toNat
                  have li := lag_in (k := k) (B := B) (A := A) (g := n - wbJ B b (intsOf l) i0a.toNat)
                  have le := lagE_spec k B A (n - wbJ B b (intsOf l) i0a.toNat)
                  simp only [hg] at *
                  first
                  | omega
                  | exact ⟨⟨by omega, by omega, by omega⟩, by omega⟩
                  | exact ⟨⟨by omega, by omega, by omega, by omega⟩, by omega, by omega, by omega⟩
                  | exact ⟨by omega, by omega, by omega, by omega, by omega⟩)
              ·
               refine ⟨?_, fun h12 => ?_⟩
               ·
                have up : utcE b t (intsOf l) n = 0 → wrongI b t (intsOf l) (utcD b t (intsOf l) n) = 0 ∧ -50000 ≤ utcD b t (intsOf l) n ∧ utcD b t (intsOf l) n < t := fun h => by
                  have := utc_parts h
                  exact ⟨wrong_ok this.1 this.2.1 this.2.2.1, this.2.1, this.2.2.1⟩
                have us := secL_spec b (intsOf l) (utcD b t (intsOf l) n)
                first
                | omega
                | (have up2 := up (by omega)
                   omega)
                | (
                   obtain ⟨q0, q1, q2⟩ := hi0
                   have hi : i0a.toNat < (Sy.rows l).length := by omega
                   have hml : mayL b t (intsOf l) = true := by
                     rcases m1 with ⟨x, _⟩ | ⟨_, x, _⟩
                     · exfalso; omega
                     · exact x
                   have hsa := sec_at hml (i := i0a.toNat) (by omega)
                   have hg := ints_get l hi
                   have hs0 := secL_spec b (intsOf l) ((intsOf l).getD i0a.toNat 0)
                   have e9 : wbJ B b (intsOf l) i0a.toNat = (secL b (intsOf l) ((intsOf l).getD i0a.toNat 0) + 86400 - B) * 1000000000 := rfl
                   have hz := wr_i64 (n - wbJ B b (intsOf l) i0a.toNat)
                   have hI := inJ_spec B A b (intsOf l) n i0a.toNat
                   have li := lag_in (k := k) (B := B) (A := A) (g := n - wbJ B b (intsOf l) i0a.toNat)
                   have le := lagE_spec k B A (n - wbJ B b (intsOf l) i0a.toNat)
                   simp only [hg] at *
                   first
                   | omega
                   | exact ⟨⟨by omega, by omega, by omega⟩, by omega⟩
                   | exact ⟨⟨by omega, by omega, by omega, by omega⟩, by omega, by omega, by omega⟩
                   | exact ⟨by omega, by omega, by omega, by omega, by omega⟩)
               ·
                have wf1 := wr_i64 (86400 * (Go.RowKit.intOf ((rows l).getD (Int.toNat i0a) Go.undef)))
                have wf2 := wr_i64 ((secL b (intsOf l) (Go.RowKit.intOf ((rows l).getD (Int.toNat i0a) Go.undef))) - (IntKind.wrap .i64 (86400 * (Go.RowKit.intOf ((rows l).getD (Int.toNat i0a) Go.undef)))))
                have wf3 := wr_i64 ((IntKind.wrap .i64 ((secL b (intsOf l) (Go.RowKit.intOf ((rows l).getD (Int.toNat i0a) Go.undef))) - (IntKind.wrap .i64 (86400 * (Go.RowKit.intOf ((rows l).getD (Int.toNat i0a) Go.undef)))))) * 1000000000)
                have wf4 := wr_i64 (n - (IntKind.wrap .i64 ((IntKind.wrap .i64 ((secL b (intsOf l) (Go.RowKit.intOf ((rows l).getD (Int.toNat i0a) Go.undef))) - (IntKind.wrap .i64 (86400 * (Go.RowKit.intOf ((rows l).getD (Int.toNat i0a) Go.undef)))))) * 1000000000)))
                have wf5 := wr_i64 ((IntKind.wrap .i64 (n - (IntKind.wrap .i64 ((IntKind.wrap .i64 ((secL b (intsOf l) (Go.RowKit.intOf ((rows l).getD (Int.toNat i0a) Go.undef))) - (IntKind.wrap .i64 (86400 * (Go.RowKit.intOf ((rows l).getD (Int.toNat i0a) Go.undef)))))) * 1000000000)))) - (lagV k B A (IntKind.wrap .i64 (n - (wbJ B b (intsOf l) i0a.toNat)))))
                try simp only [hw0]
                have up : utcE b t (intsOf l) n = 0 → wrongI b t (intsOf l) (utcD b t (intsOf l) n) = 0 ∧ -50000 ≤ utcD b t (intsOf l) n ∧ utcD b t (intsOf l) n < t := fun h => by
                  have := utc_parts h
                  exact ⟨wrong_ok this.1 this.2.1 this.2.2.1, this.2.1, this.2.2.1⟩
                have us := secL_spec b (intsOf l) (utcD b t (intsOf l) n)
                have hE : atE k B A b t (intsOf l) n = 0 := by omega
                have up2 := up (by omega)
                by_cases hit : i0a < ((Sy.rows l).length : Int) ∧ 0 < k
                · first
                  | (exfalso; omega)
                  | (
                     obtain ⟨q0, q1, q2⟩ := hi0
                     have hi : i0a.toNat < (Sy.rows l).length := by omega
                     have hml : mayL b t (intsOf l) = true := by
                       rcases m1 with ⟨x, _⟩ | ⟨_, x, _⟩
                       · exfalso; omega
                       · exact x
                     have hsa := sec_at hml (i := i0a.toNat) (by omega)
                     have hg := ints_get l hi
                     have hs0 := secL_spec b (intsOf l) ((intsOf l).getD i0a.toNat 0)
                     have e9 : wbJ B b (intsOf l) i0a.toNat = (secL b (intsOf l) ((intsOf l).getD i0a.toNat 0) + 86400 - B) * 1000000000 := rfl
                     have hz := wr_i64 (n - wbJ B b (intsOf l) i0a.toNat)
                     have hI := inJ_spec B A b (intsOf l) n i0a.toNat
                     have li := lag_in (k := k) (B := B) (A := A) (g := n - wbJ B b (intsOf l) i0a.toNat)
                     have le := lagE_spec k B A (n - wbJ B b (intsOf l) i0a.toNat)
                     simp only [hg] at *
                     have li2 := li (by omega) (by omega) (by omega) (by omega)
                     have hz2 : IntKind.wrap .i64 (n - wbJ B b (intsOf l) i0a.toNat) = n - wbJ B b (intsOf l) i0a.toNat := by omega
                     simp only [hz2] at *
                     have v1 := wr_i64 (86400 * ((intsOf l).getD i0a.toNat 0))
                     have v2 := wr_i64 (secL b (intsOf l) ((intsOf l).getD i0a.toNat 0) - IntKind.wrap .i64 (86400 * ((intsOf l).getD i0a.toNat 0)))
                     have v3 := wr_i64 (IntKind.wrap .i64 (secL b (intsOf l) ((intsOf l).getD i0a.toNat 0) - IntKind.wrap .i64 (86400 * ((intsOf l).getD i0a.toNat 0))) * 1000000000)
                     have v4 := wr_i64 (n - IntKind.wrap .i64 (IntKind.wrap .i64 (secL b (intsOf l) ((intsOf l).getD i0a.toNat 0) - IntKind.wrap .i64 (86400 * ((intsOf l).getD i0a.toNat 0))) * 1000000000))
                     have v5 := wr_i64 (IntKind.wrap .i64 (n - IntKind.wrap .i64 (IntKind.wrap .i64 (secL b (intsOf l) ((intsOf l).getD i0a.toNat 0) - IntKind.wrap .i64 (86400 * ((intsOf l).getD i0a.toNat 0))) * 1000000000)) - lagV k B A (n - wbJ B b (intsOf l) i0a.toNat))
                     rw [at_hit hE (by omega) (j := i0a.toNat) (by omega) q2 (by omega) (by omega), hE]
                     unfold plN
                     simp only [Value.tuple.injEq, Array.mk.injEq, List.cons.injEq, Value.int.injEq, true_and, and_true]
                     omega)
                · obtain ⟨q0, q1, q2⟩ := hi0
                  have hno : k = 0 ∨ noJ B A b (intsOf l) n (intsOf l).length = true := by
                    by_cases hk : k = 0
                    · exact .inl hk
                    · right; rw [hlen, show (Sy.rows l).length = i0a.toNat by omega]; exact q2
                  have v1 := wr_i64 (86400 * (utcD b t (intsOf l) n))
                  have v2 := wr_i64 (secL b (intsOf l) (utcD b t (intsOf l) n) - IntKind.wrap .i64 (86400 * (utcD b t (intsOf l) n)))
                  have v3 := wr_i64 (IntKind.wrap .i64 (secL b (intsOf l) (utcD b t (intsOf l) n) - IntKind.wrap .i64 (86400 * (utcD b t (intsOf l) n))) * 1000000000)
                  have v4 := wr_i64 (n - IntKind.wrap .i64 (IntKind.wrap .i64 (secL b (intsOf l) (utcD b t (intsOf l) n) - IntKind.wrap .i64 (86400 * (utcD b t (intsOf l) n))) * 1000000000))
                  rw [at_plain hE hno, hE]
                  unfold plN
                  simp only [Value.tuple.injEq, Array.mk.injEq, List.cons.injEq, Value.int.injEq, true_and, and_true]
                  omega
           ·
            have wf6 := wr_i64 (i0a + 1)
            refine ⟨?_, ?_⟩
            ·
             obtain ⟨q0, q1, q2⟩ := hi0
             have hi : i0a.toNat < (Sy.rows l).length := by omega
             have hml : mayL b t (intsOf l) = true := by
               rcases m1 with ⟨x, _⟩ | ⟨_, x, _⟩
               · exfalso; omega
               · exact x
             have hsa := sec_at hml (i := i0a.toNat) (by omega)
             have hg := ints_get l hi
             have hs0 := secL_spec b (intsOf l) ((intsOf l).getD i0a.toNat 0)
             have e9 : wbJ B b (intsOf l) i0a.toNat = (secL b (intsOf l) ((intsOf l).getD i0a.toNat 0) + 86400 - B) * 1000000000 := rfl
             have hz := wr_i64 (n - wbJ B b (intsOf l) i0a.toNat)
             have hI := inJ_spec B A b (intsOf l) n i0a.toNat
             have li := lag_in (k := k) (B := B) (A := A) (g := n - wbJ B b (intsOf l) i0a.toNat)
             have le := lagE_spec k B A (n - wbJ B b (intsOf l) i0a.toNat)
             simp only [hg] at *
             have hw : IntKind.wrap .i64 (i0a + 1) = i0a + 1 := by have := wr_i64 (i0a + 1); omega
             rw [hw, toNat_succ (by omega), noJ_succ, q2]
             refine ⟨by omega, by omega, ?_⟩
             rcases hI with ⟨y1, y2, y3⟩ | ⟨y1, y2⟩
             · exfalso; omega
             · rw [y1]; rfl
            ·
             have := wr_i64 (i0a + 1)
             omega
          ·
           have wf7 := wr_i64 (i0a + 1)
           refine ⟨?_, ?_⟩
           ·
            obtain ⟨q0, q1, q2⟩ := hi0
            have hi : i0a.toNat < (Sy.rows l).length := by omega
            have hml : mayL b t (intsOf l) = true := by
              rcases m1 with ⟨x, _⟩ | ⟨_, x, _⟩
              · exfalso; omega
              · exact x
            have hsa := sec_at hml (i := i0a.toNat) (by omega)
            have hg := ints_get l hi
            have hs0 := secL_spec b (intsOf l) ((intsOf l).getD i0a.toNat 0)
            have e9 : wbJ B b (intsOf l) i0a.toNat = (secL b (intsOf l) ((intsOf l).getD i0a.toNat 0) + 86400 - B) * 1000000000 := rfl
            have hz := wr_i64 (n - wbJ B b (intsOf l) i0a.toNat)
            have hI := inJ_spec B A b (intsOf l) n i0a.toNat
            have li := lag_in (k := k) (B := B) (A := A) (g := n - wbJ B b (intsOf l) i0a.toNat)
            have le := lagE_spec k B A (n - wbJ B b (intsOf l) i0a.toNat)
            simp only [hg] at *
            have hw : IntKind.wrap .i64 (i0a + 1) = i0a + 1 := by have := wr_i64 (i0a + 1); omega
            rw [hw, toNat_succ (by omega), noJ_succ, q2]
            refine ⟨by omega, by omega, ?_⟩
            rcases hI with ⟨y1, y2, y3⟩ | ⟨y1, y2⟩
            · exfalso; omega
            · rw [y1]; rfl
           ·
            have := wr_i64 (i0a + 1)
            omega
        ·
         refine ⟨?_, fun h13 => ?_⟩
         ·
          have up : utcE b t (intsOf l) n = 0 → wrongI b t (intsOf l) (utcD b t (intsOf l) n) = 0 ∧ -50000 ≤ utcD b t (intsOf l) n ∧ utcD b t (intsOf l) n < t := fun h => by
            have := utc_parts h
            exact ⟨wrong_ok this.1 this.2.1 this.2.2.1, this.2.1, this.2.2.1⟩
          have us := secL_spec b (intsOf l) (utcD b t (intsOf l) n)
          first
          | omega
          | (have up2 := up (by omega)
             omega)
          | (
             obtain ⟨q0, q1, q2⟩ := hi0
             have hi : i0a.toNat < (Sy.rows l).length := by omega
             have hml : mayL b t (intsOf l) = true := by
               rcases m1 with ⟨x, _⟩ | ⟨_, x, _⟩
               · exfalso; omega
               · exact x
             have hsa := sec_at hml (i := i0a.toNat) (by omega)
             have hg := ints_get l hi
             have hs0 := secL_spec b (intsOf l) ((intsOf l).getD i0a.toNat 0)
             have e9 : wbJ B b (intsOf l) i0a.toNat = (secL b (intsOf l) ((intsOf l).getD i0a.toNat 0) + 86400 - B) * 1000000000 := rfl
             have hz := wr_i64 (n - wbJ B b (intsOf l) i0a.toNat)
             have hI := inJ_spec B A b (intsOf l) n i0a.toNat
             have li := lag_in (k := k) (B := B) (A := A) (g := n - wbJ B b (intsOf l) i0a.toNat)
             have le := lagE_spec k B A (n - wbJ B b (intsOf l) i0a.toNat)
             simp only [hg] at *
             first
             | omega
             | exact ⟨⟨by omega, by omega, by omega⟩, by omega⟩
             | exact ⟨⟨by omega, by omega, by omega, by omega⟩, by omega, by omega, by omega⟩
             | exact ⟨by omega, by omega, by omega, by omega, by omega⟩)
         ·
          have wf8 := wr_i64 (86400 * (utcD b t (intsOf l) n))
          have wf9 := wr_i64 ((secL b (intsOf l) (utcD b t (intsOf l) n)) - (IntKind.wrap .i64 (86400 * (utcD b t (intsOf l) n))))
          have wf10 := wr_i64 ((IntKind.wrap .i64 ((secL b (intsOf l) (utcD b t (intsOf l) n)) - (IntKind.wrap .i64 (86400 * (utcD b t (intsOf l) n))))) * 1000000000)
          have wf11 := wr_i64 (n - (IntKind.wrap .i64 ((IntKind.wrap .i64 ((secL b (intsOf l) (utcD b t (intsOf l) n)) - (IntKind.wrap .i64 (86400 * (utcD b t (intsOf l) n))))) * 1000000000)))
          have up : utcE b t (intsOf l) n = 0 → wrongI b t (intsOf l) (utcD b t (intsOf l) n) = 0 ∧ -50000 ≤ utcD b t (intsOf l) n ∧ utcD b t (intsOf l) n < t := fun h => by
            have := utc_parts h
            exact ⟨wrong_ok this.1 this.2.1 this.2.2.1, this.2.1, this.2.2.1⟩
          have us := secL_spec b (intsOf l) (utcD b t (intsOf l) n)
          have hE : atE k B A b t (intsOf l) n = 0 := by omega
          have up2 := up (by omega)
          by_cases hit : i0a < ((Sy.rows l).length : Int) ∧ 0 < k
          · first
            | (exfalso; omega)
            | (
               obtain ⟨q0, q1, q2⟩ := hi0
               have hi : i0a.toNat < (Sy.rows l).length := by omega
               have hml : mayL b t (intsOf l) = true := by
                 rcases m1 with ⟨x, _⟩ | ⟨_, x, _⟩
                 · exfalso; omega
                 · exact x
               have hsa := sec_at hml (i := i0a.toNat) (by omega)
               have hg := ints_get l hi
               have hs0 := secL_spec b (intsOf l) ((intsOf l).getD i0a.toNat 0)
               have e9 : wbJ B b (intsOf l) i0a.toNat = (secL b (intsOf l) ((intsOf l).getD i0a.toNat 0) + 86400 - B) * 1000000000 := rfl
               have hz := wr_i64 (n - wbJ B b (intsOf l) i0a.toNat)
               have hI := inJ_spec B A b (intsOf l) n i0a.toNat
               have li := lag_in (k := k) (B := B) (A := A) (g := n - wbJ B b (intsOf l) i0a.toNat)
               have le := lagE_spec k B A (n - wbJ B b (intsOf l) i0a.toNat)
               simp only [hg] at *
               have li2 := li (by omega) (by omega) (by omega) (by omega)
               have hz2 : IntKind.wrap .i64 (n - wbJ B b (intsOf l) i0a.toNat) = n - wbJ B b (intsOf l) i0a.toNat := by omega
               simp only [hz2] at *
               have v1 := wr_i64 (86400 * ((intsOf l).getD i0a.toNat 0))
               have v2 := wr_i64 (secL b (intsOf l) ((intsOf l).getD i0a.toNat 0) - IntKind.wrap .i64 (86400 * ((intsOf l).getD i0a.toNat 0)))
               have v3 := wr_i64 (IntKind.wrap .i64 (secL b (intsOf l) ((intsOf l).getD i0a.toNat 0) - IntKind.wrap .i64 (86400 * ((intsOf l).getD i0a.toNat 0))) * 1000000000)
               have v4 := wr_i64 (n - IntKind.wrap .i64 (IntKind.wrap .i64 (secL b (intsOf l) ((intsOf l).getD i0a.toNat 0) - IntKind.wrap .i64 (86400 * ((intsOf l).getD i0a.toNat 0))) * 1000000000))
               have v5 := wr_i64 (IntKind.wrap .i64 (n - IntKind.wrap .i64 (IntKind.wrap .i64 (secL b (intsOf l) ((intsOf l).getD i0a.toNat 0) - IntKind.wrap .i64 (86400 * ((intsOf l).getD i0a.toNat 0))) * 1000000000)) - lagV k B A (n - wbJ B b (intsOf l) i0a.toNat))
               rw [at_hit hE (by omega) (j := i0a.toNat) (by omega) q2 (by omega) (by omega), hE]
               unfold plN
               simp only [Value.tuple.injEq, Array.mk.injEq, List.cons.injEq, Value.int.injEq, true_and, and_true]
               omega)
          · obtain ⟨q0, q1, q2⟩ := hi0
            have hno : k = 0 ∨ noJ B A b (intsOf l) n (intsOf l).length = true := by
              by_cases hk : k = 0
              · exact .inl hk
              · right; rw [hlen, show (Sy.rows l).length = i0a.toNat by omega]; exact q2
            have v1 := wr_i64 (86400 * (utcD b t (intsOf l) n))
            have v2 := wr_i64 (secL b (intsOf l) (utcD b t (intsOf l) n) - IntKind.wrap .i64 (86400 * (utcD b t (intsOf l) n)))
            have v3 := wr_i64 (IntKind.wrap .i64 (secL b (intsOf l) (utcD b t (intsOf l) n) - IntKind.wrap .i64 (86400 * (utcD b t (intsOf l) n))) * 1000000000)
            have v4 := wr_i64 (n - IntKind.wrap .i64 (IntKind.wrap .i64 (secL b (intsOf l) (utcD b t (intsOf l) n) - IntKind.wrap .i64 (86400 * (utcD b t (intsOf l) n))) * 1000000000))
            rw [at_plain hE hno, hE]
            unfold plN
            simp only [Value.tuple.injEq, Array.mk.injEq, List.cons.injEq, Value.int.injEq, true_and, and_true]
            omega
       ·
        refine ⟨?_, fun h14 => ?_⟩
        ·
         have up : utcE b t (intsOf l) n = 0 → wrongI b t (intsOf l) (utcD b t (intsOf l) n) = 0 ∧ -50000 ≤ utcD b t (intsOf l) n ∧ utcD b t (intsOf l) n < t := fun h => by
           have := utc_parts h
           exact ⟨wrong_ok this.1 this.2.1 this.2.2.1, this.2.1, this.2.2.1⟩
         have us := secL_spec b (intsOf l) (utcD b t (intsOf l) n)
         first
         | omega
         | (have up2 := up (by omega)
            omega)
         | (
            obtain ⟨q0, q1, q2⟩ := hi0
            have hi : i0a.toNat < (Sy.rows l).length := by omega
            have hml : mayL b t (intsOf l) = true := by
              rcases m1 with ⟨x, _⟩ | ⟨_, x, _⟩
              · exfalso; omega
              · exact x
            have hsa := sec_at hml (i := i0a.toNat) (by omega)
            have hg := ints_get l hi
            have hs0 := secL_spec b (intsOf l) ((intsOf l).getD i0a.toNat 0)
            have e9 : wbJ B b (intsOf l) i0a.toNat = (secL b (intsOf l) ((intsOf l).getD i0a.toNat 0) + 86400 - B) * 1000000000 := rfl
            have hz := wr_i64 (n - wbJ B b (intsOf l) i0a.toNat)
            have hI := inJ_spec B A b (intsOf l) n i0a.toNat
            have li := lag_in (k := k) (B := B) (A := A) (g := n - wbJ B b (intsOf l) i0a.toNat)
            have le := lagE_spec k B A (n - wbJ B b (intsOf l) i0a.toNat)
            simp only [hg] at *
            first
            | omega
            | exact ⟨⟨by omega, by omega, by omega⟩, by omega⟩
            | exact ⟨⟨by omega, by omega, by omega, by omega⟩, by omega, by omega, by omega⟩
            | exact ⟨by omega, by omega, by omega, by omega, by omega⟩)
        ·
         have wf12 := wr_i64 (86400 * (utcD b t (intsOf l) n))
         have wf13 := wr_i64 ((secL b (intsOf l) (utcD b t (intsOf l) n)) - (IntKind.wrap .i64 (86400 * (utcD b t (intsOf l) n))))
         have wf14 := wr_i64 ((IntKind.wrap .i64 ((secL b (intsOf l) (utcD b t (intsOf l) n)) - (IntKind.wrap .i64 (86400 * (utcD b t (intsOf l) n))))) * 1000000000)
         have wf15 := wr_i64 (n - (IntKind.wrap .i64 ((IntKind.wrap .i64 ((secL b (intsOf l) (utcD b t (intsOf l) n)) - (IntKind.wrap .i64 (86400 * (utcD b t (intsOf l) n))))) * 1000000000)))
         have up : utcE b t (intsOf l) n = 0 → wrongI b t (intsOf l) (utcD b t (intsOf l) n) = 0 ∧ -50000 ≤ utcD b t (intsOf l) n ∧ utcD b t (intsOf l) n < t := fun h => by
           have := utc_parts h
           exact ⟨wrong_ok this.1 this.2.1 this.2.2.1, this.2.1, this.2.2.1⟩
         have us := secL_spec b (intsOf l) (utcD b t (intsOf l) n)
         have hE : atE k B A b t (intsOf l) n = 0 := by omega
         have up2 := up (by omega)
         by_cases hit : i0a < ((Sy.rows l).length : Int) ∧ 0 < k
         · first
           | (exfalso; omega)
           | (
              obtain ⟨q0, q1, q2⟩ := hi0
              have hi : i0a.toNat < (Sy.rows l).length := by omega
              have hml : mayL b t (intsOf l) = true := by
                rcases m1 with ⟨x, _⟩ | ⟨_, x, _⟩
                · exfalso; omega
                · exact x
              have hsa := sec_at hml (i := i0a.toNat) (by omega)
              have hg := ints_get l hi
              have hs0 := secL_spec b (intsOf l) ((intsOf l).getD i0a.toNat 0)
              have e9 : wbJ B b (intsOf l) i0a.toNat = (secL b (intsOf l) ((intsOf l).getD i0a.toNat 0) + 86400 - B) * 1000000000 := rfl
              have hz := wr_i64 (n - wbJ B b (intsOf l) i0a.toNat)
              have hI := inJ_spec B A b (intsOf l) n i0a.toNat
              have li := lag_in (k := k) (B := B) (A := A) (g := n - wbJ B b (intsOf l) i0a.toNat)
              have le := lagE_spec k B A (n - wbJ B b (intsOf l) i0a.toNat)
              simp only [hg] at *
              have li2 := li (by omega) (by omega) (by omega) (by omega)
              have hz2 : IntKind.wrap .i64 (n - wbJ B b (intsOf l) i0a.toNat) = n - wbJ B b (intsOf l) i0a.toNat := by omega
              simp only [hz2] at *
              have v1 := wr_i64 (86400 * ((intsOf l).getD i0a.toNat 0))
              have v2 := wr_i64 (secL b (intsOf l) ((intsOf l).getD i0a.toNat 0) - IntKind.wrap .i64 (86400 * ((intsOf l).getD i0a.toNat 0)))
              have v3 := wr_i64 (IntKind.wrap .i64 (secL b (intsOf l) ((intsOf l).getD i0a.toNat 0) - IntKind.wrap .i64 (86400 * ((intsOf l).getD i0a.toNat 0))) * 1000000000)
              have v4 := wr_i64 (n - IntKind.wrap .i64 (IntKind.wrap .i64 (secL b (intsOf l) ((intsOf l).getD i0a.toNat 0) - IntKind.wrap .i64 (86400 * ((intsOf l).getD i0a.toNat 0))) * 1000000000))
              have v5 := wr_i64 (IntKind.wrap .i64 (n - IntKind.wrap .i64 (IntKind.wrap .i64 (secL b (intsOf l) ((intsOf l).getD i0a.toNat 0) - IntKind.wrap .i64 (86400 * ((intsOf l).getD i0a.toNat 0))) * 1000000000)) - lagV k B A (n - wbJ B b (intsOf l) i0a.toNat))
              rw [at_hit hE (by omega) (j := i0a.toNat) (by omega) q2 (by omega) (by omega), hE]
              unfold plN
              simp only [Value.tuple.injEq, Array.mk.injEq, List.cons.injEq, Value.int.injEq, true_and, and_true]
              omega)
         · obtain ⟨q0, q1, q2⟩ := hi0
           have hno : k = 0 ∨ noJ B A b (intsOf l) n (intsOf l).length = true := by
             by_cases hk : k = 0
             · exact .inl hk
             · right; rw [hlen, show (Sy.rows l).length = i0a.toNat by omega]; exact q2
           have v1 := wr_i64 (86400 * (utcD b t (intsOf l) n))
           have v2 := wr_i64 (secL b (intsOf l) (utcD b t (intsOf l) n) - IntKind.wrap .i64 (86400 * (utcD b t (intsOf l) n)))
           have v3 := wr_i64 (IntKind.wrap .i64 (secL b (intsOf l) (utcD b t (intsOf l) n) - IntKind.wrap .i64 (86400 * (utcD b t (intsOf l) n))) * 1000000000)
           have v4 := wr_i64 (n - IntKind.wrap .i64 (IntKind.wrap .i64 (secL b (intsOf l) (utcD b t (intsOf l) n) - IntKind.wrap .i64 (86400 * (utcD b t (intsOf l) n))) * 1000000000))
           rw [at_plain hE hno, hE]
           unfold plN
           simp only [Value.tuple.injEq, Array.mk.injEq, List.cons.injEq, Value.int.injEq, true_and, and_true]
           omega
theorem s12bg_rat : s12bc_rat.Good Tryd.prog syG (s12bE [] [] [] []) := good_of_walk (Γ := ⟨[s12bc_rfits, y9c_rutc, y9c_rsec, s12bc_rlag, s12bc_rwin], syG, [], [], []⟩) (ρ := s12bE [] [] [] []) sym rat_w rfl (fun _ _ _ _ => (ok_cons (Con.Good.env s12bg_rfits _ _ _ _) (ok_cons (Con.Good.env (Con.Good.up (Con.Good.up (Con.Good.up y9g_rutc s12aup rfl) s12up rfl) s12bup rfl) _ _ _ _) (ok_cons (Con.Good.env (Con.Good.up (Con.Good.up (Con.Good.up y9g_rsec s12aup rfl) s12up rfl) s12bup rfl) _ _ _ _) (ok_cons (Con.Good.env s12bg_rlag _ _ _ _) (ok_cons (Con.Good.env s12bg_rwin _ _ _ _) ok_nil)))))) (fun k B A b t n l hc hty => rat_h k B A b t n l hc hty)
end Go.Proofs.YtbjgopehomnpgaaDoor
