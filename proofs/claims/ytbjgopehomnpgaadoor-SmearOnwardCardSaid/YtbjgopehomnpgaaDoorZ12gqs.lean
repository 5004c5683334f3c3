/-
  Layer 12: wOnward.
-/
import Derived.Test.YtbjgopehomnpgaaDoorSycqs
import Derived.Test.YtbjgopehomnpgaaDoorZ12cqs
namespace Go.Proofs.YtbjgopehomnpgaaDoor
open Go.RowKit Go.Extern.Stop Go.Stop Go.Extern Go.Proofs.YtbjgopehomnpgaaDoor.Sy
set_option linter.unusedVariables false
set_option linter.unusedSimpArgs false
noncomputable def s12gI : Nat → List Value → Int
  | i, l => s12cI i l
noncomputable def s12gB : Nat → List Value → Bool
  | i, l => s12cB i l
noncomputable def s12gV : Nat → List Value → Value
  | i, l => s12cV i l
noncomputable abbrev s12gE (iv : List Int) (bv : List Bool) (vv : List Value) (sv : List ByteArray) : Env := { iv := iv, bv := bv, vv := vv, sv := sv, fi := s12gI, fb := s12gB, fv := s12gV, et := 182 }
set_option maxHeartbeats 8000000 in
theorem s12gup : Agree 41 4 0 (s12cE [] [] [] []) (s12gE [] [] [] []) := ⟨rfl, (by
    intro f hf
    funext l
    show s12gI f l = s12cI f l
    unfold s12gI
    split <;> first | rfl | omega), (by
    intro f hf
    funext l
    show s12gB f l = s12cB f l
    unfold s12gB
    split <;> first | rfl | omega), (by
    intro f hf
    funext l
    show s12gV f l = s12cV f l
    unfold s12gV
    split <;> first | rfl | omega)⟩
theorem s12gi_may (k1 : IntKind) (b : Int) (k2 : IntKind) (t : Int) (l : Value) : s12gI 0 [.int k1 b, .int k2 t, l] = mayI b t (intsOf l) := rfl
theorem s12gi_lcnt (l : Value) (k1 : IntKind) (d : Int) (k2 : IntKind) (n : Int) : s12gI 1 [l, .int k1 d, .int k2 n] = (cntL (intsOf l) d n.toNat : Int) := rfl
theorem s12gi_lct (l : Value) (k1 : IntKind) (d : Int) : s12gI 2 [l, .int k1 d] = (ctL (intsOf l) d : Int) := rfl
theorem s12gi_least (l : Value) (k1 : IntKind) (n : Int) : s12gI 3 [l, .int k1 n] = leastL (intsOf l) n.toNat := rfl
theorem s12gi_wrong (k1 : IntKind) (b : Int) (k2 : IntKind) (t : Int) (l : Value) (k3 : IntKind) (d : Int) : s12gI 4 [.int k1 b, .int k2 t, l, .int k3 d] = wrongI b t (intsOf l) d := rfl
theorem s12gi_sec (k1 : IntKind) (b : Int) (l : Value) (k2 : IntKind) (d : Int) : s12gI 5 [.int k1 b, l, .int k2 d] = secL b (intsOf l) d := rfl
theorem s12gi_aheadI (k1 : IntKind) (b : Int) (k2 : IntKind) (t : Int) (l : Value) (k3 : IntKind) (d : Int) : s12gI 6 [.int k1 b, .int k2 t, l, .int k3 d] = aheadI b t (intsOf l) d := rfl
theorem s12gi_lenI (k1 : IntKind) (b : Int) (k2 : IntKind) (t : Int) (l : Value) (k3 : IntKind) (d : Int) : s12gI 7 [.int k1 b, .int k2 t, l, .int k3 d] = lenI b t (intsOf l) d := rfl
theorem s12gi_begI (k1 : IntKind) (b : Int) (k2 : IntKind) (t : Int) (l : Value) (k3 : IntKind) (d : Int) : s12gI 8 [.int k1 b, .int k2 t, l, .int k3 d] = begI b t (intsOf l) d := rfl
theorem s12gi_utcE (k1 : IntKind) (b : Int) (k2 : IntKind) (t : Int) (l : Value) (k3 : IntKind) (n : Int) : s12gI 9 [.int k1 b, .int k2 t, l, .int k3 n] = utcE b t (intsOf l) n := rfl
theorem s12gi_utcD (k1 : IntKind) (b : Int) (k2 : IntKind) (t : Int) (l : Value) (k3 : IntKind) (n : Int) : s12gI 10 [.int k1 b, .int k2 t, l, .int k3 n] = utcD b t (intsOf l) n := rfl
theorem s12gi_utcS (k1 : IntKind) (b : Int) (k2 : IntKind) (t : Int) (l : Value) (k3 : IntKind) (n : Int) : s12gI 11 [.int k1 b, .int k2 t, l, .int k3 n] = utcS b t (intsOf l) n := rfl
theorem s12gi_utcN (k1 : IntKind) (b : Int) (k2 : IntKind) (t : Int) (l : Value) (k3 : IntKind) (n : Int) : s12gI 12 [.int k1 b, .int k2 t, l, .int k3 n] = utcN b t (intsOf l) n := rfl
theorem s12gi_sz (k1 : IntKind) (a : Int) : s12gI 13 [.int k1 a] = szE a := rfl
theorem s12gi_sa (k1 : IntKind) (a : Int) : s12gI 14 [.int k1 a] = satE a := rfl
theorem s12gi_nv (k1 : IntKind) (a : Int) : s12gI 15 [.int k1 a] = svE a := rfl
theorem s12gi_ne (k1 : IntKind) (a : Int) : s12gI 16 [.int k1 a] = erE a := rfl
theorem s12gi_dq (k1 : IntKind) (a : Int) (k2 : IntKind) (b : Int) : s12gI 17 [.int k1 a, .int k2 b] = dqE a b := rfl
theorem s12gi_dm (k1 : IntKind) (a : Int) (k2 : IntKind) (b : Int) : s12gI 18 [.int k1 a, .int k2 b] = dmE a b := rfl
theorem s12gi_de (k1 : IntKind) (b : Int) : s12gI 19 [.int k1 b] = deE b := rfl
theorem s12gi_sm (k1 : IntKind) (k : Int) (k2 : IntKind) (B : Int) (k3 : IntKind) (A : Int) : s12gI 20 [.int k1 k, .int k2 B, .int k3 A] = smI k B A := rfl
theorem s12gi_sln (k1 : IntKind) (B : Int) (k2 : IntKind) (A : Int) : s12gI 21 [.int k1 B, .int k2 A] = slN B A := rfl
theorem s12gi_wb (k1 : IntKind) (B : Int) (k2 : IntKind) (b : Int) (k3 : IntKind) (t : Int) (l : Value) (k4 : IntKind) (d : Int) : s12gI 22 [.int k1 B, .int k2 b, .int k3 t, l, .int k4 d] = winB B b t (intsOf l) d := rfl
theorem s12gi_wn (k1 : IntKind) (B : Int) (k2 : IntKind) (A : Int) (k3 : IntKind) (b : Int) (k4 : IntKind) (t : Int) (l : Value) (k5 : IntKind) (d : Int) : s12gI 23 [.int k1 B, .int k2 A, .int k3 b, .int k4 t, l, .int k5 d] = winN B A b t (intsOf l) d := rfl
theorem s12gi_fits (k1 : IntKind) (k : Int) (k2 : IntKind) (B : Int) (k3 : IntKind) (A : Int) (k4 : IntKind) (b : Int) (k5 : IntKind) (t : Int) (l : Value) : s12gI 24 [.int k1 k, .int k2 B, .int k3 A, .int k4 b, .int k5 t, l] = fitsI k B A b t (intsOf l) := rfl
theorem s12gi_last (k1 : IntKind) (B : Int) (k2 : IntKind) (A : Int) (k3 : IntKind) (b : Int) (l : Value) (k4 : IntKind) (n : Int) : s12gI 25 [.int k1 B, .int k2 A, .int k3 b, l, .int k4 n] = lastN B A b (intsOf l) n.toNat := rfl
theorem s12gi_lge (k1 : IntKind) (k : Int) (k2 : IntKind) (B : Int) (k3 : IntKind) (A : Int) (k4 : IntKind) (g : Int) : s12gI 26 [.int k1 k, .int k2 B, .int k3 A, .int k4 g] = lagE k B A g := rfl
theorem s12gi_lgv (k1 : IntKind) (k : Int) (k2 : IntKind) (B : Int) (k3 : IntKind) (A : Int) (k4 : IntKind) (g : Int) : s12gI 27 [.int k1 k, .int k2 B, .int k3 A, .int k4 g] = lagV k B A g := rfl
theorem s12gi_mdn (k1 : IntKind) (a : Int) (k2 : IntKind) (b : Int) (k3 : IntKind) (c : Int) : s12gI 28 [.int k1 a, .int k2 b, .int k3 c] = mdN a b c := rfl
theorem s12gi_mde (k1 : IntKind) (a : Int) (k2 : IntKind) (b : Int) (k3 : IntKind) (c : Int) : s12gI 29 [.int k1 a, .int k2 b, .int k3 c] = mdE a b c := rfl
theorem s12gi_ate (k1 : IntKind) (k : Int) (k2 : IntKind) (B : Int) (k3 : IntKind) (A : Int) (k4 : IntKind) (b : Int) (k5 : IntKind) (t : Int) (l : Value) (k6 : IntKind) (n : Int) : s12gI 30 [.int k1 k, .int k2 B, .int k3 A, .int k4 b, .int k5 t, l, .int k6 n] = atE k B A b t (intsOf l) n := rfl
theorem s12gi_atv (k1 : IntKind) (k : Int) (k2 : IntKind) (B : Int) (k3 : IntKind) (A : Int) (k4 : IntKind) (b : Int) (k5 : IntKind) (t : Int) (l : Value) (k6 : IntKind) (n : Int) : s12gI 31 [.int k1 k, .int k2 B, .int k3 A, .int k4 b, .int k5 t, l, .int k6 n] = atV k B A b t (intsOf l) n := rfl
theorem s12gi_pln (k1 : IntKind) (b : Int) (l : Value) (k2 : IntKind) (n : Int) (k3 : IntKind) (d : Int) : s12gI 32 [.int k1 b, l, .int k2 n, .int k3 d] = plN b (intsOf l) n d := rfl
theorem s12gi_cel (l : Value) (k1 : IntKind) (j : Int) : s12gI 33 [l, .int k1 j] = (intsOf l).getD j.toNat 0 := rfl
theorem s12gi_wse (k1 : IntKind) (k : Int) (k2 : IntKind) (B : Int) (k3 : IntKind) (A : Int) (k4 : IntKind) (b : Int) (k5 : IntKind) (t : Int) (l : Value) (k6 : IntKind) (j : Int) : s12gI 34 [.int k1 k, .int k2 B, .int k3 A, .int k4 b, .int k5 t, l, .int k6 j] = wsE k B A b t (intsOf l) j := rfl
theorem s12gi_wsb (k1 : IntKind) (k : Int) (k2 : IntKind) (B : Int) (k3 : IntKind) (A : Int) (k4 : IntKind) (b : Int) (k5 : IntKind) (t : Int) (l : Value) (k6 : IntKind) (j : Int) : s12gI 35 [.int k1 k, .int k2 B, .int k3 A, .int k4 b, .int k5 t, l, .int k6 j] = wsB k B A b t (intsOf l) j := rfl
theorem s12gi_wsn (k1 : IntKind) (k : Int) (k2 : IntKind) (B : Int) (k3 : IntKind) (A : Int) (k4 : IntKind) (b : Int) (k5 : IntKind) (t : Int) (l : Value) (k6 : IntKind) (j : Int) : s12gI 36 [.int k1 k, .int k2 B, .int k3 A, .int k4 b, .int k5 t, l, .int k6 j] = wsN k B A b t (intsOf l) j := rfl
theorem s12gi_upf (k1 : IntKind) (a : Int) (k2 : IntKind) (b : Int) (k3 : IntKind) (c : Int) : s12gI 37 [.int k1 a, .int k2 b, .int k3 c] = upF a b c := rfl
theorem s12gi_pla (k1 : IntKind) (b : Int) (k2 : IntKind) (t : Int) (l : Value) (k3 : IntKind) (d : Int) (k4 : IntKind) (n : Int) : s12gI 38 [.int k1 b, .int k2 t, l, .int k3 d, .int k4 n] = plaI b t (intsOf l) d n := rfl
theorem s12gi_wiv (k1 : IntKind) (k : Int) (k2 : IntKind) (B : Int) (k3 : IntKind) (A : Int) (k4 : IntKind) (b : Int) (k5 : IntKind) (t : Int) (l : Value) (k6 : IntKind) (d : Int) (k7 : IntKind) (g : Int) : s12gI 39 [.int k1 k, .int k2 B, .int k3 A, .int k4 b, .int k5 t, l, .int k6 d, .int k7 g] = wiI k B A b t (intsOf l) d g := rfl
theorem s12gi_wbj (k1 : IntKind) (B : Int) (k2 : IntKind) (b : Int) (l : Value) (k3 : IntKind) (j : Int) : s12gI 40 [.int k1 B, .int k2 b, l, .int k3 j] = wbJ B b (intsOf l) j.toNat := rfl
theorem s12gb_lok (l : Value) (k1 : IntKind) (t : Int) (k2 : IntKind) (n : Int) : s12gB 0 [l, .int k1 t, .int k2 n] = okL (intsOf l) t n.toNat := rfl
theorem s12gb_mayb (k1 : IntKind) (b : Int) (k2 : IntKind) (t : Int) (l : Value) : s12gB 1 [.int k1 b, .int k2 t, l] = mayL b t (intsOf l) := rfl
theorem s12gb_fitl (k1 : IntKind) (B : Int) (k2 : IntKind) (A : Int) (k3 : IntKind) (b : Int) (l : Value) (k4 : IntKind) (n : Int) : s12gB 2 [.int k1 B, .int k2 A, .int k3 b, l, .int k4 n] = fitL B A b (intsOf l) n.toNat := rfl
theorem s12gb_noj (k1 : IntKind) (B : Int) (k2 : IntKind) (A : Int) (k3 : IntKind) (b : Int) (l : Value) (k4 : IntKind) (n : Int) (k5 : IntKind) (m : Int) : s12gB 3 [.int k1 B, .int k2 A, .int k3 b, l, .int k4 n, .int k5 m] = noJ B A b (intsOf l) n m.toNat := rfl
def wOnward_tree : Tree :=
 (.br (.b2 .lt (.lit (40)) (.ofI (.vop (.len 1) (.cons (.opq 0) .nil))))
 (.ret (.bool (.tt true)))
 (.need (.b2 .and (.b2 .and (.b2 .le (.lit (-9223372036854775808)) (.var 0)) (.b2 .le (.var 0) (.lit (9223372036854775807)))) (.b2 .and (.b2 .and (.b2 .le (.lit (-9223372036854775808)) (.var 1)) (.b2 .le (.var 1) (.lit (9223372036854775807)))) (.b2 .and (.b2 .le (.lit (-9223372036854775808)) (.var 2)) (.b2 .le (.var 2) (.lit (9223372036854775807))))))
 (.br (.not (.b2 .eq (.iapp 24 (.cons (.int .i64 (.var 0)) (.cons (.int .i64 (.var 1)) (.cons (.int .i64 (.var 2)) (.cons (.int .i64 (.var 3)) (.cons (.int .i64 (.var 4)) (.cons (.opq 0) .nil))))))) (.lit (0))))
 (.ret (.bool (.tt true)))
 (.br (.b2 .eq (.var 0) (.lit (0)))
 (.ret (.bool (.tt true)))
 (.need (.b2 .and (.b2 .and (.b2 .and (.b2 .le (.lit (-9223372036854775808)) (.var 0)) (.b2 .le (.var 0) (.lit (9223372036854775807)))) (.b2 .and (.b2 .and (.b2 .le (.lit (-9223372036854775808)) (.var 1)) (.b2 .le (.var 1) (.lit (9223372036854775807)))) (.b2 .and (.b2 .le (.lit (-9223372036854775808)) (.var 2)) (.b2 .le (.var 2) (.lit (9223372036854775807)))))) (.b2 .and (.b2 .le (.lit (-9223372036854775808)) (.i2 .min (.var 5) (.var 6))) (.b2 .le (.i2 .min (.var 5) (.var 6)) (.lit (9223372036854775807)))))
 (.need (.b2 .and (.b2 .and (.b2 .and (.b2 .le (.lit (-9223372036854775808)) (.var 0)) (.b2 .le (.var 0) (.lit (9223372036854775807)))) (.b2 .and (.b2 .and (.b2 .le (.lit (-9223372036854775808)) (.var 1)) (.b2 .le (.var 1) (.lit (9223372036854775807)))) (.b2 .and (.b2 .le (.lit (-9223372036854775808)) (.var 2)) (.b2 .le (.var 2) (.lit (9223372036854775807)))))) (.b2 .and (.b2 .le (.lit (-9223372036854775808)) (.i2 .max (.var 5) (.var 6))) (.b2 .le (.i2 .max (.var 5) (.var 6)) (.lit (9223372036854775807)))))
 (.br (.b2 .eq (.iapp 30 (.cons (.int .i64 (.var 0)) (.cons (.int .i64 (.var 1)) (.cons (.int .i64 (.var 2)) (.cons (.int .i64 (.var 3)) (.cons (.int .i64 (.var 4)) (.cons (.opq 0) (.cons (.int .i64 (.i2 .min (.var 5) (.var 6))) .nil)))))))) (.lit (0)))
 (.br (.b2 .eq (.iapp 30 (.cons (.int .i64 (.var 0)) (.cons (.int .i64 (.var 1)) (.cons (.int .i64 (.var 2)) (.cons (.int .i64 (.var 3)) (.cons (.int .i64 (.var 4)) (.cons (.opq 0) (.cons (.int .i64 (.i2 .max (.var 5) (.var 6))) .nil)))))))) (.lit (0)))
 (.br (.b2 .lt (.iapp 31 (.cons (.int .i64 (.var 0)) (.cons (.int .i64 (.var 1)) (.cons (.int .i64 (.var 2)) (.cons (.int .i64 (.var 3)) (.cons (.int .i64 (.var 4)) (.cons (.opq 0) (.cons (.int .i64 (.i2 .max (.var 5) (.var 6))) .nil)))))))) (.iapp 31 (.cons (.int .i64 (.var 0)) (.cons (.int .i64 (.var 1)) (.cons (.int .i64 (.var 2)) (.cons (.int .i64 (.var 3)) (.cons (.int .i64 (.var 4)) (.cons (.opq 0) (.cons (.int .i64 (.i2 .min (.var 5) (.var 6))) .nil)))))))))
 (.ret (.bool (.tt false)))
 (.br (.b2 .lt (.wrap .i64 (.i2 .sub (.i2 .max (.var 5) (.var 6)) (.i2 .min (.var 5) (.var 6)))) (.wrap .i64 (.i2 .sub (.iapp 31 (.cons (.int .i64 (.var 0)) (.cons (.int .i64 (.var 1)) (.cons (.int .i64 (.var 2)) (.cons (.int .i64 (.var 3)) (.cons (.int .i64 (.var 4)) (.cons (.opq 0) (.cons (.int .i64 (.i2 .max (.var 5) (.var 6))) .nil)))))))) (.iapp 31 (.cons (.int .i64 (.var 0)) (.cons (.int .i64 (.var 1)) (.cons (.int .i64 (.var 2)) (.cons (.int .i64 (.var 3)) (.cons (.int .i64 (.var 4)) (.cons (.opq 0) (.cons (.int .i64 (.i2 .min (.var 5) (.var 6))) .nil)))))))))))
 (.ret (.bool (.tt false)))
 (.loop ⟨1, 0, 0, 0⟩ (.b2 .and (.b2 .le (.lit (0)) (.lit (0))) (.b2 .le (.lit (0)) (.ofI (.vop (.len 1) (.cons (.opq 0) .nil))))) (.b2 .and (.b2 .le (.lit (0)) (.var 7)) (.b2 .le (.var 7) (.ofI (.vop (.len 1) (.cons (.opq 0) .nil)))))
 (.br (.b2 .lt (.var 7) (.ofI (.vop (.len 1) (.cons (.opq 0) .nil))))
 (.need (.b2 .and (.b2 .and (.b2 .and (.b2 .le (.lit (-9223372036854775808)) (.var 0)) (.b2 .le (.var 0) (.lit (9223372036854775807)))) (.b2 .and (.b2 .and (.b2 .le (.lit (-9223372036854775808)) (.var 1)) (.b2 .le (.var 1) (.lit (9223372036854775807)))) (.b2 .and (.b2 .le (.lit (-9223372036854775808)) (.var 2)) (.b2 .le (.var 2) (.lit (9223372036854775807)))))) (.b2 .and (.b2 .le (.lit (-9223372036854775808)) (.var 7)) (.b2 .le (.var 7) (.lit (9223372036854775807)))))
 (.need (.b2 .and (.b2 .and (.b2 .le (.lit (-9223372036854775808)) (.var 0)) (.b2 .le (.var 0) (.lit (9223372036854775807)))) (.b2 .and (.b2 .and (.b2 .le (.lit (-9223372036854775808)) (.var 1)) (.b2 .le (.var 1) (.lit (9223372036854775807)))) (.b2 .and (.b2 .le (.lit (-9223372036854775808)) (.var 2)) (.b2 .le (.var 2) (.lit (9223372036854775807))))))
 (.need (.b2 .and (.b2 .and (.b2 .and (.b2 .le (.lit (-9223372036854775808)) (.var 0)) (.b2 .le (.var 0) (.lit (9223372036854775807)))) (.b2 .and (.b2 .and (.b2 .le (.lit (-9223372036854775808)) (.var 1)) (.b2 .le (.var 1) (.lit (9223372036854775807)))) (.b2 .and (.b2 .le (.lit (-9223372036854775808)) (.var 2)) (.b2 .le (.var 2) (.lit (9223372036854775807)))))) (.b2 .and (.b2 .le (.lit (-9223372036854775808)) (.wrap .i64 (.i2 .sub (.iapp 36 (.cons (.int .i64 (.var 0)) (.cons (.int .i64 (.var 1)) (.cons (.int .i64 (.var 2)) (.cons (.int .i64 (.var 3)) (.cons (.int .i64 (.var 4)) (.cons (.opq 0) (.cons (.int .i64 (.var 7)) .nil)))))))) (.iapp 35 (.cons (.int .i64 (.var 0)) (.cons (.int .i64 (.var 1)) (.cons (.int .i64 (.var 2)) (.cons (.int .i64 (.var 3)) (.cons (.int .i64 (.var 4)) (.cons (.opq 0) (.cons (.int .i64 (.var 7)) .nil))))))))))) (.b2 .le (.wrap .i64 (.i2 .sub (.iapp 36 (.cons (.int .i64 (.var 0)) (.cons (.int .i64 (.var 1)) (.cons (.int .i64 (.var 2)) (.cons (.int .i64 (.var 3)) (.cons (.int .i64 (.var 4)) (.cons (.opq 0) (.cons (.int .i64 (.var 7)) .nil)))))))) (.iapp 35 (.cons (.int .i64 (.var 0)) (.cons (.int .i64 (.var 1)) (.cons (.int .i64 (.var 2)) (.cons (.int .i64 (.var 3)) (.cons (.int .i64 (.var 4)) (.cons (.opq 0) (.cons (.int .i64 (.var 7)) .nil)))))))))) (.lit (9223372036854775807)))))
 (.br (.not (.b2 .eq (.iapp 34 (.cons (.int .i64 (.var 0)) (.cons (.int .i64 (.var 1)) (.cons (.int .i64 (.var 2)) (.cons (.int .i64 (.var 3)) (.cons (.int .i64 (.var 4)) (.cons (.opq 0) (.cons (.int .i64 (.var 7)) .nil)))))))) (.lit (0))))
 (.ret (.bool (.tt false)))
 (.br (.not (.b2 .eq (.iapp 26 (.cons (.int .i64 (.var 0)) (.cons (.int .i64 (.var 1)) (.cons (.int .i64 (.var 2)) (.cons (.int .i64 (.lit (0))) .nil))))) (.lit (0))))
 (.ret (.bool (.tt false)))
 (.br (.not (.b2 .eq (.iapp 26 (.cons (.int .i64 (.var 0)) (.cons (.int .i64 (.var 1)) (.cons (.int .i64 (.var 2)) (.cons (.int .i64 (.wrap .i64 (.i2 .sub (.iapp 36 (.cons (.int .i64 (.var 0)) (.cons (.int .i64 (.var 1)) (.cons (.int .i64 (.var 2)) (.cons (.int .i64 (.var 3)) (.cons (.int .i64 (.var 4)) (.cons (.opq 0) (.cons (.int .i64 (.var 7)) .nil)))))))) (.iapp 35 (.cons (.int .i64 (.var 0)) (.cons (.int .i64 (.var 1)) (.cons (.int .i64 (.var 2)) (.cons (.int .i64 (.var 3)) (.cons (.int .i64 (.var 4)) (.cons (.opq 0) (.cons (.int .i64 (.var 7)) .nil))))))))))) .nil))))) (.lit (0))))
 (.ret (.bool (.tt false)))
 (.br (.not (.b2 .eq (.iapp 27 (.cons (.int .i64 (.var 0)) (.cons (.int .i64 (.var 1)) (.cons (.int .i64 (.var 2)) (.cons (.int .i64 (.lit (0))) .nil))))) (.lit (0))))
 (.ret (.bool (.tt false)))
 (.br (.not (.b2 .eq (.iapp 27 (.cons (.int .i64 (.var 0)) (.cons (.int .i64 (.var 1)) (.cons (.int .i64 (.var 2)) (.cons (.int .i64 (.wrap .i64 (.i2 .sub (.iapp 36 (.cons (.int .i64 (.var 0)) (.cons (.int .i64 (.var 1)) (.cons (.int .i64 (.var 2)) (.cons (.int .i64 (.var 3)) (.cons (.int .i64 (.var 4)) (.cons (.opq 0) (.cons (.int .i64 (.var 7)) .nil)))))))) (.iapp 35 (.cons (.int .i64 (.var 0)) (.cons (.int .i64 (.var 1)) (.cons (.int .i64 (.var 2)) (.cons (.int .i64 (.var 3)) (.cons (.int .i64 (.var 4)) (.cons (.opq 0) (.cons (.int .i64 (.var 7)) .nil))))))))))) .nil))))) (.lit (1000000000))))
 (.ret (.bool (.tt false)))
 (.need (.b2 .and (.b2 .and (.b2 .and (.b2 .le (.lit (-9223372036854775808)) (.var 0)) (.b2 .le (.var 0) (.lit (9223372036854775807)))) (.b2 .and (.b2 .and (.b2 .le (.lit (-9223372036854775808)) (.var 1)) (.b2 .le (.var 1) (.lit (9223372036854775807)))) (.b2 .and (.b2 .le (.lit (-9223372036854775808)) (.var 2)) (.b2 .le (.var 2) (.lit (9223372036854775807)))))) (.b2 .and (.b2 .le (.lit (-9223372036854775808)) (.iapp 35 (.cons (.int .i64 (.var 0)) (.cons (.int .i64 (.var 1)) (.cons (.int .i64 (.var 2)) (.cons (.int .i64 (.var 3)) (.cons (.int .i64 (.var 4)) (.cons (.opq 0) (.cons (.int .i64 (.var 7)) .nil))))))))) (.b2 .le (.iapp 35 (.cons (.int .i64 (.var 0)) (.cons (.int .i64 (.var 1)) (.cons (.int .i64 (.var 2)) (.cons (.int .i64 (.var 3)) (.cons (.int .i64 (.var 4)) (.cons (.opq 0) (.cons (.int .i64 (.var 7)) .nil)))))))) (.lit (9223372036854775807)))))
 (.need (.b2 .and (.b2 .le (.lit (-9223372036854775808)) (.iapp 35 (.cons (.int .i64 (.var 0)) (.cons (.int .i64 (.var 1)) (.cons (.int .i64 (.var 2)) (.cons (.int .i64 (.var 3)) (.cons (.int .i64 (.var 4)) (.cons (.opq 0) (.cons (.int .i64 (.var 7)) .nil))))))))) (.b2 .le (.iapp 35 (.cons (.int .i64 (.var 0)) (.cons (.int .i64 (.var 1)) (.cons (.int .i64 (.var 2)) (.cons (.int .i64 (.var 3)) (.cons (.int .i64 (.var 4)) (.cons (.opq 0) (.cons (.int .i64 (.var 7)) .nil)))))))) (.lit (9223372036854775807))))
 (.need (.b2 .and (.b2 .and (.b2 .and (.b2 .le (.lit (-9223372036854775808)) (.var 0)) (.b2 .le (.var 0) (.lit (9223372036854775807)))) (.b2 .and (.b2 .and (.b2 .le (.lit (-9223372036854775808)) (.var 1)) (.b2 .le (.var 1) (.lit (9223372036854775807)))) (.b2 .and (.b2 .le (.lit (-9223372036854775808)) (.var 2)) (.b2 .le (.var 2) (.lit (9223372036854775807)))))) (.b2 .and (.b2 .le (.lit (-9223372036854775808)) (.iapp 36 (.cons (.int .i64 (.var 0)) (.cons (.int .i64 (.var 1)) (.cons (.int .i64 (.var 2)) (.cons (.int .i64 (.var 3)) (.cons (.int .i64 (.var 4)) (.cons (.opq 0) (.cons (.int .i64 (.var 7)) .nil))))))))) (.b2 .le (.iapp 36 (.cons (.int .i64 (.var 0)) (.cons (.int .i64 (.var 1)) (.cons (.int .i64 (.var 2)) (.cons (.int .i64 (.var 3)) (.cons (.int .i64 (.var 4)) (.cons (.opq 0) (.cons (.int .i64 (.var 7)) .nil)))))))) (.lit (9223372036854775807)))))
 (.need (.b2 .and (.b2 .le (.lit (-9223372036854775808)) (.iapp 36 (.cons (.int .i64 (.var 0)) (.cons (.int .i64 (.var 1)) (.cons (.int .i64 (.var 2)) (.cons (.int .i64 (.var 3)) (.cons (.int .i64 (.var 4)) (.cons (.opq 0) (.cons (.int .i64 (.var 7)) .nil))))))))) (.b2 .le (.iapp 36 (.cons (.int .i64 (.var 0)) (.cons (.int .i64 (.var 1)) (.cons (.int .i64 (.var 2)) (.cons (.int .i64 (.var 3)) (.cons (.int .i64 (.var 4)) (.cons (.opq 0) (.cons (.int .i64 (.var 7)) .nil)))))))) (.lit (9223372036854775807))))
 (.br (.not (.b2 .beq (.b2 .eq (.iapp 30 (.cons (.int .i64 (.var 0)) (.cons (.int .i64 (.var 1)) (.cons (.int .i64 (.var 2)) (.cons (.int .i64 (.var 3)) (.cons (.int .i64 (.var 4)) (.cons (.opq 0) (.cons (.int .i64 (.iapp 35 (.cons (.int .i64 (.var 0)) (.cons (.int .i64 (.var 1)) (.cons (.int .i64 (.var 2)) (.cons (.int .i64 (.var 3)) (.cons (.int .i64 (.var 4)) (.cons (.opq 0) (.cons (.int .i64 (.var 7)) .nil))))))))) .nil)))))))) (.lit (0))) (.b2 .eq (.iapp 30 (.cons (.int .i64 (.lit (0))) (.cons (.int .i64 (.lit (0))) (.cons (.int .i64 (.lit (0))) (.cons (.int .i64 (.var 3)) (.cons (.int .i64 (.var 4)) (.cons (.opq 0) (.cons (.int .i64 (.iapp 35 (.cons (.int .i64 (.var 0)) (.cons (.int .i64 (.var 1)) (.cons (.int .i64 (.var 2)) (.cons (.int .i64 (.var 3)) (.cons (.int .i64 (.var 4)) (.cons (.opq 0) (.cons (.int .i64 (.var 7)) .nil))))))))) .nil)))))))) (.lit (0)))))
 (.ret (.bool (.tt false)))
 (.br (.not (.b2 .beq (.b2 .eq (.iapp 30 (.cons (.int .i64 (.var 0)) (.cons (.int .i64 (.var 1)) (.cons (.int .i64 (.var 2)) (.cons (.int .i64 (.var 3)) (.cons (.int .i64 (.var 4)) (.cons (.opq 0) (.cons (.int .i64 (.iapp 36 (.cons (.int .i64 (.var 0)) (.cons (.int .i64 (.var 1)) (.cons (.int .i64 (.var 2)) (.cons (.int .i64 (.var 3)) (.cons (.int .i64 (.var 4)) (.cons (.opq 0) (.cons (.int .i64 (.var 7)) .nil))))))))) .nil)))))))) (.lit (0))) (.b2 .eq (.iapp 30 (.cons (.int .i64 (.lit (0))) (.cons (.int .i64 (.lit (0))) (.cons (.int .i64 (.lit (0))) (.cons (.int .i64 (.var 3)) (.cons (.int .i64 (.var 4)) (.cons (.opq 0) (.cons (.int .i64 (.iapp 36 (.cons (.int .i64 (.var 0)) (.cons (.int .i64 (.var 1)) (.cons (.int .i64 (.var 2)) (.cons (.int .i64 (.var 3)) (.cons (.int .i64 (.var 4)) (.cons (.opq 0) (.cons (.int .i64 (.var 7)) .nil))))))))) .nil)))))))) (.lit (0)))))
 (.ret (.bool (.tt false)))
 (.br (.not (.b2 .eq (.iapp 31 (.cons (.int .i64 (.var 0)) (.cons (.int .i64 (.var 1)) (.cons (.int .i64 (.var 2)) (.cons (.int .i64 (.var 3)) (.cons (.int .i64 (.var 4)) (.cons (.opq 0) (.cons (.int .i64 (.iapp 35 (.cons (.int .i64 (.var 0)) (.cons (.int .i64 (.var 1)) (.cons (.int .i64 (.var 2)) (.cons (.int .i64 (.var 3)) (.cons (.int .i64 (.var 4)) (.cons (.opq 0) (.cons (.int .i64 (.var 7)) .nil))))))))) .nil)))))))) (.iapp 31 (.cons (.int .i64 (.lit (0))) (.cons (.int .i64 (.lit (0))) (.cons (.int .i64 (.lit (0))) (.cons (.int .i64 (.var 3)) (.cons (.int .i64 (.var 4)) (.cons (.opq 0) (.cons (.int .i64 (.iapp 35 (.cons (.int .i64 (.var 0)) (.cons (.int .i64 (.var 1)) (.cons (.int .i64 (.var 2)) (.cons (.int .i64 (.var 3)) (.cons (.int .i64 (.var 4)) (.cons (.opq 0) (.cons (.int .i64 (.var 7)) .nil))))))))) .nil))))))))))
 (.ret (.bool (.tt false)))
 (.br (.not (.b2 .eq (.iapp 31 (.cons (.int .i64 (.var 0)) (.cons (.int .i64 (.var 1)) (.cons (.int .i64 (.var 2)) (.cons (.int .i64 (.var 3)) (.cons (.int .i64 (.var 4)) (.cons (.opq 0) (.cons (.int .i64 (.iapp 36 (.cons (.int .i64 (.var 0)) (.cons (.int .i64 (.var 1)) (.cons (.int .i64 (.var 2)) (.cons (.int .i64 (.var 3)) (.cons (.int .i64 (.var 4)) (.cons (.opq 0) (.cons (.int .i64 (.var 7)) .nil))))))))) .nil)))))))) (.iapp 31 (.cons (.int .i64 (.lit (0))) (.cons (.int .i64 (.lit (0))) (.cons (.int .i64 (.lit (0))) (.cons (.int .i64 (.var 3)) (.cons (.int .i64 (.var 4)) (.cons (.opq 0) (.cons (.int .i64 (.iapp 36 (.cons (.int .i64 (.var 0)) (.cons (.int .i64 (.var 1)) (.cons (.int .i64 (.var 2)) (.cons (.int .i64 (.var 3)) (.cons (.int .i64 (.var 4)) (.cons (.opq 0) (.cons (.int .i64 (.var 7)) .nil))))))))) .nil))))))))))
 (.ret (.bool (.tt false)))
 (.back (.b2 .and (.b2 .le (.lit (0)) (.wrap .i64 (.i2 .add (.var 7) (.lit (1))))) (.b2 .le (.wrap .i64 (.i2 .add (.var 7) (.lit (1)))) (.ofI (.vop (.len 1) (.cons (.opq 0) .nil))))) (.i2 .sub (.ofI (.vop (.len 1) (.cons (.opq 0) .nil))) (.wrap .i64 (.i2 .add (.var 7) (.lit (1))))) (.i2 .sub (.ofI (.vop (.len 1) (.cons (.opq 0) .nil))) (.var 7)))))))))))))))))))
 (.ret (.bool (.tt true)))))))
 (.loop ⟨1, 0, 0, 0⟩ (.b2 .and (.b2 .le (.lit (0)) (.lit (0))) (.b2 .le (.lit (0)) (.ofI (.vop (.len 1) (.cons (.opq 0) .nil))))) (.b2 .and (.b2 .le (.lit (0)) (.var 7)) (.b2 .le (.var 7) (.ofI (.vop (.len 1) (.cons (.opq 0) .nil)))))
 (.br (.b2 .lt (.var 7) (.ofI (.vop (.len 1) (.cons (.opq 0) .nil))))
 (.need (.b2 .and (.b2 .and (.b2 .and (.b2 .le (.lit (-9223372036854775808)) (.var 0)) (.b2 .le (.var 0) (.lit (9223372036854775807)))) (.b2 .and (.b2 .and (.b2 .le (.lit (-9223372036854775808)) (.var 1)) (.b2 .le (.var 1) (.lit (9223372036854775807)))) (.b2 .and (.b2 .le (.lit (-9223372036854775808)) (.var 2)) (.b2 .le (.var 2) (.lit (9223372036854775807)))))) (.b2 .and (.b2 .le (.lit (-9223372036854775808)) (.var 7)) (.b2 .le (.var 7) (.lit (9223372036854775807)))))
 (.need (.b2 .and (.b2 .and (.b2 .le (.lit (-9223372036854775808)) (.var 0)) (.b2 .le (.var 0) (.lit (9223372036854775807)))) (.b2 .and (.b2 .and (.b2 .le (.lit (-9223372036854775808)) (.var 1)) (.b2 .le (.var 1) (.lit (9223372036854775807)))) (.b2 .and (.b2 .le (.lit (-9223372036854775808)) (.var 2)) (.b2 .le (.var 2) (.lit (9223372036854775807))))))
 (.need (.b2 .and (.b2 .and (.b2 .and (.b2 .le (.lit (-9223372036854775808)) (.var 0)) (.b2 .le (.var 0) (.lit (9223372036854775807)))) (.b2 .and (.b2 .and (.b2 .le (.lit (-9223372036854775808)) (.var 1)) (.b2 .le (.var 1) (.lit (9223372036854775807)))) (.b2 .and (.b2 .le (.lit (-9223372036854775808)) (.var 2)) (.b2 .le (.var 2) (.lit (9223372036854775807)))))) (.b2 .and (.b2 .le (.lit (-9223372036854775808)) (.wrap .i64 (.i2 .sub (.iapp 36 (.cons (.int .i64 (.var 0)) (.cons (.int .i64 (.var 1)) (.cons (.int .i64 (.var 2)) (.cons (.int .i64 (.var 3)) (.cons (.int .i64 (.var 4)) (.cons (.opq 0) (.cons (.int .i64 (.var 7)) .nil)))))))) (.iapp 35 (.cons (.int .i64 (.var 0)) (.cons (.int .i64 (.var 1)) (.cons (.int .i64 (.var 2)) (.cons (.int .i64 (.var 3)) (.cons (.int .i64 (.var 4)) (.cons (.opq 0) (.cons (.int .i64 (.var 7)) .nil))))))))))) (.b2 .le (.wrap .i64 (.i2 .sub (.iapp 36 (.cons (.int .i64 (.var 0)) (.cons (.int .i64 (.var 1)) (.cons (.int .i64 (.var 2)) (.cons (.int .i64 (.var 3)) (.cons (.int .i64 (.var 4)) (.cons (.opq 0) (.cons (.int .i64 (.var 7)) .nil)))))))) (.iapp 35 (.cons (.int .i64 (.var 0)) (.cons (.int .i64 (.var 1)) (.cons (.int .i64 (.var 2)) (.cons (.int .i64 (.var 3)) (.cons (.int .i64 (.var 4)) (.cons (.opq 0) (.cons (.int .i64 (.var 7)) .nil)))))))))) (.lit (9223372036854775807)))))
 (.br (.not (.b2 .eq (.iapp 34 (.cons (.int .i64 (.var 0)) (.cons (.int .i64 (.var 1)) (.cons (.int .i64 (.var 2)) (.cons (.int .i64 (.var 3)) (.cons (.int .i64 (.var 4)) (.cons (.opq 0) (.cons (.int .i64 (.var 7)) .nil)))))))) (.lit (0))))
 (.ret (.bool (.tt false)))
 (.br (.not (.b2 .eq (.iapp 26 (.cons (.int .i64 (.var 0)) (.cons (.int .i64 (.var 1)) (.cons (.int .i64 (.var 2)) (.cons (.int .i64 (.lit (0))) .nil))))) (.lit (0))))
 (.ret (.bool (.tt false)))
 (.br (.not (.b2 .eq (.iapp 26 (.cons (.int .i64 (.var 0)) (.cons (.int .i64 (.var 1)) (.cons (.int .i64 (.var 2)) (.cons (.int .i64 (.wrap .i64 (.i2 .sub (.iapp 36 (.cons (.int .i64 (.var 0)) (.cons (.int .i64 (.var 1)) (.cons (.int .i64 (.var 2)) (.cons (.int .i64 (.var 3)) (.cons (.int .i64 (.var 4)) (.cons (.opq 0) (.cons (.int .i64 (.var 7)) .nil)))))))) (.iapp 35 (.cons (.int .i64 (.var 0)) (.cons (.int .i64 (.var 1)) (.cons (.int .i64 (.var 2)) (.cons (.int .i64 (.var 3)) (.cons (.int .i64 (.var 4)) (.cons (.opq 0) (.cons (.int .i64 (.var 7)) .nil))))))))))) .nil))))) (.lit (0))))
 (.ret (.bool (.tt false)))
 (.br (.not (.b2 .eq (.iapp 27 (.cons (.int .i64 (.var 0)) (.cons (.int .i64 (.var 1)) (.cons (.int .i64 (.var 2)) (.cons (.int .i64 (.lit (0))) .nil))))) (.lit (0))))
 (.ret (.bool (.tt false)))
 (.br (.not (.b2 .eq (.iapp 27 (.cons (.int .i64 (.var 0)) (.cons (.int .i64 (.var 1)) (.cons (.int .i64 (.var 2)) (.cons (.int .i64 (.wrap .i64 (.i2 .sub (.iapp 36 (.cons (.int .i64 (.var 0)) (.cons (.int .i64 (.var 1)) (.cons (.int .i64 (.var 2)) (.cons (.int .i64 (.var 3)) (.cons (.int .i64 (.var 4)) (.cons (.opq 0) (.cons (.int .i64 (.var 7)) .nil)))))))) (.iapp 35 (.cons (.int .i64 (.var 0)) (.cons (.int .i64 (.var 1)) (.cons (.int .i64 (.var 2)) (.cons (.int .i64 (.var 3)) (.cons (.int .i64 (.var 4)) (.cons (.opq 0) (.cons (.int .i64 (.var 7)) .nil))))))))))) .nil))))) (.lit (1000000000))))
 (.ret (.bool (.tt false)))
 (.need (.b2 .and (.b2 .and (.b2 .and (.b2 .le (.lit (-9223372036854775808)) (.var 0)) (.b2 .le (.var 0) (.lit (9223372036854775807)))) (.b2 .and (.b2 .and (.b2 .le (.lit (-9223372036854775808)) (.var 1)) (.b2 .le (.var 1) (.lit (9223372036854775807)))) (.b2 .and (.b2 .le (.lit (-9223372036854775808)) (.var 2)) (.b2 .le (.var 2) (.lit (9223372036854775807)))))) (.b2 .and (.b2 .le (.lit (-9223372036854775808)) (.iapp 35 (.cons (.int .i64 (.var 0)) (.cons (.int .i64 (.var 1)) (.cons (.int .i64 (.var 2)) (.cons (.int .i64 (.var 3)) (.cons (.int .i64 (.var 4)) (.cons (.opq 0) (.cons (.int .i64 (.var 7)) .nil))))))))) (.b2 .le (.iapp 35 (.cons (.int .i64 (.var 0)) (.cons (.int .i64 (.var 1)) (.cons (.int .i64 (.var 2)) (.cons (.int .i64 (.var 3)) (.cons (.int .i64 (.var 4)) (.cons (.opq 0) (.cons (.int .i64 (.var 7)) .nil)))))))) (.lit (9223372036854775807)))))
 (.need (.b2 .and (.b2 .le (.lit (-9223372036854775808)) (.iapp 35 (.cons (.int .i64 (.var 0)) (.cons (.int .i64 (.var 1)) (.cons (.int .i64 (.var 2)) (.cons (.int .i64 (.var 3)) (.cons (.int .i64 (.var 4)) (.cons (.opq 0) (.cons (.int .i64 (.var 7)) .nil))))))))) (.b2 .le (.iapp 35 (.cons (.int .i64 (.var 0)) (.cons (.int .i64 (.var 1)) (.cons (.int .i64 (.var 2)) (.cons (.int .i64 (.var 3)) (.cons (.int .i64 (.var 4)) (.cons (.opq 0) (.cons (.int .i64 (.var 7)) .nil)))))))) (.lit (9223372036854775807))))
 (.need (.b2 .and (.b2 .and (.b2 .and (.b2 .le (.lit (-9223372036854775808)) (.var 0)) (.b2 .le (.var 0) (.lit (9223372036854775807)))) (.b2 .and (.b2 .and (.b2 .le (.lit (-9223372036854775808)) (.var 1)) (.b2 .le (.var 1) (.lit (9223372036854775807)))) (.b2 .and (.b2 .le (.lit (-9223372036854775808)) (.var 2)) (.b2 .le (.var 2) (.lit (9223372036854775807)))))) (.b2 .and (.b2 .le (.lit (-9223372036854775808)) (.iapp 36 (.cons (.int .i64 (.var 0)) (.cons (.int .i64 (.var 1)) (.cons (.int .i64 (.var 2)) (.cons (.int .i64 (.var 3)) (.cons (.int .i64 (.var 4)) (.cons (.opq 0) (.cons (.int .i64 (.var 7)) .nil))))))))) (.b2 .le (.iapp 36 (.cons (.int .i64 (.var 0)) (.cons (.int .i64 (.var 1)) (.cons (.int .i64 (.var 2)) (.cons (.int .i64 (.var 3)) (.cons (.int .i64 (.var 4)) (.cons (.opq 0) (.cons (.int .i64 (.var 7)) .nil)))))))) (.lit (9223372036854775807)))))
 (.need (.b2 .and (.b2 .le (.lit (-9223372036854775808)) (.iapp 36 (.cons (.int .i64 (.var 0)) (.cons (.int .i64 (.var 1)) (.cons (.int .i64 (.var 2)) (.cons (.int .i64 (.var 3)) (.cons (.int .i64 (.var 4)) (.cons (.opq 0) (.cons (.int .i64 (.var 7)) .nil))))))))) (.b2 .le (.iapp 36 (.cons (.int .i64 (.var 0)) (.cons (.int .i64 (.var 1)) (.cons (.int .i64 (.var 2)) (.cons (.int .i64 (.var 3)) (.cons (.int .i64 (.var 4)) (.cons (.opq 0) (.cons (.int .i64 (.var 7)) .nil)))))))) (.lit (9223372036854775807))))
 (.br (.not (.b2 .beq (.b2 .eq (.iapp 30 (.cons (.int .i64 (.var 0)) (.cons (.int .i64 (.var 1)) (.cons (.int .i64 (.var 2)) (.cons (.int .i64 (.var 3)) (.cons (.int .i64 (.var 4)) (.cons (.opq 0) (.cons (.int .i64 (.iapp 35 (.cons (.int .i64 (.var 0)) (.cons (.int .i64 (.var 1)) (.cons (.int .i64 (.var 2)) (.cons (.int .i64 (.var 3)) (.cons (.int .i64 (.var 4)) (.cons (.opq 0) (.cons (.int .i64 (.var 7)) .nil))))))))) .nil)))))))) (.lit (0))) (.b2 .eq (.iapp 30 (.cons (.int .i64 (.lit (0))) (.cons (.int .i64 (.lit (0))) (.cons (.int .i64 (.lit (0))) (.cons (.int .i64 (.var 3)) (.cons (.int .i64 (.var 4)) (.cons (.opq 0) (.cons (.int .i64 (.iapp 35 (.cons (.int .i64 (.var 0)) (.cons (.int .i64 (.var 1)) (.cons (.int .i64 (.var 2)) (.cons (.int .i64 (.var 3)) (.cons (.int .i64 (.var 4)) (.cons (.opq 0) (.cons (.int .i64 (.var 7)) .nil))))))))) .nil)))))))) (.lit (0)))))
 (.ret (.bool (.tt false)))
 (.br (.not (.b2 .beq (.b2 .eq (.iapp 30 (.cons (.int .i64 (.var 0)) (.cons (.int .i64 (.var 1)) (.cons (.int .i64 (.var 2)) (.cons (.int .i64 (.var 3)) (.cons (.int .i64 (.var 4)) (.cons (.opq 0) (.cons (.int .i64 (.iapp 36 (.cons (.int .i64 (.var 0)) (.cons (.int .i64 (.var 1)) (.cons (.int .i64 (.var 2)) (.cons (.int .i64 (.var 3)) (.cons (.int .i64 (.var 4)) (.cons (.opq 0) (.cons (.int .i64 (.var 7)) .nil))))))))) .nil)))))))) (.lit (0))) (.b2 .eq (.iapp 30 (.cons (.int .i64 (.lit (0))) (.cons (.int .i64 (.lit (0))) (.cons (.int .i64 (.lit (0))) (.cons (.int .i64 (.var 3)) (.cons (.int .i64 (.var 4)) (.cons (.opq 0) (.cons (.int .i64 (.iapp 36 (.cons (.int .i64 (.var 0)) (.cons (.int .i64 (.var 1)) (.cons (.int .i64 (.var 2)) (.cons (.int .i64 (.var 3)) (.cons (.int .i64 (.var 4)) (.cons (.opq 0) (.cons (.int .i64 (.var 7)) .nil))))))))) .nil)))))))) (.lit (0)))))
 (.ret (.bool (.tt false)))
 (.br (.not (.b2 .eq (.iapp 31 (.cons (.int .i64 (.var 0)) (.cons (.int .i64 (.var 1)) (.cons (.int .i64 (.var 2)) (.cons (.int .i64 (.var 3)) (.cons (.int .i64 (.var 4)) (.cons (.opq 0) (.cons (.int .i64 (.iapp 35 (.cons (.int .i64 (.var 0)) (.cons (.int .i64 (.var 1)) (.cons (.int .i64 (.var 2)) (.cons (.int .i64 (.var 3)) (.cons (.int .i64 (.var 4)) (.cons (.opq 0) (.cons (.int .i64 (.var 7)) .nil))))))))) .nil)))))))) (.iapp 31 (.cons (.int .i64 (.lit (0))) (.cons (.int .i64 (.lit (0))) (.cons (.int .i64 (.lit (0))) (.cons (.int .i64 (.var 3)) (.cons (.int .i64 (.var 4)) (.cons (.opq 0) (.cons (.int .i64 (.iapp 35 (.cons (.int .i64 (.var 0)) (.cons (.int .i64 (.var 1)) (.cons (.int .i64 (.var 2)) (.cons (.int .i64 (.var 3)) (.cons (.int .i64 (.var 4)) (.cons (.opq 0) (.cons (.int .i64 (.var 7)) .nil))))))))) .nil))))))))))
 (.ret (.bool (.tt false)))
 (.br (.not (.b2 .eq (.iapp 31 (.cons (.int .i64 (.var 0)) (.cons (.int .i64 (.var 1)) (.cons (.int .i64 (.var 2)) (.cons (.int .i64 (.var 3)) (.cons (.int .i64 (.var 4)) (.cons (.opq 0) (.cons (.int .i64 (.iapp 36 (.cons (.int .i64 (.var 0)) (.cons (.int .i64 (.var 1)) (.cons (.int .i64 (.var 2)) (.cons (.int .i64 (.var 3)) (.cons (.int .i64 (.var 4)) (.cons (.opq 0) (.cons (.int .i64 (.var 7)) .nil))))))))) .nil)))))))) (.iapp 31 (.cons (.int .i64 (.lit (0))) (.cons (.int .i64 (.lit (0))) (.cons (.int .i64 (.lit (0))) (.cons (.int .i64 (.var 3)) (.cons (.int .i64 (.var 4)) (.cons (.opq 0) (.cons (.int .i64 (.iapp 36 (.cons (.int .i64 (.var 0)) (.cons (.int .i64 (.var 1)) (.cons (.int .i64 (.var 2)) (.cons (.int .i64 (.var 3)) (.cons (.int .i64 (.var 4)) (.cons (.opq 0) (.cons (.int .i64 (.var 7)) .nil))))))))) .nil))))))))))
 (.ret (.bool (.tt false)))
 (.back (.b2 .and (.b2 .le (.lit (0)) (.wrap .i64 (.i2 .add (.var 7) (.lit (1))))) (.b2 .le (.wrap .i64 (.i2 .add (.var 7) (.lit (1)))) (.ofI (.vop (.len 1) (.cons (.opq 0) .nil))))) (.i2 .sub (.ofI (.vop (.len 1) (.cons (.opq 0) .nil))) (.wrap .i64 (.i2 .add (.var 7) (.lit (1))))) (.i2 .sub (.ofI (.vop (.len 1) (.cons (.opq 0) .nil))) (.var 7)))))))))))))))))))
 (.ret (.bool (.tt true))))))
 (.loop ⟨1, 0, 0, 0⟩ (.b2 .and (.b2 .le (.lit (0)) (.lit (0))) (.b2 .le (.lit (0)) (.ofI (.vop (.len 1) (.cons (.opq 0) .nil))))) (.b2 .and (.b2 .le (.lit (0)) (.var 7)) (.b2 .le (.var 7) (.ofI (.vop (.len 1) (.cons (.opq 0) .nil)))))
 (.br (.b2 .lt (.var 7) (.ofI (.vop (.len 1) (.cons (.opq 0) .nil))))
 (.need (.b2 .and (.b2 .and (.b2 .and (.b2 .le (.lit (-9223372036854775808)) (.var 0)) (.b2 .le (.var 0) (.lit (9223372036854775807)))) (.b2 .and (.b2 .and (.b2 .le (.lit (-9223372036854775808)) (.var 1)) (.b2 .le (.var 1) (.lit (9223372036854775807)))) (.b2 .and (.b2 .le (.lit (-9223372036854775808)) (.var 2)) (.b2 .le (.var 2) (.lit (9223372036854775807)))))) (.b2 .and (.b2 .le (.lit (-9223372036854775808)) (.var 7)) (.b2 .le (.var 7) (.lit (9223372036854775807)))))
 (.need (.b2 .and (.b2 .and (.b2 .le (.lit (-9223372036854775808)) (.var 0)) (.b2 .le (.var 0) (.lit (9223372036854775807)))) (.b2 .and (.b2 .and (.b2 .le (.lit (-9223372036854775808)) (.var 1)) (.b2 .le (.var 1) (.lit (9223372036854775807)))) (.b2 .and (.b2 .le (.lit (-9223372036854775808)) (.var 2)) (.b2 .le (.var 2) (.lit (9223372036854775807))))))
 (.need (.b2 .and (.b2 .and (.b2 .and (.b2 .le (.lit (-9223372036854775808)) (.var 0)) (.b2 .le (.var 0) (.lit (9223372036854775807)))) (.b2 .and (.b2 .and (.b2 .le (.lit (-9223372036854775808)) (.var 1)) (.b2 .le (.var 1) (.lit (9223372036854775807)))) (.b2 .and (.b2 .le (.lit (-9223372036854775808)) (.var 2)) (.b2 .le (.var 2) (.lit (9223372036854775807)))))) (.b2 .and (.b2 .le (.lit (-9223372036854775808)) (.wrap .i64 (.i2 .sub (.iapp 36 (.cons (.int .i64 (.var 0)) (.cons (.int .i64 (.var 1)) (.cons (.int .i64 (.var 2)) (.cons (.int .i64 (.var 3)) (.cons (.int .i64 (.var 4)) (.cons (.opq 0) (.cons (.int .i64 (.var 7)) .nil)))))))) (.iapp 35 (.cons (.int .i64 (.var 0)) (.cons (.int .i64 (.var 1)) (.cons (.int .i64 (.var 2)) (.cons (.int .i64 (.var 3)) (.cons (.int .i64 (.var 4)) (.cons (.opq 0) (.cons (.int .i64 (.var 7)) .nil))))))))))) (.b2 .le (.wrap .i64 (.i2 .sub (.iapp 36 (.cons (.int .i64 (.var 0)) (.cons (.int .i64 (.var 1)) (.cons (.int .i64 (.var 2)) (.cons (.int .i64 (.var 3)) (.cons (.int .i64 (.var 4)) (.cons (.opq 0) (.cons (.int .i64 (.var 7)) .nil)))))))) (.iapp 35 (.cons (.int .i64 (.var 0)) (.cons (.int .i64 (.var 1)) (.cons (.int .i64 (.var 2)) (.cons (.int .i64 (.var 3)) (.cons (.int .i64 (.var 4)) (.cons (.opq 0) (.cons (.int .i64 (.var 7)) .nil)))))))))) (.lit (9223372036854775807)))))
 (.br (.not (.b2 .eq (.iapp 34 (.cons (.int .i64 (.var 0)) (.cons (.int .i64 (.var 1)) (.cons (.int .i64 (.var 2)) (.cons (.int .i64 (.var 3)) (.cons (.int .i64 (.var 4)) (.cons (.opq 0) (.cons (.int .i64 (.var 7)) .nil)))))))) (.lit (0))))
 (.ret (.bool (.tt false)))
 (.br (.not (.b2 .eq (.iapp 26 (.cons (.int .i64 (.var 0)) (.cons (.int .i64 (.var 1)) (.cons (.int .i64 (.var 2)) (.cons (.int .i64 (.lit (0))) .nil))))) (.lit (0))))
 (.ret (.bool (.tt false)))
 (.br (.not (.b2 .eq (.iapp 26 (.cons (.int .i64 (.var 0)) (.cons (.int .i64 (.var 1)) (.cons (.int .i64 (.var 2)) (.cons (.int .i64 (.wrap .i64 (.i2 .sub (.iapp 36 (.cons (.int .i64 (.var 0)) (.cons (.int .i64 (.var 1)) (.cons (.int .i64 (.var 2)) (.cons (.int .i64 (.var 3)) (.cons (.int .i64 (.var 4)) (.cons (.opq 0) (.cons (.int .i64 (.var 7)) .nil)))))))) (.iapp 35 (.cons (.int .i64 (.var 0)) (.cons (.int .i64 (.var 1)) (.cons (.int .i64 (.var 2)) (.cons (.int .i64 (.var 3)) (.cons (.int .i64 (.var 4)) (.cons (.opq 0) (.cons (.int .i64 (.var 7)) .nil))))))))))) .nil))))) (.lit (0))))
 (.ret (.bool (.tt false)))
 (.br (.not (.b2 .eq (.iapp 27 (.cons (.int .i64 (.var 0)) (.cons (.int .i64 (.var 1)) (.cons (.int .i64 (.var 2)) (.cons (.int .i64 (.lit (0))) .nil))))) (.lit (0))))
 (.ret (.bool (.tt false)))
 (.br (.not (.b2 .eq (.iapp 27 (.cons (.int .i64 (.var 0)) (.cons (.int .i64 (.var 1)) (.cons (.int .i64 (.var 2)) (.cons (.int .i64 (.wrap .i64 (.i2 .sub (.iapp 36 (.cons (.int .i64 (.var 0)) (.cons (.int .i64 (.var 1)) (.cons (.int .i64 (.var 2)) (.cons (.int .i64 (.var 3)) (.cons (.int .i64 (.var 4)) (.cons (.opq 0) (.cons (.int .i64 (.var 7)) .nil)))))))) (.iapp 35 (.cons (.int .i64 (.var 0)) (.cons (.int .i64 (.var 1)) (.cons (.int .i64 (.var 2)) (.cons (.int .i64 (.var 3)) (.cons (.int .i64 (.var 4)) (.cons (.opq 0) (.cons (.int .i64 (.var 7)) .nil))))))))))) .nil))))) (.lit (1000000000))))
 (.ret (.bool (.tt false)))
 (.need (.b2 .and (.b2 .and (.b2 .and (.b2 .le (.lit (-9223372036854775808)) (.var 0)) (.b2 .le (.var 0) (.lit (9223372036854775807)))) (.b2 .and (.b2 .and (.b2 .le (.lit (-9223372036854775808)) (.var 1)) (.b2 .le (.var 1) (.lit (9223372036854775807)))) (.b2 .and (.b2 .le (.lit (-9223372036854775808)) (.var 2)) (.b2 .le (.var 2) (.lit (9223372036854775807)))))) (.b2 .and (.b2 .le (.lit (-9223372036854775808)) (.iapp 35 (.cons (.int .i64 (.var 0)) (.cons (.int .i64 (.var 1)) (.cons (.int .i64 (.var 2)) (.cons (.int .i64 (.var 3)) (.cons (.int .i64 (.var 4)) (.cons (.opq 0) (.cons (.int .i64 (.var 7)) .nil))))))))) (.b2 .le (.iapp 35 (.cons (.int .i64 (.var 0)) (.cons (.int .i64 (.var 1)) (.cons (.int .i64 (.var 2)) (.cons (.int .i64 (.var 3)) (.cons (.int .i64 (.var 4)) (.cons (.opq 0) (.cons (.int .i64 (.var 7)) .nil)))))))) (.lit (9223372036854775807)))))
 (.need (.b2 .and (.b2 .le (.lit (-9223372036854775808)) (.iapp 35 (.cons (.int .i64 (.var 0)) (.cons (.int .i64 (.var 1)) (.cons (.int .i64 (.var 2)) (.cons (.int .i64 (.var 3)) (.cons (.int .i64 (.var 4)) (.cons (.opq 0) (.cons (.int .i64 (.var 7)) .nil))))))))) (.b2 .le (.iapp 35 (.cons (.int .i64 (.var 0)) (.cons (.int .i64 (.var 1)) (.cons (.int .i64 (.var 2)) (.cons (.int .i64 (.var 3)) (.cons (.int .i64 (.var 4)) (.cons (.opq 0) (.cons (.int .i64 (.var 7)) .nil)))))))) (.lit (9223372036854775807))))
 (.need (.b2 .and (.b2 .and (.b2 .and (.b2 .le (.lit (-9223372036854775808)) (.var 0)) (.b2 .le (.var 0) (.lit (9223372036854775807)))) (.b2 .and (.b2 .and (.b2 .le (.lit (-9223372036854775808)) (.var 1)) (.b2 .le (.var 1) (.lit (9223372036854775807)))) (.b2 .and (.b2 .le (.lit (-9223372036854775808)) (.var 2)) (.b2 .le (.var 2) (.lit (9223372036854775807)))))) (.b2 .and (.b2 .le (.lit (-9223372036854775808)) (.iapp 36 (.cons (.int .i64 (.var 0)) (.cons (.int .i64 (.var 1)) (.cons (.int .i64 (.var 2)) (.cons (.int .i64 (.var 3)) (.cons (.int .i64 (.var 4)) (.cons (.opq 0) (.cons (.int .i64 (.var 7)) .nil))))))))) (.b2 .le (.iapp 36 (.cons (.int .i64 (.var 0)) (.cons (.int .i64 (.var 1)) (.cons (.int .i64 (.var 2)) (.cons (.int .i64 (.var 3)) (.cons (.int .i64 (.var 4)) (.cons (.opq 0) (.cons (.int .i64 (.var 7)) .nil)))))))) (.lit (9223372036854775807)))))
 (.need (.b2 .and (.b2 .le (.lit (-9223372036854775808)) (.iapp 36 (.cons (.int .i64 (.var 0)) (.cons (.int .i64 (.var 1)) (.cons (.int .i64 (.var 2)) (.cons (.int .i64 (.var 3)) (.cons (.int .i64 (.var 4)) (.cons (.opq 0) (.cons (.int .i64 (.var 7)) .nil))))))))) (.b2 .le (.iapp 36 (.cons (.int .i64 (.var 0)) (.cons (.int .i64 (.var 1)) (.cons (.int .i64 (.var 2)) (.cons (.int .i64 (.var 3)) (.cons (.int .i64 (.var 4)) (.cons (.opq 0) (.cons (.int .i64 (.var 7)) .nil)))))))) (.lit (9223372036854775807))))
 (.br (.not (.b2 .beq (.b2 .eq (.iapp 30 (.cons (.int .i64 (.var 0)) (.cons (.int .i64 (.var 1)) (.cons (.int .i64 (.var 2)) (.cons (.int .i64 (.var 3)) (.cons (.int .i64 (.var 4)) (.cons (.opq 0) (.cons (.int .i64 (.iapp 35 (.cons (.int .i64 (.var 0)) (.cons (.int .i64 (.var 1)) (.cons (.int .i64 (.var 2)) (.cons (.int .i64 (.var 3)) (.cons (.int .i64 (.var 4)) (.cons (.opq 0) (.cons (.int .i64 (.var 7)) .nil))))))))) .nil)))))))) (.lit (0))) (.b2 .eq (.iapp 30 (.cons (.int .i64 (.lit (0))) (.cons (.int .i64 (.lit (0))) (.cons (.int .i64 (.lit (0))) (.cons (.int .i64 (.var 3)) (.cons (.int .i64 (.var 4)) (.cons (.opq 0) (.cons (.int .i64 (.iapp 35 (.cons (.int .i64 (.var 0)) (.cons (.int .i64 (.var 1)) (.cons (.int .i64 (.var 2)) (.cons (.int .i64 (.var 3)) (.cons (.int .i64 (.var 4)) (.cons (.opq 0) (.cons (.int .i64 (.var 7)) .nil))))))))) .nil)))))))) (.lit (0)))))
 (.ret (.bool (.tt false)))
 (.br (.not (.b2 .beq (.b2 .eq (.iapp 30 (.cons (.int .i64 (.var 0)) (.cons (.int .i64 (.var 1)) (.cons (.int .i64 (.var 2)) (.cons (.int .i64 (.var 3)) (.cons (.int .i64 (.var 4)) (.cons (.opq 0) (.cons (.int .i64 (.iapp 36 (.cons (.int .i64 (.var 0)) (.cons (.int .i64 (.var 1)) (.cons (.int .i64 (.var 2)) (.cons (.int .i64 (.var 3)) (.cons (.int .i64 (.var 4)) (.cons (.opq 0) (.cons (.int .i64 (.var 7)) .nil))))))))) .nil)))))))) (.lit (0))) (.b2 .eq (.iapp 30 (.cons (.int .i64 (.lit (0))) (.cons (.int .i64 (.lit (0))) (.cons (.int .i64 (.lit (0))) (.cons (.int .i64 (.var 3)) (.cons (.int .i64 (.var 4)) (.cons (.opq 0) (.cons (.int .i64 (.iapp 36 (.cons (.int .i64 (.var 0)) (.cons (.int .i64 (.var 1)) (.cons (.int .i64 (.var 2)) (.cons (.int .i64 (.var 3)) (.cons (.int .i64 (.var 4)) (.cons (.opq 0) (.cons (.int .i64 (.var 7)) .nil))))))))) .nil)))))))) (.lit (0)))))
 (.ret (.bool (.tt false)))
 (.br (.not (.b2 .eq (.iapp 31 (.cons (.int .i64 (.var 0)) (.cons (.int .i64 (.var 1)) (.cons (.int .i64 (.var 2)) (.cons (.int .i64 (.var 3)) (.cons (.int .i64 (.var 4)) (.cons (.opq 0) (.cons (.int .i64 (.iapp 35 (.cons (.int .i64 (.var 0)) (.cons (.int .i64 (.var 1)) (.cons (.int .i64 (.var 2)) (.cons (.int .i64 (.var 3)) (.cons (.int .i64 (.var 4)) (.cons (.opq 0) (.cons (.int .i64 (.var 7)) .nil))))))))) .nil)))))))) (.iapp 31 (.cons (.int .i64 (.lit (0))) (.cons (.int .i64 (.lit (0))) (.cons (.int .i64 (.lit (0))) (.cons (.int .i64 (.var 3)) (.cons (.int .i64 (.var 4)) (.cons (.opq 0) (.cons (.int .i64 (.iapp 35 (.cons (.int .i64 (.var 0)) (.cons (.int .i64 (.var 1)) (.cons (.int .i64 (.var 2)) (.cons (.int .i64 (.var 3)) (.cons (.int .i64 (.var 4)) (.cons (.opq 0) (.cons (.int .i64 (.var 7)) .nil))))))))) .nil))))))))))
 (.ret (.bool (.tt false)))
 (.br (.not (.b2 .eq (.iapp 31 (.cons (.int .i64 (.var 0)) (.cons (.int .i64 (.var 1)) (.cons (.int .i64 (.var 2)) (.cons (.int .i64 (.var 3)) (.cons (.int .i64 (.var 4)) (.cons (.opq 0) (.cons (.int .i64 (.iapp 36 (.cons (.int .i64 (.var 0)) (.cons (.int .i64 (.var 1)) (.cons (.int .i64 (.var 2)) (.cons (.int .i64 (.var 3)) (.cons (.int .i64 (.var 4)) (.cons (.opq 0) (.cons (.int .i64 (.var 7)) .nil))))))))) .nil)))))))) (.iapp 31 (.cons (.int .i64 (.lit (0))) (.cons (.int .i64 (.lit (0))) (.cons (.int .i64 (.lit (0))) (.cons (.int .i64 (.var 3)) (.cons (.int .i64 (.var 4)) (.cons (.opq 0) (.cons (.int .i64 (.iapp 36 (.cons (.int .i64 (.var 0)) (.cons (.int .i64 (.var 1)) (.cons (.int .i64 (.var 2)) (.cons (.int .i64 (.var 3)) (.cons (.int .i64 (.var 4)) (.cons (.opq 0) (.cons (.int .i64 (.var 7)) .nil))))))))) .nil))))))))))
 (.ret (.bool (.tt false)))
 (.back (.b2 .and (.b2 .le (.lit (0)) (.wrap .i64 (.i2 .add (.var 7) (.lit (1))))) (.b2 .le (.wrap .i64 (.i2 .add (.var 7) (.lit (1)))) (.ofI (.vop (.len 1) (.cons (.opq 0) .nil))))) (.i2 .sub (.ofI (.vop (.len 1) (.cons (.opq 0) .nil))) (.wrap .i64 (.i2 .add (.var 7) (.lit (1))))) (.i2 .sub (.ofI (.vop (.len 1) (.cons (.opq 0) .nil))) (.var 7)))))))))))))))))))
 (.ret (.bool (.tt true))))))))))))
abbrev s12gc_wOnward : Con := ⟨11, [(.agg (.cons (.int .i64 (.var 0)) (.cons (.int .i64 (.var 1)) (.cons (.int .i64 (.var 2)) .nil)))), (.agg (.cons (.int .i64 (.var 3)) (.cons (.int .i64 (.var 4)) (.cons (.hs .no (.cons (.int .i64) .nil) (.opq 0)) .nil)))), (.agg (.cons (.int .i64 (.var 5)) (.cons (.int .i64 (.var 6)) .nil)))], (.b2 .and (.b2 .and (.b2 .and (.b2 .le (.lit (-9223372036854775808)) (.var 0)) (.b2 .le (.var 0) (.lit (9223372036854775807)))) (.b2 .and (.b2 .and (.b2 .le (.lit (-9223372036854775808)) (.var 1)) (.b2 .le (.var 1) (.lit (9223372036854775807)))) (.b2 .and (.b2 .le (.lit (-9223372036854775808)) (.var 2)) (.b2 .le (.var 2) (.lit (9223372036854775807)))))) (.b2 .and (.b2 .and (.b2 .le (.lit (-9223372036854775808)) (.var 5)) (.b2 .le (.var 5) (.lit (9223372036854775807)))) (.b2 .and (.b2 .le (.lit (-9223372036854775808)) (.var 6)) (.b2 .le (.var 6) (.lit (9223372036854775807)))))), (.bool (.tt true)), ⟨7, 0, 1, 0⟩, none⟩
theorem wOnward_w : walk Tryd.prog 182 ⟨[s12cc_sure12, s12c_sfits, s12c_sat, s12c_sWin, s12c_slag, s12cc_num], syG, [], [], []⟩ [⟨0, ⟨1, 0, 0, 0⟩, [(15, (.int .i64 (.var 7)))], none, (.b2 .and (.b2 .le (.lit (0)) (.var 7)) (.b2 .le (.var 7) (.ofI (.vop (.len 1) (.cons (.opq 0) .nil))))), (.i2 .sub (.ofI (.vop (.len 1) (.cons (.opq 0) .nil))) (.var 7)), 0, []⟩] .v s12gc_wOnward s12gc_wOnward.n 3000 = some wOnward_tree := by kernel_rfl
set_option maxHeartbeats 4000000 in
theorem wOnward_h (k : Int) (B : Int) (A : Int) (b : Int) (t : Int) (x : Int) (y : Int) (l : Value) (hc : holds (s12gE [k, B, A, b, t, x, y] [] [l] []) (.b2 .and (.b2 .and (.b2 .and (.b2 .le (.lit (-9223372036854775808)) (.var 0)) (.b2 .le (.var 0) (.lit (9223372036854775807)))) (.b2 .and (.b2 .and (.b2 .le (.lit (-9223372036854775808)) (.var 1)) (.b2 .le (.var 1) (.lit (9223372036854775807)))) (.b2 .and (.b2 .le (.lit (-9223372036854775808)) (.var 2)) (.b2 .le (.var 2) (.lit (9223372036854775807)))))) (.b2 .and (.b2 .and (.b2 .le (.lit (-9223372036854775808)) (.var 5)) (.b2 .le (.var 5) (.lit (9223372036854775807)))) (.b2 .and (.b2 .le (.lit (-9223372036854775808)) (.var 6)) (.b2 .le (.var 6) (.lit (9223372036854775807))))))) (hty : patsTyp (s12gE [k, B, A, b, t, x, y] [] [l] []) [(.agg (.cons (.int .i64 (.var 0)) (.cons (.int .i64 (.var 1)) (.cons (.int .i64 (.var 2)) .nil)))), (.agg (.cons (.int .i64 (.var 3)) (.cons (.int .i64 (.var 4)) (.cons (.hs .no (.cons (.int .i64) .nil) (.opq 0)) .nil)))), (.agg (.cons (.int .i64 (.var 5)) (.cons (.int .i64 (.var 6)) .nil)))]) : wOnward_tree.holds (fun v_ => v_ = denV (s12gE [k, B, A, b, t, x, y] [] [l] []) b0 (.bool (.tt true))) (s12gE [k, B, A, b, t, x, y] [] [l] []) := by
  simp only [Tree.holds, Sy.holds, AllN, Env.more, s12gE, List.cons_append, List.nil_append, List.append_nil, denV, denI, denB, denL, I2.den, VOp.den, List.getD_cons_zero, List.getD_cons_succ, Cst.den, syso, syse, syio, sybo, s12gi_may, s12gi_lcnt, s12gi_lct, s12gi_least, s12gi_wrong, s12gi_sec, s12gi_aheadI, s12gi_lenI, s12gi_begI, s12gi_utcE, s12gi_utcD, s12gi_utcS, s12gi_utcN, s12gi_sz, s12gi_sa, s12gi_nv, s12gi_ne, s12gi_dq, s12gi_dm, s12gi_de, s12gi_sm, s12gi_sln, s12gi_wb, s12gi_wn, s12gi_fits, s12gi_last, s12gi_lge, s12gi_lgv, s12gi_mdn, s12gi_mde, s12gi_ate, s12gi_atv, s12gi_pln, s12gi_cel, s12gi_wse, s12gi_wsb, s12gi_wsn, s12gi_upf, s12gi_pla, s12gi_wiv, s12gi_wbj, s12gb_lok, s12gb_mayb, s12gb_fitl, s12gb_noj, List.map_nil, List.map_cons, B2.ofInts, B2.denI, B2.denB, if_true, Bool.false_eq_true, if_false, Nat.div_one, Nat.mul_one, Nat.add_zero, holds] at hc
  simp only [patsTyp, patTyp, patTypL, s12gE, denV, denL, List.getD_cons_zero, List.getD_cons_succ, and_true, true_and] at hty
  have hL_l : typ (.sl (.cons (.int .i64) .nil)) l := by first | exact hty | exact hty.1 | exact hty.2 | exact hty.1.1 | exact hty.1.2 | exact hty.2.1 | exact hty.2.2 | exact hty.2.2.1 | exact hty.2.2.2
  have hN_l := typ_len (n := 1) hL_l rfl (by omega)
  simp only [Nat.div_one, Nat.mul_one] at hN_l
  unfold wOnward_tree
  simp only [Tree.holds, Sy.holds, AllN, Env.more, s12gE, List.cons_append, List.nil_append, List.append_nil, denV, denI, denB, denL, I2.den, VOp.den, List.getD_cons_zero, List.getD_cons_succ, Cst.den, syso, syse, syio, sybo, s12gi_may, s12gi_lcnt, s12gi_lct, s12gi_least, s12gi_wrong, s12gi_sec, s12gi_aheadI, s12gi_lenI, s12gi_begI, s12gi_utcE, s12gi_utcD, s12gi_utcS, s12gi_utcN, s12gi_sz, s12gi_sa, s12gi_nv, s12gi_ne, s12gi_dq, s12gi_dm, s12gi_de, s12gi_sm, s12gi_sln, s12gi_wb, s12gi_wn, s12gi_fits, s12gi_last, s12gi_lge, s12gi_lgv, s12gi_mdn, s12gi_mde, s12gi_ate, s12gi_atv, s12gi_pln, s12gi_cel, s12gi_wse, s12gi_wsb, s12gi_wsn, s12gi_upf, s12gi_pla, s12gi_wiv, s12gi_wbj, s12gb_lok, s12gb_mayb, s12gb_fitl, s12gb_noj, List.map_nil, List.map_cons, B2.ofInts, B2.denI, B2.denB, if_true, Bool.false_eq_true, if_false, Nat.div_one, Nat.mul_one, Nat.add_zero]
  have hlen := ints_len l
  obtain ⟨lo, hi, hlo, hhi, hle, hl0, hl1, hh0, hh1⟩ : ∃ lo hi, (if y < x then y else x) = lo ∧ (if y > x then y else x) = hi ∧ lo ≤ hi ∧ -9223372036854775808 ≤ lo ∧ lo ≤ 9223372036854775807 ∧ -9223372036854775808 ≤ hi ∧ hi ≤ 9223372036854775807 := ⟨_, _, rfl, rfl, by split <;> split <;> omega, by split <;> omega, by split <;> omega, by split <;> omega, by split <;> omega⟩
  simp only [hlo, hhi]
  refine ⟨fun h0 => ?_, fun h0 => ?_⟩
  ·
   first
   | exact True.intro
   | rfl
   | (exfalso; omega)
   | (exfalso
      have hf : fitsI k B A b t (intsOf l) = 0 := by omega
      have hk : k ≠ 0 := by omega
      have on := onward hf hk hle (by assumption) (by assumption)
      have e1 := at_utc hf lo
      have e2 := at_utc hf hi
      have x1 := utcE_spec b t (intsOf l) lo
      have x2 := utcE_spec b t (intsOf l) hi
      have w1 := wr_i64 (hi - lo)
      have w2 := wr_i64 (atV k B A b t (intsOf l) hi - atV k B A b t (intsOf l) lo)
      omega)
  ·
   refine ⟨?_, fun h1 => ?_⟩
   ·
    first
    | exact True.intro
    | omega
   ·
    refine ⟨fun h2 => ?_, fun h2 => ?_⟩
    ·
     first
     | exact True.intro
     | rfl
     | (exfalso; omega)
     | (exfalso
        have hf : fitsI k B A b t (intsOf l) = 0 := by omega
        have hk : k ≠ 0 := by omega
        have on := onward hf hk hle (by assumption) (by assumption)
        have e1 := at_utc hf lo
        have e2 := at_utc hf hi
        have x1 := utcE_spec b t (intsOf l) lo
        have x2 := utcE_spec b t (intsOf l) hi
        have w1 := wr_i64 (hi - lo)
        have w2 := wr_i64 (atV k B A b t (intsOf l) hi - atV k B A b t (intsOf l) lo)
        omega)
    ·
     refine ⟨fun h3 => ?_, fun h3 => ?_⟩
     ·
      first
      | exact True.intro
      | rfl
      | (exfalso; omega)
      | (exfalso
         have hf : fitsI k B A b t (intsOf l) = 0 := by omega
         have hk : k ≠ 0 := by omega
         have on := onward hf hk hle (by assumption) (by assumption)
         have e1 := at_utc hf lo
         have e2 := at_utc hf hi
         have x1 := utcE_spec b t (intsOf l) lo
         have x2 := utcE_spec b t (intsOf l) hi
         have w1 := wr_i64 (hi - lo)
         have w2 := wr_i64 (atV k B A b t (intsOf l) hi - atV k B A b t (intsOf l) lo)
         omega)
     ·
      refine ⟨?_, fun h4 => ?_⟩
      ·
       first
       | exact True.intro
       | omega
      ·
       refine ⟨?_, fun h5 => ?_⟩
       ·
        first
        | exact True.intro
        | omega
       ·
        refine ⟨fun h6 => ?_, fun h6 => ?_⟩
        ·
         refine ⟨fun h7 => ?_, fun h7 => ?_⟩
         ·
          refine ⟨fun h8 => ?_, fun h8 => ?_⟩
          ·
           first
           | exact True.intro
           | rfl
           | (exfalso; omega)
           | (exfalso
              have hf : fitsI k B A b t (intsOf l) = 0 := by omega
              have hk : k ≠ 0 := by omega
              have on := onward hf hk hle (by assumption) (by assumption)
              have e1 := at_utc hf lo
              have e2 := at_utc hf hi
              have x1 := utcE_spec b t (intsOf l) lo
              have x2 := utcE_spec b t (intsOf l) hi
              have w1 := wr_i64 (hi - lo)
              have w2 := wr_i64 (atV k B A b t (intsOf l) hi - atV k B A b t (intsOf l) lo)
              omega)
          ·
           refine ⟨fun h9 => ?_, fun h9 => ?_⟩
           ·
            first
            | exact True.intro
            | rfl
            | (exfalso; omega)
            | (exfalso
               have hf : fitsI k B A b t (intsOf l) = 0 := by omega
               have hk : k ≠ 0 := by omega
               have on := onward hf hk hle (by assumption) (by assumption)
               have e1 := at_utc hf lo
               have e2 := at_utc hf hi
               have x1 := utcE_spec b t (intsOf l) lo
               have x2 := utcE_spec b t (intsOf l) hi
               have w1 := wr_i64 (hi - lo)
               have w2 := wr_i64 (atV k B A b t (intsOf l) hi - atV k B A b t (intsOf l) lo)
               omega)
           ·
            refine ⟨?_, ?_⟩
            ·
             exact ⟨by omega, by omega⟩
            ·
             intro i0a hi0
             refine ⟨fun h10 => ?_, fun h10 => ?_⟩
             ·
              refine ⟨?_, fun h11 => ?_⟩
              ·
               first
               | exact True.intro
               | omega
               | (
                  have hf : fitsI k B A b t (intsOf l) = 0 := by omega
                  have hk : k ≠ 0 := by omega
                  obtain ⟨hs, hm0, hm, hfl, b0, b1, b2, b3⟩ := fit_facts hf
                  have y1 := ws_spec k B A b t (intsOf l) i0a
                  have n1 := slN_spec B A
                  have hE : wsE k B A b t (intsOf l) i0a = 0 := by omega
                  have hB : wsB k B A b t (intsOf l) i0a = wbJ B b (intsOf l) i0a.toNat := by omega
                  have hN : wsN k B A b t (intsOf l) i0a = wbJ B b (intsOf l) i0a.toNat + slN B A := by omega
                  have hD : IntKind.wrap .i64 (wbJ B b (intsOf l) i0a.toNat + slN B A - wbJ B b (intsOf l) i0a.toNat) = slN B A := by rw [show wbJ B b (intsOf l) i0a.toNat + slN B A - wbJ B b (intsOf l) i0a.toNat = slN B A by omega]; have := wr_i64 (slN B A); omega
                  have hsa := sec_at hm (i := i0a.toNat) (by omega)
                  have hsc := secL_spec b (intsOf l) ((intsOf l).getD i0a.toNat 0)
                  have hms := mayL_spec hm
                  have e9 : wbJ B b (intsOf l) i0a.toNat = (secL b (intsOf l) ((intsOf l).getD i0a.toNat 0) + 86400 - B) * 1000000000 := rfl
                  have le := lag_ends hs hk
                  have en := ends_same hf hk (j := i0a.toNat) (by omega)
                  have a1 := at_utc hf (wbJ B b (intsOf l) i0a.toNat)
                  have a2 := at_utc hf (wbJ B b (intsOf l) i0a.toNat + slN B A)
                  have a3 := (step_at hm0 (wbJ B b (intsOf l) i0a.toNat)).1
                  have a4 := (step_at hm0 (wbJ B b (intsOf l) i0a.toNat + slN B A)).1
                  simp only [hB, hN, hD] at *
                  omega)
              ·
               refine ⟨?_, fun h12 => ?_⟩
               ·
                first
                | exact True.intro
                | omega
                | (
                   have hf : fitsI k B A b t (intsOf l) = 0 := by omega
                   have hk : k ≠ 0 := by omega
                   obtain ⟨hs, hm0, hm, hfl, b0, b1, b2, b3⟩ := fit_facts hf
                   have y1 := ws_spec k B A b t (intsOf l) i0a
                   have n1 := slN_spec B A
                   have hE : wsE k B A b t (intsOf l) i0a = 0 := by omega
                   have hB : wsB k B A b t (intsOf l) i0a = wbJ B b (intsOf l) i0a.toNat := by omega
                   have hN : wsN k B A b t (intsOf l) i0a = wbJ B b (intsOf l) i0a.toNat + slN B A := by omega
                   have hD : IntKind.wrap .i64 (wbJ B b (intsOf l) i0a.toNat + slN B A - wbJ B b (intsOf l) i0a.toNat) = slN B A := by rw [show wbJ B b (intsOf l) i0a.toNat + slN B A - wbJ B b (intsOf l) i0a.toNat = slN B A by omega]; have := wr_i64 (slN B A); omega
                   have hsa := sec_at hm (i := i0a.toNat) (by omega)
                   have hsc := secL_spec b (intsOf l) ((intsOf l).getD i0a.toNat 0)
                   have hms := mayL_spec hm
                   have e9 : wbJ B b (intsOf l) i0a.toNat = (secL b (intsOf l) ((intsOf l).getD i0a.toNat 0) + 86400 - B) * 1000000000 := rfl
                   have le := lag_ends hs hk
                   have en := ends_same hf hk (j := i0a.toNat) (by omega)
                   have a1 := at_utc hf (wbJ B b (intsOf l) i0a.toNat)
                   have a2 := at_utc hf (wbJ B b (intsOf l) i0a.toNat + slN B A)
                   have a3 := (step_at hm0 (wbJ B b (intsOf l) i0a.toNat)).1
                   have a4 := (step_at hm0 (wbJ B b (intsOf l) i0a.toNat + slN B A)).1
                   simp only [hB, hN, hD] at *
                   omega)
               ·
                have wf2 := wr_i64 ((wsN k B A b t (intsOf l) i0a) - (wsB k B A b t (intsOf l) i0a))
                refine ⟨?_, fun h13 => ?_⟩
                ·
                 first
                 | exact True.intro
                 | omega
                 | (
                    have hf : fitsI k B A b t (intsOf l) = 0 := by omega
                    have hk : k ≠ 0 := by omega
                    obtain ⟨hs, hm0, hm, hfl, b0, b1, b2, b3⟩ := fit_facts hf
                    have y1 := ws_spec k B A b t (intsOf l) i0a
                    have n1 := slN_spec B A
                    have hE : wsE k B A b t (intsOf l) i0a = 0 := by omega
                    have hB : wsB k B A b t (intsOf l) i0a = wbJ B b (intsOf l) i0a.toNat := by omega
                    have hN : wsN k B A b t (intsOf l) i0a = wbJ B b (intsOf l) i0a.toNat + slN B A := by omega
                    have hD : IntKind.wrap .i64 (wbJ B b (intsOf l) i0a.toNat + slN B A - wbJ B b (intsOf l) i0a.toNat) = slN B A := by rw [show wbJ B b (intsOf l) i0a.toNat + slN B A - wbJ B b (intsOf l) i0a.toNat = slN B A by omega]; have := wr_i64 (slN B A); omega
                    have hsa := sec_at hm (i := i0a.toNat) (by omega)
                    have hsc := secL_spec b (intsOf l) ((intsOf l).getD i0a.toNat 0)
                    have hms := mayL_spec hm
                    have e9 : wbJ B b (intsOf l) i0a.toNat = (secL b (intsOf l) ((intsOf l).getD i0a.toNat 0) + 86400 - B) * 1000000000 := rfl
                    have le := lag_ends hs hk
                    have en := ends_same hf hk (j := i0a.toNat) (by omega)
                    have a1 := at_utc hf (wbJ B b (intsOf l) i0a.toNat)
                    have a2 := at_utc hf (wbJ B b (intsOf l) i0a.toNat + slN B A)
                    have a3 := (step_at hm0 (wbJ B b (intsOf l) i0a.toNat)).1
                    have a4 := (step_at hm0 (wbJ B b (intsOf l) i0a.toNat + slN B A)).1
                    simp only [hB, hN, hD] at *
                    omega)
                ·
                 refine ⟨fun h14 => ?_, fun h14 => ?_⟩
                 ·
                  first
                  | exact True.intro
                  | rfl
                  | (exfalso
                     have hf : fitsI k B A b t (intsOf l) = 0 := by omega
                     have hk : k ≠ 0 := by omega
                     obtain ⟨hs, hm0, hm, hfl, b0, b1, b2, b3⟩ := fit_facts hf
                     have y1 := ws_spec k B A b t (intsOf l) i0a
                     have n1 := slN_spec B A
                     have hE : wsE k B A b t (intsOf l) i0a = 0 := by omega
                     have hB : wsB k B A b t (intsOf l) i0a = wbJ B b (intsOf l) i0a.toNat := by omega
                     have hN : wsN k B A b t (intsOf l) i0a = wbJ B b (intsOf l) i0a.toNat + slN B A := by omega
                     have hD : IntKind.wrap .i64 (wbJ B b (intsOf l) i0a.toNat + slN B A - wbJ B b (intsOf l) i0a.toNat) = slN B A := by rw [show wbJ B b (intsOf l) i0a.toNat + slN B A - wbJ B b (intsOf l) i0a.toNat = slN B A by omega]; have := wr_i64 (slN B A); omega
                     have hsa := sec_at hm (i := i0a.toNat) (by omega)
                     have hsc := secL_spec b (intsOf l) ((intsOf l).getD i0a.toNat 0)
                     have hms := mayL_spec hm
                     have e9 : wbJ B b (intsOf l) i0a.toNat = (secL b (intsOf l) ((intsOf l).getD i0a.toNat 0) + 86400 - B) * 1000000000 := rfl
                     have le := lag_ends hs hk
                     have en := ends_same hf hk (j := i0a.toNat) (by omega)
                     have a1 := at_utc hf (wbJ B b (intsOf l) i0a.toNat)
                     have a2 := at_utc hf (wbJ B b (intsOf l) i0a.toNat + slN B A)
                     have a3 := (step_at hm0 (wbJ B b (intsOf l) i0a.toNat)).1
                     have a4 := (step_at hm0 (wbJ B b (intsOf l) i0a.toNat + slN B A)).1
                     simp only [hB, hN, hD] at *
                     omega)
                 ·
                  refine ⟨fun h15 => ?_, fun h15 => ?_⟩
                  ·
                   first
                   | exact True.intro
                   | rfl
                   | (exfalso
                      have hf : fitsI k B A b t (intsOf l) = 0 := by omega
                      have hk : k ≠ 0 := by omega
                      obtain ⟨hs, hm0, hm, hfl, b0, b1, b2, b3⟩ := fit_facts hf
                      have y1 := ws_spec k B A b t (intsOf l) i0a
                      have n1 := slN_spec B A
                      have hE : wsE k B A b t (intsOf l) i0a = 0 := by omega
                      have hB : wsB k B A b t (intsOf l) i0a = wbJ B b (intsOf l) i0a.toNat := by omega
                      have hN : wsN k B A b t (intsOf l) i0a = wbJ B b (intsOf l) i0a.toNat + slN B A := by omega
                      have hD : IntKind.wrap .i64 (wbJ B b (intsOf l) i0a.toNat + slN B A - wbJ B b (intsOf l) i0a.toNat) = slN B A := by rw [show wbJ B b (intsOf l) i0a.toNat + slN B A - wbJ B b (intsOf l) i0a.toNat = slN B A by omega]; have := wr_i64 (slN B A); omega
                      have hsa := sec_at hm (i := i0a.toNat) (by omega)
                      have hsc := secL_spec b (intsOf l) ((intsOf l).getD i0a.toNat 0)
                      have hms := mayL_spec hm
                      have e9 : wbJ B b (intsOf l) i0a.toNat = (secL b (intsOf l) ((intsOf l).getD i0a.toNat 0) + 86400 - B) * 1000000000 := rfl
                      have le := lag_ends hs hk
                      have en := ends_same hf hk (j := i0a.toNat) (by omega)
                      have a1 := at_utc hf (wbJ B b (intsOf l) i0a.toNat)
                      have a2 := at_utc hf (wbJ B b (intsOf l) i0a.toNat + slN B A)
                      have a3 := (step_at hm0 (wbJ B b (intsOf l) i0a.toNat)).1
                      have a4 := (step_at hm0 (wbJ B b (intsOf l) i0a.toNat + slN B A)).1
                      simp only [hB, hN, hD] at *
                      omega)
                  ·
                   try simp only [hw2]
                   refine ⟨fun h16 => ?_, fun h16 => ?_⟩
                   ·
                    first
                    | exact True.intro
                    | rfl
                    | (exfalso
                       have hf : fitsI k B A b t (intsOf l) = 0 := by omega
                       have hk : k ≠ 0 := by omega
                       obtain ⟨hs, hm0, hm, hfl, b0, b1, b2, b3⟩ := fit_facts hf
                       have y1 := ws_spec k B A b t (intsOf l) i0a
                       have n1 := slN_spec B A
                       have hE : wsE k B A b t (intsOf l) i0a = 0 := by omega
                       have hB : wsB k B A b t (intsOf l) i0a = wbJ B b (intsOf l) i0a.toNat := by omega
                       have hN : wsN k B A b t (intsOf l) i0a = wbJ B b (intsOf l) i0a.toNat + slN B A := by omega
                       have hD : IntKind.wrap .i64 (wbJ B b (intsOf l) i0a.toNat + slN B A - wbJ B b (intsOf l) i0a.toNat) = slN B A := by rw [show wbJ B b (intsOf l) i0a.toNat + slN B A - wbJ B b (intsOf l) i0a.toNat = slN B A by omega]; have := wr_i64 (slN B A); omega
                       have hsa := sec_at hm (i := i0a.toNat) (by omega)
                       have hsc := secL_spec b (intsOf l) ((intsOf l).getD i0a.toNat 0)
                       have hms := mayL_spec hm
                       have e9 : wbJ B b (intsOf l) i0a.toNat = (secL b (intsOf l) ((intsOf l).getD i0a.toNat 0) + 86400 - B) * 1000000000 := rfl
                       have le := lag_ends hs hk
                       have en := ends_same hf hk (j := i0a.toNat) (by omega)
                       have a1 := at_utc hf (wbJ B b (intsOf l) i0a.toNat)
                       have a2 := at_utc hf (wbJ B b (intsOf l) i0a.toNat + slN B A)
                       have a3 := (step_at hm0 (wbJ B b (intsOf l) i0a.toNat)).1
                       have a4 := (step_at hm0 (wbJ B b (intsOf l) i0a.toNat + slN B A)).1
                       simp only [hB, hN, hD] at *
                       omega)
                   ·
                    refine ⟨fun h17 => ?_, fun h17 => ?_⟩
                    ·
                     first
                     | exact True.intro
                     | rfl
                     | (exfalso
                        have hf : fitsI k B A b t (intsOf l) = 0 := by omega
                        have hk : k ≠ 0 := by omega
                        obtain ⟨hs, hm0, hm, hfl, b0, b1, b2, b3⟩ := fit_facts hf
                        have y1 := ws_spec k B A b t (intsOf l) i0a
                        have n1 := slN_spec B A
                        have hE : wsE k B A b t (intsOf l) i0a = 0 := by omega
                        have hB : wsB k B A b t (intsOf l) i0a = wbJ B b (intsOf l) i0a.toNat := by omega
                        have hN : wsN k B A b t (intsOf l) i0a = wbJ B b (intsOf l) i0a.toNat + slN B A := by omega
                        have hD : IntKind.wrap .i64 (wbJ B b (intsOf l) i0a.toNat + slN B A - wbJ B b (intsOf l) i0a.toNat) = slN B A := by rw [show wbJ B b (intsOf l) i0a.toNat + slN B A - wbJ B b (intsOf l) i0a.toNat = slN B A by omega]; have := wr_i64 (slN B A); omega
                        have hsa := sec_at hm (i := i0a.toNat) (by omega)
                        have hsc := secL_spec b (intsOf l) ((intsOf l).getD i0a.toNat 0)
                        have hms := mayL_spec hm
                        have e9 : wbJ B b (intsOf l) i0a.toNat = (secL b (intsOf l) ((intsOf l).getD i0a.toNat 0) + 86400 - B) * 1000000000 := rfl
                        have le := lag_ends hs hk
                        have en := ends_same hf hk (j := i0a.toNat) (by omega)
                        have a1 := at_utc hf (wbJ B b (intsOf l) i0a.toNat)
                        have a2 := at_utc hf (wbJ B b (intsOf l) i0a.toNat + slN B A)
                        have a3 := (step_at hm0 (wbJ B b (intsOf l) i0a.toNat)).1
                        have a4 := (step_at hm0 (wbJ B b (intsOf l) i0a.toNat + slN B A)).1
                        simp only [hB, hN, hD] at *
                        omega)
                    ·
                     try simp only [hw2]
                     refine ⟨fun h18 => ?_, fun h18 => ?_⟩
                     ·
                      first
                      | exact True.intro
                      | rfl
                      | (exfalso
                         have hf : fitsI k B A b t (intsOf l) = 0 := by omega
                         have hk : k ≠ 0 := by omega
                         obtain ⟨hs, hm0, hm, hfl, b0, b1, b2, b3⟩ := fit_facts hf
                         have y1 := ws_spec k B A b t (intsOf l) i0a
                         have n1 := slN_spec B A
                         have hE : wsE k B A b t (intsOf l) i0a = 0 := by omega
                         have hB : wsB k B A b t (intsOf l) i0a = wbJ B b (intsOf l) i0a.toNat := by omega
                         have hN : wsN k B A b t (intsOf l) i0a = wbJ B b (intsOf l) i0a.toNat + slN B A := by omega
                         have hD : IntKind.wrap .i64 (wbJ B b (intsOf l) i0a.toNat + slN B A - wbJ B b (intsOf l) i0a.toNat) = slN B A := by rw [show wbJ B b (intsOf l) i0a.toNat + slN B A - wbJ B b (intsOf l) i0a.toNat = slN B A by omega]; have := wr_i64 (slN B A); omega
                         have hsa := sec_at hm (i := i0a.toNat) (by omega)
                         have hsc := secL_spec b (intsOf l) ((intsOf l).getD i0a.toNat 0)
                         have hms := mayL_spec hm
                         have e9 : wbJ B b (intsOf l) i0a.toNat = (secL b (intsOf l) ((intsOf l).getD i0a.toNat 0) + 86400 - B) * 1000000000 := rfl
                         have le := lag_ends hs hk
                         have en := ends_same hf hk (j := i0a.toNat) (by omega)
                         have a1 := at_utc hf (wbJ B b (intsOf l) i0a.toNat)
                         have a2 := at_utc hf (wbJ B b (intsOf l) i0a.toNat + slN B A)
                         have a3 := (step_at hm0 (wbJ B b (intsOf l) i0a.toNat)).1
                         have a4 := (step_at hm0 (wbJ B b (intsOf l) i0a.toNat + slN B A)).1
                         simp only [hB, hN, hD] at *
                         omega)
                     ·
                      refine ⟨?_, fun h19 => ?_⟩
                      ·
                       first
                       | exact True.intro
                       | omega
                       | (
                          have hf : fitsI k B A b t (intsOf l) = 0 := by omega
                          have hk : k ≠ 0 := by omega
                          obtain ⟨hs, hm0, hm, hfl, b0, b1, b2, b3⟩ := fit_facts hf
                          have y1 := ws_spec k B A b t (intsOf l) i0a
                          have n1 := slN_spec B A
                          have hE : wsE k B A b t (intsOf l) i0a = 0 := by omega
                          have hB : wsB k B A b t (intsOf l) i0a = wbJ B b (intsOf l) i0a.toNat := by omega
                          have hN : wsN k B A b t (intsOf l) i0a = wbJ B b (intsOf l) i0a.toNat + slN B A := by omega
                          have hD : IntKind.wrap .i64 (wbJ B b (intsOf l) i0a.toNat + slN B A - wbJ B b (intsOf l) i0a.toNat) = slN B A := by rw [show wbJ B b (intsOf l) i0a.toNat + slN B A - wbJ B b (intsOf l) i0a.toNat = slN B A by omega]; have := wr_i64 (slN B A); omega
                          have hsa := sec_at hm (i := i0a.toNat) (by omega)
                          have hsc := secL_spec b (intsOf l) ((intsOf l).getD i0a.toNat 0)
                          have hms := mayL_spec hm
                          have e9 : wbJ B b (intsOf l) i0a.toNat = (secL b (intsOf l) ((intsOf l).getD i0a.toNat 0) + 86400 - B) * 1000000000 := rfl
                          have le := lag_ends hs hk
                          have en := ends_same hf hk (j := i0a.toNat) (by omega)
                          have a1 := at_utc hf (wbJ B b (intsOf l) i0a.toNat)
                          have a2 := at_utc hf (wbJ B b (intsOf l) i0a.toNat + slN B A)
                          have a3 := (step_at hm0 (wbJ B b (intsOf l) i0a.toNat)).1
                          have a4 := (step_at hm0 (wbJ B b (intsOf l) i0a.toNat + slN B A)).1
                          simp only [hB, hN, hD] at *
                          omega)
                      ·
                       refine ⟨?_, fun h20 => ?_⟩
                       ·
                        first
                        | exact True.intro
                        | omega
                        | (
                           have hf : fitsI k B A b t (intsOf l) = 0 := by omega
                           have hk : k ≠ 0 := by omega
                           obtain ⟨hs, hm0, hm, hfl, b0, b1, b2, b3⟩ := fit_facts hf
                           have y1 := ws_spec k B A b t (intsOf l) i0a
                           have n1 := slN_spec B A
                           have hE : wsE k B A b t (intsOf l) i0a = 0 := by omega
                           have hB : wsB k B A b t (intsOf l) i0a = wbJ B b (intsOf l) i0a.toNat := by omega
                           have hN : wsN k B A b t (intsOf l) i0a = wbJ B b (intsOf l) i0a.toNat + slN B A := by omega
                           have hD : IntKind.wrap .i64 (wbJ B b (intsOf l) i0a.toNat + slN B A - wbJ B b (intsOf l) i0a.toNat) = slN B A := by rw [show wbJ B b (intsOf l) i0a.toNat + slN B A - wbJ B b (intsOf l) i0a.toNat = slN B A by omega]; have := wr_i64 (slN B A); omega
                           have hsa := sec_at hm (i := i0a.toNat) (by omega)
                           have hsc := secL_spec b (intsOf l) ((intsOf l).getD i0a.toNat 0)
                           have hms := mayL_spec hm
                           have e9 : wbJ B b (intsOf l) i0a.toNat = (secL b (intsOf l) ((intsOf l).getD i0a.toNat 0) + 86400 - B) * 1000000000 := rfl
                           have le := lag_ends hs hk
                           have en := ends_same hf hk (j := i0a.toNat) (by omega)
                           have a1 := at_utc hf (wbJ B b (intsOf l) i0a.toNat)
                           have a2 := at_utc hf (wbJ B b (intsOf l) i0a.toNat + slN B A)
                           have a3 := (step_at hm0 (wbJ B b (intsOf l) i0a.toNat)).1
                           have a4 := (step_at hm0 (wbJ B b (intsOf l) i0a.toNat + slN B A)).1
                           simp only [hB, hN, hD] at *
                           omega)
                       ·
                        refine ⟨?_, fun h21 => ?_⟩
                        ·
                         first
                         | exact True.intro
                         | omega
                         | (
                            have hf : fitsI k B A b t (intsOf l) = 0 := by omega
                            have hk : k ≠ 0 := by omega
                            obtain ⟨hs, hm0, hm, hfl, b0, b1, b2, b3⟩ := fit_facts hf
                            have y1 := ws_spec k B A b t (intsOf l) i0a
                            have n1 := slN_spec B A
                            have hE : wsE k B A b t (intsOf l) i0a = 0 := by omega
                            have hB : wsB k B A b t (intsOf l) i0a = wbJ B b (intsOf l) i0a.toNat := by omega
                            have hN : wsN k B A b t (intsOf l) i0a = wbJ B b (intsOf l) i0a.toNat + slN B A := by omega
                            have hD : IntKind.wrap .i64 (wbJ B b (intsOf l) i0a.toNat + slN B A - wbJ B b (intsOf l) i0a.toNat) = slN B A := by rw [show wbJ B b (intsOf l) i0a.toNat + slN B A - wbJ B b (intsOf l) i0a.toNat = slN B A by omega]; have := wr_i64 (slN B A); omega
                            have hsa := sec_at hm (i := i0a.toNat) (by omega)
                            have hsc := secL_spec b (intsOf l) ((intsOf l).getD i0a.toNat 0)
                            have hms := mayL_spec hm
                            have e9 : wbJ B b (intsOf l) i0a.toNat = (secL b (intsOf l) ((intsOf l).getD i0a.toNat 0) + 86400 - B) * 1000000000 := rfl
                            have le := lag_ends hs hk
                            have en := ends_same hf hk (j := i0a.toNat) (by omega)
                            have a1 := at_utc hf (wbJ B b (intsOf l) i0a.toNat)
                            have a2 := at_utc hf (wbJ B b (intsOf l) i0a.toNat + slN B A)
                            have a3 := (step_at hm0 (wbJ B b (intsOf l) i0a.toNat)).1
                            have a4 := (step_at hm0 (wbJ B b (intsOf l) i0a.toNat + slN B A)).1
                            simp only [hB, hN, hD] at *
                            omega)
                        ·
                         refine ⟨?_, fun h22 => ?_⟩
                         ·
                          first
                          | exact True.intro
                          | omega
                          | (
                             have hf : fitsI k B A b t (intsOf l) = 0 := by omega
                             have hk : k ≠ 0 := by omega
                             obtain ⟨hs, hm0, hm, hfl, b0, b1, b2, b3⟩ := fit_facts hf
                             have y1 := ws_spec k B A b t (intsOf l) i0a
                             have n1 := slN_spec B A
                             have hE : wsE k B A b t (intsOf l) i0a = 0 := by omega
                             have hB : wsB k B A b t (intsOf l) i0a = wbJ B b (intsOf l) i0a.toNat := by omega
                             have hN : wsN k B A b t (intsOf l) i0a = wbJ B b (intsOf l) i0a.toNat + slN B A := by omega
                             have hD : IntKind.wrap .i64 (wbJ B b (intsOf l) i0a.toNat + slN B A - wbJ B b (intsOf l) i0a.toNat) = slN B A := by rw [show wbJ B b (intsOf l) i0a.toNat + slN B A - wbJ B b (intsOf l) i0a.toNat = slN B A by omega]; have := wr_i64 (slN B A); omega
                             have hsa := sec_at hm (i := i0a.toNat) (by omega)
                             have hsc := secL_spec b (intsOf l) ((intsOf l).getD i0a.toNat 0)
                             have hms := mayL_spec hm
                             have e9 : wbJ B b (intsOf l) i0a.toNat = (secL b (intsOf l) ((intsOf l).getD i0a.toNat 0) + 86400 - B) * 1000000000 := rfl
                             have le := lag_ends hs hk
                             have en := ends_same hf hk (j := i0a.toNat) (by omega)
                             have a1 := at_utc hf (wbJ B b (intsOf l) i0a.toNat)
                             have a2 := at_utc hf (wbJ B b (intsOf l) i0a.toNat + slN B A)
                             have a3 := (step_at hm0 (wbJ B b (intsOf l) i0a.toNat)).1
                             have a4 := (step_at hm0 (wbJ B b (intsOf l) i0a.toNat + slN B A)).1
                             simp only [hB, hN, hD] at *
                             omega)
                         ·
                          refine ⟨fun h23 => ?_, fun h23 => ?_⟩
                          ·
                           first
                           | exact True.intro
                           | rfl
                           | (exfalso
                              have hf : fitsI k B A b t (intsOf l) = 0 := by omega
                              have hk : k ≠ 0 := by omega
                              obtain ⟨hs, hm0, hm, hfl, b0, b1, b2, b3⟩ := fit_facts hf
                              have y1 := ws_spec k B A b t (intsOf l) i0a
                              have n1 := slN_spec B A
                              have hE : wsE k B A b t (intsOf l) i0a = 0 := by omega
                              have hB : wsB k B A b t (intsOf l) i0a = wbJ B b (intsOf l) i0a.toNat := by omega
                              have hN : wsN k B A b t (intsOf l) i0a = wbJ B b (intsOf l) i0a.toNat + slN B A := by omega
                              have hD : IntKind.wrap .i64 (wbJ B b (intsOf l) i0a.toNat + slN B A - wbJ B b (intsOf l) i0a.toNat) = slN B A := by rw [show wbJ B b (intsOf l) i0a.toNat + slN B A - wbJ B b (intsOf l) i0a.toNat = slN B A by omega]; have := wr_i64 (slN B A); omega
                              have hsa := sec_at hm (i := i0a.toNat) (by omega)
                              have hsc := secL_spec b (intsOf l) ((intsOf l).getD i0a.toNat 0)
                              have hms := mayL_spec hm
                              have e9 : wbJ B b (intsOf l) i0a.toNat = (secL b (intsOf l) ((intsOf l).getD i0a.toNat 0) + 86400 - B) * 1000000000 := rfl
                              have le := lag_ends hs hk
                              have en := ends_same hf hk (j := i0a.toNat) (by omega)
                              have a1 := at_utc hf (wbJ B b (intsOf l) i0a.toNat)
                              have a2 := at_utc hf (wbJ B b (intsOf l) i0a.toNat + slN B A)
                              have a3 := (step_at hm0 (wbJ B b (intsOf l) i0a.toNat)).1
                              have a4 := (step_at hm0 (wbJ B b (intsOf l) i0a.toNat + slN B A)).1
                              simp only [hB, hN, hD] at *
                              omega)
                          ·
                           refine ⟨fun h24 => ?_, fun h24 => ?_⟩
                           ·
                            first
                            | exact True.intro
                            | rfl
                            | (exfalso
                               have hf : fitsI k B A b t (intsOf l) = 0 := by omega
                               have hk : k ≠ 0 := by omega
                               obtain ⟨hs, hm0, hm, hfl, b0, b1, b2, b3⟩ := fit_facts hf
                               have y1 := ws_spec k B A b t (intsOf l) i0a
                               have n1 := slN_spec B A
                               have hE : wsE k B A b t (intsOf l) i0a = 0 := by omega
                               have hB : wsB k B A b t (intsOf l) i0a = wbJ B b (intsOf l) i0a.toNat := by omega
                               have hN : wsN k B A b t (intsOf l) i0a = wbJ B b (intsOf l) i0a.toNat + slN B A := by omega
                               have hD : IntKind.wrap .i64 (wbJ B b (intsOf l) i0a.toNat + slN B A - wbJ B b (intsOf l) i0a.toNat) = slN B A := by rw [show wbJ B b (intsOf l) i0a.toNat + slN B A - wbJ B b (intsOf l) i0a.toNat = slN B A by omega]; have := wr_i64 (slN B A); omega
                               have hsa := sec_at hm (i := i0a.toNat) (by omega)
                               have hsc := secL_spec b (intsOf l) ((intsOf l).getD i0a.toNat 0)
                               have hms := mayL_spec hm
                               have e9 : wbJ B b (intsOf l) i0a.toNat = (secL b (intsOf l) ((intsOf l).getD i0a.toNat 0) + 86400 - B) * 1000000000 := rfl
                               have le := lag_ends hs hk
                               have en := ends_same hf hk (j := i0a.toNat) (by omega)
                               have a1 := at_utc hf (wbJ B b (intsOf l) i0a.toNat)
                               have a2 := at_utc hf (wbJ B b (intsOf l) i0a.toNat + slN B A)
                               have a3 := (step_at hm0 (wbJ B b (intsOf l) i0a.toNat)).1
                               have a4 := (step_at hm0 (wbJ B b (intsOf l) i0a.toNat + slN B A)).1
                               simp only [hB, hN, hD] at *
                               omega)
                           ·
                            refine ⟨fun h25 => ?_, fun h25 => ?_⟩
                            ·
                             first
                             | exact True.intro
                             | rfl
                             | (exfalso
                                have hf : fitsI k B A b t (intsOf l) = 0 := by omega
                                have hk : k ≠ 0 := by omega
                                obtain ⟨hs, hm0, hm, hfl, b0, b1, b2, b3⟩ := fit_facts hf
                                have y1 := ws_spec k B A b t (intsOf l) i0a
                                have n1 := slN_spec B A
                                have hE : wsE k B A b t (intsOf l) i0a = 0 := by omega
                                have hB : wsB k B A b t (intsOf l) i0a = wbJ B b (intsOf l) i0a.toNat := by omega
                                have hN : wsN k B A b t (intsOf l) i0a = wbJ B b (intsOf l) i0a.toNat + slN B A := by omega
                                have hD : IntKind.wrap .i64 (wbJ B b (intsOf l) i0a.toNat + slN B A - wbJ B b (intsOf l) i0a.toNat) = slN B A := by rw [show wbJ B b (intsOf l) i0a.toNat + slN B A - wbJ B b (intsOf l) i0a.toNat = slN B A by omega]; have := wr_i64 (slN B A); omega
                                have hsa := sec_at hm (i := i0a.toNat) (by omega)
                                have hsc := secL_spec b (intsOf l) ((intsOf l).getD i0a.toNat 0)
                                have hms := mayL_spec hm
                                have e9 : wbJ B b (intsOf l) i0a.toNat = (secL b (intsOf l) ((intsOf l).getD i0a.toNat 0) + 86400 - B) * 1000000000 := rfl
                                have le := lag_ends hs hk
                                have en := ends_same hf hk (j := i0a.toNat) (by omega)
                                have a1 := at_utc hf (wbJ B b (intsOf l) i0a.toNat)
                                have a2 := at_utc hf (wbJ B b (intsOf l) i0a.toNat + slN B A)
                                have a3 := (step_at hm0 (wbJ B b (intsOf l) i0a.toNat)).1
                                have a4 := (step_at hm0 (wbJ B b (intsOf l) i0a.toNat + slN B A)).1
                                simp only [hB, hN, hD] at *
                                omega)
                            ·
                             refine ⟨fun h26 => ?_, fun h26 => ?_⟩
                             ·
                              first
                              | exact True.intro
                              | rfl
                              | (exfalso
                                 have hf : fitsI k B A b t (intsOf l) = 0 := by omega
                                 have hk : k ≠ 0 := by omega
                                 obtain ⟨hs, hm0, hm, hfl, b0, b1, b2, b3⟩ := fit_facts hf
                                 have y1 := ws_spec k B A b t (intsOf l) i0a
                                 have n1 := slN_spec B A
                                 have hE : wsE k B A b t (intsOf l) i0a = 0 := by omega
                                 have hB : wsB k B A b t (intsOf l) i0a = wbJ B b (intsOf l) i0a.toNat := by omega
                                 have hN : wsN k B A b t (intsOf l) i0a = wbJ B b (intsOf l) i0a.toNat + slN B A := by omega
                                 have hD : IntKind.wrap .i64 (wbJ B b (intsOf l) i0a.toNat + slN B A - wbJ B b (intsOf l) i0a.toNat) = slN B A := by rw [show wbJ B b (intsOf l) i0a.toNat + slN B A - wbJ B b (intsOf l) i0a.toNat = slN B A by omega]; have := wr_i64 (slN B A); omega
                                 have hsa := sec_at hm (i := i0a.toNat) (by omega)
                                 have hsc := secL_spec b (intsOf l) ((intsOf l).getD i0a.toNat 0)
                                 have hms := mayL_spec hm
                                 have e9 : wbJ B b (intsOf l) i0a.toNat = (secL b (intsOf l) ((intsOf l).getD i0a.toNat 0) + 86400 - B) * 1000000000 := rfl
                                 have le := lag_ends hs hk
                                 have en := ends_same hf hk (j := i0a.toNat) (by omega)
                                 have a1 := at_utc hf (wbJ B b (intsOf l) i0a.toNat)
                                 have a2 := at_utc hf (wbJ B b (intsOf l) i0a.toNat + slN B A)
                                 have a3 := (step_at hm0 (wbJ B b (intsOf l) i0a.toNat)).1
                                 have a4 := (step_at hm0 (wbJ B b (intsOf l) i0a.toNat + slN B A)).1
                                 simp only [hB, hN, hD] at *
                                 omega)
                             ·
                              have wf3 := wr_i64 (i0a + 1)
                              refine ⟨?_, ?_⟩
                              ·
                               have := wr_i64 (i0a + 1)
                               omega
                              ·
                               have := wr_i64 (i0a + 1)
                               omega
             ·
              first
              | exact True.intro
              | rfl
              | (exfalso
                 have hf : fitsI k B A b t (intsOf l) = 0 := by omega
                 have hk : k ≠ 0 := by omega
                 obtain ⟨hs, hm0, hm, hfl, b0, b1, b2, b3⟩ := fit_facts hf
                 have y1 := ws_spec k B A b t (intsOf l) i0a
                 have n1 := slN_spec B A
                 have hE : wsE k B A b t (intsOf l) i0a = 0 := by omega
                 have hB : wsB k B A b t (intsOf l) i0a = wbJ B b (intsOf l) i0a.toNat := by omega
                 have hN : wsN k B A b t (intsOf l) i0a = wbJ B b (intsOf l) i0a.toNat + slN B A := by omega
                 have hD : IntKind.wrap .i64 (wbJ B b (intsOf l) i0a.toNat + slN B A - wbJ B b (intsOf l) i0a.toNat) = slN B A := by rw [show wbJ B b (intsOf l) i0a.toNat + slN B A - wbJ B b (intsOf l) i0a.toNat = slN B A by omega]; have := wr_i64 (slN B A); omega
                 have hsa := sec_at hm (i := i0a.toNat) (by omega)
                 have hsc := secL_spec b (intsOf l) ((intsOf l).getD i0a.toNat 0)
                 have hms := mayL_spec hm
                 have e9 : wbJ B b (intsOf l) i0a.toNat = (secL b (intsOf l) ((intsOf l).getD i0a.toNat 0) + 86400 - B) * 1000000000 := rfl
                 have le := lag_ends hs hk
                 have en := ends_same hf hk (j := i0a.toNat) (by omega)
                 have a1 := at_utc hf (wbJ B b (intsOf l) i0a.toNat)
                 have a2 := at_utc hf (wbJ B b (intsOf l) i0a.toNat + slN B A)
                 have a3 := (step_at hm0 (wbJ B b (intsOf l) i0a.toNat)).1
                 have a4 := (step_at hm0 (wbJ B b (intsOf l) i0a.toNat + slN B A)).1
                 simp only [hB, hN, hD] at *
                 omega)
         ·
          refine ⟨?_, ?_⟩
          ·
           exact ⟨by omega, by omega⟩
          ·
           intro i1a hi1
           refine ⟨fun h27 => ?_, fun h27 => ?_⟩
           ·
            refine ⟨?_, fun h28 => ?_⟩
            ·
             first
             | exact True.intro
             | omega
             | (
                have hf : fitsI k B A b t (intsOf l) = 0 := by omega
                have hk : k ≠ 0 := by omega
                obtain ⟨hs, hm0, hm, hfl, b0, b1, b2, b3⟩ := fit_facts hf
                have y1 := ws_spec k B A b t (intsOf l) i1a
                have n1 := slN_spec B A
                have hE : wsE k B A b t (intsOf l) i1a = 0 := by omega
                have hB : wsB k B A b t (intsOf l) i1a = wbJ B b (intsOf l) i1a.toNat := by omega
                have hN : wsN k B A b t (intsOf l) i1a = wbJ B b (intsOf l) i1a.toNat + slN B A := by omega
                have hD : IntKind.wrap .i64 (wbJ B b (intsOf l) i1a.toNat + slN B A - wbJ B b (intsOf l) i1a.toNat) = slN B A := by rw [show wbJ B b (intsOf l) i1a.toNat + slN B A - wbJ B b (intsOf l) i1a.toNat = slN B A by omega]; have := wr_i64 (slN B A); omega
                have hsa := sec_at hm (i := i1a.toNat) (by omega)
                have hsc := secL_spec b (intsOf l) ((intsOf l).getD i1a.toNat 0)
                have hms := mayL_spec hm
                have e9 : wbJ B b (intsOf l) i1a.toNat = (secL b (intsOf l) ((intsOf l).getD i1a.toNat 0) + 86400 - B) * 1000000000 := rfl
                have le := lag_ends hs hk
                have en := ends_same hf hk (j := i1a.toNat) (by omega)
                have a1 := at_utc hf (wbJ B b (intsOf l) i1a.toNat)
                have a2 := at_utc hf (wbJ B b (intsOf l) i1a.toNat + slN B A)
                have a3 := (step_at hm0 (wbJ B b (intsOf l) i1a.toNat)).1
                have a4 := (step_at hm0 (wbJ B b (intsOf l) i1a.toNat + slN B A)).1
                simp only [hB, hN, hD] at *
                omega)
            ·
             refine ⟨?_, fun h29 => ?_⟩
             ·
              first
              | exact True.intro
              | omega
              | (
                 have hf : fitsI k B A b t (intsOf l) = 0 := by omega
                 have hk : k ≠ 0 := by omega
                 obtain ⟨hs, hm0, hm, hfl, b0, b1, b2, b3⟩ := fit_facts hf
                 have y1 := ws_spec k B A b t (intsOf l) i1a
                 have n1 := slN_spec B A
                 have hE : wsE k B A b t (intsOf l) i1a = 0 := by omega
                 have hB : wsB k B A b t (intsOf l) i1a = wbJ B b (intsOf l) i1a.toNat := by omega
                 have hN : wsN k B A b t (intsOf l) i1a = wbJ B b (intsOf l) i1a.toNat + slN B A := by omega
                 have hD : IntKind.wrap .i64 (wbJ B b (intsOf l) i1a.toNat + slN B A - wbJ B b (intsOf l) i1a.toNat) = slN B A := by rw [show wbJ B b (intsOf l) i1a.toNat + slN B A - wbJ B b (intsOf l) i1a.toNat = slN B A by omega]; have := wr_i64 (slN B A); omega
                 have hsa := sec_at hm (i := i1a.toNat) (by omega)
                 have hsc := secL_spec b (intsOf l) ((intsOf l).getD i1a.toNat 0)
                 have hms := mayL_spec hm
                 have e9 : wbJ B b (intsOf l) i1a.toNat = (secL b (intsOf l) ((intsOf l).getD i1a.toNat 0) + 86400 - B) * 1000000000 := rfl
                 have le := lag_ends hs hk
                 have en := ends_same hf hk (j := i1a.toNat) (by omega)
                 have a1 := at_utc hf (wbJ B b (intsOf l) i1a.toNat)
                 have a2 := at_utc hf (wbJ B b (intsOf l) i1a.toNat + slN B A)
                 have a3 := (step_at hm0 (wbJ B b (intsOf l) i1a.toNat)).1
                 have a4 := (step_at hm0 (wbJ B b (intsOf l) i1a.toNat + slN B A)).1
                 simp only [hB, hN, hD] at *
                 omega)
             ·
              have wf4 := wr_i64 ((wsN k B A b t (intsOf l) i1a) - (wsB k B A b t (intsOf l) i1a))
              refine ⟨?_, fun h30 => ?_⟩
              ·
               first
               | exact True.intro
               | omega
               | (
                  have hf : fitsI k B A b t (intsOf l) = 0 := by omega
                  have hk : k ≠ 0 := by omega
                  obtain ⟨hs, hm0, hm, hfl, b0, b1, b2, b3⟩ := fit_facts hf
                  have y1 := ws_spec k B A b t (intsOf l) i1a
                  have n1 := slN_spec B A
                  have hE : wsE k B A b t (intsOf l) i1a = 0 := by omega
                  have hB : wsB k B A b t (intsOf l) i1a = wbJ B b (intsOf l) i1a.toNat := by omega
                  have hN : wsN k B A b t (intsOf l) i1a = wbJ B b (intsOf l) i1a.toNat + slN B A := by omega
                  have hD : IntKind.wrap .i64 (wbJ B b (intsOf l) i1a.toNat + slN B A - wbJ B b (intsOf l) i1a.toNat) = slN B A := by rw [show wbJ B b (intsOf l) i1a.toNat + slN B A - wbJ B b (intsOf l) i1a.toNat = slN B A by omega]; have := wr_i64 (slN B A); omega
                  have hsa := sec_at hm (i := i1a.toNat) (by omega)
                  have hsc := secL_spec b (intsOf l) ((intsOf l).getD i1a.toNat 0)
                  have hms := mayL_spec hm
                  have e9 : wbJ B b (intsOf l) i1a.toNat = (secL b (intsOf l) ((intsOf l).getD i1a.toNat 0) + 86400 - B) * 1000000000 := rfl
                  have le := lag_ends hs hk
                  have en := ends_same hf hk (j := i1a.toNat) (by omega)
                  have a1 := at_utc hf (wbJ B b (intsOf l) i1a.toNat)
                  have a2 := at_utc hf (wbJ B b (intsOf l) i1a.toNat + slN B A)
                  have a3 := (step_at hm0 (wbJ B b (intsOf l) i1a.toNat)).1
                  have a4 := (step_at hm0 (wbJ B b (intsOf l) i1a.toNat + slN B A)).1
                  simp only [hB, hN, hD] at *
                  omega)
              ·
               refine ⟨fun h31 => ?_, fun h31 => ?_⟩
               ·
                first
                | exact True.intro
                | rfl
                | (exfalso
                   have hf : fitsI k B A b t (intsOf l) = 0 := by omega
                   have hk : k ≠ 0 := by omega
                   obtain ⟨hs, hm0, hm, hfl, b0, b1, b2, b3⟩ := fit_facts hf
                   have y1 := ws_spec k B A b t (intsOf l) i1a
                   have n1 := slN_spec B A
                   have hE : wsE k B A b t (intsOf l) i1a = 0 := by omega
                   have hB : wsB k B A b t (intsOf l) i1a = wbJ B b (intsOf l) i1a.toNat := by omega
                   have hN : wsN k B A b t (intsOf l) i1a = wbJ B b (intsOf l) i1a.toNat + slN B A := by omega
                   have hD : IntKind.wrap .i64 (wbJ B b (intsOf l) i1a.toNat + slN B A - wbJ B b (intsOf l) i1a.toNat) = slN B A := by rw [show wbJ B b (intsOf l) i1a.toNat + slN B A - wbJ B b (intsOf l) i1a.toNat = slN B A by omega]; have := wr_i64 (slN B A); omega
                   have hsa := sec_at hm (i := i1a.toNat) (by omega)
                   have hsc := secL_spec b (intsOf l) ((intsOf l).getD i1a.toNat 0)
                   have hms := mayL_spec hm
                   have e9 : wbJ B b (intsOf l) i1a.toNat = (secL b (intsOf l) ((intsOf l).getD i1a.toNat 0) + 86400 - B) * 1000000000 := rfl
                   have le := lag_ends hs hk
                   have en := ends_same hf hk (j := i1a.toNat) (by omega)
                   have a1 := at_utc hf (wbJ B b (intsOf l) i1a.toNat)
                   have a2 := at_utc hf (wbJ B b (intsOf l) i1a.toNat + slN B A)
                   have a3 := (step_at hm0 (wbJ B b (intsOf l) i1a.toNat)).1
                   have a4 := (step_at hm0 (wbJ B b (intsOf l) i1a.toNat + slN B A)).1
                   simp only [hB, hN, hD] at *
                   omega)
               ·
                refine ⟨fun h32 => ?_, fun h32 => ?_⟩
                ·
                 first
                 | exact True.intro
                 | rfl
                 | (exfalso
                    have hf : fitsI k B A b t (intsOf l) = 0 := by omega
                    have hk : k ≠ 0 := by omega
                    obtain ⟨hs, hm0, hm, hfl, b0, b1, b2, b3⟩ := fit_facts hf
                    have y1 := ws_spec k B A b t (intsOf l) i1a
                    have n1 := slN_spec B A
                    have hE : wsE k B A b t (intsOf l) i1a = 0 := by omega
                    have hB : wsB k B A b t (intsOf l) i1a = wbJ B b (intsOf l) i1a.toNat := by omega
                    have hN : wsN k B A b t (intsOf l) i1a = wbJ B b (intsOf l) i1a.toNat + slN B A := by omega
                    have hD : IntKind.wrap .i64 (wbJ B b (intsOf l) i1a.toNat + slN B A - wbJ B b (intsOf l) i1a.toNat) = slN B A := by rw [show wbJ B b (intsOf l) i1a.toNat + slN B A - wbJ B b (intsOf l) i1a.toNat = slN B A by omega]; have := wr_i64 (slN B A); omega
                    have hsa := sec_at hm (i := i1a.toNat) (by omega)
                    have hsc := secL_spec b (intsOf l) ((intsOf l).getD i1a.toNat 0)
                    have hms := mayL_spec hm
                    have e9 : wbJ B b (intsOf l) i1a.toNat = (secL b (intsOf l) ((intsOf l).getD i1a.toNat 0) + 86400 - B) * 1000000000 := rfl
                    have le := lag_ends hs hk
                    have en := ends_same hf hk (j := i1a.toNat) (by omega)
                    have a1 := at_utc hf (wbJ B b (intsOf l) i1a.toNat)
                    have a2 := at_utc hf (wbJ B b (intsOf l) i1a.toNat + slN B A)
                    have a3 := (step_at hm0 (wbJ B b (intsOf l) i1a.toNat)).1
                    have a4 := (step_at hm0 (wbJ B b (intsOf l) i1a.toNat + slN B A)).1
                    simp only [hB, hN, hD] at *
                    omega)
                ·
                 try simp only [hw4]
                 refine ⟨fun h33 => ?_, fun h33 => ?_⟩
                 ·
                  first
                  | exact True.intro
                  | rfl
                  | (exfalso
                     have hf : fitsI k B A b t (intsOf l) = 0 := by omega
                     have hk : k ≠ 0 := by omega
                     obtain ⟨hs, hm0, hm, hfl, b0, b1, b2, b3⟩ := fit_facts hf
                     have y1 := ws_spec k B A b t (intsOf l) i1a
                     have n1 := slN_spec B A
                     have hE : wsE k B A b t (intsOf l) i1a = 0 := by omega
                     have hB : wsB k B A b t (intsOf l) i1a = wbJ B b (intsOf l) i1a.toNat := by omega
                     have hN : wsN k B A b t (intsOf l) i1a = wbJ B b (intsOf l) i1a.toNat + slN B A := by omega
                     have hD : IntKind.wrap .i64 (wbJ B b (intsOf l) i1a.toNat + slN B A - wbJ B b (intsOf l) i1a.toNat) = slN B A := by rw [show wbJ B b (intsOf l) i1a.toNat + slN B A - wbJ B b (intsOf l) i1a.toNat = slN B A by omega]; have := wr_i64 (slN B A); omega
                     have hsa := sec_at hm (i := i1a.toNat) (by omega)
                     have hsc := secL_spec b (intsOf l) ((intsOf l).getD i1a.toNat 0)
                     have hms := mayL_spec hm
                     have e9 : wbJ B b (intsOf l) i1a.toNat = (secL b (intsOf l) ((intsOf l).getD i1a.toNat 0) + 86400 - B) * 1000000000 := rfl
                     have le := lag_ends hs hk
                     have en := ends_same hf hk (j := i1a.toNat) (by omega)
                     have a1 := at_utc hf (wbJ B b (intsOf l) i1a.toNat)
                     have a2 := at_utc hf (wbJ B b (intsOf l) i1a.toNat + slN B A)
                     have a3 := (step_at hm0 (wbJ B b (intsOf l) i1a.toNat)).1
                     have a4 := (step_at hm0 (wbJ B b (intsOf l) i1a.toNat + slN B A)).1
                     simp only [hB, hN, hD] at *
                     omega)
                 ·
                  refine ⟨fun h34 => ?_, fun h34 => ?_⟩
                  ·
                   first
                   | exact True.intro
                   | rfl
                   | (exfalso
                      have hf : fitsI k B A b t (intsOf l) = 0 := by omega
                      have hk : k ≠ 0 := by omega
                      obtain ⟨hs, hm0, hm, hfl, b0, b1, b2, b3⟩ := fit_facts hf
                      have y1 := ws_spec k B A b t (intsOf l) i1a
                      have n1 := slN_spec B A
                      have hE : wsE k B A b t (intsOf l) i1a = 0 := by omega
                      have hB : wsB k B A b t (intsOf l) i1a = wbJ B b (intsOf l) i1a.toNat := by omega
                      have hN : wsN k B A b t (intsOf l) i1a = wbJ B b (intsOf l) i1a.toNat + slN B A := by omega
                      have hD : IntKind.wrap .i64 (wbJ B b (intsOf l) i1a.toNat + slN B A - wbJ B b (intsOf l) i1a.toNat) = slN B A := by rw [show wbJ B b (intsOf l) i1a.toNat + slN B A - wbJ B b (intsOf l) i1a.toNat = slN B A by omega]; have := wr_i64 (slN B A); omega
                      have hsa := sec_at hm (i := i1a.toNat) (by omega)
                      have hsc := secL_spec b (intsOf l) ((intsOf l).getD i1a.toNat 0)
                      have hms := mayL_spec hm
                      have e9 : wbJ B b (intsOf l) i1a.toNat = (secL b (intsOf l) ((intsOf l).getD i1a.toNat 0) + 86400 - B) * 1000000000 := rfl
                      have le := lag_ends hs hk
                      have en := ends_same hf hk (j := i1a.toNat) (by omega)
                      have a1 := at_utc hf (wbJ B b (intsOf l) i1a.toNat)
                      have a2 := at_utc hf (wbJ B b (intsOf l) i1a.toNat + slN B A)
                      have a3 := (step_at hm0 (wbJ B b (intsOf l) i1a.toNat)).1
                      have a4 := (step_at hm0 (wbJ B b (intsOf l) i1a.toNat + slN B A)).1
                      simp only [hB, hN, hD] at *
                      omega)
                  ·
                   try simp only [hw4]
                   refine ⟨fun h35 => ?_, fun h35 => ?_⟩
                   ·
                    first
                    | exact True.intro
                    | rfl
                    | (exfalso
                       have hf : fitsI k B A b t (intsOf l) = 0 := by omega
                       have hk : k ≠ 0 := by omega
                       obtain ⟨hs, hm0, hm, hfl, b0, b1, b2, b3⟩ := fit_facts hf
                       have y1 := ws_spec k B A b t (intsOf l) i1a
                       have n1 := slN_spec B A
                       have hE : wsE k B A b t (intsOf l) i1a = 0 := by omega
                       have hB : wsB k B A b t (intsOf l) i1a = wbJ B b (intsOf l) i1a.toNat := by omega
                       have hN : wsN k B A b t (intsOf l) i1a = wbJ B b (intsOf l) i1a.toNat + slN B A := by omega
                       have hD : IntKind.wrap .i64 (wbJ B b (intsOf l) i1a.toNat + slN B A - wbJ B b (intsOf l) i1a.toNat) = slN B A := by rw [show wbJ B b (intsOf l) i1a.toNat + slN B A - wbJ B b (intsOf l) i1a.toNat = slN B A by omega]; have := wr_i64 (slN B A); omega
                       have hsa := sec_at hm (i := i1a.toNat) (by omega)
                       have hsc := secL_spec b (intsOf l) ((intsOf l).getD i1a.toNat 0)
                       have hms := mayL_spec hm
                       have e9 : wbJ B b (intsOf l) i1a.toNat = (secL b (intsOf l) ((intsOf l).getD i1a.toNat 0) + 86400 - B) * 1000000000 := rfl
                       have le := lag_ends hs hk
                       have en := ends_same hf hk (j := i1a.toNat) (by omega)
                       have a1 := at_utc hf (wbJ B b (intsOf l) i1a.toNat)
                       have a2 := at_utc hf (wbJ B b (intsOf l) i1a.toNat + slN B A)
                       have a3 := (step_at hm0 (wbJ B b (intsOf l) i1a.toNat)).1
                       have a4 := (step_at hm0 (wbJ B b (intsOf l) i1a.toNat + slN B A)).1
                       simp only [hB, hN, hD] at *
                       omega)
                   ·
                    refine ⟨?_, fun h36 => ?_⟩
                    ·
                     first
                     | exact True.intro
                     | omega
                     | (
                        have hf : fitsI k B A b t (intsOf l) = 0 := by omega
                        have hk : k ≠ 0 := by omega
                        obtain ⟨hs, hm0, hm, hfl, b0, b1, b2, b3⟩ := fit_facts hf
                        have y1 := ws_spec k B A b t (intsOf l) i1a
                        have n1 := slN_spec B A
                        have hE : wsE k B A b t (intsOf l) i1a = 0 := by omega
                        have hB : wsB k B A b t (intsOf l) i1a = wbJ B b (intsOf l) i1a.toNat := by omega
                        have hN : wsN k B A b t (intsOf l) i1a = wbJ B b (intsOf l) i1a.toNat + slN B A := by omega
                        have hD : IntKind.wrap .i64 (wbJ B b (intsOf l) i1a.toNat + slN B A - wbJ B b (intsOf l) i1a.toNat) = slN B A := by rw [show wbJ B b (intsOf l) i1a.toNat + slN B A - wbJ B b (intsOf l) i1a.toNat = slN B A by omega]; have := wr_i64 (slN B A); omega
                        have hsa := sec_at hm (i := i1a.toNat) (by omega)
                        have hsc := secL_spec b (intsOf l) ((intsOf l).getD i1a.toNat 0)
                        have hms := mayL_spec hm
                        have e9 : wbJ B b (intsOf l) i1a.toNat = (secL b (intsOf l) ((intsOf l).getD i1a.toNat 0) + 86400 - B) * 1000000000 := rfl
                        have le := lag_ends hs hk
                        have en := ends_same hf hk (j := i1a.toNat) (by omega)
                        have a1 := at_utc hf (wbJ B b (intsOf l) i1a.toNat)
                        have a2 := at_utc hf (wbJ B b (intsOf l) i1a.toNat + slN B A)
                        have a3 := (step_at hm0 (wbJ B b (intsOf l) i1a.toNat)).1
                        have a4 := (step_at hm0 (wbJ B b (intsOf l) i1a.toNat + slN B A)).1
                        simp only [hB, hN, hD] at *
                        omega)
                    ·
                     refine ⟨?_, fun h37 => ?_⟩
                     ·
                      first
                      | exact True.intro
                      | omega
                      | (
                         have hf : fitsI k B A b t (intsOf l) = 0 := by omega
                         have hk : k ≠ 0 := by omega
                         obtain ⟨hs, hm0, hm, hfl, b0, b1, b2, b3⟩ := fit_facts hf
                         have y1 := ws_spec k B A b t (intsOf l) i1a
                         have n1 := slN_spec B A
                         have hE : wsE k B A b t (intsOf l) i1a = 0 := by omega
                         have hB : wsB k B A b t (intsOf l) i1a = wbJ B b (intsOf l) i1a.toNat := by omega
                         have hN : wsN k B A b t (intsOf l) i1a = wbJ B b (intsOf l) i1a.toNat + slN B A := by omega
                         have hD : IntKind.wrap .i64 (wbJ B b (intsOf l) i1a.toNat + slN B A - wbJ B b (intsOf l) i1a.toNat) = slN B A := by rw [show wbJ B b (intsOf l) i1a.toNat + slN B A - wbJ B b (intsOf l) i1a.toNat = slN B A by omega]; have := wr_i64 (slN B A); omega
                         have hsa := sec_at hm (i := i1a.toNat) (by omega)
                         have hsc := secL_spec b (intsOf l) ((intsOf l).getD i1a.toNat 0)
                         have hms := mayL_spec hm
                         have e9 : wbJ B b (intsOf l) i1a.toNat = (secL b (intsOf l) ((intsOf l).getD i1a.toNat 0) + 86400 - B) * 1000000000 := rfl
                         have le := lag_ends hs hk
                         have en := ends_same hf hk (j := i1a.toNat) (by omega)
                         have a1 := at_utc hf (wbJ B b (intsOf l) i1a.toNat)
                         have a2 := at_utc hf (wbJ B b (intsOf l) i1a.toNat + slN B A)
                         have a3 := (step_at hm0 (wbJ B b (intsOf l) i1a.toNat)).1
                         have a4 := (step_at hm0 (wbJ B b (intsOf l) i1a.toNat + slN B A)).1
                         simp only [hB, hN, hD] at *
                         omega)
                     ·
                      refine ⟨?_, fun h38 => ?_⟩
                      ·
                       first
                       | exact True.intro
                       | omega
                       | (
                          have hf : fitsI k B A b t (intsOf l) = 0 := by omega
                          have hk : k ≠ 0 := by omega
                          obtain ⟨hs, hm0, hm, hfl, b0, b1, b2, b3⟩ := fit_facts hf
                          have y1 := ws_spec k B A b t (intsOf l) i1a
                          have n1 := slN_spec B A
                          have hE : wsE k B A b t (intsOf l) i1a = 0 := by omega
                          have hB : wsB k B A b t (intsOf l) i1a = wbJ B b (intsOf l) i1a.toNat := by omega
                          have hN : wsN k B A b t (intsOf l) i1a = wbJ B b (intsOf l) i1a.toNat + slN B A := by omega
                          have hD : IntKind.wrap .i64 (wbJ B b (intsOf l) i1a.toNat + slN B A - wbJ B b (intsOf l) i1a.toNat) = slN B A := by rw [show wbJ B b (intsOf l) i1a.toNat + slN B A - wbJ B b (intsOf l) i1a.toNat = slN B A by omega]; have := wr_i64 (slN B A); omega
                          have hsa := sec_at hm (i := i1a.toNat) (by omega)
                          have hsc := secL_spec b (intsOf l) ((intsOf l).getD i1a.toNat 0)
                          have hms := mayL_spec hm
                          have e9 : wbJ B b (intsOf l) i1a.toNat = (secL b (intsOf l) ((intsOf l).getD i1a.toNat 0) + 86400 - B) * 1000000000 := rfl
                          have le := lag_ends hs hk
                          have en := ends_same hf hk (j := i1a.toNat) (by omega)
                          have a1 := at_utc hf (wbJ B b (intsOf l) i1a.toNat)
                          have a2 := at_utc hf (wbJ B b (intsOf l) i1a.toNat + slN B A)
                          have a3 := (step_at hm0 (wbJ B b (intsOf l) i1a.toNat)).1
                          have a4 := (step_at hm0 (wbJ B b (intsOf l) i1a.toNat + slN B A)).1
                          simp only [hB, hN, hD] at *
                          omega)
                      ·
                       refine ⟨?_, fun h39 => ?_⟩
                       ·
                        first
                        | exact True.intro
                        | omega
                        | (
                           have hf : fitsI k B A b t (intsOf l) = 0 := by omega
                           have hk : k ≠ 0 := by omega
                           obtain ⟨hs, hm0, hm, hfl, b0, b1, b2, b3⟩ := fit_facts hf
                           have y1 := ws_spec k B A b t (intsOf l) i1a
                           have n1 := slN_spec B A
                           have hE : wsE k B A b t (intsOf l) i1a = 0 := by omega
                           have hB : wsB k B A b t (intsOf l) i1a = wbJ B b (intsOf l) i1a.toNat := by omega
                           have hN : wsN k B A b t (intsOf l) i1a = wbJ B b (intsOf l) i1a.toNat + slN B A := by omega
                           have hD : IntKind.wrap .i64 (wbJ B b (intsOf l) i1a.toNat + slN B A - wbJ B b (intsOf l) i1a.toNat) = slN B A := by rw [show wbJ B b (intsOf l) i1a.toNat + slN B A - wbJ B b (intsOf l) i1a.toNat = slN B A by omega]; have := wr_i64 (slN B A); omega
                           have hsa := sec_at hm (i := i1a.toNat) (by omega)
                           have hsc := secL_spec b (intsOf l) ((intsOf l).getD i1a.toNat 0)
                           have hms := mayL_spec hm
                           have e9 : wbJ B b (intsOf l) i1a.toNat = (secL b (intsOf l) ((intsOf l).getD i1a.toNat 0) + 86400 - B) * 1000000000 := rfl
                           have le := lag_ends hs hk
                           have en := ends_same hf hk (j := i1a.toNat) (by omega)
                           have a1 := at_utc hf (wbJ B b (intsOf l) i1a.toNat)
                           have a2 := at_utc hf (wbJ B b (intsOf l) i1a.toNat + slN B A)
                           have a3 := (step_at hm0 (wbJ B b (intsOf l) i1a.toNat)).1
                           have a4 := (step_at hm0 (wbJ B b (intsOf l) i1a.toNat + slN B A)).1
                           simp only [hB, hN, hD] at *
                           omega)
                       ·
                        refine ⟨fun h40 => ?_, fun h40 => ?_⟩
                        ·
                         first
                         | exact True.intro
                         | rfl
                         | (exfalso
                            have hf : fitsI k B A b t (intsOf l) = 0 := by omega
                            have hk : k ≠ 0 := by omega
                            obtain ⟨hs, hm0, hm, hfl, b0, b1, b2, b3⟩ := fit_facts hf
                            have y1 := ws_spec k B A b t (intsOf l) i1a
                            have n1 := slN_spec B A
                            have hE : wsE k B A b t (intsOf l) i1a = 0 := by omega
                            have hB : wsB k B A b t (intsOf l) i1a = wbJ B b (intsOf l) i1a.toNat := by omega
                            have hN : wsN k B A b t (intsOf l) i1a = wbJ B b (intsOf l) i1a.toNat + slN B A := by omega
                            have hD : IntKind.wrap .i64 (wbJ B b (intsOf l) i1a.toNat + slN B A - wbJ B b (intsOf l) i1a.toNat) = slN B A := by rw [show wbJ B b (intsOf l) i1a.toNat + slN B A - wbJ B b (intsOf l) i1a.toNat = slN B A by omega]; have := wr_i64 (slN B A); omega
                            have hsa := sec_at hm (i := i1a.toNat) (by omega)
                            have hsc := secL_spec b (intsOf l) ((intsOf l).getD i1a.toNat 0)
                            have hms := mayL_spec hm
                            have e9 : wbJ B b (intsOf l) i1a.toNat = (secL b (intsOf l) ((intsOf l).getD i1a.toNat 0) + 86400 - B) * 1000000000 := rfl
                            have le := lag_ends hs hk
                            have en := ends_same hf hk (j := i1a.toNat) (by omega)
                            have a1 := at_utc hf (wbJ B b (intsOf l) i1a.toNat)
                            have a2 := at_utc hf (wbJ B b (intsOf l) i1a.toNat + slN B A)
                            have a3 := (step_at hm0 (wbJ B b (intsOf l) i1a.toNat)).1
                            have a4 := (step_at hm0 (wbJ B b (intsOf l) i1a.toNat + slN B A)).1
                            simp only [hB, hN, hD] at *
                            omega)
                        ·
                         refine ⟨fun h41 => ?_, fun h41 => ?_⟩
                         ·
                          first
                          | exact True.intro
                          | rfl
                          | (exfalso
                             have hf : fitsI k B A b t (intsOf l) = 0 := by omega
                             have hk : k ≠ 0 := by omega
                             obtain ⟨hs, hm0, hm, hfl, b0, b1, b2, b3⟩ := fit_facts hf
                             have y1 := ws_spec k B A b t (intsOf l) i1a
                             have n1 := slN_spec B A
                             have hE : wsE k B A b t (intsOf l) i1a = 0 := by omega
                             have hB : wsB k B A b t (intsOf l) i1a = wbJ B b (intsOf l) i1a.toNat := by omega
                             have hN : wsN k B A b t (intsOf l) i1a = wbJ B b (intsOf l) i1a.toNat + slN B A := by omega
                             have hD : IntKind.wrap .i64 (wbJ B b (intsOf l) i1a.toNat + slN B A - wbJ B b (intsOf l) i1a.toNat) = slN B A := by rw [show wbJ B b (intsOf l) i1a.toNat + slN B A - wbJ B b (intsOf l) i1a.toNat = slN B A by omega]; have := wr_i64 (slN B A); omega
                             have hsa := sec_at hm (i := i1a.toNat) (by omega)
                             have hsc := secL_spec b (intsOf l) ((intsOf l).getD i1a.toNat 0)
                             have hms := mayL_spec hm
                             have e9 : wbJ B b (intsOf l) i1a.toNat = (secL b (intsOf l) ((intsOf l).getD i1a.toNat 0) + 86400 - B) * 1000000000 := rfl
                             have le := lag_ends hs hk
                             have en := ends_same hf hk (j := i1a.toNat) (by omega)
                             have a1 := at_utc hf (wbJ B b (intsOf l) i1a.toNat)
                             have a2 := at_utc hf (wbJ B b (intsOf l) i1a.toNat + slN B A)
                             have a3 := (step_at hm0 (wbJ B b (intsOf l) i1a.toNat)).1
                             have a4 := (step_at hm0 (wbJ B b (intsOf l) i1a.toNat + slN B A)).1
                             simp only [hB, hN, hD] at *
                             omega)
                         ·
                          refine ⟨fun h42 => ?_, fun h42 => ?_⟩
                          ·
                           first
                           | exact True.intro
                           | rfl
                           | (exfalso
                              have hf : fitsI k B A b t (intsOf l) = 0 := by omega
                              have hk : k ≠ 0 := by omega
                              obtain ⟨hs, hm0, hm, hfl, b0, b1, b2, b3⟩ := fit_facts hf
                              have y1 := ws_spec k B A b t (intsOf l) i1a
                              have n1 := slN_spec B A
                              have hE : wsE k B A b t (intsOf l) i1a = 0 := by omega
                              have hB : wsB k B A b t (intsOf l) i1a = wbJ B b (intsOf l) i1a.toNat := by omega
                              have hN : wsN k B A b t (intsOf l) i1a = wbJ B b (intsOf l) i1a.toNat + slN B A := by omega
                              have hD : IntKind.wrap .i64 (wbJ B b (intsOf l) i1a.toNat + slN B A - wbJ B b (intsOf l) i1a.toNat) = slN B A := by rw [show wbJ B b (intsOf l) i1a.toNat + slN B A - wbJ B b (intsOf l) i1a.toNat = slN B A by omega]; have := wr_i64 (slN B A); omega
                              have hsa := sec_at hm (i := i1a.toNat) (by omega)
                              have hsc := secL_spec b (intsOf l) ((intsOf l).getD i1a.toNat 0)
                              have hms := mayL_spec hm
                              have e9 : wbJ B b (intsOf l) i1a.toNat = (secL b (intsOf l) ((intsOf l).getD i1a.toNat 0) + 86400 - B) * 1000000000 := rfl
                              have le := lag_ends hs hk
                              have en := ends_same hf hk (j := i1a.toNat) (by omega)
                              have a1 := at_utc hf (wbJ B b (intsOf l) i1a.toNat)
                              have a2 := at_utc hf (wbJ B b (intsOf l) i1a.toNat + slN B A)
                              have a3 := (step_at hm0 (wbJ B b (intsOf l) i1a.toNat)).1
                              have a4 := (step_at hm0 (wbJ B b (intsOf l) i1a.toNat + slN B A)).1
                              simp only [hB, hN, hD] at *
                              omega)
                          ·
                           refine ⟨fun h43 => ?_, fun h43 => ?_⟩
                           ·
                            first
                            | exact True.intro
                            | rfl
                            | (exfalso
                               have hf : fitsI k B A b t (intsOf l) = 0 := by omega
                               have hk : k ≠ 0 := by omega
                               obtain ⟨hs, hm0, hm, hfl, b0, b1, b2, b3⟩ := fit_facts hf
                               have y1 := ws_spec k B A b t (intsOf l) i1a
                               have n1 := slN_spec B A
                               have hE : wsE k B A b t (intsOf l) i1a = 0 := by omega
                               have hB : wsB k B A b t (intsOf l) i1a = wbJ B b (intsOf l) i1a.toNat := by omega
                               have hN : wsN k B A b t (intsOf l) i1a = wbJ B b (intsOf l) i1a.toNat + slN B A := by omega
                               have hD : IntKind.wrap .i64 (wbJ B b (intsOf l) i1a.toNat + slN B A - wbJ B b (intsOf l) i1a.toNat) = slN B A := by rw [show wbJ B b (intsOf l) i1a.toNat + slN B A - wbJ B b (intsOf l) i1a.toNat = slN B A by omega]; have := wr_i64 (slN B A); omega
                               have hsa := sec_at hm (i := i1a.toNat) (by omega)
                               have hsc := secL_spec b (intsOf l) ((intsOf l).getD i1a.toNat 0)
                               have hms := mayL_spec hm
                               have e9 : wbJ B b (intsOf l) i1a.toNat = (secL b (intsOf l) ((intsOf l).getD i1a.toNat 0) + 86400 - B) * 1000000000 := rfl
                               have le := lag_ends hs hk
                               have en := ends_same hf hk (j := i1a.toNat) (by omega)
                               have a1 := at_utc hf (wbJ B b (intsOf l) i1a.toNat)
                               have a2 := at_utc hf (wbJ B b (intsOf l) i1a.toNat + slN B A)
                               have a3 := (step_at hm0 (wbJ B b (intsOf l) i1a.toNat)).1
                               have a4 := (step_at hm0 (wbJ B b (intsOf l) i1a.toNat + slN B A)).1
                               simp only [hB, hN, hD] at *
                               omega)
                           ·
                            have wf5 := wr_i64 (i1a + 1)
                            refine ⟨?_, ?_⟩
                            ·
                             have := wr_i64 (i1a + 1)
                             omega
                            ·
                             have := wr_i64 (i1a + 1)
                             omega
           ·
            first
            | exact True.intro
            | rfl
            | (exfalso
               have hf : fitsI k B A b t (intsOf l) = 0 := by omega
               have hk : k ≠ 0 := by omega
               obtain ⟨hs, hm0, hm, hfl, b0, b1, b2, b3⟩ := fit_facts hf
               have y1 := ws_spec k B A b t (intsOf l) i1a
               have n1 := slN_spec B A
               have hE : wsE k B A b t (intsOf l) i1a = 0 := by omega
               have hB : wsB k B A b t (intsOf l) i1a = wbJ B b (intsOf l) i1a.toNat := by omega
               have hN : wsN k B A b t (intsOf l) i1a = wbJ B b (intsOf l) i1a.toNat + slN B A := by omega
               have hD : IntKind.wrap .i64 (wbJ B b (intsOf l) i1a.toNat + slN B A - wbJ B b (intsOf l) i1a.toNat) = slN B A := by rw [show wbJ B b (intsOf l) i1a.toNat + slN B A - wbJ B b (intsOf l) i1a.toNat = slN B A by omega]; have := wr_i64 (slN B A); omega
               have hsa := sec_at hm (i := i1a.toNat) (by omega)
               have hsc := secL_spec b (intsOf l) ((intsOf l).getD i1a.toNat 0)
               have hms := mayL_spec hm
               have e9 : wbJ B b (intsOf l) i1a.toNat = (secL b (intsOf l) ((intsOf l).getD i1a.toNat 0) + 86400 - B) * 1000000000 := rfl
               have le := lag_ends hs hk
               have en := ends_same hf hk (j := i1a.toNat) (by omega)
               have a1 := at_utc hf (wbJ B b (intsOf l) i1a.toNat)
               have a2 := at_utc hf (wbJ B b (intsOf l) i1a.toNat + slN B A)
               have a3 := (step_at hm0 (wbJ B b (intsOf l) i1a.toNat)).1
               have a4 := (step_at hm0 (wbJ B b (intsOf l) i1a.toNat + slN B A)).1
               simp only [hB, hN, hD] at *
               omega)
        ·
         refine ⟨?_, ?_⟩
         ·
          exact ⟨by omega, by omega⟩
         ·
          intro i2a hi2
          refine ⟨fun h44 => ?_, fun h44 => ?_⟩
          ·
           refine ⟨?_, fun h45 => ?_⟩
           ·
            first
            | exact True.intro
            | omega
            | (
               have hf : fitsI k B A b t (intsOf l) = 0 := by omega
               have hk : k ≠ 0 := by omega
               obtain ⟨hs, hm0, hm, hfl, b0, b1, b2, b3⟩ := fit_facts hf
               have y1 := ws_spec k B A b t (intsOf l) i2a
               have n1 := slN_spec B A
               have hE : wsE k B A b t (intsOf l) i2a = 0 := by omega
               have hB : wsB k B A b t (intsOf l) i2a = wbJ B b (intsOf l) i2a.toNat := by omega
               have hN : wsN k B A b t (intsOf l) i2a = wbJ B b (intsOf l) i2a.toNat + slN B A := by omega
               have hD : IntKind.wrap .i64 (wbJ B b (intsOf l) i2a.toNat + slN B A - wbJ B b (intsOf l) i2a.toNat) = slN B A := by rw [show wbJ B b (intsOf l) i2a.toNat + slN B A - wbJ B b (intsOf l) i2a.toNat = slN B A by omega]; have := wr_i64 (slN B A); omega
               have hsa := sec_at hm (i := i2a.toNat) (by omega)
               have hsc := secL_spec b (intsOf l) ((intsOf l).getD i2a.toNat 0)
               have hms := mayL_spec hm
               have e9 : wbJ B b (intsOf l) i2a.toNat = (secL b (intsOf l) ((intsOf l).getD i2a.toNat 0) + 86400 - B) * 1000000000 := rfl
               have le := lag_ends hs hk
               have en := ends_same hf hk (j := i2a.toNat) (by omega)
               have a1 := at_utc hf (wbJ B b (intsOf l) i2a.toNat)
               have a2 := at_utc hf (wbJ B b (intsOf l) i2a.toNat + slN B A)
               have a3 := (step_at hm0 (wbJ B b (intsOf l) i2a.toNat)).1
               have a4 := (step_at hm0 (wbJ B b (intsOf l) i2a.toNat + slN B A)).1
               simp only [hB, hN, hD] at *
               omega)
           ·
            refine ⟨?_, fun h46 => ?_⟩
            ·
             first
             | exact True.intro
             | omega
             | (
                have hf : fitsI k B A b t (intsOf l) = 0 := by omega
                have hk : k ≠ 0 := by omega
                obtain ⟨hs, hm0, hm, hfl, b0, b1, b2, b3⟩ := fit_facts hf
                have y1 := ws_spec k B A b t (intsOf l) i2a
                have n1 := slN_spec B A
                have hE : wsE k B A b t (intsOf l) i2a = 0 := by omega
                have hB : wsB k B A b t (intsOf l) i2a = wbJ B b (intsOf l) i2a.toNat := by omega
                have hN : wsN k B A b t (intsOf l) i2a = wbJ B b (intsOf l) i2a.toNat + slN B A := by omega
                have hD : IntKind.wrap .i64 (wbJ B b (intsOf l) i2a.toNat + slN B A - wbJ B b (intsOf l) i2a.toNat) = slN B A := by rw [show wbJ B b (intsOf l) i2a.toNat + slN B A - wbJ B b (intsOf l) i2a.toNat = slN B A by omega]; have := wr_i64 (slN B A); omega
                have hsa := sec_at hm (i := i2a.toNat) (by omega)
                have hsc := secL_spec b (intsOf l) ((intsOf l).getD i2a.toNat 0)
                have hms := mayL_spec hm
                have e9 : wbJ B b (intsOf l) i2a.toNat = (secL b (intsOf l) ((intsOf l).getD i2a.toNat 0) + 86400 - B) * 1000000000 := rfl
                have le := lag_ends hs hk
                have en := ends_same hf hk (j := i2a.toNat) (by omega)
                have a1 := at_utc hf (wbJ B b (intsOf l) i2a.toNat)
                have a2 := at_utc hf (wbJ B b (intsOf l) i2a.toNat + slN B A)
                have a3 := (step_at hm0 (wbJ B b (intsOf l) i2a.toNat)).1
                have a4 := (step_at hm0 (wbJ B b (intsOf l) i2a.toNat + slN B A)).1
                simp only [hB, hN, hD] at *
                omega)
            ·
             have wf6 := wr_i64 ((wsN k B A b t (intsOf l) i2a) - (wsB k B A b t (intsOf l) i2a))
             refine ⟨?_, fun h47 => ?_⟩
             ·
              first
              | exact True.intro
              | omega
              | (
                 have hf : fitsI k B A b t (intsOf l) = 0 := by omega
                 have hk : k ≠ 0 := by omega
                 obtain ⟨hs, hm0, hm, hfl, b0, b1, b2, b3⟩ := fit_facts hf
                 have y1 := ws_spec k B A b t (intsOf l) i2a
                 have n1 := slN_spec B A
                 have hE : wsE k B A b t (intsOf l) i2a = 0 := by omega
                 have hB : wsB k B A b t (intsOf l) i2a = wbJ B b (intsOf l) i2a.toNat := by omega
                 have hN : wsN k B A b t (intsOf l) i2a = wbJ B b (intsOf l) i2a.toNat + slN B A := by omega
                 have hD : IntKind.wrap .i64 (wbJ B b (intsOf l) i2a.toNat + slN B A - wbJ B b (intsOf l) i2a.toNat) = slN B A := by rw [show wbJ B b (intsOf l) i2a.toNat + slN B A - wbJ B b (intsOf l) i2a.toNat = slN B A by omega]; have := wr_i64 (slN B A); omega
                 have hsa := sec_at hm (i := i2a.toNat) (by omega)
                 have hsc := secL_spec b (intsOf l) ((intsOf l).getD i2a.toNat 0)
                 have hms := mayL_spec hm
                 have e9 : wbJ B b (intsOf l) i2a.toNat = (secL b (intsOf l) ((intsOf l).getD i2a.toNat 0) + 86400 - B) * 1000000000 := rfl
                 have le := lag_ends hs hk
                 have en := ends_same hf hk (j := i2a.toNat) (by omega)
                 have a1 := at_utc hf (wbJ B b (intsOf l) i2a.toNat)
                 have a2 := at_utc hf (wbJ B b (intsOf l) i2a.toNat + slN B A)
                 have a3 := (step_at hm0 (wbJ B b (intsOf l) i2a.toNat)).1
                 have a4 := (step_at hm0 (wbJ B b (intsOf l) i2a.toNat + slN B A)).1
                 simp only [hB, hN, hD] at *
                 omega)
             ·
              refine ⟨fun h48 => ?_, fun h48 => ?_⟩
              ·
               first
               | exact True.intro
               | rfl
               | (exfalso
                  have hf : fitsI k B A b t (intsOf l) = 0 := by omega
                  have hk : k ≠ 0 := by omega
                  obtain ⟨hs, hm0, hm, hfl, b0, b1, b2, b3⟩ := fit_facts hf
                  have y1 := ws_spec k B A b t (intsOf l) i2a
                  have n1 := slN_spec B A
                  have hE : wsE k B A b t (intsOf l) i2a = 0 := by omega
                  have hB : wsB k B A b t (intsOf l) i2a = wbJ B b (intsOf l) i2a.toNat := by omega
                  have hN : wsN k B A b t (intsOf l) i2a = wbJ B b (intsOf l) i2a.toNat + slN B A := by omega
                  have hD : IntKind.wrap .i64 (wbJ B b (intsOf l) i2a.toNat + slN B A - wbJ B b (intsOf l) i2a.toNat) = slN B A := by rw [show wbJ B b (intsOf l) i2a.toNat + slN B A - wbJ B b (intsOf l) i2a.toNat = slN B A by omega]; have := wr_i64 (slN B A); omega
                  have hsa := sec_at hm (i := i2a.toNat) (by omega)
                  have hsc := secL_spec b (intsOf l) ((intsOf l).getD i2a.toNat 0)
                  have hms := mayL_spec hm
                  have e9 : wbJ B b (intsOf l) i2a.toNat = (secL b (intsOf l) ((intsOf l).getD i2a.toNat 0) + 86400 - B) * 1000000000 := rfl
                  have le := lag_ends hs hk
                  have en := ends_same hf hk (j := i2a.toNat) (by omega)
                  have a1 := at_utc hf (wbJ B b (intsOf l) i2a.toNat)
                  have a2 := at_utc hf (wbJ B b (intsOf l) i2a.toNat + slN B A)
                  have a3 := (step_at hm0 (wbJ B b (intsOf l) i2a.toNat)).1
                  have a4 := (step_at hm0 (wbJ B b (intsOf l) i2a.toNat + slN B A)).1
                  simp only [hB, hN, hD] at *
                  omega)
              ·
               refine ⟨fun h49 => ?_, fun h49 => ?_⟩
               ·
                first
                | exact True.intro
                | rfl
                | (exfalso
                   have hf : fitsI k B A b t (intsOf l) = 0 := by omega
                   have hk : k ≠ 0 := by omega
                   obtain ⟨hs, hm0, hm, hfl, b0, b1, b2, b3⟩ := fit_facts hf
                   have y1 := ws_spec k B A b t (intsOf l) i2a
                   have n1 := slN_spec B A
                   have hE : wsE k B A b t (intsOf l) i2a = 0 := by omega
                   have hB : wsB k B A b t (intsOf l) i2a = wbJ B b (intsOf l) i2a.toNat := by omega
                   have hN : wsN k B A b t (intsOf l) i2a = wbJ B b (intsOf l) i2a.toNat + slN B A := by omega
                   have hD : IntKind.wrap .i64 (wbJ B b (intsOf l) i2a.toNat + slN B A - wbJ B b (intsOf l) i2a.toNat) = slN B A := by rw [show wbJ B b (intsOf l) i2a.toNat + slN B A - wbJ B b (intsOf l) i2a.toNat = slN B A by omega]; have := wr_i64 (slN B A); omega
                   have hsa := sec_at hm (i := i2a.toNat) (by omega)
                   have hsc := secL_spec b (intsOf l) ((intsOf l).getD i2a.toNat 0)
                   have hms := mayL_spec hm
                   have e9 : wbJ B b (intsOf l) i2a.toNat = (secL b (intsOf l) ((intsOf l).getD i2a.toNat 0) + 86400 - B) * 1000000000 := rfl
                   have le := lag_ends hs hk
                   have en := ends_same hf hk (j := i2a.toNat) (by omega)
                   have a1 := at_utc hf (wbJ B b (intsOf l) i2a.toNat)
                   have a2 := at_utc hf (wbJ B b (intsOf l) i2a.toNat + slN B A)
                   have a3 := (step_at hm0 (wbJ B b (intsOf l) i2a.toNat)).1
                   have a4 := (step_at hm0 (wbJ B b (intsOf l) i2a.toNat + slN B A)).1
                   simp only [hB, hN, hD] at *
                   omega)
               ·
                try simp only [hw6]
                refine ⟨fun h50 => ?_, fun h50 => ?_⟩
                ·
                 first
                 | exact True.intro
                 | rfl
                 | (exfalso
                    have hf : fitsI k B A b t (intsOf l) = 0 := by omega
                    have hk : k ≠ 0 := by omega
                    obtain ⟨hs, hm0, hm, hfl, b0, b1, b2, b3⟩ := fit_facts hf
                    have y1 := ws_spec k B A b t (intsOf l) i2a
                    have n1 := slN_spec B A
                    have hE : wsE k B A b t (intsOf l) i2a = 0 := by omega
                    have hB : wsB k B A b t (intsOf l) i2a = wbJ B b (intsOf l) i2a.toNat := by omega
                    have hN : wsN k B A b t (intsOf l) i2a = wbJ B b (intsOf l) i2a.toNat + slN B A := by omega
                    have hD : IntKind.wrap .i64 (wbJ B b (intsOf l) i2a.toNat + slN B A - wbJ B b (intsOf l) i2a.toNat) = slN B A := by rw [show wbJ B b (intsOf l) i2a.toNat + slN B A - wbJ B b (intsOf l) i2a.toNat = slN B A by omega]; have := wr_i64 (slN B A); omega
                    have hsa := sec_at hm (i := i2a.toNat) (by omega)
                    have hsc := secL_spec b (intsOf l) ((intsOf l).getD i2a.toNat 0)
                    have hms := mayL_spec hm
                    have e9 : wbJ B b (intsOf l) i2a.toNat = (secL b (intsOf l) ((intsOf l).getD i2a.toNat 0) + 86400 - B) * 1000000000 := rfl
                    have le := lag_ends hs hk
                    have en := ends_same hf hk (j := i2a.toNat) (by omega)
                    have a1 := at_utc hf (wbJ B b (intsOf l) i2a.toNat)
                    have a2 := at_utc hf (wbJ B b (intsOf l) i2a.toNat + slN B A)
                    have a3 := (step_at hm0 (wbJ B b (intsOf l) i2a.toNat)).1
                    have a4 := (step_at hm0 (wbJ B b (intsOf l) i2a.toNat + slN B A)).1
                    simp only [hB, hN, hD] at *
                    omega)
                ·
                 refine ⟨fun h51 => ?_, fun h51 => ?_⟩
                 ·
                  first
                  | exact True.intro
                  | rfl
                  | (exfalso
                     have hf : fitsI k B A b t (intsOf l) = 0 := by omega
                     have hk : k ≠ 0 := by omega
                     obtain ⟨hs, hm0, hm, hfl, b0, b1, b2, b3⟩ := fit_facts hf
                     have y1 := ws_spec k B A b t (intsOf l) i2a
                     have n1 := slN_spec B A
                     have hE : wsE k B A b t (intsOf l) i2a = 0 := by omega
                     have hB : wsB k B A b t (intsOf l) i2a = wbJ B b (intsOf l) i2a.toNat := by omega
                     have hN : wsN k B A b t (intsOf l) i2a = wbJ B b (intsOf l) i2a.toNat + slN B A := by omega
                     have hD : IntKind.wrap .i64 (wbJ B b (intsOf l) i2a.toNat + slN B A - wbJ B b (intsOf l) i2a.toNat) = slN B A := by rw [show wbJ B b (intsOf l) i2a.toNat + slN B A - wbJ B b (intsOf l) i2a.toNat = slN B A by omega]; have := wr_i64 (slN B A); omega
                     have hsa := sec_at hm (i := i2a.toNat) (by omega)
                     have hsc := secL_spec b (intsOf l) ((intsOf l).getD i2a.toNat 0)
                     have hms := mayL_spec hm
                     have e9 : wbJ B b (intsOf l) i2a.toNat = (secL b (intsOf l) ((intsOf l).getD i2a.toNat 0) + 86400 - B) * 1000000000 := rfl
                     have le := lag_ends hs hk
                     have en := ends_same hf hk (j := i2a.toNat) (by omega)
                     have a1 := at_utc hf (wbJ B b (intsOf l) i2a.toNat)
                     have a2 := at_utc hf (wbJ B b (intsOf l) i2a.toNat + slN B A)
                     have a3 := (step_at hm0 (wbJ B b (intsOf l) i2a.toNat)).1
                     have a4 := (step_at hm0 (wbJ B b (intsOf l) i2a.toNat + slN B A)).1
                     simp only [hB, hN, hD] at *
                     omega)
                 ·
                  try simp only [hw6]
                  refine ⟨fun h52 => ?_, fun h52 => ?_⟩
                  ·
                   first
                   | exact True.intro
                   | rfl
                   | (exfalso
                      have hf : fitsI k B A b t (intsOf l) = 0 := by omega
                      have hk : k ≠ 0 := by omega
                      obtain ⟨hs, hm0, hm, hfl, b0, b1, b2, b3⟩ := fit_facts hf
                      have y1 := ws_spec k B A b t (intsOf l) i2a
                      have n1 := slN_spec B A
                      have hE : wsE k B A b t (intsOf l) i2a = 0 := by omega
                      have hB : wsB k B A b t (intsOf l) i2a = wbJ B b (intsOf l) i2a.toNat := by omega
                      have hN : wsN k B A b t (intsOf l) i2a = wbJ B b (intsOf l) i2a.toNat + slN B A := by omega
                      have hD : IntKind.wrap .i64 (wbJ B b (intsOf l) i2a.toNat + slN B A - wbJ B b (intsOf l) i2a.toNat) = slN B A := by rw [show wbJ B b (intsOf l) i2a.toNat + slN B A - wbJ B b (intsOf l) i2a.toNat = slN B A by omega]; have := wr_i64 (slN B A); omega
                      have hsa := sec_at hm (i := i2a.toNat) (by omega)
                      have hsc := secL_spec b (intsOf l) ((intsOf l).getD i2a.toNat 0)
                      have hms := mayL_spec hm
                      have e9 : wbJ B b (intsOf l) i2a.toNat = (secL b (intsOf l) ((intsOf l).getD i2a.toNat 0) + 86400 - B) * 1000000000 := rfl
                      have le := lag_ends hs hk
                      have en := ends_same hf hk (j := i2a.toNat) (by omega)
                      have a1 := at_utc hf (wbJ B b (intsOf l) i2a.toNat)
                      have a2 := at_utc hf (wbJ B b (intsOf l) i2a.toNat + slN B A)
                      have a3 := (step_at hm0 (wbJ B b (intsOf l) i2a.toNat)).1
                      have a4 := (step_at hm0 (wbJ B b (intsOf l) i2a.toNat + slN B A)).1
                      simp only [hB, hN, hD] at *
                      omega)
                  ·
                   refine ⟨?_, fun h53 => ?_⟩
                   ·
                    first
                    | exact True.intro
                    | omega
                    | (
                       have hf : fitsI k B A b t (intsOf l) = 0 := by omega
                       have hk : k ≠ 0 := by omega
                       obtain ⟨hs, hm0, hm, hfl, b0, b1, b2, b3⟩ := fit_facts hf
                       have y1 := ws_spec k B A b t (intsOf l) i2a
                       have n1 := slN_spec B A
                       have hE : wsE k B A b t (intsOf l) i2a = 0 := by omega
                       have hB : wsB k B A b t (intsOf l) i2a = wbJ B b (intsOf l) i2a.toNat := by omega
                       have hN : wsN k B A b t (intsOf l) i2a = wbJ B b (intsOf l) i2a.toNat + slN B A := by omega
                       have hD : IntKind.wrap .i64 (wbJ B b (intsOf l) i2a.toNat + slN B A - wbJ B b (intsOf l) i2a.toNat) = slN B A := by rw [show wbJ B b (intsOf l) i2a.toNat + slN B A - wbJ B b (intsOf l) i2a.toNat = slN B A by omega]; have := wr_i64 (slN B A); omega
                       have hsa := sec_at hm (i := i2a.toNat) (by omega)
                       have hsc := secL_spec b (intsOf l) ((intsOf l).getD i2a.toNat 0)
                       have hms := mayL_spec hm
                       have e9 : wbJ B b (intsOf l) i2a.toNat = (secL b (intsOf l) ((intsOf l).getD i2a.toNat 0) + 86400 - B) * 1000000000 := rfl
                       have le := lag_ends hs hk
                       have en := ends_same hf hk (j := i2a.toNat) (by omega)
                       have a1 := at_utc hf (wbJ B b (intsOf l) i2a.toNat)
                       have a2 := at_utc hf (wbJ B b (intsOf l) i2a.toNat + slN B A)
                       have a3 := (step_at hm0 (wbJ B b (intsOf l) i2a.toNat)).1
                       have a4 := (step_at hm0 (wbJ B b (intsOf l) i2a.toNat + slN B A)).1
                       simp only [hB, hN, hD] at *
                       omega)
                   ·
                    refine ⟨?_, fun h54 => ?_⟩
                    ·
                     first
                     | exact True.intro
                     | omega
                     | (
                        have hf : fitsI k B A b t (intsOf l) = 0 := by omega
                        have hk : k ≠ 0 := by omega
                        obtain ⟨hs, hm0, hm, hfl, b0, b1, b2, b3⟩ := fit_facts hf
                        have y1 := ws_spec k B A b t (intsOf l) i2a
                        have n1 := slN_spec B A
                        have hE : wsE k B A b t (intsOf l) i2a = 0 := by omega
                        have hB : wsB k B A b t (intsOf l) i2a = wbJ B b (intsOf l) i2a.toNat := by omega
                        have hN : wsN k B A b t (intsOf l) i2a = wbJ B b (intsOf l) i2a.toNat + slN B A := by omega
                        have hD : IntKind.wrap .i64 (wbJ B b (intsOf l) i2a.toNat + slN B A - wbJ B b (intsOf l) i2a.toNat) = slN B A := by rw [show wbJ B b (intsOf l) i2a.toNat + slN B A - wbJ B b (intsOf l) i2a.toNat = slN B A by omega]; have := wr_i64 (slN B A); omega
                        have hsa := sec_at hm (i := i2a.toNat) (by omega)
                        have hsc := secL_spec b (intsOf l) ((intsOf l).getD i2a.toNat 0)
                        have hms := mayL_spec hm
                        have e9 : wbJ B b (intsOf l) i2a.toNat = (secL b (intsOf l) ((intsOf l).getD i2a.toNat 0) + 86400 - B) * 1000000000 := rfl
                        have le := lag_ends hs hk
                        have en := ends_same hf hk (j := i2a.toNat) (by omega)
                        have a1 := at_utc hf (wbJ B b (intsOf l) i2a.toNat)
                        have a2 := at_utc hf (wbJ B b (intsOf l) i2a.toNat + slN B A)
                        have a3 := (step_at hm0 (wbJ B b (intsOf l) i2a.toNat)).1
                        have a4 := (step_at hm0 (wbJ B b (intsOf l) i2a.toNat + slN B A)).1
                        simp only [hB, hN, hD] at *
                        omega)
                    ·
                     refine ⟨?_, fun h55 => ?_⟩
                     ·
                      first
                      | exact True.intro
                      | omega
                      | (
                         have hf : fitsI k B A b t (intsOf l) = 0 := by omega
                         have hk : k ≠ 0 := by omega
                         obtain ⟨hs, hm0, hm, hfl, b0, b1, b2, b3⟩ := fit_facts hf
                         have y1 := ws_spec k B A b t (intsOf l) i2a
                         have n1 := slN_spec B A
                         have hE : wsE k B A b t (intsOf l) i2a = 0 := by omega
                         have hB : wsB k B A b t (intsOf l) i2a = wbJ B b (intsOf l) i2a.toNat := by omega
                         have hN : wsN k B A b t (intsOf l) i2a = wbJ B b (intsOf l) i2a.toNat + slN B A := by omega
                         have hD : IntKind.wrap .i64 (wbJ B b (intsOf l) i2a.toNat + slN B A - wbJ B b (intsOf l) i2a.toNat) = slN B A := by rw [show wbJ B b (intsOf l) i2a.toNat + slN B A - wbJ B b (intsOf l) i2a.toNat = slN B A by omega]; have := wr_i64 (slN B A); omega
                         have hsa := sec_at hm (i := i2a.toNat) (by omega)
                         have hsc := secL_spec b (intsOf l) ((intsOf l).getD i2a.toNat 0)
                         have hms := mayL_spec hm
                         have e9 : wbJ B b (intsOf l) i2a.toNat = (secL b (intsOf l) ((intsOf l).getD i2a.toNat 0) + 86400 - B) * 1000000000 := rfl
                         have le := lag_ends hs hk
                         have en := ends_same hf hk (j := i2a.toNat) (by omega)
                         have a1 := at_utc hf (wbJ B b (intsOf l) i2a.toNat)
                         have a2 := at_utc hf (wbJ B b (intsOf l) i2a.toNat + slN B A)
                         have a3 := (step_at hm0 (wbJ B b (intsOf l) i2a.toNat)).1
                         have a4 := (step_at hm0 (wbJ B b (intsOf l) i2a.toNat + slN B A)).1
                         simp only [hB, hN, hD] at *
                         omega)
                     ·
                      refine ⟨?_, fun h56 => ?_⟩
                      ·
                       first
                       | exact True.intro
                       | omega
                       | (
                          have hf : fitsI k B A b t (intsOf l) = 0 := by omega
                          have hk : k ≠ 0 := by omega
                          obtain ⟨hs, hm0, hm, hfl, b0, b1, b2, b3⟩ := fit_facts hf
                          have y1 := ws_spec k B A b t (intsOf l) i2a
                          have n1 := slN_spec B A
                          have hE : wsE k B A b t (intsOf l) i2a = 0 := by omega
                          have hB : wsB k B A b t (intsOf l) i2a = wbJ B b (intsOf l) i2a.toNat := by omega
                          have hN : wsN k B A b t (intsOf l) i2a = wbJ B b (intsOf l) i2a.toNat + slN B A := by omega
                          have hD : IntKind.wrap .i64 (wbJ B b (intsOf l) i2a.toNat + slN B A - wbJ B b (intsOf l) i2a.toNat) = slN B A := by rw [show wbJ B b (intsOf l) i2a.toNat + slN B A - wbJ B b (intsOf l) i2a.toNat = slN B A by omega]; have := wr_i64 (slN B A); omega
                          have hsa := sec_at hm (i := i2a.toNat) (by omega)
                          have hsc := secL_spec b (intsOf l) ((intsOf l).getD i2a.toNat 0)
                          have hms := mayL_spec hm
                          have e9 : wbJ B b (intsOf l) i2a.toNat = (secL b (intsOf l) ((intsOf l).getD i2a.toNat 0) + 86400 - B) * 1000000000 := rfl
                          have le := lag_ends hs hk
                          have en := ends_same hf hk (j := i2a.toNat) (by omega)
                          have a1 := at_utc hf (wbJ B b (intsOf l) i2a.toNat)
                          have a2 := at_utc hf (wbJ B b (intsOf l) i2a.toNat + slN B A)
                          have a3 := (step_at hm0 (wbJ B b (intsOf l) i2a.toNat)).1
                          have a4 := (step_at hm0 (wbJ B b (intsOf l) i2a.toNat + slN B A)).1
                          simp only [hB, hN, hD] at *
                          omega)
                      ·
                       refine ⟨fun h57 => ?_, fun h57 => ?_⟩
                       ·
                        first
                        | exact True.intro
                        | rfl
                        | (exfalso
                           have hf : fitsI k B A b t (intsOf l) = 0 := by omega
                           have hk : k ≠ 0 := by omega
                           obtain ⟨hs, hm0, hm, hfl, b0, b1, b2, b3⟩ := fit_facts hf
                           have y1 := ws_spec k B A b t (intsOf l) i2a
                           have n1 := slN_spec B A
                           have hE : wsE k B A b t (intsOf l) i2a = 0 := by omega
                           have hB : wsB k B A b t (intsOf l) i2a = wbJ B b (intsOf l) i2a.toNat := by omega
                           have hN : wsN k B A b t (intsOf l) i2a = wbJ B b (intsOf l) i2a.toNat + slN B A := by omega
                           have hD : IntKind.wrap .i64 (wbJ B b (intsOf l) i2a.toNat + slN B A - wbJ B b (intsOf l) i2a.toNat) = slN B A := by rw [show wbJ B b (intsOf l) i2a.toNat + slN B A - wbJ B b (intsOf l) i2a.toNat = slN B A by omega]; have := wr_i64 (slN B A); omega
                           have hsa := sec_at hm (i := i2a.toNat) (by omega)
                           have hsc := secL_spec b (intsOf l) ((intsOf l).getD i2a.toNat 0)
                           have hms := mayL_spec hm
                           have e9 : wbJ B b (intsOf l) i2a.toNat = (secL b (intsOf l) ((intsOf l).getD i2a.toNat 0) + 86400 - B) * 1000000000 := rfl
                           have le := lag_ends hs hk
                           have en := ends_same hf hk (j := i2a.toNat) (by omega)
                           have a1 := at_utc hf (wbJ B b (intsOf l) i2a.toNat)
                           have a2 := at_utc hf (wbJ B b (intsOf l) i2a.toNat + slN B A)
                           have a3 := (step_at hm0 (wbJ B b (intsOf l) i2a.toNat)).1
                           have a4 := (step_at hm0 (wbJ B b (intsOf l) i2a.toNat + slN B A)).1
                           simp only [hB, hN, hD] at *
                           omega)
                       ·
                        refine ⟨fun h58 => ?_, fun h58 => ?_⟩
                        ·
                         first
                         | exact True.intro
                         | rfl
                         | (exfalso
                            have hf : fitsI k B A b t (intsOf l) = 0 := by omega
                            have hk : k ≠ 0 := by omega
                            obtain ⟨hs, hm0, hm, hfl, b0, b1, b2, b3⟩ := fit_facts hf
                            have y1 := ws_spec k B A b t (intsOf l) i2a
                            have n1 := slN_spec B A
                            have hE : wsE k B A b t (intsOf l) i2a = 0 := by omega
                            have hB : wsB k B A b t (intsOf l) i2a = wbJ B b (intsOf l) i2a.toNat := by omega
                            have hN : wsN k B A b t (intsOf l) i2a = wbJ B b (intsOf l) i2a.toNat + slN B A := by omega
                            have hD : IntKind.wrap .i64 (wbJ B b (intsOf l) i2a.toNat + slN B A - wbJ B b (intsOf l) i2a.toNat) = slN B A := by rw [show wbJ B b (intsOf l) i2a.toNat + slN B A - wbJ B b (intsOf l) i2a.toNat = slN B A by omega]; have := wr_i64 (slN B A); omega
                            have hsa := sec_at hm (i := i2a.toNat) (by omega)
                            have hsc := secL_spec b (intsOf l) ((intsOf l).getD i2a.toNat 0)
                            have hms := mayL_spec hm
                            have e9 : wbJ B b (intsOf l) i2a.toNat = (secL b (intsOf l) ((intsOf l).getD i2a.toNat 0) + 86400 - B) * 1000000000 := rfl
                            have le := lag_ends hs hk
                            have en := ends_same hf hk (j := i2a.toNat) (by omega)
                            have a1 := at_utc hf (wbJ B b (intsOf l) i2a.toNat)
                            have a2 := at_utc hf (wbJ B b (intsOf l) i2a.toNat + slN B A)
                            have a3 := (step_at hm0 (wbJ B b (intsOf l) i2a.toNat)).1
                            have a4 := (step_at hm0 (wbJ B b (intsOf l) i2a.toNat + slN B A)).1
                            simp only [hB, hN, hD] at *
                            omega)
                        ·
                         refine ⟨fun h59 => ?_, fun h59 => ?_⟩
                         ·
                          first
                          | exact True.intro
                          | rfl
                          | (exfalso
                             have hf : fitsI k B A b t (intsOf l) = 0 := by omega
                             have hk : k ≠ 0 := by omega
                             obtain ⟨hs, hm0, hm, hfl, b0, b1, b2, b3⟩ := fit_facts hf
                             have y1 := ws_spec k B A b t (intsOf l) i2a
                             have n1 := slN_spec B A
                             have hE : wsE k B A b t (intsOf l) i2a = 0 := by omega
                             have hB : wsB k B A b t (intsOf l) i2a = wbJ B b (intsOf l) i2a.toNat := by omega
                             have hN : wsN k B A b t (intsOf l) i2a = wbJ B b (intsOf l) i2a.toNat + slN B A := by omega
                             have hD : IntKind.wrap .i64 (wbJ B b (intsOf l) i2a.toNat + slN B A - wbJ B b (intsOf l) i2a.toNat) = slN B A := by rw [show wbJ B b (intsOf l) i2a.toNat + slN B A - wbJ B b (intsOf l) i2a.toNat = slN B A by omega]; have := wr_i64 (slN B A); omega
                             have hsa := sec_at hm (i := i2a.toNat) (by omega)
                             have hsc := secL_spec b (intsOf l) ((intsOf l).getD i2a.toNat 0)
                             have hms := mayL_spec hm
                             have e9 : wbJ B b (intsOf l) i2a.toNat = (secL b (intsOf l) ((intsOf l).getD i2a.toNat 0) + 86400 - B) * 1000000000 := rfl
                             have le := lag_ends hs hk
                             have en := ends_same hf hk (j := i2a.toNat) (by omega)
                             have a1 := at_utc hf (wbJ B b (intsOf l) i2a.toNat)
                             have a2 := at_utc hf (wbJ B b (intsOf l) i2a.toNat + slN B A)
                             have a3 := (step_at hm0 (wbJ B b (intsOf l) i2a.toNat)).1
                             have a4 := (step_at hm0 (wbJ B b (intsOf l) i2a.toNat + slN B A)).1
                             simp only [hB, hN, hD] at *
                             omega)
                         ·
                          refine ⟨fun h60 => ?_, fun h60 => ?_⟩
                          ·
                           first
                           | exact True.intro
                           | rfl
                           | (exfalso
                              have hf : fitsI k B A b t (intsOf l) = 0 := by omega
                              have hk : k ≠ 0 := by omega
                              obtain ⟨hs, hm0, hm, hfl, b0, b1, b2, b3⟩ := fit_facts hf
                              have y1 := ws_spec k B A b t (intsOf l) i2a
                              have n1 := slN_spec B A
                              have hE : wsE k B A b t (intsOf l) i2a = 0 := by omega
                              have hB : wsB k B A b t (intsOf l) i2a = wbJ B b (intsOf l) i2a.toNat := by omega
                              have hN : wsN k B A b t (intsOf l) i2a = wbJ B b (intsOf l) i2a.toNat + slN B A := by omega
                              have hD : IntKind.wrap .i64 (wbJ B b (intsOf l) i2a.toNat + slN B A - wbJ B b (intsOf l) i2a.toNat) = slN B A := by rw [show wbJ B b (intsOf l) i2a.toNat + slN B A - wbJ B b (intsOf l) i2a.toNat = slN B A by omega]; have := wr_i64 (slN B A); omega
                              have hsa := sec_at hm (i := i2a.toNat) (by omega)
                              have hsc := secL_spec b (intsOf l) ((intsOf l).getD i2a.toNat 0)
                              have hms := mayL_spec hm
                              have e9 : wbJ B b (intsOf l) i2a.toNat = (secL b (intsOf l) ((intsOf l).getD i2a.toNat 0) + 86400 - B) * 1000000000 := rfl
                              have le := lag_ends hs hk
                              have en := ends_same hf hk (j := i2a.toNat) (by omega)
                              have a1 := at_utc hf (wbJ B b (intsOf l) i2a.toNat)
                              have a2 := at_utc hf (wbJ B b (intsOf l) i2a.toNat + slN B A)
                              have a3 := (step_at hm0 (wbJ B b (intsOf l) i2a.toNat)).1
                              have a4 := (step_at hm0 (wbJ B b (intsOf l) i2a.toNat + slN B A)).1
                              simp only [hB, hN, hD] at *
                              omega)
                          ·
                           have wf7 := wr_i64 (i2a + 1)
                           refine ⟨?_, ?_⟩
                           ·
                            have := wr_i64 (i2a + 1)
                            omega
                           ·
                            have := wr_i64 (i2a + 1)
                            omega
          ·
           first
           | exact True.intro
           | rfl
           | (exfalso
              have hf : fitsI k B A b t (intsOf l) = 0 := by omega
              have hk : k ≠ 0 := by omega
              obtain ⟨hs, hm0, hm, hfl, b0, b1, b2, b3⟩ := fit_facts hf
              have y1 := ws_spec k B A b t (intsOf l) i2a
              have n1 := slN_spec B A
              have hE : wsE k B A b t (intsOf l) i2a = 0 := by omega
              have hB : wsB k B A b t (intsOf l) i2a = wbJ B b (intsOf l) i2a.toNat := by omega
              have hN : wsN k B A b t (intsOf l) i2a = wbJ B b (intsOf l) i2a.toNat + slN B A := by omega
              have hD : IntKind.wrap .i64 (wbJ B b (intsOf l) i2a.toNat + slN B A - wbJ B b (intsOf l) i2a.toNat) = slN B A := by rw [show wbJ B b (intsOf l) i2a.toNat + slN B A - wbJ B b (intsOf l) i2a.toNat = slN B A by omega]; have := wr_i64 (slN B A); omega
              have hsa := sec_at hm (i := i2a.toNat) (by omega)
              have hsc := secL_spec b (intsOf l) ((intsOf l).getD i2a.toNat 0)
              have hms := mayL_spec hm
              have e9 : wbJ B b (intsOf l) i2a.toNat = (secL b (intsOf l) ((intsOf l).getD i2a.toNat 0) + 86400 - B) * 1000000000 := rfl
              have le := lag_ends hs hk
              have en := ends_same hf hk (j := i2a.toNat) (by omega)
              have a1 := at_utc hf (wbJ B b (intsOf l) i2a.toNat)
              have a2 := at_utc hf (wbJ B b (intsOf l) i2a.toNat + slN B A)
              have a3 := (step_at hm0 (wbJ B b (intsOf l) i2a.toNat)).1
              have a4 := (step_at hm0 (wbJ B b (intsOf l) i2a.toNat + slN B A)).1
              simp only [hB, hN, hD] at *
              omega)
theorem s12gg_wOnward : s12gc_wOnward.Good Tryd.prog syG (s12gE [] [] [] []) := good_of_walk (Γ := ⟨[s12cc_sure12, s12c_sfits, s12c_sat, s12c_sWin, s12c_slag, s12cc_num], syG, [], [], []⟩) (ρ := s12gE [] [] [] []) sym wOnward_w rfl (fun _ _ _ _ => (ok_cons (Con.Good.env (Con.Good.up s12cg_sure12 s12gup rfl) _ _ _ _) (ok_cons (Con.Good.env (Con.Good.up (Con.Good.up (Con.Good.up s12g_sfits s12bup rfl) s12cup rfl) s12gup rfl) _ _ _ _) (ok_cons (Con.Good.env (Con.Good.up (Con.Good.up (Con.Good.up s12g_sat s12bup rfl) s12cup rfl) s12gup rfl) _ _ _ _) (ok_cons (Con.Good.env (Con.Good.up (Con.Good.up (Con.Good.up s12g_sWin s12bup rfl) s12cup rfl) s12gup rfl) _ _ _ _) (ok_cons (Con.Good.env (Con.Good.up (Con.Good.up (Con.Good.up s12g_slag s12bup rfl) s12cup rfl) s12gup rfl) _ _ _ _) (ok_cons (Con.Good.env (Con.Good.up s12cg_num s12gup rfl) _ _ _ _) ok_nil))))))) (fun k B A b t x y l hc hty => wOnward_h k B A b t x y l hc hty)
end Go.Proofs.YtbjgopehomnpgaaDoor
