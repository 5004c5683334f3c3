/-
  Layer 12: wOutside.
-/
import Derived.Test.YtbjgopehomnpgaaDoorSycqs
import Derived.Test.YtbjgopehomnpgaaDoorZ12cqs
namespace Go.Proofs.YtbjgopehomnpgaaDoor
open Go.RowKit Go.Extern.Stop Go.Stop Go.Extern Go.Proofs.YtbjgopehomnpgaaDoor.Sy
set_option linter.unusedVariables false
set_option linter.unusedSimpArgs false
noncomputable def s12fI : Nat → List Value → Int
  | i, l => s12cI i l
noncomputable def s12fB : Nat → List Value → Bool
  | i, l => s12cB i l
noncomputable def s12fV : Nat → List Value → Value
  | i, l => s12cV i l
noncomputable abbrev s12fE (iv : List Int) (bv : List Bool) (vv : List Value) (sv : List ByteArray) : Env := { iv := iv, bv := bv, vv := vv, sv := sv, fi := s12fI, fb := s12fB, fv := s12fV, et := 182 }
set_option maxHeartbeats 8000000 in
theorem s12fup : Agree 41 4 0 (s12cE [] [] [] []) (s12fE [] [] [] []) := ⟨rfl, (by
    intro f hf
    funext l
    show s12fI f l = s12cI f l
    unfold s12fI
    split <;> first | rfl | omega), (by
    intro f hf
    funext l
    show s12fB f l = s12cB f l
    unfold s12fB
    split <;> first | rfl | omega), (by
    intro f hf
    funext l
    show s12fV f l = s12cV f l
    unfold s12fV
    split <;> first | rfl | omega)⟩
theorem s12fi_may (k1 : IntKind) (b : Int) (k2 : IntKind) (t : Int) (l : Value) : s12fI 0 [.int k1 b, .int k2 t, l] = mayI b t (intsOf l) := rfl
theorem s12fi_lcnt (l : Value) (k1 : IntKind) (d : Int) (k2 : IntKind) (n : Int) : s12fI 1 [l, .int k1 d, .int k2 n] = (cntL (intsOf l) d n.toNat : Int) := rfl
theorem s12fi_lct (l : Value) (k1 : IntKind) (d : Int) : s12fI 2 [l, .int k1 d] = (ctL (intsOf l) d : Int) := rfl
theorem s12fi_least (l : Value) (k1 : IntKind) (n : Int) : s12fI 3 [l, .int k1 n] = leastL (intsOf l) n.toNat := rfl
theorem s12fi_wrong (k1 : IntKind) (b : Int) (k2 : IntKind) (t : Int) (l : Value) (k3 : IntKind) (d : Int) : s12fI 4 [.int k1 b, .int k2 t, l, .int k3 d] = wrongI b t (intsOf l) d := rfl
theorem s12fi_sec (k1 : IntKind) (b : Int) (l : Value) (k2 : IntKind) (d : Int) : s12fI 5 [.int k1 b, l, .int k2 d] = secL b (intsOf l) d := rfl
theorem s12fi_aheadI (k1 : IntKind) (b : Int) (k2 : IntKind) (t : Int) (l : Value) (k3 : IntKind) (d : Int) : s12fI 6 [.int k1 b, .int k2 t, l, .int k3 d] = aheadI b t (intsOf l) d := rfl
theorem s12fi_lenI (k1 : IntKind) (b : Int) (k2 : IntKind) (t : Int) (l : Value) (k3 : IntKind) (d : Int) : s12fI 7 [.int k1 b, .int k2 t, l, .int k3 d] = lenI b t (intsOf l) d := rfl
theorem s12fi_begI (k1 : IntKind) (b : Int) (k2 : IntKind) (t : Int) (l : Value) (k3 : IntKind) (d : Int) : s12fI 8 [.int k1 b, .int k2 t, l, .int k3 d] = begI b t (intsOf l) d := rfl
theorem s12fi_utcE (k1 : IntKind) (b : Int) (k2 : IntKind) (t : Int) (l : Value) (k3 : IntKind) (n : Int) : s12fI 9 [.int k1 b, .int k2 t, l, .int k3 n] = utcE b t (intsOf l) n := rfl
theorem s12fi_utcD (k1 : IntKind) (b : Int) (k2 : IntKind) (t : Int) (l : Value) (k3 : IntKind) (n : Int) : s12fI 10 [.int k1 b, .int k2 t, l, .int k3 n] = utcD b t (intsOf l) n := rfl
theorem s12fi_utcS (k1 : IntKind) (b : Int) (k2 : IntKind) (t : Int) (l : Value) (k3 : IntKind) (n : Int) : s12fI 11 [.int k1 b, .int k2 t, l, .int k3 n] = utcS b t (intsOf l) n := rfl
theorem s12fi_utcN (k1 : IntKind) (b : Int) (k2 : IntKind) (t : Int) (l : Value) (k3 : IntKind) (n : Int) : s12fI 12 [.int k1 b, .int k2 t, l, .int k3 n] = utcN b t (intsOf l) n := rfl
theorem s12fi_sz (k1 : IntKind) (a : Int) : s12fI 13 [.int k1 a] = szE a := rfl
theorem s12fi_sa (k1 : IntKind) (a : Int) : s12fI 14 [.int k1 a] = satE a := rfl
theorem s12fi_nv (k1 : IntKind) (a : Int) : s12fI 15 [.int k1 a] = svE a := rfl
theorem s12fi_ne (k1 : IntKind) (a : Int) : s12fI 16 [.int k1 a] = erE a := rfl
theorem s12fi_dq (k1 : IntKind) (a : Int) (k2 : IntKind) (b : Int) : s12fI 17 [.int k1 a, .int k2 b] = dqE a b := rfl
theorem s12fi_dm (k1 : IntKind) (a : Int) (k2 : IntKind) (b : Int) : s12fI 18 [.int k1 a, .int k2 b] = dmE a b := rfl
theorem s12fi_de (k1 : IntKind) (b : Int) : s12fI 19 [.int k1 b] = deE b := rfl
theorem s12fi_sm (k1 : IntKind) (k : Int) (k2 : IntKind) (B : Int) (k3 : IntKind) (A : Int) : s12fI 20 [.int k1 k, .int k2 B, .int k3 A] = smI k B A := rfl
theorem s12fi_sln (k1 : IntKind) (B : Int) (k2 : IntKind) (A : Int) : s12fI 21 [.int k1 B, .int k2 A] = slN B A := rfl
theorem s12fi_wb (k1 : IntKind) (B : Int) (k2 : IntKind) (b : Int) (k3 : IntKind) (t : Int) (l : Value) (k4 : IntKind) (d : Int) : s12fI 22 [.int k1 B, .int k2 b, .int k3 t, l, .int k4 d] = winB B b t (intsOf l) d := rfl
theorem s12fi_wn (k1 : IntKind) (B : Int) (k2 : IntKind) (A : Int) (k3 : IntKind) (b : Int) (k4 : IntKind) (t : Int) (l : Value) (k5 : IntKind) (d : Int) : s12fI 23 [.int k1 B, .int k2 A, .int k3 b, .int k4 t, l, .int k5 d] = winN B A b t (intsOf l) d := rfl
theorem s12fi_fits (k1 : IntKind) (k : Int) (k2 : IntKind) (B : Int) (k3 : IntKind) (A : Int) (k4 : IntKind) (b : Int) (k5 : IntKind) (t : Int) (l : Value) : s12fI 24 [.int k1 k, .int k2 B, .int k3 A, .int k4 b, .int k5 t, l] = fitsI k B A b t (intsOf l) := rfl
theorem s12fi_last (k1 : IntKind) (B : Int) (k2 : IntKind) (A : Int) (k3 : IntKind) (b : Int) (l : Value) (k4 : IntKind) (n : Int) : s12fI 25 [.int k1 B, .int k2 A, .int k3 b, l, .int k4 n] = lastN B A b (intsOf l) n.toNat := rfl
theorem s12fi_lge (k1 : IntKind) (k : Int) (k2 : IntKind) (B : Int) (k3 : IntKind) (A : Int) (k4 : IntKind) (g : Int) : s12fI 26 [.int k1 k, .int k2 B, .int k3 A, .int k4 g] = lagE k B A g := rfl
theorem s12fi_lgv (k1 : IntKind) (k : Int) (k2 : IntKind) (B : Int) (k3 : IntKind) (A : Int) (k4 : IntKind) (g : Int) : s12fI 27 [.int k1 k, .int k2 B, .int k3 A, .int k4 g] = lagV k B A g := rfl
theorem s12fi_mdn (k1 : IntKind) (a : Int) (k2 : IntKind) (b : Int) (k3 : IntKind) (c : Int) : s12fI 28 [.int k1 a, .int k2 b, .int k3 c] = mdN a b c := rfl
theorem s12fi_mde (k1 : IntKind) (a : Int) (k2 : IntKind) (b : Int) (k3 : IntKind) (c : Int) : s12fI 29 [.int k1 a, .int k2 b, .int k3 c] = mdE a b c := rfl
theorem s12fi_ate (k1 : IntKind) (k : Int) (k2 : IntKind) (B : Int) (k3 : IntKind) (A : Int) (k4 : IntKind) (b : Int) (k5 : IntKind) (t : Int) (l : Value) (k6 : IntKind) (n : Int) : s12fI 30 [.int k1 k, .int k2 B, .int k3 A, .int k4 b, .int k5 t, l, .int k6 n] = atE k B A b t (intsOf l) n := rfl
theorem s12fi_atv (k1 : IntKind) (k : Int) (k2 : IntKind) (B : Int) (k3 : IntKind) (A : Int) (k4 : IntKind) (b : Int) (k5 : IntKind) (t : Int) (l : Value) (k6 : IntKind) (n : Int) : s12fI 31 [.int k1 k, .int k2 B, .int k3 A, .int k4 b, .int k5 t, l, .int k6 n] = atV k B A b t (intsOf l) n := rfl
theorem s12fi_pln (k1 : IntKind) (b : Int) (l : Value) (k2 : IntKind) (n : Int) (k3 : IntKind) (d : Int) : s12fI 32 [.int k1 b, l, .int k2 n, .int k3 d] = plN b (intsOf l) n d := rfl
theorem s12fi_cel (l : Value) (k1 : IntKind) (j : Int) : s12fI 33 [l, .int k1 j] = (intsOf l).getD j.toNat 0 := rfl
theorem s12fi_wse (k1 : IntKind) (k : Int) (k2 : IntKind) (B : Int) (k3 : IntKind) (A : Int) (k4 : IntKind) (b : Int) (k5 : IntKind) (t : Int) (l : Value) (k6 : IntKind) (j : Int) : s12fI 34 [.int k1 k, .int k2 B, .int k3 A, .int k4 b, .int k5 t, l, .int k6 j] = wsE k B A b t (intsOf l) j := rfl
theorem s12fi_wsb (k1 : IntKind) (k : Int) (k2 : IntKind) (B : Int) (k3 : IntKind) (A : Int) (k4 : IntKind) (b : Int) (k5 : IntKind) (t : Int) (l : Value) (k6 : IntKind) (j : Int) : s12fI 35 [.int k1 k, .int k2 B, .int k3 A, .int k4 b, .int k5 t, l, .int k6 j] = wsB k B A b t (intsOf l) j := rfl
theorem s12fi_wsn (k1 : IntKind) (k : Int) (k2 : IntKind) (B : Int) (k3 : IntKind) (A : Int) (k4 : IntKind) (b : Int) (k5 : IntKind) (t : Int) (l : Value) (k6 : IntKind) (j : Int) : s12fI 36 [.int k1 k, .int k2 B, .int k3 A, .int k4 b, .int k5 t, l, .int k6 j] = wsN k B A b t (intsOf l) j := rfl
theorem s12fi_upf (k1 : IntKind) (a : Int) (k2 : IntKind) (b : Int) (k3 : IntKind) (c : Int) : s12fI 37 [.int k1 a, .int k2 b, .int k3 c] = upF a b c := rfl
theorem s12fi_pla (k1 : IntKind) (b : Int) (k2 : IntKind) (t : Int) (l : Value) (k3 : IntKind) (d : Int) (k4 : IntKind) (n : Int) : s12fI 38 [.int k1 b, .int k2 t, l, .int k3 d, .int k4 n] = plaI b t (intsOf l) d n := rfl
theorem s12fi_wiv (k1 : IntKind) (k : Int) (k2 : IntKind) (B : Int) (k3 : IntKind) (A : Int) (k4 : IntKind) (b : Int) (k5 : IntKind) (t : Int) (l : Value) (k6 : IntKind) (d : Int) (k7 : IntKind) (g : Int) : s12fI 39 [.int k1 k, .int k2 B, .int k3 A, .int k4 b, .int k5 t, l, .int k6 d, .int k7 g] = wiI k B A b t (intsOf l) d g := rfl
theorem s12fi_wbj (k1 : IntKind) (B : Int) (k2 : IntKind) (b : Int) (l : Value) (k3 : IntKind) (j : Int) : s12fI 40 [.int k1 B, .int k2 b, l, .int k3 j] = wbJ B b (intsOf l) j.toNat := rfl
theorem s12fb_lok (l : Value) (k1 : IntKind) (t : Int) (k2 : IntKind) (n : Int) : s12fB 0 [l, .int k1 t, .int k2 n] = okL (intsOf l) t n.toNat := rfl
theorem s12fb_mayb (k1 : IntKind) (b : Int) (k2 : IntKind) (t : Int) (l : Value) : s12fB 1 [.int k1 b, .int k2 t, l] = mayL b t (intsOf l) := rfl
theorem s12fb_fitl (k1 : IntKind) (B : Int) (k2 : IntKind) (A : Int) (k3 : IntKind) (b : Int) (l : Value) (k4 : IntKind) (n : Int) : s12fB 2 [.int k1 B, .int k2 A, .int k3 b, l, .int k4 n] = fitL B A b (intsOf l) n.toNat := rfl
theorem s12fb_noj (k1 : IntKind) (B : Int) (k2 : IntKind) (A : Int) (k3 : IntKind) (b : Int) (l : Value) (k4 : IntKind) (n : Int) (k5 : IntKind) (m : Int) : s12fB 3 [.int k1 B, .int k2 A, .int k3 b, l, .int k4 n, .int k5 m] = noJ B A b (intsOf l) n m.toNat := rfl
def wOutside_tree : Tree :=
 (.br (.b2 .lt (.lit (40)) (.ofI (.vop (.len 1) (.cons (.opq 0) .nil))))
 (.ret (.bool (.tt true)))
 (.need (.b2 .and (.b2 .and (.b2 .le (.lit (-9223372036854775808)) (.var 0)) (.b2 .le (.var 0) (.lit (9223372036854775807)))) (.b2 .and (.b2 .and (.b2 .le (.lit (-9223372036854775808)) (.var 1)) (.b2 .le (.var 1) (.lit (9223372036854775807)))) (.b2 .and (.b2 .le (.lit (-9223372036854775808)) (.var 2)) (.b2 .le (.var 2) (.lit (9223372036854775807))))))
 (.br (.not (.b2 .eq (.iapp 24 (.cons (.int .i64 (.var 0)) (.cons (.int .i64 (.var 1)) (.cons (.int .i64 (.var 2)) (.cons (.int .i64 (.var 3)) (.cons (.int .i64 (.var 4)) (.cons (.opq 0) .nil))))))) (.lit (0))))
 (.ret (.bool (.tt true)))
 (.need (.b2 .and (.b2 .and (.b2 .and (.b2 .le (.lit (-9223372036854775808)) (.var 0)) (.b2 .le (.var 0) (.lit (9223372036854775807)))) (.b2 .and (.b2 .and (.b2 .le (.lit (-9223372036854775808)) (.var 1)) (.b2 .le (.var 1) (.lit (9223372036854775807)))) (.b2 .and (.b2 .le (.lit (-9223372036854775808)) (.var 2)) (.b2 .le (.var 2) (.lit (9223372036854775807)))))) (.b2 .and (.b2 .le (.lit (-9223372036854775808)) (.var 5)) (.b2 .le (.var 5) (.lit (9223372036854775807)))))
 (.need (.b2 .and (.b2 .le (.lit (-9223372036854775808)) (.var 5)) (.b2 .le (.var 5) (.lit (9223372036854775807))))
 (.need (.b2 .and (.b2 .le (.lit (-9223372036854775808)) (.var 5)) (.b2 .le (.var 5) (.lit (9223372036854775807))))
 (.br (.not (.b2 .beq (.b2 .eq (.iapp 30 (.cons (.int .i64 (.var 0)) (.cons (.int .i64 (.var 1)) (.cons (.int .i64 (.var 2)) (.cons (.int .i64 (.var 3)) (.cons (.int .i64 (.var 4)) (.cons (.opq 0) (.cons (.int .i64 (.var 5)) .nil)))))))) (.lit (0))) (.b2 .eq (.iapp 9 (.cons (.int .i64 (.var 3)) (.cons (.int .i64 (.var 4)) (.cons (.opq 0) (.cons (.int .i64 (.var 5)) .nil))))) (.lit (0)))))
 (.ret (.bool (.tt false)))
 (.br (.not (.b2 .beq (.b2 .eq (.iapp 30 (.cons (.int .i64 (.lit (0))) (.cons (.int .i64 (.lit (0))) (.cons (.int .i64 (.lit (0))) (.cons (.int .i64 (.var 3)) (.cons (.int .i64 (.var 4)) (.cons (.opq 0) (.cons (.int .i64 (.var 5)) .nil)))))))) (.lit (0))) (.b2 .eq (.iapp 9 (.cons (.int .i64 (.var 3)) (.cons (.int .i64 (.var 4)) (.cons (.opq 0) (.cons (.int .i64 (.var 5)) .nil))))) (.lit (0)))))
 (.ret (.bool (.tt false)))
 (.br (.not (.b2 .eq (.iapp 9 (.cons (.int .i64 (.var 3)) (.cons (.int .i64 (.var 4)) (.cons (.opq 0) (.cons (.int .i64 (.var 5)) .nil))))) (.lit (0))))
 (.br (.b2 .eq (.iapp 30 (.cons (.int .i64 (.var 0)) (.cons (.int .i64 (.var 1)) (.cons (.int .i64 (.var 2)) (.cons (.int .i64 (.var 3)) (.cons (.int .i64 (.var 4)) (.cons (.opq 0) (.cons (.int .i64 (.var 5)) .nil)))))))) (.iapp 9 (.cons (.int .i64 (.var 3)) (.cons (.int .i64 (.var 4)) (.cons (.opq 0) (.cons (.int .i64 (.var 5)) .nil))))))
 (.br (.b2 .eq (.iapp 30 (.cons (.int .i64 (.lit (0))) (.cons (.int .i64 (.lit (0))) (.cons (.int .i64 (.lit (0))) (.cons (.int .i64 (.var 3)) (.cons (.int .i64 (.var 4)) (.cons (.opq 0) (.cons (.int .i64 (.var 5)) .nil)))))))) (.iapp 9 (.cons (.int .i64 (.var 3)) (.cons (.int .i64 (.var 4)) (.cons (.opq 0) (.cons (.int .i64 (.var 5)) .nil))))))
 (.ret (.bool (.tt true)))
 (.ret (.bool (.tt false))))
 (.ret (.bool (.tt false))))
 (.br (.not (.b2 .eq (.iapp 4 (.cons (.int .i64 (.var 3)) (.cons (.int .i64 (.var 4)) (.cons (.opq 0) (.cons (.int .i64 (.iapp 10 (.cons (.int .i64 (.var 3)) (.cons (.int .i64 (.var 4)) (.cons (.opq 0) (.cons (.int .i64 (.var 5)) .nil)))))) .nil))))) (.lit (0))))
 (.ret (.bool (.tt false)))
 (.br (.not (.b2 .eq (.iapp 31 (.cons (.int .i64 (.lit (0))) (.cons (.int .i64 (.lit (0))) (.cons (.int .i64 (.lit (0))) (.cons (.int .i64 (.var 3)) (.cons (.int .i64 (.var 4)) (.cons (.opq 0) (.cons (.int .i64 (.var 5)) .nil)))))))) (.wrap .i64 (.i2 .sub (.var 5) (.wrap .i64 (.i2 .mul (.iapp 6 (.cons (.int .i64 (.var 3)) (.cons (.int .i64 (.var 4)) (.cons (.opq 0) (.cons (.int .i64 (.iapp 10 (.cons (.int .i64 (.var 3)) (.cons (.int .i64 (.var 4)) (.cons (.opq 0) (.cons (.int .i64 (.var 5)) .nil)))))) .nil))))) (.lit (1000000000))))))))
 (.ret (.bool (.tt false)))
 (.loop ⟨1, 1, 0, 0⟩ (.b2 .and (.b2 .le (.lit (0)) (.lit (0))) (.b2 .and (.b2 .le (.lit (0)) (.ofI (.vop (.len 1) (.cons (.opq 0) .nil)))) (.b2 .and (.b2 .beq (.tt false) (.not (.bapp 3 (.cons (.int .i64 (.var 1)) (.cons (.int .i64 (.var 2)) (.cons (.int .i64 (.var 3)) (.cons (.opq 0) (.cons (.int .i64 (.var 5)) (.cons (.int .i64 (.lit (0))) .nil))))))))) (.b2 .or (.not (.b2 .eq (.var 0) (.lit (0)))) (.b2 .eq (.lit (0)) (.lit (0))))))) (.b2 .and (.b2 .le (.lit (0)) (.var 6)) (.b2 .and (.b2 .le (.var 6) (.ofI (.vop (.len 1) (.cons (.opq 0) .nil)))) (.b2 .and (.b2 .beq (.bvar 0) (.not (.bapp 3 (.cons (.int .i64 (.var 1)) (.cons (.int .i64 (.var 2)) (.cons (.int .i64 (.var 3)) (.cons (.opq 0) (.cons (.int .i64 (.var 5)) (.cons (.int .i64 (.var 6)) .nil))))))))) (.b2 .or (.not (.b2 .eq (.var 0) (.lit (0)))) (.b2 .eq (.var 6) (.lit (0)))))))
 (.br (.b2 .lt (.var 6) (.ofI (.vop (.len 1) (.cons (.opq 0) .nil))))
 (.br (.not (.b2 .eq (.var 0) (.lit (0))))
 (.need (.b2 .and (.b2 .and (.b2 .and (.b2 .le (.lit (-9223372036854775808)) (.var 0)) (.b2 .le (.var 0) (.lit (9223372036854775807)))) (.b2 .and (.b2 .and (.b2 .le (.lit (-9223372036854775808)) (.var 1)) (.b2 .le (.var 1) (.lit (9223372036854775807)))) (.b2 .and (.b2 .le (.lit (-9223372036854775808)) (.var 2)) (.b2 .le (.var 2) (.lit (9223372036854775807)))))) (.b2 .and (.b2 .le (.lit (-9223372036854775808)) (.var 6)) (.b2 .le (.var 6) (.lit (9223372036854775807)))))
 (.br (.not (.b2 .eq (.iapp 34 (.cons (.int .i64 (.var 0)) (.cons (.int .i64 (.var 1)) (.cons (.int .i64 (.var 2)) (.cons (.int .i64 (.var 3)) (.cons (.int .i64 (.var 4)) (.cons (.opq 0) (.cons (.int .i64 (.var 6)) .nil)))))))) (.lit (0))))
 (.ret (.bool (.tt false)))
 (.br (.bvar 0)
 (.back (.b2 .and (.b2 .le (.lit (0)) (.wrap .i64 (.i2 .add (.var 6) (.lit (1))))) (.b2 .and (.b2 .le (.wrap .i64 (.i2 .add (.var 6) (.lit (1)))) (.ofI (.vop (.len 1) (.cons (.opq 0) .nil)))) (.b2 .and (.b2 .beq (.tt true) (.not (.bapp 3 (.cons (.int .i64 (.var 1)) (.cons (.int .i64 (.var 2)) (.cons (.int .i64 (.var 3)) (.cons (.opq 0) (.cons (.int .i64 (.var 5)) (.cons (.int .i64 (.wrap .i64 (.i2 .add (.var 6) (.lit (1))))) .nil))))))))) (.b2 .or (.not (.b2 .eq (.var 0) (.lit (0)))) (.b2 .eq (.wrap .i64 (.i2 .add (.var 6) (.lit (1)))) (.lit (0))))))) (.i2 .sub (.ofI (.vop (.len 1) (.cons (.opq 0) .nil))) (.wrap .i64 (.i2 .add (.var 6) (.lit (1))))) (.i2 .sub (.ofI (.vop (.len 1) (.cons (.opq 0) .nil))) (.var 6)))
 (.br (.b2 .le (.iapp 35 (.cons (.int .i64 (.var 0)) (.cons (.int .i64 (.var 1)) (.cons (.int .i64 (.var 2)) (.cons (.int .i64 (.var 3)) (.cons (.int .i64 (.var 4)) (.cons (.opq 0) (.cons (.int .i64 (.var 6)) .nil)))))))) (.var 5))
 (.back (.b2 .and (.b2 .le (.lit (0)) (.wrap .i64 (.i2 .add (.var 6) (.lit (1))))) (.b2 .and (.b2 .le (.wrap .i64 (.i2 .add (.var 6) (.lit (1)))) (.ofI (.vop (.len 1) (.cons (.opq 0) .nil)))) (.b2 .and (.b2 .beq (.b2 .lt (.var 5) (.iapp 36 (.cons (.int .i64 (.var 0)) (.cons (.int .i64 (.var 1)) (.cons (.int .i64 (.var 2)) (.cons (.int .i64 (.var 3)) (.cons (.int .i64 (.var 4)) (.cons (.opq 0) (.cons (.int .i64 (.var 6)) .nil))))))))) (.not (.bapp 3 (.cons (.int .i64 (.var 1)) (.cons (.int .i64 (.var 2)) (.cons (.int .i64 (.var 3)) (.cons (.opq 0) (.cons (.int .i64 (.var 5)) (.cons (.int .i64 (.wrap .i64 (.i2 .add (.var 6) (.lit (1))))) .nil))))))))) (.b2 .or (.not (.b2 .eq (.var 0) (.lit (0)))) (.b2 .eq (.wrap .i64 (.i2 .add (.var 6) (.lit (1)))) (.lit (0))))))) (.i2 .sub (.ofI (.vop (.len 1) (.cons (.opq 0) .nil))) (.wrap .i64 (.i2 .add (.var 6) (.lit (1))))) (.i2 .sub (.ofI (.vop (.len 1) (.cons (.opq 0) .nil))) (.var 6)))
 (.back (.b2 .and (.b2 .le (.lit (0)) (.wrap .i64 (.i2 .add (.var 6) (.lit (1))))) (.b2 .and (.b2 .le (.wrap .i64 (.i2 .add (.var 6) (.lit (1)))) (.ofI (.vop (.len 1) (.cons (.opq 0) .nil)))) (.b2 .and (.b2 .beq (.tt false) (.not (.bapp 3 (.cons (.int .i64 (.var 1)) (.cons (.int .i64 (.var 2)) (.cons (.int .i64 (.var 3)) (.cons (.opq 0) (.cons (.int .i64 (.var 5)) (.cons (.int .i64 (.wrap .i64 (.i2 .add (.var 6) (.lit (1))))) .nil))))))))) (.b2 .or (.not (.b2 .eq (.var 0) (.lit (0)))) (.b2 .eq (.wrap .i64 (.i2 .add (.var 6) (.lit (1)))) (.lit (0))))))) (.i2 .sub (.ofI (.vop (.len 1) (.cons (.opq 0) .nil))) (.wrap .i64 (.i2 .add (.var 6) (.lit (1))))) (.i2 .sub (.ofI (.vop (.len 1) (.cons (.opq 0) .nil))) (.var 6)))))))
 (.br (.bvar 0)
 (.br (.b2 .le (.wrap .i64 (.i2 .sub (.iapp 31 (.cons (.int .i64 (.var 0)) (.cons (.int .i64 (.var 1)) (.cons (.int .i64 (.var 2)) (.cons (.int .i64 (.var 3)) (.cons (.int .i64 (.var 4)) (.cons (.opq 0) (.cons (.int .i64 (.var 5)) .nil)))))))) (.iapp 31 (.cons (.int .i64 (.lit (0))) (.cons (.int .i64 (.lit (0))) (.cons (.int .i64 (.lit (0))) (.cons (.int .i64 (.var 3)) (.cons (.int .i64 (.var 4)) (.cons (.opq 0) (.cons (.int .i64 (.var 5)) .nil)))))))))) (.lit (1000000000)))
 (.br (.b2 .le (.wrap .i64 (.i2 .sub (.iapp 31 (.cons (.int .i64 (.lit (0))) (.cons (.int .i64 (.lit (0))) (.cons (.int .i64 (.lit (0))) (.cons (.int .i64 (.var 3)) (.cons (.int .i64 (.var 4)) (.cons (.opq 0) (.cons (.int .i64 (.var 5)) .nil)))))))) (.iapp 31 (.cons (.int .i64 (.var 0)) (.cons (.int .i64 (.var 1)) (.cons (.int .i64 (.var 2)) (.cons (.int .i64 (.var 3)) (.cons (.int .i64 (.var 4)) (.cons (.opq 0) (.cons (.int .i64 (.var 5)) .nil)))))))))) (.lit (1000000000)))
 (.ret (.bool (.tt true)))
 (.ret (.bool (.tt false))))
 (.ret (.bool (.tt false))))
 (.br (.b2 .eq (.iapp 31 (.cons (.int .i64 (.var 0)) (.cons (.int .i64 (.var 1)) (.cons (.int .i64 (.var 2)) (.cons (.int .i64 (.var 3)) (.cons (.int .i64 (.var 4)) (.cons (.opq 0) (.cons (.int .i64 (.var 5)) .nil)))))))) (.iapp 31 (.cons (.int .i64 (.lit (0))) (.cons (.int .i64 (.lit (0))) (.cons (.int .i64 (.lit (0))) (.cons (.int .i64 (.var 3)) (.cons (.int .i64 (.var 4)) (.cons (.opq 0) (.cons (.int .i64 (.var 5)) .nil)))))))))
 (.br (.b2 .le (.wrap .i64 (.i2 .sub (.iapp 31 (.cons (.int .i64 (.var 0)) (.cons (.int .i64 (.var 1)) (.cons (.int .i64 (.var 2)) (.cons (.int .i64 (.var 3)) (.cons (.int .i64 (.var 4)) (.cons (.opq 0) (.cons (.int .i64 (.var 5)) .nil)))))))) (.iapp 31 (.cons (.int .i64 (.lit (0))) (.cons (.int .i64 (.lit (0))) (.cons (.int .i64 (.lit (0))) (.cons (.int .i64 (.var 3)) (.cons (.int .i64 (.var 4)) (.cons (.opq 0) (.cons (.int .i64 (.var 5)) .nil)))))))))) (.lit (1000000000)))
 (.br (.b2 .le (.wrap .i64 (.i2 .sub (.iapp 31 (.cons (.int .i64 (.lit (0))) (.cons (.int .i64 (.lit (0))) (.cons (.int .i64 (.lit (0))) (.cons (.int .i64 (.var 3)) (.cons (.int .i64 (.var 4)) (.cons (.opq 0) (.cons (.int .i64 (.var 5)) .nil)))))))) (.iapp 31 (.cons (.int .i64 (.var 0)) (.cons (.int .i64 (.var 1)) (.cons (.int .i64 (.var 2)) (.cons (.int .i64 (.var 3)) (.cons (.int .i64 (.var 4)) (.cons (.opq 0) (.cons (.int .i64 (.var 5)) .nil)))))))))) (.lit (1000000000)))
 (.ret (.bool (.tt true)))
 (.ret (.bool (.tt false))))
 (.ret (.bool (.tt false))))
 (.ret (.bool (.tt false))))))
 (.br (.bvar 0)
 (.br (.b2 .le (.wrap .i64 (.i2 .sub (.iapp 31 (.cons (.int .i64 (.var 0)) (.cons (.int .i64 (.var 1)) (.cons (.int .i64 (.var 2)) (.cons (.int .i64 (.var 3)) (.cons (.int .i64 (.var 4)) (.cons (.opq 0) (.cons (.int .i64 (.var 5)) .nil)))))))) (.iapp 31 (.cons (.int .i64 (.lit (0))) (.cons (.int .i64 (.lit (0))) (.cons (.int .i64 (.lit (0))) (.cons (.int .i64 (.var 3)) (.cons (.int .i64 (.var 4)) (.cons (.opq 0) (.cons (.int .i64 (.var 5)) .nil)))))))))) (.lit (1000000000)))
 (.br (.b2 .le (.wrap .i64 (.i2 .sub (.iapp 31 (.cons (.int .i64 (.lit (0))) (.cons (.int .i64 (.lit (0))) (.cons (.int .i64 (.lit (0))) (.cons (.int .i64 (.var 3)) (.cons (.int .i64 (.var 4)) (.cons (.opq 0) (.cons (.int .i64 (.var 5)) .nil)))))))) (.iapp 31 (.cons (.int .i64 (.var 0)) (.cons (.int .i64 (.var 1)) (.cons (.int .i64 (.var 2)) (.cons (.int .i64 (.var 3)) (.cons (.int .i64 (.var 4)) (.cons (.opq 0) (.cons (.int .i64 (.var 5)) .nil)))))))))) (.lit (1000000000)))
 (.ret (.bool (.tt true)))
 (.ret (.bool (.tt false))))
 (.ret (.bool (.tt false))))
 (.br (.b2 .eq (.iapp 31 (.cons (.int .i64 (.var 0)) (.cons (.int .i64 (.var 1)) (.cons (.int .i64 (.var 2)) (.cons (.int .i64 (.var 3)) (.cons (.int .i64 (.var 4)) (.cons (.opq 0) (.cons (.int .i64 (.var 5)) .nil)))))))) (.iapp 31 (.cons (.int .i64 (.lit (0))) (.cons (.int .i64 (.lit (0))) (.cons (.int .i64 (.lit (0))) (.cons (.int .i64 (.var 3)) (.cons (.int .i64 (.var 4)) (.cons (.opq 0) (.cons (.int .i64 (.var 5)) .nil)))))))))
 (.br (.b2 .le (.wrap .i64 (.i2 .sub (.iapp 31 (.cons (.int .i64 (.var 0)) (.cons (.int .i64 (.var 1)) (.cons (.int .i64 (.var 2)) (.cons (.int .i64 (.var 3)) (.cons (.int .i64 (.var 4)) (.cons (.opq 0) (.cons (.int .i64 (.var 5)) .nil)))))))) (.iapp 31 (.cons (.int .i64 (.lit (0))) (.cons (.int .i64 (.lit (0))) (.cons (.int .i64 (.lit (0))) (.cons (.int .i64 (.var 3)) (.cons (.int .i64 (.var 4)) (.cons (.opq 0) (.cons (.int .i64 (.var 5)) .nil)))))))))) (.lit (1000000000)))
 (.br (.b2 .le (.wrap .i64 (.i2 .sub (.iapp 31 (.cons (.int .i64 (.lit (0))) (.cons (.int .i64 (.lit (0))) (.cons (.int .i64 (.lit (0))) (.cons (.int .i64 (.var 3)) (.cons (.int .i64 (.var 4)) (.cons (.opq 0) (.cons (.int .i64 (.var 5)) .nil)))))))) (.iapp 31 (.cons (.int .i64 (.var 0)) (.cons (.int .i64 (.var 1)) (.cons (.int .i64 (.var 2)) (.cons (.int .i64 (.var 3)) (.cons (.int .i64 (.var 4)) (.cons (.opq 0) (.cons (.int .i64 (.var 5)) .nil)))))))))) (.lit (1000000000)))
 (.ret (.bool (.tt true)))
 (.ret (.bool (.tt false))))
 (.ret (.bool (.tt false))))
 (.ret (.bool (.tt false))))))))))))))))))
abbrev s12fc_wOutside : Con := ⟨12, [(.agg (.cons (.int .i64 (.var 0)) (.cons (.int .i64 (.var 1)) (.cons (.int .i64 (.var 2)) .nil)))), (.agg (.cons (.int .i64 (.var 3)) (.cons (.int .i64 (.var 4)) (.cons (.hs .no (.cons (.int .i64) .nil) (.opq 0)) .nil)))), (.int .i64 (.var 5))], (.b2 .and (.b2 .and (.b2 .and (.b2 .le (.lit (-9223372036854775808)) (.var 0)) (.b2 .le (.var 0) (.lit (9223372036854775807)))) (.b2 .and (.b2 .and (.b2 .le (.lit (-9223372036854775808)) (.var 1)) (.b2 .le (.var 1) (.lit (9223372036854775807)))) (.b2 .and (.b2 .le (.lit (-9223372036854775808)) (.var 2)) (.b2 .le (.var 2) (.lit (9223372036854775807)))))) (.b2 .and (.b2 .le (.lit (-9223372036854775808)) (.var 5)) (.b2 .le (.var 5) (.lit (9223372036854775807))))), (.bool (.tt true)), ⟨6, 0, 1, 0⟩, none⟩
theorem wOutside_w : walk Tryd.prog 182 ⟨[s12cc_sure12, s12c_sfits, s12c_sat, y9c_lutc, y9c_LAhead, s12c_sWin, s12cc_num], syG, [], [], []⟩ [⟨0, ⟨1, 1, 0, 0⟩, [(17, (.bool (.bvar 0))), (18, (.int .i64 (.var 6)))], none, (.b2 .and (.b2 .le (.lit (0)) (.var 6)) (.b2 .and (.b2 .le (.var 6) (.ofI (.vop (.len 1) (.cons (.opq 0) .nil)))) (.b2 .and (.b2 .beq (.bvar 0) (.not (.bapp 3 (.cons (.int .i64 (.var 1)) (.cons (.int .i64 (.var 2)) (.cons (.int .i64 (.var 3)) (.cons (.opq 0) (.cons (.int .i64 (.var 5)) (.cons (.int .i64 (.var 6)) .nil))))))))) (.b2 .or (.not (.b2 .eq (.var 0) (.lit (0)))) (.b2 .eq (.var 6) (.lit (0))))))), (.i2 .sub (.ofI (.vop (.len 1) (.cons (.opq 0) .nil))) (.var 6)), 0, []⟩] .v s12fc_wOutside s12fc_wOutside.n 3000 = some wOutside_tree := by kernel_rfl
set_option maxHeartbeats 4000000 in
theorem wOutside_h (k : Int) (B : Int) (A : Int) (b : Int) (t : Int) (n : Int) (l : Value) (hc : holds (s12fE [k, B, A, b, t, n] [] [l] []) (.b2 .and (.b2 .and (.b2 .and (.b2 .le (.lit (-9223372036854775808)) (.var 0)) (.b2 .le (.var 0) (.lit (9223372036854775807)))) (.b2 .and (.b2 .and (.b2 .le (.lit (-9223372036854775808)) (.var 1)) (.b2 .le (.var 1) (.lit (9223372036854775807)))) (.b2 .and (.b2 .le (.lit (-9223372036854775808)) (.var 2)) (.b2 .le (.var 2) (.lit (9223372036854775807)))))) (.b2 .and (.b2 .le (.lit (-9223372036854775808)) (.var 5)) (.b2 .le (.var 5) (.lit (9223372036854775807)))))) (hty : patsTyp (s12fE [k, B, A, b, t, n] [] [l] []) [(.agg (.cons (.int .i64 (.var 0)) (.cons (.int .i64 (.var 1)) (.cons (.int .i64 (.var 2)) .nil)))), (.agg (.cons (.int .i64 (.var 3)) (.cons (.int .i64 (.var 4)) (.cons (.hs .no (.cons (.int .i64) .nil) (.opq 0)) .nil)))), (.int .i64 (.var 5))]) : wOutside_tree.holds (fun v_ => v_ = denV (s12fE [k, B, A, b, t, n] [] [l] []) b0 (.bool (.tt true))) (s12fE [k, B, A, b, t, n] [] [l] []) := by
  simp only [Tree.holds, Sy.holds, AllN, Env.more, s12fE, List.cons_append, List.nil_append, List.append_nil, denV, denI, denB, denL, I2.den, VOp.den, List.getD_cons_zero, List.getD_cons_succ, Cst.den, syso, syse, syio, sybo, s12fi_may, s12fi_lcnt, s12fi_lct, s12fi_least, s12fi_wrong, s12fi_sec, s12fi_aheadI, s12fi_lenI, s12fi_begI, s12fi_utcE, s12fi_utcD, s12fi_utcS, s12fi_utcN, s12fi_sz, s12fi_sa, s12fi_nv, s12fi_ne, s12fi_dq, s12fi_dm, s12fi_de, s12fi_sm, s12fi_sln, s12fi_wb, s12fi_wn, s12fi_fits, s12fi_last, s12fi_lge, s12fi_lgv, s12fi_mdn, s12fi_mde, s12fi_ate, s12fi_atv, s12fi_pln, s12fi_cel, s12fi_wse, s12fi_wsb, s12fi_wsn, s12fi_upf, s12fi_pla, s12fi_wiv, s12fi_wbj, s12fb_lok, s12fb_mayb, s12fb_fitl, s12fb_noj, List.map_nil, List.map_cons, B2.ofInts, B2.denI, B2.denB, if_true, Bool.false_eq_true, if_false, Nat.div_one, Nat.mul_one, Nat.add_zero, holds] at hc
  simp only [patsTyp, patTyp, patTypL, s12fE, denV, denL, List.getD_cons_zero, List.getD_cons_succ, and_true, true_and] at hty
  have hL_l : typ (.sl (.cons (.int .i64) .nil)) l := by first | exact hty | exact hty.1 | exact hty.2 | exact hty.1.1 | exact hty.1.2 | exact hty.2.1 | exact hty.2.2 | exact hty.2.2.1 | exact hty.2.2.2
  have hN_l := typ_len (n := 1) hL_l rfl (by omega)
  simp only [Nat.div_one, Nat.mul_one] at hN_l
  unfold wOutside_tree
  simp only [Tree.holds, Sy.holds, AllN, Env.more, s12fE, List.cons_append, List.nil_append, List.append_nil, denV, denI, denB, denL, I2.den, VOp.den, List.getD_cons_zero, List.getD_cons_succ, Cst.den, syso, syse, syio, sybo, s12fi_may, s12fi_lcnt, s12fi_lct, s12fi_least, s12fi_wrong, s12fi_sec, s12fi_aheadI, s12fi_lenI, s12fi_begI, s12fi_utcE, s12fi_utcD, s12fi_utcS, s12fi_utcN, s12fi_sz, s12fi_sa, s12fi_nv, s12fi_ne, s12fi_dq, s12fi_dm, s12fi_de, s12fi_sm, s12fi_sln, s12fi_wb, s12fi_wn, s12fi_fits, s12fi_last, s12fi_lge, s12fi_lgv, s12fi_mdn, s12fi_mde, s12fi_ate, s12fi_atv, s12fi_pln, s12fi_cel, s12fi_wse, s12fi_wsb, s12fi_wsn, s12fi_upf, s12fi_pla, s12fi_wiv, s12fi_wbj, s12fb_lok, s12fb_mayb, s12fb_fitl, s12fb_noj, List.map_nil, List.map_cons, B2.ofInts, B2.denI, B2.denB, if_true, Bool.false_eq_true, if_false, Nat.div_one, Nat.mul_one, Nat.add_zero]
  have hlen := ints_len l
  refine ⟨fun h0 => ?_, fun h0 => ?_⟩
  ·
   first
   | exact True.intro
   | rfl
   | (exfalso
      have hf : fitsI k B A b t (intsOf l) = 0 := by omega
      obtain ⟨hs, hm0, hm, hfl, b0, b1, b2, b3⟩ := fit_facts hf
      have e1 := at_utc hf n
      have st := step_at hm0 n
      have st1 := st.1
      by_cases hu : utcE b t (intsOf l) n = 0
      · have st2 := st.2.1 hu
        have na := near_at hf hu
        have na2 := na.2
        have hp := utc_parts hu
        have hw := wrong_ok hp.1 hp.2.1 hp.2.2.1
        have hx := utcE_spec b t (intsOf l) n
        have d1 := day_spec b t (intsOf l) (utcD b t (intsOf l) n)
        have c1 := secL_spec b (intsOf l) (utcD b t (intsOf l) n)
        have ep : plN b (intsOf l) n (utcD b t (intsOf l) n) = n - (b + ctL (intsOf l) (utcD b t (intsOf l) n)) * 1000000000 := rfl
        have u1 := wr_i64 (aheadI b t (intsOf l) (utcD b t (intsOf l) n) * 1000000000)
        have u2 := wr_i64 (n - IntKind.wrap .i64 (aheadI b t (intsOf l) (utcD b t (intsOf l) n) * 1000000000))
        have u3 := wr_i64 (atV k B A b t (intsOf l) n - atV 0 0 0 b t (intsOf l) n)
        have u4 := wr_i64 (atV 0 0 0 b t (intsOf l) n - atV k B A b t (intsOf l) n)
        omega
      · have st2 := st.2.2 hu
        omega)
  ·
   refine ⟨?_, fun h1 => ?_⟩
   ·
    first
    | exact True.intro
    | omega
   ·
    refine ⟨fun h2 => ?_, fun h2 => ?_⟩
    ·
     first
     | exact True.intro
     | rfl
     | (exfalso
        have hf : fitsI k B A b t (intsOf l) = 0 := by omega
        obtain ⟨hs, hm0, hm, hfl, b0, b1, b2, b3⟩ := fit_facts hf
        have e1 := at_utc hf n
        have st := step_at hm0 n
        have st1 := st.1
        by_cases hu : utcE b t (intsOf l) n = 0
        · have st2 := st.2.1 hu
          have na := near_at hf hu
          have na2 := na.2
          have hp := utc_parts hu
          have hw := wrong_ok hp.1 hp.2.1 hp.2.2.1
          have hx := utcE_spec b t (intsOf l) n
          have d1 := day_spec b t (intsOf l) (utcD b t (intsOf l) n)
          have c1 := secL_spec b (intsOf l) (utcD b t (intsOf l) n)
          have ep : plN b (intsOf l) n (utcD b t (intsOf l) n) = n - (b + ctL (intsOf l) (utcD b t (intsOf l) n)) * 1000000000 := rfl
          have u1 := wr_i64 (aheadI b t (intsOf l) (utcD b t (intsOf l) n) * 1000000000)
          have u2 := wr_i64 (n - IntKind.wrap .i64 (aheadI b t (intsOf l) (utcD b t (intsOf l) n) * 1000000000))
          have u3 := wr_i64 (atV k B A b t (intsOf l) n - atV 0 0 0 b t (intsOf l) n)
          have u4 := wr_i64 (atV 0 0 0 b t (intsOf l) n - atV k B A b t (intsOf l) n)
          omega
        · have st2 := st.2.2 hu
          omega)
    ·
     refine ⟨?_, fun h3 => ?_⟩
     ·
      first
      | exact True.intro
      | omega
     ·
      refine ⟨?_, fun h4 => ?_⟩
      ·
       first
       | exact True.intro
       | omega
      ·
       refine ⟨?_, fun h5 => ?_⟩
       ·
        first
        | exact True.intro
        | omega
       ·
        refine ⟨fun h6 => ?_, fun h6 => ?_⟩
        ·
         first
         | exact True.intro
         | rfl
         | (exfalso
            have hf : fitsI k B A b t (intsOf l) = 0 := by omega
            obtain ⟨hs, hm0, hm, hfl, b0, b1, b2, b3⟩ := fit_facts hf
            have e1 := at_utc hf n
            have st := step_at hm0 n
            have st1 := st.1
            by_cases hu : utcE b t (intsOf l) n = 0
            · have st2 := st.2.1 hu
              have na := near_at hf hu
              have na2 := na.2
              have hp := utc_parts hu
              have hw := wrong_ok hp.1 hp.2.1 hp.2.2.1
              have hx := utcE_spec b t (intsOf l) n
              have d1 := day_spec b t (intsOf l) (utcD b t (intsOf l) n)
              have c1 := secL_spec b (intsOf l) (utcD b t (intsOf l) n)
              have ep : plN b (intsOf l) n (utcD b t (intsOf l) n) = n - (b + ctL (intsOf l) (utcD b t (intsOf l) n)) * 1000000000 := rfl
              have u1 := wr_i64 (aheadI b t (intsOf l) (utcD b t (intsOf l) n) * 1000000000)
              have u2 := wr_i64 (n - IntKind.wrap .i64 (aheadI b t (intsOf l) (utcD b t (intsOf l) n) * 1000000000))
              have u3 := wr_i64 (atV k B A b t (intsOf l) n - atV 0 0 0 b t (intsOf l) n)
              have u4 := wr_i64 (atV 0 0 0 b t (intsOf l) n - atV k B A b t (intsOf l) n)
              omega
            · have st2 := st.2.2 hu
              omega)
        ·
         refine ⟨fun h7 => ?_, fun h7 => ?_⟩
         ·
          first
          | exact True.intro
          | rfl
          | (exfalso
             have hf : fitsI k B A b t (intsOf l) = 0 := by omega
             obtain ⟨hs, hm0, hm, hfl, b0, b1, b2, b3⟩ := fit_facts hf
             have e1 := at_utc hf n
             have st := step_at hm0 n
             have st1 := st.1
             by_cases hu : utcE b t (intsOf l) n = 0
             · have st2 := st.2.1 hu
               have na := near_at hf hu
               have na2 := na.2
               have hp := utc_parts hu
               have hw := wrong_ok hp.1 hp.2.1 hp.2.2.1
               have hx := utcE_spec b t (intsOf l) n
               have d1 := day_spec b t (intsOf l) (utcD b t (intsOf l) n)
               have c1 := secL_spec b (intsOf l) (utcD b t (intsOf l) n)
               have ep : plN b (intsOf l) n (utcD b t (intsOf l) n) = n - (b + ctL (intsOf l) (utcD b t (intsOf l) n)) * 1000000000 := rfl
               have u1 := wr_i64 (aheadI b t (intsOf l) (utcD b t (intsOf l) n) * 1000000000)
               have u2 := wr_i64 (n - IntKind.wrap .i64 (aheadI b t (intsOf l) (utcD b t (intsOf l) n) * 1000000000))
               have u3 := wr_i64 (atV k B A b t (intsOf l) n - atV 0 0 0 b t (intsOf l) n)
               have u4 := wr_i64 (atV 0 0 0 b t (intsOf l) n - atV k B A b t (intsOf l) n)
               omega
             · have st2 := st.2.2 hu
               omega)
         ·
          refine ⟨fun h8 => ?_, fun h8 => ?_⟩
          ·
           refine ⟨fun h9 => ?_, fun h9 => ?_⟩
           ·
            refine ⟨fun h10 => ?_, fun h10 => ?_⟩
            ·
             first
             | exact True.intro
             | rfl
             | (exfalso
                have hf : fitsI k B A b t (intsOf l) = 0 := by omega
                obtain ⟨hs, hm0, hm, hfl, b0, b1, b2, b3⟩ := fit_facts hf
                have e1 := at_utc hf n
                have st := step_at hm0 n
                have st1 := st.1
                by_cases hu : utcE b t (intsOf l) n = 0
                · have st2 := st.2.1 hu
                  have na := near_at hf hu
                  have na2 := na.2
                  have hp := utc_parts hu
                  have hw := wrong_ok hp.1 hp.2.1 hp.2.2.1
                  have hx := utcE_spec b t (intsOf l) n
                  have d1 := day_spec b t (intsOf l) (utcD b t (intsOf l) n)
                  have c1 := secL_spec b (intsOf l) (utcD b t (intsOf l) n)
                  have ep : plN b (intsOf l) n (utcD b t (intsOf l) n) = n - (b + ctL (intsOf l) (utcD b t (intsOf l) n)) * 1000000000 := rfl
                  have u1 := wr_i64 (aheadI b t (intsOf l) (utcD b t (intsOf l) n) * 1000000000)
                  have u2 := wr_i64 (n - IntKind.wrap .i64 (aheadI b t (intsOf l) (utcD b t (intsOf l) n) * 1000000000))
                  have u3 := wr_i64 (atV k B A b t (intsOf l) n - atV 0 0 0 b t (intsOf l) n)
                  have u4 := wr_i64 (atV 0 0 0 b t (intsOf l) n - atV k B A b t (intsOf l) n)
                  omega
                · have st2 := st.2.2 hu
                  omega)
            ·
             first
             | exact True.intro
             | rfl
             | (exfalso
                have hf : fitsI k B A b t (intsOf l) = 0 := by omega
                obtain ⟨hs, hm0, hm, hfl, b0, b1, b2, b3⟩ := fit_facts hf
                have e1 := at_utc hf n
                have st := step_at hm0 n
                have st1 := st.1
                by_cases hu : utcE b t (intsOf l) n = 0
                · have st2 := st.2.1 hu
                  have na := near_at hf hu
                  have na2 := na.2
                  have hp := utc_parts hu
                  have hw := wrong_ok hp.1 hp.2.1 hp.2.2.1
                  have hx := utcE_spec b t (intsOf l) n
                  have d1 := day_spec b t (intsOf l) (utcD b t (intsOf l) n)
                  have c1 := secL_spec b (intsOf l) (utcD b t (intsOf l) n)
                  have ep : plN b (intsOf l) n (utcD b t (intsOf l) n) = n - (b + ctL (intsOf l) (utcD b t (intsOf l) n)) * 1000000000 := rfl
                  have u1 := wr_i64 (aheadI b t (intsOf l) (utcD b t (intsOf l) n) * 1000000000)
                  have u2 := wr_i64 (n - IntKind.wrap .i64 (aheadI b t (intsOf l) (utcD b t (intsOf l) n) * 1000000000))
                  have u3 := wr_i64 (atV k B A b t (intsOf l) n - atV 0 0 0 b t (intsOf l) n)
                  have u4 := wr_i64 (atV 0 0 0 b t (intsOf l) n - atV k B A b t (intsOf l) n)
                  omega
                · have st2 := st.2.2 hu
                  omega)
           ·
            first
            | exact True.intro
            | rfl
            | (exfalso
               have hf : fitsI k B A b t (intsOf l) = 0 := by omega
               obtain ⟨hs, hm0, hm, hfl, b0, b1, b2, b3⟩ := fit_facts hf
               have e1 := at_utc hf n
               have st := step_at hm0 n
               have st1 := st.1
               by_cases hu : utcE b t (intsOf l) n = 0
               · have st2 := st.2.1 hu
                 have na := near_at hf hu
                 have na2 := na.2
                 have hp := utc_parts hu
                 have hw := wrong_ok hp.1 hp.2.1 hp.2.2.1
                 have hx := utcE_spec b t (intsOf l) n
                 have d1 := day_spec b t (intsOf l) (utcD b t (intsOf l) n)
                 have c1 := secL_spec b (intsOf l) (utcD b t (intsOf l) n)
                 have ep : plN b (intsOf l) n (utcD b t (intsOf l) n) = n - (b + ctL (intsOf l) (utcD b t (intsOf l) n)) * 1000000000 := rfl
                 have u1 := wr_i64 (aheadI b t (intsOf l) (utcD b t (intsOf l) n) * 1000000000)
                 have u2 := wr_i64 (n - IntKind.wrap .i64 (aheadI b t (intsOf l) (utcD b t (intsOf l) n) * 1000000000))
                 have u3 := wr_i64 (atV k B A b t (intsOf l) n - atV 0 0 0 b t (intsOf l) n)
                 have u4 := wr_i64 (atV 0 0 0 b t (intsOf l) n - atV k B A b t (intsOf l) n)
                 omega
               · have st2 := st.2.2 hu
                 omega)
          ·
           refine ⟨fun h11 => ?_, fun h11 => ?_⟩
           ·
            first
            | exact True.intro
            | rfl
            | (exfalso
               have hf : fitsI k B A b t (intsOf l) = 0 := by omega
               obtain ⟨hs, hm0, hm, hfl, b0, b1, b2, b3⟩ := fit_facts hf
               have e1 := at_utc hf n
               have st := step_at hm0 n
               have st1 := st.1
               by_cases hu : utcE b t (intsOf l) n = 0
               · have st2 := st.2.1 hu
                 have na := near_at hf hu
                 have na2 := na.2
                 have hp := utc_parts hu
                 have hw := wrong_ok hp.1 hp.2.1 hp.2.2.1
                 have hx := utcE_spec b t (intsOf l) n
                 have d1 := day_spec b t (intsOf l) (utcD b t (intsOf l) n)
                 have c1 := secL_spec b (intsOf l) (utcD b t (intsOf l) n)
                 have ep : plN b (intsOf l) n (utcD b t (intsOf l) n) = n - (b + ctL (intsOf l) (utcD b t (intsOf l) n)) * 1000000000 := rfl
                 have u1 := wr_i64 (aheadI b t (intsOf l) (utcD b t (intsOf l) n) * 1000000000)
                 have u2 := wr_i64 (n - IntKind.wrap .i64 (aheadI b t (intsOf l) (utcD b t (intsOf l) n) * 1000000000))
                 have u3 := wr_i64 (atV k B A b t (intsOf l) n - atV 0 0 0 b t (intsOf l) n)
                 have u4 := wr_i64 (atV 0 0 0 b t (intsOf l) n - atV k B A b t (intsOf l) n)
                 omega
               · have st2 := st.2.2 hu
                 omega)
           ·
            have wf0 := wr_i64 ((aheadI b t (intsOf l) (utcD b t (intsOf l) n)) * 1000000000)
            have wf1 := wr_i64 (n - (IntKind.wrap .i64 ((aheadI b t (intsOf l) (utcD b t (intsOf l) n)) * 1000000000)))
            refine ⟨fun h12 => ?_, fun h12 => ?_⟩
            ·
             first
             | exact True.intro
             | rfl
             | (exfalso
                have hf : fitsI k B A b t (intsOf l) = 0 := by omega
                obtain ⟨hs, hm0, hm, hfl, b0, b1, b2, b3⟩ := fit_facts hf
                have e1 := at_utc hf n
                have st := step_at hm0 n
                have st1 := st.1
                by_cases hu : utcE b t (intsOf l) n = 0
                · have st2 := st.2.1 hu
                  have na := near_at hf hu
                  have na2 := na.2
                  have hp := utc_parts hu
                  have hw := wrong_ok hp.1 hp.2.1 hp.2.2.1
                  have hx := utcE_spec b t (intsOf l) n
                  have d1 := day_spec b t (intsOf l) (utcD b t (intsOf l) n)
                  have c1 := secL_spec b (intsOf l) (utcD b t (intsOf l) n)
                  have ep : plN b (intsOf l) n (utcD b t (intsOf l) n) = n - (b + ctL (intsOf l) (utcD b t (intsOf l) n)) * 1000000000 := rfl
                  have u1 := wr_i64 (aheadI b t (intsOf l) (utcD b t (intsOf l) n) * 1000000000)
                  have u2 := wr_i64 (n - IntKind.wrap .i64 (aheadI b t (intsOf l) (utcD b t (intsOf l) n) * 1000000000))
                  have u3 := wr_i64 (atV k B A b t (intsOf l) n - atV 0 0 0 b t (intsOf l) n)
                  have u4 := wr_i64 (atV 0 0 0 b t (intsOf l) n - atV k B A b t (intsOf l) n)
                  omega
                · have st2 := st.2.2 hu
                  omega)
            ·
             refine ⟨?_, ?_⟩
             ·
              exact ⟨by omega, by omega, by simp [noJ], .inr trivial⟩
             ·
              intro i0a i0b hi0
              refine ⟨fun h13 => ?_, fun h13 => ?_⟩
              ·
               refine ⟨fun h14 => ?_, fun h14 => ?_⟩
               ·
                refine ⟨?_, fun h15 => ?_⟩
                ·
                 first
                 | exact True.intro
                 | omega
                ·
                 refine ⟨fun h16 => ?_, fun h16 => ?_⟩
                 ·
                  have y1 := ws_spec k B A b t (intsOf l) i0a
                  first
                  | exact True.intro
                  | rfl
                  | (exfalso; omega)
                  | (exfalso
                     have hf : fitsI k B A b t (intsOf l) = 0 := by omega
                     obtain ⟨hs, hm0, hm, hfl, b0, b1, b2, b3⟩ := fit_facts hf
                     have e1 := at_utc hf n
                     have st := step_at hm0 n
                     have st1 := st.1
                     by_cases hu : utcE b t (intsOf l) n = 0
                     · have st2 := st.2.1 hu
                       have na := near_at hf hu
                       have na2 := na.2
                       have hp := utc_parts hu
                       have hw := wrong_ok hp.1 hp.2.1 hp.2.2.1
                       have hx := utcE_spec b t (intsOf l) n
                       have d1 := day_spec b t (intsOf l) (utcD b t (intsOf l) n)
                       have c1 := secL_spec b (intsOf l) (utcD b t (intsOf l) n)
                       have ep : plN b (intsOf l) n (utcD b t (intsOf l) n) = n - (b + ctL (intsOf l) (utcD b t (intsOf l) n)) * 1000000000 := rfl
                       have u1 := wr_i64 (aheadI b t (intsOf l) (utcD b t (intsOf l) n) * 1000000000)
                       have u2 := wr_i64 (n - IntKind.wrap .i64 (aheadI b t (intsOf l) (utcD b t (intsOf l) n) * 1000000000))
                       have u3 := wr_i64 (atV k B A b t (intsOf l) n - atV 0 0 0 b t (intsOf l) n)
                       have u4 := wr_i64 (atV 0 0 0 b t (intsOf l) n - atV k B A b t (intsOf l) n)
                       first
                       | omega
                       | (obtain ⟨r0, r1, r2, r3⟩ := hi0
                          have hno : k = 0 ∨ noJ B A b (intsOf l) n (intsOf l).length = true := by
                            by_cases hk : k = 0
                            · exact .inl hk
                            · right
                              rw [hlen, show (Sy.rows l).length = i0a.toNat by omega]
                              refine Classical.not_not.1 fun hc => ?_
                              exact absurd (r2.2 hc) (by first | assumption | omega | simp_all)
                          have := na.1 hno
                          omega)
                     · have st2 := st.2.2 hu
                       omega)
                 ·
                  refine ⟨fun h17 => ?_, fun h17 => ?_⟩
                  ·
                   have wf2 := wr_i64 (i0a + 1)
                   refine ⟨?_, ?_⟩
                   ·
                    obtain ⟨r0, r1, r2, r3⟩ := hi0
                    have hw : IntKind.wrap .i64 (i0a + 1) = i0a + 1 := by have := wr_i64 (i0a + 1); omega
                    have y1 := ws_spec k B A b t (intsOf l) i0a
                    have hI := inJ_spec B A b (intsOf l) n i0a.toNat
                    rw [hw, toNat_succ (by omega), noJ_succ]
                    refine ⟨by omega, by omega, ?_, .inl (by omega)⟩
                    cases hno : noJ B A b (intsOf l) n i0a.toNat with
                    | true =>
                      rw [hno] at r2
                      rcases hI with ⟨z1, z2, z3⟩ | ⟨z1, z2⟩
                      · rw [z1]
                        simp
                        all_goals first
                        | omega
                        | (simp_all
                           done)
                        | (exfalso; omega)
                      · rw [z1]
                        simp
                        all_goals first
                        | omega
                        | (simp_all
                           done)
                    | false =>
                      rw [hno] at r2
                      simp
                      all_goals first
                      | omega
                      | (simp_all
                         done)
                   ·
                    have := wr_i64 (i0a + 1)
                    omega
                  ·
                   refine ⟨fun h18 => ?_, fun h18 => ?_⟩
                   ·
                    have wf3 := wr_i64 (i0a + 1)
                    refine ⟨?_, ?_⟩
                    ·
                     obtain ⟨r0, r1, r2, r3⟩ := hi0
                     have hw : IntKind.wrap .i64 (i0a + 1) = i0a + 1 := by have := wr_i64 (i0a + 1); omega
                     have y1 := ws_spec k B A b t (intsOf l) i0a
                     have hI := inJ_spec B A b (intsOf l) n i0a.toNat
                     rw [hw, toNat_succ (by omega), noJ_succ]
                     refine ⟨by omega, by omega, ?_, .inl (by omega)⟩
                     cases hno : noJ B A b (intsOf l) n i0a.toNat with
                     | true =>
                       rw [hno] at r2
                       rcases hI with ⟨z1, z2, z3⟩ | ⟨z1, z2⟩
                       · rw [z1]
                         simp
                         all_goals first
                         | omega
                         | (simp_all
                            done)
                         | (exfalso; omega)
                       · rw [z1]
                         simp
                         all_goals first
                         | omega
                         | (simp_all
                            done)
                     | false =>
                       rw [hno] at r2
                       simp
                       all_goals first
                       | omega
                       | (simp_all
                          done)
                    ·
                     have := wr_i64 (i0a + 1)
                     omega
                   ·
                    have wf4 := wr_i64 (i0a + 1)
                    refine ⟨?_, ?_⟩
                    ·
                     obtain ⟨r0, r1, r2, r3⟩ := hi0
                     have hw : IntKind.wrap .i64 (i0a + 1) = i0a + 1 := by have := wr_i64 (i0a + 1); omega
                     have y1 := ws_spec k B A b t (intsOf l) i0a
                     have hI := inJ_spec B A b (intsOf l) n i0a.toNat
                     rw [hw, toNat_succ (by omega), noJ_succ]
                     refine ⟨by omega, by omega, ?_, .inl (by omega)⟩
                     cases hno : noJ B A b (intsOf l) n i0a.toNat with
                     | true =>
                       rw [hno] at r2
                       rcases hI with ⟨z1, z2, z3⟩ | ⟨z1, z2⟩
                       · rw [z1]
                         simp
                         all_goals first
                         | omega
                         | (simp_all
                            done)
                         | (exfalso; omega)
                       · rw [z1]
                         simp
                         all_goals first
                         | omega
                         | (simp_all
                            done)
                     | false =>
                       rw [hno] at r2
                       simp
                       all_goals first
                       | omega
                       | (simp_all
                          done)
                    ·
                     have := wr_i64 (i0a + 1)
                     omega
               ·
                refine ⟨fun h19 => ?_, fun h19 => ?_⟩
                ·
                 have wf5 := wr_i64 ((atV k B A b t (intsOf l) n) - (atV 0 0 0 b t (intsOf l) n))
                 refine ⟨fun h20 => ?_, fun h20 => ?_⟩
                 ·
                  have wf6 := wr_i64 ((atV 0 0 0 b t (intsOf l) n) - (atV k B A b t (intsOf l) n))
                  refine ⟨fun h21 => ?_, fun h21 => ?_⟩
                  ·
                   have y1 := ws_spec k B A b t (intsOf l) i0a
                   first
                   | exact True.intro
                   | rfl
                   | (exfalso; omega)
                   | (exfalso
                      have hf : fitsI k B A b t (intsOf l) = 0 := by omega
                      obtain ⟨hs, hm0, hm, hfl, b0, b1, b2, b3⟩ := fit_facts hf
                      have e1 := at_utc hf n
                      have st := step_at hm0 n
                      have st1 := st.1
                      by_cases hu : utcE b t (intsOf l) n = 0
                      · have st2 := st.2.1 hu
                        have na := near_at hf hu
                        have na2 := na.2
                        have hp := utc_parts hu
                        have hw := wrong_ok hp.1 hp.2.1 hp.2.2.1
                        have hx := utcE_spec b t (intsOf l) n
                        have d1 := day_spec b t (intsOf l) (utcD b t (intsOf l) n)
                        have c1 := secL_spec b (intsOf l) (utcD b t (intsOf l) n)
                        have ep : plN b (intsOf l) n (utcD b t (intsOf l) n) = n - (b + ctL (intsOf l) (utcD b t (intsOf l) n)) * 1000000000 := rfl
                        have u1 := wr_i64 (aheadI b t (intsOf l) (utcD b t (intsOf l) n) * 1000000000)
                        have u2 := wr_i64 (n - IntKind.wrap .i64 (aheadI b t (intsOf l) (utcD b t (intsOf l) n) * 1000000000))
                        have u3 := wr_i64 (atV k B A b t (intsOf l) n - atV 0 0 0 b t (intsOf l) n)
                        have u4 := wr_i64 (atV 0 0 0 b t (intsOf l) n - atV k B A b t (intsOf l) n)
                        first
                        | omega
                        | (obtain ⟨r0, r1, r2, r3⟩ := hi0
                           have hno : k = 0 ∨ noJ B A b (intsOf l) n (intsOf l).length = true := by
                             by_cases hk : k = 0
                             · exact .inl hk
                             · right
                               rw [hlen, show (Sy.rows l).length = i0a.toNat by omega]
                               refine Classical.not_not.1 fun hc => ?_
                               exact absurd (r2.2 hc) (by first | assumption | omega | simp_all)
                           have := na.1 hno
                           omega)
                      · have st2 := st.2.2 hu
                        omega)
                  ·
                   have y1 := ws_spec k B A b t (intsOf l) i0a
                   first
                   | exact True.intro
                   | rfl
                   | (exfalso; omega)
                   | (exfalso
                      have hf : fitsI k B A b t (intsOf l) = 0 := by omega
                      obtain ⟨hs, hm0, hm, hfl, b0, b1, b2, b3⟩ := fit_facts hf
                      have e1 := at_utc hf n
                      have st := step_at hm0 n
                      have st1 := st.1
                      by_cases hu : utcE b t (intsOf l) n = 0
                      · have st2 := st.2.1 hu
                        have na := near_at hf hu
                        have na2 := na.2
                        have hp := utc_parts hu
                        have hw := wrong_ok hp.1 hp.2.1 hp.2.2.1
                        have hx := utcE_spec b t (intsOf l) n
                        have d1 := day_spec b t (intsOf l) (utcD b t (intsOf l) n)
                        have c1 := secL_spec b (intsOf l) (utcD b t (intsOf l) n)
                        have ep : plN b (intsOf l) n (utcD b t (intsOf l) n) = n - (b + ctL (intsOf l) (utcD b t (intsOf l) n)) * 1000000000 := rfl
                        have u1 := wr_i64 (aheadI b t (intsOf l) (utcD b t (intsOf l) n) * 1000000000)
                        have u2 := wr_i64 (n - IntKind.wrap .i64 (aheadI b t (intsOf l) (utcD b t (intsOf l) n) * 1000000000))
                        have u3 := wr_i64 (atV k B A b t (intsOf l) n - atV 0 0 0 b t (intsOf l) n)
                        have u4 := wr_i64 (atV 0 0 0 b t (intsOf l) n - atV k B A b t (intsOf l) n)
                        first
                        | omega
                        | (obtain ⟨r0, r1, r2, r3⟩ := hi0
                           have hno : k = 0 ∨ noJ B A b (intsOf l) n (intsOf l).length = true := by
                             by_cases hk : k = 0
                             · exact .inl hk
                             · right
                               rw [hlen, show (Sy.rows l).length = i0a.toNat by omega]
                               refine Classical.not_not.1 fun hc => ?_
                               exact absurd (r2.2 hc) (by first | assumption | omega | simp_all)
                           have := na.1 hno
                           omega)
                      · have st2 := st.2.2 hu
                        omega)
                 ·
                  have y1 := ws_spec k B A b t (intsOf l) i0a
                  first
                  | exact True.intro
                  | rfl
                  | (exfalso; omega)
                  | (exfalso
                     have hf : fitsI k B A b t (intsOf l) = 0 := by omega
                     obtain ⟨hs, hm0, hm, hfl, b0, b1, b2, b3⟩ := fit_facts hf
                     have e1 := at_utc hf n
                     have st := step_at hm0 n
                     have st1 := st.1
                     by_cases hu : utcE b t (intsOf l) n = 0
                     · have st2 := st.2.1 hu
                       have na := near_at hf hu
                       have na2 := na.2
                       have hp := utc_parts hu
                       have hw := wrong_ok hp.1 hp.2.1 hp.2.2.1
                       have hx := utcE_spec b t (intsOf l) n
                       have d1 := day_spec b t (intsOf l) (utcD b t (intsOf l) n)
                       have c1 := secL_spec b (intsOf l) (utcD b t (intsOf l) n)
                       have ep : plN b (intsOf l) n (utcD b t (intsOf l) n) = n - (b + ctL (intsOf l) (utcD b t (intsOf l) n)) * 1000000000 := rfl
                       have u1 := wr_i64 (aheadI b t (intsOf l) (utcD b t (intsOf l) n) * 1000000000)
                       have u2 := wr_i64 (n - IntKind.wrap .i64 (aheadI b t (intsOf l) (utcD b t (intsOf l) n) * 1000000000))
                       have u3 := wr_i64 (atV k B A b t (intsOf l) n - atV 0 0 0 b t (intsOf l) n)
                       have u4 := wr_i64 (atV 0 0 0 b t (intsOf l) n - atV k B A b t (intsOf l) n)
                       first
                       | omega
                       | (obtain ⟨r0, r1, r2, r3⟩ := hi0
                          have hno : k = 0 ∨ noJ B A b (intsOf l) n (intsOf l).length = true := by
                            by_cases hk : k = 0
                            · exact .inl hk
                            · right
                              rw [hlen, show (Sy.rows l).length = i0a.toNat by omega]
                              refine Classical.not_not.1 fun hc => ?_
                              exact absurd (r2.2 hc) (by first | assumption | omega | simp_all)
                          have := na.1 hno
                          omega)
                     · have st2 := st.2.2 hu
                       omega)
                ·
                 refine ⟨fun h22 => ?_, fun h22 => ?_⟩
                 ·
                  have wf7 := wr_i64 ((atV k B A b t (intsOf l) n) - (atV 0 0 0 b t (intsOf l) n))
                  refine ⟨fun h23 => ?_, fun h23 => ?_⟩
                  ·
                   have wf8 := wr_i64 ((atV 0 0 0 b t (intsOf l) n) - (atV k B A b t (intsOf l) n))
                   refine ⟨fun h24 => ?_, fun h24 => ?_⟩
                   ·
                    have y1 := ws_spec k B A b t (intsOf l) i0a
                    first
                    | exact True.intro
                    | rfl
                    | (exfalso; omega)
                    | (exfalso
                       have hf : fitsI k B A b t (intsOf l) = 0 := by omega
                       obtain ⟨hs, hm0, hm, hfl, b0, b1, b2, b3⟩ := fit_facts hf
                       have e1 := at_utc hf n
                       have st := step_at hm0 n
                       have st1 := st.1
                       by_cases hu : utcE b t (intsOf l) n = 0
                       · have st2 := st.2.1 hu
                         have na := near_at hf hu
                         have na2 := na.2
                         have hp := utc_parts hu
                         have hw := wrong_ok hp.1 hp.2.1 hp.2.2.1
                         have hx := utcE_spec b t (intsOf l) n
                         have d1 := day_spec b t (intsOf l) (utcD b t (intsOf l) n)
                         have c1 := secL_spec b (intsOf l) (utcD b t (intsOf l) n)
                         have ep : plN b (intsOf l) n (utcD b t (intsOf l) n) = n - (b + ctL (intsOf l) (utcD b t (intsOf l) n)) * 1000000000 := rfl
                         have u1 := wr_i64 (aheadI b t (intsOf l) (utcD b t (intsOf l) n) * 1000000000)
                         have u2 := wr_i64 (n - IntKind.wrap .i64 (aheadI b t (intsOf l) (utcD b t (intsOf l) n) * 1000000000))
                         have u3 := wr_i64 (atV k B A b t (intsOf l) n - atV 0 0 0 b t (intsOf l) n)
                         have u4 := wr_i64 (atV 0 0 0 b t (intsOf l) n - atV k B A b t (intsOf l) n)
                         first
                         | omega
                         | (obtain ⟨r0, r1, r2, r3⟩ := hi0
                            have hno : k = 0 ∨ noJ B A b (intsOf l) n (intsOf l).length = true := by
                              by_cases hk : k = 0
                              · exact .inl hk
                              · right
                                rw [hlen, show (Sy.rows l).length = i0a.toNat by omega]
                                refine Classical.not_not.1 fun hc => ?_
                                exact absurd (r2.2 hc) (by first | assumption | omega | simp_all)
                            have := na.1 hno
                            omega)
                       · have st2 := st.2.2 hu
                         omega)
                   ·
                    have y1 := ws_spec k B A b t (intsOf l) i0a
                    first
                    | exact True.intro
                    | rfl
                    | (exfalso; omega)
                    | (exfalso
                       have hf : fitsI k B A b t (intsOf l) = 0 := by omega
                       obtain ⟨hs, hm0, hm, hfl, b0, b1, b2, b3⟩ := fit_facts hf
                       have e1 := at_utc hf n
                       have st := step_at hm0 n
                       have st1 := st.1
                       by_cases hu : utcE b t (intsOf l) n = 0
                       · have st2 := st.2.1 hu
                         have na := near_at hf hu
                         have na2 := na.2
                         have hp := utc_parts hu
                         have hw := wrong_ok hp.1 hp.2.1 hp.2.2.1
                         have hx := utcE_spec b t (intsOf l) n
                         have d1 := day_spec b t (intsOf l) (utcD b t (intsOf l) n)
                         have c1 := secL_spec b (intsOf l) (utcD b t (intsOf l) n)
                         have ep : plN b (intsOf l) n (utcD b t (intsOf l) n) = n - (b + ctL (intsOf l) (utcD b t (intsOf l) n)) * 1000000000 := rfl
                         have u1 := wr_i64 (aheadI b t (intsOf l) (utcD b t (intsOf l) n) * 1000000000)
                         have u2 := wr_i64 (n - IntKind.wrap .i64 (aheadI b t (intsOf l) (utcD b t (intsOf l) n) * 1000000000))
                         have u3 := wr_i64 (atV k B A b t (intsOf l) n - atV 0 0 0 b t (intsOf l) n)
                         have u4 := wr_i64 (atV 0 0 0 b t (intsOf l) n - atV k B A b t (intsOf l) n)
                         first
                         | omega
                         | (obtain ⟨r0, r1, r2, r3⟩ := hi0
                            have hno : k = 0 ∨ noJ B A b (intsOf l) n (intsOf l).length = true := by
                              by_cases hk : k = 0
                              · exact .inl hk
                              · right
                                rw [hlen, show (Sy.rows l).length = i0a.toNat by omega]
                                refine Classical.not_not.1 fun hc => ?_
                                exact absurd (r2.2 hc) (by first | assumption | omega | simp_all)
                            have := na.1 hno
                            omega)
                       · have st2 := st.2.2 hu
                         omega)
                  ·
                   have y1 := ws_spec k B A b t (intsOf l) i0a
                   first
                   | exact True.intro
                   | rfl
                   | (exfalso; omega)
                   | (exfalso
                      have hf : fitsI k B A b t (intsOf l) = 0 := by omega
                      obtain ⟨hs, hm0, hm, hfl, b0, b1, b2, b3⟩ := fit_facts hf
                      have e1 := at_utc hf n
                      have st := step_at hm0 n
                      have st1 := st.1
                      by_cases hu : utcE b t (intsOf l) n = 0
                      · have st2 := st.2.1 hu
                        have na := near_at hf hu
                        have na2 := na.2
                        have hp := utc_parts hu
                        have hw := wrong_ok hp.1 hp.2.1 hp.2.2.1
                        have hx := utcE_spec b t (intsOf l) n
                        have d1 := day_spec b t (intsOf l) (utcD b t (intsOf l) n)
                        have c1 := secL_spec b (intsOf l) (utcD b t (intsOf l) n)
                        have ep : plN b (intsOf l) n (utcD b t (intsOf l) n) = n - (b + ctL (intsOf l) (utcD b t (intsOf l) n)) * 1000000000 := rfl
                        have u1 := wr_i64 (aheadI b t (intsOf l) (utcD b t (intsOf l) n) * 1000000000)
                        have u2 := wr_i64 (n - IntKind.wrap .i64 (aheadI b t (intsOf l) (utcD b t (intsOf l) n) * 1000000000))
                        have u3 := wr_i64 (atV k B A b t (intsOf l) n - atV 0 0 0 b t (intsOf l) n)
                        have u4 := wr_i64 (atV 0 0 0 b t (intsOf l) n - atV k B A b t (intsOf l) n)
                        first
                        | omega
                        | (obtain ⟨r0, r1, r2, r3⟩ := hi0
                           have hno : k = 0 ∨ noJ B A b (intsOf l) n (intsOf l).length = true := by
                             by_cases hk : k = 0
                             · exact .inl hk
                             · right
                               rw [hlen, show (Sy.rows l).length = i0a.toNat by omega]
                               refine Classical.not_not.1 fun hc => ?_
                               exact absurd (r2.2 hc) (by first | assumption | omega | simp_all)
                           have := na.1 hno
                           omega)
                      · have st2 := st.2.2 hu
                        omega)
                 ·
                  have y1 := ws_spec k B A b t (intsOf l) i0a
                  first
                  | exact True.intro
                  | rfl
                  | (exfalso; omega)
                  | (exfalso
                     have hf : fitsI k B A b t (intsOf l) = 0 := by omega
                     obtain ⟨hs, hm0, hm, hfl, b0, b1, b2, b3⟩ := fit_facts hf
                     have e1 := at_utc hf n
                     have st := step_at hm0 n
                     have st1 := st.1
                     by_cases hu : utcE b t (intsOf l) n = 0
                     · have st2 := st.2.1 hu
                       have na := near_at hf hu
                       have na2 := na.2
                       have hp := utc_parts hu
                       have hw := wrong_ok hp.1 hp.2.1 hp.2.2.1
                       have hx := utcE_spec b t (intsOf l) n
                       have d1 := day_spec b t (intsOf l) (utcD b t (intsOf l) n)
                       have c1 := secL_spec b (intsOf l) (utcD b t (intsOf l) n)
                       have ep : plN b (intsOf l) n (utcD b t (intsOf l) n) = n - (b + ctL (intsOf l) (utcD b t (intsOf l) n)) * 1000000000 := rfl
                       have u1 := wr_i64 (aheadI b t (intsOf l) (utcD b t (intsOf l) n) * 1000000000)
                       have u2 := wr_i64 (n - IntKind.wrap .i64 (aheadI b t (intsOf l) (utcD b t (intsOf l) n) * 1000000000))
                       have u3 := wr_i64 (atV k B A b t (intsOf l) n - atV 0 0 0 b t (intsOf l) n)
                       have u4 := wr_i64 (atV 0 0 0 b t (intsOf l) n - atV k B A b t (intsOf l) n)
                       first
                       | omega
                       | (obtain ⟨r0, r1, r2, r3⟩ := hi0
                          have hno : k = 0 ∨ noJ B A b (intsOf l) n (intsOf l).length = true := by
                            by_cases hk : k = 0
                            · exact .inl hk
                            · right
                              rw [hlen, show (Sy.rows l).length = i0a.toNat by omega]
                              refine Classical.not_not.1 fun hc => ?_
                              exact absurd (r2.2 hc) (by first | assumption | omega | simp_all)
                          have := na.1 hno
                          omega)
                     · have st2 := st.2.2 hu
                       omega)
              ·
               refine ⟨fun h25 => ?_, fun h25 => ?_⟩
               ·
                have wf9 := wr_i64 ((atV k B A b t (intsOf l) n) - (atV 0 0 0 b t (intsOf l) n))
                refine ⟨fun h26 => ?_, fun h26 => ?_⟩
                ·
                 have wf10 := wr_i64 ((atV 0 0 0 b t (intsOf l) n) - (atV k B A b t (intsOf l) n))
                 refine ⟨fun h27 => ?_, fun h27 => ?_⟩
                 ·
                  have y1 := ws_spec k B A b t (intsOf l) i0a
                  first
                  | exact True.intro
                  | rfl
                  | (exfalso; omega)
                  | (exfalso
                     have hf : fitsI k B A b t (intsOf l) = 0 := by omega
                     obtain ⟨hs, hm0, hm, hfl, b0, b1, b2, b3⟩ := fit_facts hf
                     have e1 := at_utc hf n
                     have st := step_at hm0 n
                     have st1 := st.1
                     by_cases hu : utcE b t (intsOf l) n = 0
                     · have st2 := st.2.1 hu
                       have na := near_at hf hu
                       have na2 := na.2
                       have hp := utc_parts hu
                       have hw := wrong_ok hp.1 hp.2.1 hp.2.2.1
                       have hx := utcE_spec b t (intsOf l) n
                       have d1 := day_spec b t (intsOf l) (utcD b t (intsOf l) n)
                       have c1 := secL_spec b (intsOf l) (utcD b t (intsOf l) n)
                       have ep : plN b (intsOf l) n (utcD b t (intsOf l) n) = n - (b + ctL (intsOf l) (utcD b t (intsOf l) n)) * 1000000000 := rfl
                       have u1 := wr_i64 (aheadI b t (intsOf l) (utcD b t (intsOf l) n) * 1000000000)
                       have u2 := wr_i64 (n - IntKind.wrap .i64 (aheadI b t (intsOf l) (utcD b t (intsOf l) n) * 1000000000))
                       have u3 := wr_i64 (atV k B A b t (intsOf l) n - atV 0 0 0 b t (intsOf l) n)
                       have u4 := wr_i64 (atV 0 0 0 b t (intsOf l) n - atV k B A b t (intsOf l) n)
                       first
                       | omega
                       | (obtain ⟨r0, r1, r2, r3⟩ := hi0
                          have hno : k = 0 ∨ noJ B A b (intsOf l) n (intsOf l).length = true := by
                            by_cases hk : k = 0
                            · exact .inl hk
                            · right
                              rw [hlen, show (Sy.rows l).length = i0a.toNat by omega]
                              refine Classical.not_not.1 fun hc => ?_
                              exact absurd (r2.2 hc) (by first | assumption | omega | simp_all)
                          have := na.1 hno
                          omega)
                     · have st2 := st.2.2 hu
                       omega)
                 ·
                  have y1 := ws_spec k B A b t (intsOf l) i0a
                  first
                  | exact True.intro
                  | rfl
                  | (exfalso; omega)
                  | (exfalso
                     have hf : fitsI k B A b t (intsOf l) = 0 := by omega
                     obtain ⟨hs, hm0, hm, hfl, b0, b1, b2, b3⟩ := fit_facts hf
                     have e1 := at_utc hf n
                     have st := step_at hm0 n
                     have st1 := st.1
                     by_cases hu : utcE b t (intsOf l) n = 0
                     · have st2 := st.2.1 hu
                       have na := near_at hf hu
                       have na2 := na.2
                       have hp := utc_parts hu
                       have hw := wrong_ok hp.1 hp.2.1 hp.2.2.1
                       have hx := utcE_spec b t (intsOf l) n
                       have d1 := day_spec b t (intsOf l) (utcD b t (intsOf l) n)
                       have c1 := secL_spec b (intsOf l) (utcD b t (intsOf l) n)
                       have ep : plN b (intsOf l) n (utcD b t (intsOf l) n) = n - (b + ctL (intsOf l) (utcD b t (intsOf l) n)) * 1000000000 := rfl
                       have u1 := wr_i64 (aheadI b t (intsOf l) (utcD b t (intsOf l) n) * 1000000000)
                       have u2 := wr_i64 (n - IntKind.wrap .i64 (aheadI b t (intsOf l) (utcD b t (intsOf l) n) * 1000000000))
                       have u3 := wr_i64 (atV k B A b t (intsOf l) n - atV 0 0 0 b t (intsOf l) n)
                       have u4 := wr_i64 (atV 0 0 0 b t (intsOf l) n - atV k B A b t (intsOf l) n)
                       first
                       | omega
                       | (obtain ⟨r0, r1, r2, r3⟩ := hi0
                          have hno : k = 0 ∨ noJ B A b (intsOf l) n (intsOf l).length = true := by
                            by_cases hk : k = 0
                            · exact .inl hk
                            · right
                              rw [hlen, show (Sy.rows l).length = i0a.toNat by omega]
                              refine Classical.not_not.1 fun hc => ?_
                              exact absurd (r2.2 hc) (by first | assumption | omega | simp_all)
                          have := na.1 hno
                          omega)
                     · have st2 := st.2.2 hu
                       omega)
                ·
                 have y1 := ws_spec k B A b t (intsOf l) i0a
                 first
                 | exact True.intro
                 | rfl
                 | (exfalso; omega)
                 | (exfalso
                    have hf : fitsI k B A b t (intsOf l) = 0 := by omega
                    obtain ⟨hs, hm0, hm, hfl, b0, b1, b2, b3⟩ := fit_facts hf
                    have e1 := at_utc hf n
                    have st := step_at hm0 n
                    have st1 := st.1
                    by_cases hu : utcE b t (intsOf l) n = 0
                    · have st2 := st.2.1 hu
                      have na := near_at hf hu
                      have na2 := na.2
                      have hp := utc_parts hu
                      have hw := wrong_ok hp.1 hp.2.1 hp.2.2.1
                      have hx := utcE_spec b t (intsOf l) n
                      have d1 := day_spec b t (intsOf l) (utcD b t (intsOf l) n)
                      have c1 := secL_spec b (intsOf l) (utcD b t (intsOf l) n)
                      have ep : plN b (intsOf l) n (utcD b t (intsOf l) n) = n - (b + ctL (intsOf l) (utcD b t (intsOf l) n)) * 1000000000 := rfl
                      have u1 := wr_i64 (aheadI b t (intsOf l) (utcD b t (intsOf l) n) * 1000000000)
                      have u2 := wr_i64 (n - IntKind.wrap .i64 (aheadI b t (intsOf l) (utcD b t (intsOf l) n) * 1000000000))
                      have u3 := wr_i64 (atV k B A b t (intsOf l) n - atV 0 0 0 b t (intsOf l) n)
                      have u4 := wr_i64 (atV 0 0 0 b t (intsOf l) n - atV k B A b t (intsOf l) n)
                      first
                      | omega
                      | (obtain ⟨r0, r1, r2, r3⟩ := hi0
                         have hno : k = 0 ∨ noJ B A b (intsOf l) n (intsOf l).length = true := by
                           by_cases hk : k = 0
                           · exact .inl hk
                           · right
                             rw [hlen, show (Sy.rows l).length = i0a.toNat by omega]
                             refine Classical.not_not.1 fun hc => ?_
                             exact absurd (r2.2 hc) (by first | assumption | omega | simp_all)
                         have := na.1 hno
                         omega)
                    · have st2 := st.2.2 hu
                      omega)
               ·
                refine ⟨fun h28 => ?_, fun h28 => ?_⟩
                ·
                 have wf11 := wr_i64 ((atV k B A b t (intsOf l) n) - (atV 0 0 0 b t (intsOf l) n))
                 refine ⟨fun h29 => ?_, fun h29 => ?_⟩
                 ·
                  have wf12 := wr_i64 ((atV 0 0 0 b t (intsOf l) n) - (atV k B A b t (intsOf l) n))
                  refine ⟨fun h30 => ?_, fun h30 => ?_⟩
                  ·
                   have y1 := ws_spec k B A b t (intsOf l) i0a
                   first
                   | exact True.intro
                   | rfl
                   | (exfalso; omega)
                   | (exfalso
                      have hf : fitsI k B A b t (intsOf l) = 0 := by omega
                      obtain ⟨hs, hm0, hm, hfl, b0, b1, b2, b3⟩ := fit_facts hf
                      have e1 := at_utc hf n
                      have st := step_at hm0 n
                      have st1 := st.1
                      by_cases hu : utcE b t (intsOf l) n = 0
                      · have st2 := st.2.1 hu
                        have na := near_at hf hu
                        have na2 := na.2
                        have hp := utc_parts hu
                        have hw := wrong_ok hp.1 hp.2.1 hp.2.2.1
                        have hx := utcE_spec b t (intsOf l) n
                        have d1 := day_spec b t (intsOf l) (utcD b t (intsOf l) n)
                        have c1 := secL_spec b (intsOf l) (utcD b t (intsOf l) n)
                        have ep : plN b (intsOf l) n (utcD b t (intsOf l) n) = n - (b + ctL (intsOf l) (utcD b t (intsOf l) n)) * 1000000000 := rfl
                        have u1 := wr_i64 (aheadI b t (intsOf l) (utcD b t (intsOf l) n) * 1000000000)
                        have u2 := wr_i64 (n - IntKind.wrap .i64 (aheadI b t (intsOf l) (utcD b t (intsOf l) n) * 1000000000))
                        have u3 := wr_i64 (atV k B A b t (intsOf l) n - atV 0 0 0 b t (intsOf l) n)
                        have u4 := wr_i64 (atV 0 0 0 b t (intsOf l) n - atV k B A b t (intsOf l) n)
                        first
                        | omega
                        | (obtain ⟨r0, r1, r2, r3⟩ := hi0
                           have hno : k = 0 ∨ noJ B A b (intsOf l) n (intsOf l).length = true := by
                             by_cases hk : k = 0
                             · exact .inl hk
                             · right
                               rw [hlen, show (Sy.rows l).length = i0a.toNat by omega]
                               refine Classical.not_not.1 fun hc => ?_
                               exact absurd (r2.2 hc) (by first | assumption | omega | simp_all)
                           have := na.1 hno
                           omega)
                      · have st2 := st.2.2 hu
                        omega)
                  ·
                   have y1 := ws_spec k B A b t (intsOf l) i0a
                   first
                   | exact True.intro
                   | rfl
                   | (exfalso; omega)
                   | (exfalso
                      have hf : fitsI k B A b t (intsOf l) = 0 := by omega
                      obtain ⟨hs, hm0, hm, hfl, b0, b1, b2, b3⟩ := fit_facts hf
                      have e1 := at_utc hf n
                      have st := step_at hm0 n
                      have st1 := st.1
                      by_cases hu : utcE b t (intsOf l) n = 0
                      · have st2 := st.2.1 hu
                        have na := near_at hf hu
                        have na2 := na.2
                        have hp := utc_parts hu
                        have hw := wrong_ok hp.1 hp.2.1 hp.2.2.1
                        have hx := utcE_spec b t (intsOf l) n
                        have d1 := day_spec b t (intsOf l) (utcD b t (intsOf l) n)
                        have c1 := secL_spec b (intsOf l) (utcD b t (intsOf l) n)
                        have ep : plN b (intsOf l) n (utcD b t (intsOf l) n) = n - (b + ctL (intsOf l) (utcD b t (intsOf l) n)) * 1000000000 := rfl
                        have u1 := wr_i64 (aheadI b t (intsOf l) (utcD b t (intsOf l) n) * 1000000000)
                        have u2 := wr_i64 (n - IntKind.wrap .i64 (aheadI b t (intsOf l) (utcD b t (intsOf l) n) * 1000000000))
                        have u3 := wr_i64 (atV k B A b t (intsOf l) n - atV 0 0 0 b t (intsOf l) n)
                        have u4 := wr_i64 (atV 0 0 0 b t (intsOf l) n - atV k B A b t (intsOf l) n)
                        first
                        | omega
                        | (obtain ⟨r0, r1, r2, r3⟩ := hi0
                           have hno : k = 0 ∨ noJ B A b (intsOf l) n (intsOf l).length = true := by
                             by_cases hk : k = 0
                             · exact .inl hk
                             · right
                               rw [hlen, show (Sy.rows l).length = i0a.toNat by omega]
                               refine Classical.not_not.1 fun hc => ?_
                               exact absurd (r2.2 hc) (by first | assumption | omega | simp_all)
                           have := na.1 hno
                           omega)
                      · have st2 := st.2.2 hu
                        omega)
                 ·
                  have y1 := ws_spec k B A b t (intsOf l) i0a
                  first
                  | exact True.intro
                  | rfl
                  | (exfalso; omega)
                  | (exfalso
                     have hf : fitsI k B A b t (intsOf l) = 0 := by omega
                     obtain ⟨hs, hm0, hm, hfl, b0, b1, b2, b3⟩ := fit_facts hf
                     have e1 := at_utc hf n
                     have st := step_at hm0 n
                     have st1 := st.1
                     by_cases hu : utcE b t (intsOf l) n = 0
                     · have st2 := st.2.1 hu
                       have na := near_at hf hu
                       have na2 := na.2
                       have hp := utc_parts hu
                       have hw := wrong_ok hp.1 hp.2.1 hp.2.2.1
                       have hx := utcE_spec b t (intsOf l) n
                       have d1 := day_spec b t (intsOf l) (utcD b t (intsOf l) n)
                       have c1 := secL_spec b (intsOf l) (utcD b t (intsOf l) n)
                       have ep : plN b (intsOf l) n (utcD b t (intsOf l) n) = n - (b + ctL (intsOf l) (utcD b t (intsOf l) n)) * 1000000000 := rfl
                       have u1 := wr_i64 (aheadI b t (intsOf l) (utcD b t (intsOf l) n) * 1000000000)
                       have u2 := wr_i64 (n - IntKind.wrap .i64 (aheadI b t (intsOf l) (utcD b t (intsOf l) n) * 1000000000))
                       have u3 := wr_i64 (atV k B A b t (intsOf l) n - atV 0 0 0 b t (intsOf l) n)
                       have u4 := wr_i64 (atV 0 0 0 b t (intsOf l) n - atV k B A b t (intsOf l) n)
                       first
                       | omega
                       | (obtain ⟨r0, r1, r2, r3⟩ := hi0
                          have hno : k = 0 ∨ noJ B A b (intsOf l) n (intsOf l).length = true := by
                            by_cases hk : k = 0
                            · exact .inl hk
                            · right
                              rw [hlen, show (Sy.rows l).length = i0a.toNat by omega]
                              refine Classical.not_not.1 fun hc => ?_
                              exact absurd (r2.2 hc) (by first | assumption | omega | simp_all)
                          have := na.1 hno
                          omega)
                     · have st2 := st.2.2 hu
                       omega)
                ·
                 have y1 := ws_spec k B A b t (intsOf l) i0a
                 first
                 | exact True.intro
                 | rfl
                 | (exfalso; omega)
                 | (exfalso
                    have hf : fitsI k B A b t (intsOf l) = 0 := by omega
                    obtain ⟨hs, hm0, hm, hfl, b0, b1, b2, b3⟩ := fit_facts hf
                    have e1 := at_utc hf n
                    have st := step_at hm0 n
                    have st1 := st.1
                    by_cases hu : utcE b t (intsOf l) n = 0
                    · have st2 := st.2.1 hu
                      have na := near_at hf hu
                      have na2 := na.2
                      have hp := utc_parts hu
                      have hw := wrong_ok hp.1 hp.2.1 hp.2.2.1
                      have hx := utcE_spec b t (intsOf l) n
                      have d1 := day_spec b t (intsOf l) (utcD b t (intsOf l) n)
                      have c1 := secL_spec b (intsOf l) (utcD b t (intsOf l) n)
                      have ep : plN b (intsOf l) n (utcD b t (intsOf l) n) = n - (b + ctL (intsOf l) (utcD b t (intsOf l) n)) * 1000000000 := rfl
                      have u1 := wr_i64 (aheadI b t (intsOf l) (utcD b t (intsOf l) n) * 1000000000)
                      have u2 := wr_i64 (n - IntKind.wrap .i64 (aheadI b t (intsOf l) (utcD b t (intsOf l) n) * 1000000000))
                      have u3 := wr_i64 (atV k B A b t (intsOf l) n - atV 0 0 0 b t (intsOf l) n)
                      have u4 := wr_i64 (atV 0 0 0 b t (intsOf l) n - atV k B A b t (intsOf l) n)
                      first
                      | omega
                      | (obtain ⟨r0, r1, r2, r3⟩ := hi0
                         have hno : k = 0 ∨ noJ B A b (intsOf l) n (intsOf l).length = true := by
                           by_cases hk : k = 0
                           · exact .inl hk
                           · right
                             rw [hlen, show (Sy.rows l).length = i0a.toNat by omega]
                             refine Classical.not_not.1 fun hc => ?_
                             exact absurd (r2.2 hc) (by first | assumption | omega | simp_all)
                         have := na.1 hno
                         omega)
                    · have st2 := st.2.2 hu
                      omega)
theorem s12fg_wOutside : s12fc_wOutside.Good Tryd.prog syG (s12fE [] [] [] []) := good_of_walk (Γ := ⟨[s12cc_sure12, s12c_sfits, s12c_sat, y9c_lutc, y9c_LAhead, s12c_sWin, s12cc_num], syG, [], [], []⟩) (ρ := s12fE [] [] [] []) sym wOutside_w rfl (fun _ _ _ _ => (ok_cons (Con.Good.env (Con.Good.up s12cg_sure12 s12fup rfl) _ _ _ _) (ok_cons (Con.Good.env (Con.Good.up (Con.Good.up (Con.Good.up s12g_sfits s12bup rfl) s12cup rfl) s12fup rfl) _ _ _ _) (ok_cons (Con.Good.env (Con.Good.up (Con.Good.up (Con.Good.up s12g_sat s12bup rfl) s12cup rfl) s12fup rfl) _ _ _ _) (ok_cons (Con.Good.env (Con.Good.up (Con.Good.up (Con.Good.up (Con.Good.up (Con.Good.up y9g_lutc s12aup rfl) s12up rfl) s12bup rfl) s12cup rfl) s12fup rfl) _ _ _ _) (ok_cons (Con.Good.env (Con.Good.up (Con.Good.up (Con.Good.up (Con.Good.up (Con.Good.up y9g_LAhead s12aup rfl) s12up rfl) s12bup rfl) s12cup rfl) s12fup rfl) _ _ _ _) (ok_cons (Con.Good.env (Con.Good.up (Con.Good.up (Con.Good.up s12g_sWin s12bup rfl) s12cup rfl) s12fup rfl) _ _ _ _) (ok_cons (Con.Good.env (Con.Good.up s12cg_num s12fup rfl) _ _ _ _) ok_nil)))))))) (fun k B A b t n l hc hty => wOutside_h k B A b t n l hc hty)
end Go.Proofs.YtbjgopehomnpgaaDoor
