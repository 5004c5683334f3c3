/-
  Layer 12: what the statements rest on.
-/
import Derived.Test.YtbjgopehomnpgaaDoorSycqs
import Derived.Test.YtbjgopehomnpgaaDoorZ12bqs
import Derived.Test.YtbjgopehomnpgaaDoorNumqs
namespace Go.Proofs.YtbjgopehomnpgaaDoor
open Go.RowKit Go.Extern.Stop Go.Stop Go.Extern Go.Proofs.YtbjgopehomnpgaaDoor.Sy
set_option linter.unusedVariables false
set_option linter.unusedSimpArgs false
theorem num12_any (n : Int) (w : World) (hg : w.cell? ⟨0, 0, none⟩ = some asHandle) : Calls Tryd.prog 70 #[errVal 182 n] w fun e w' => e = .returned (.int .i64 n) ∧ Below w.heap.size w w' := by
  unfold errVal
  split
  · rename_i h; subst h; exact num12_nil _
  · exact num12_err _ _ hg
theorem fit_facts {k B A b t : Int} {l : List Int} (h : fitsI k B A b t l = 0) : smI k B A = 0 ∧ mayI b t l = 0 ∧ mayL b t l = true ∧ (k = 0 ∨ fitL B A b l l.length = true) ∧ 0 ≤ B ∧ B ≤ 43200 ∧ 0 ≤ A ∧ A ≤ 43200 := by
  have s1 := smI_spec k B A
  have m1 := mayI_spec b t l
  rcases fitsI_spec k B A b t l with ⟨f, _⟩ | ⟨a, c, hd⟩
  · omega
  · have hm : mayL b t l = true := by
      rcases m1 with ⟨x, _⟩ | ⟨_, x, _⟩
      · omega
      · exact x
    refine ⟨a, c, hm, ?_, by omega, by omega, by omega, by omega⟩
    rcases hd with ⟨_, hd⟩ | ⟨_, _, hd⟩ | ⟨_, hd, _⟩
    · exact .inl hd
    · exact .inr hd
    · omega
theorem km_of {k B A : Int} (hs : smI k B A = 0) (hk : k ≠ 0) : KM k B A := by
  have s1 := smI_spec k B A
  unfold KM
  omega
theorem step_fit {b t : Int} {l : List Int} (hm : mayI b t l = 0) : fitsI 0 0 0 b t l = 0 := by
  unfold fitsI
  have : smI 0 0 0 = 0 := by decide
  rw [if_neg (by omega), if_pos rfl]
theorem step_at {b t : Int} {l : List Int} (hm : mayI b t l = 0) (n : Int) : atE 0 0 0 b t l n = utcE b t l n ∧ (utcE b t l n = 0 → atV 0 0 0 b t l n = plN b l n (utcD b t l n)) ∧ (utcE b t l n ≠ 0 → atV 0 0 0 b t l n = 0) := by
  have a1 := at_spec 0 0 0 b t n l
  have hf := step_fit hm
  have hE : atE 0 0 0 b t l n = utcE b t l n := by omega
  exact ⟨hE, fun h => at_plain (by omega) (.inl rfl), fun h => at_bad (by omega)⟩
theorem at_utc {k B A b t : Int} {l : List Int} (h : fitsI k B A b t l = 0) (n : Int) : atE k B A b t l n = utcE b t l n := by
  have a1 := at_spec k B A b t n l
  omega
theorem onward {k B A b t x y : Int} {l : List Int} (h : fitsI k B A b t l = 0) (hk : k ≠ 0) (hxy : x ≤ y) (hx : atE k B A b t l x = 0) (hy : atE k B A b t l y = 0) : atV k B A b t l x ≤ atV k B A b t l y ∧ atV k B A b t l y - atV k B A b t l x ≤ y - x := by
  obtain ⟨hs, _, hm, hf, _⟩ := fit_facts h
  have hf2 := hf.resolve_left hk
  rw [at_utc h] at hx hy
  obtain ⟨hK, _, e1⟩ := atV_S hs hm hf2 hx hk
  obtain ⟨_, _, e2⟩ := atV_S hs hm hf2 hy hk
  have hl := smS_lip hK hf2 x (y - x).toNat
  rw [show x + ((y - x).toNat : Int) = y by omega] at hl
  rw [e1, e2]
  omega
theorem lag_ends {k B A : Int} (hs : smI k B A = 0) (hk : k ≠ 0) : lagE k B A 0 = 0 ∧ lagV k B A 0 = 0 ∧ lagE k B A (slN B A) = 0 ∧ lagV k B A (slN B A) = 1000000000 := by
  have hK := km_of hs hk
  have n1 := slN_spec B A
  have hp : 0 < slN B A := by unfold KM at hK; omega
  have e1 := lagE_spec k B A 0
  have e2 := lagE_spec k B A (slN B A)
  refine ⟨by omega, ?_, by omega, ?_⟩
  · rw [lagV_C hK hs (by omega) (by omega)]
    unfold lagC
    rw [if_pos (by omega)]
  · rw [lagV_C hK hs (by omega) (by omega)]
    unfold lagC
    rw [if_neg (by omega), if_pos (by omega)]
theorem ends_same {k B A b t : Int} {l : List Int} (h : fitsI k B A b t l = 0) (hk : k ≠ 0) {j : Nat} (hj : j < l.length) : atV k B A b t l (wbJ B b l j) = atV 0 0 0 b t l (wbJ B b l j) ∧ atV k B A b t l (wbJ B b l j + slN B A) = atV 0 0 0 b t l (wbJ B b l j + slN B A) := by
  obtain ⟨hs, hm0, hm, hf, b0, b1, b2, b3⟩ := fit_facts h
  have hf2 := hf.resolve_left hk
  have hK := km_of hs hk
  have he := smS_ends hK hm hf2 b0 b1 b2 b3 hj
  have key : ∀ n, (utcE b t l n = 0 → smS k B A b l n l.length = ctL l (utcD b t l n) * 1000000000) → atV k B A b t l n = atV 0 0 0 b t l n := fun n hn => by
    have hst := step_at hm0 n
    by_cases hu : utcE b t l n = 0
    · obtain ⟨_, _, e1⟩ := atV_S hs hm hf2 hu hk
      rw [e1, hst.2.1 hu, hn hu]
      unfold plN
      omega
    · rw [hst.2.2 hu, at_bad (by rw [at_utc h]; exact hu)]
  exact ⟨key _ he.1, key _ he.2⟩
theorem near_at {k B A b t n : Int} {l : List Int} (h : fitsI k B A b t l = 0) (hu : utcE b t l n = 0) : (k = 0 ∨ noJ B A b l n l.length = true → atV k B A b t l n = plN b l n (utcD b t l n)) ∧ -1000000000 ≤ atV k B A b t l n - plN b l n (utcD b t l n) ∧ atV k B A b t l n - plN b l n (utcD b t l n) ≤ 1000000000 := by
  obtain ⟨hs, hm0, hm, hf, b0, b1, b2, b3⟩ := fit_facts h
  have hE : atE k B A b t l n = 0 := by rw [at_utc h]; exact hu
  by_cases hk : k = 0
  · have e := at_plain hE (.inl hk)
    exact ⟨fun _ => e, by omega, by omega⟩
  · have hf2 := hf.resolve_left hk
    have hK := km_of hs hk
    obtain ⟨_, _, e1⟩ := atV_S hs hm hf2 hu hk
    have hn := smS_near hK hm hf2 hu b0 b1 b2 b3
    have ep : plN b l n (utcD b t l n) = n - (b + ctL l (utcD b t l n)) * 1000000000 := rfl
    refine ⟨fun hor => at_plain hE hor, ?_, ?_⟩
    · rw [e1, ep]; omega
    · rw [e1, ep]; omega
noncomputable def s12cI : Nat → List Value → Int
  | i, l => s12bI i l
noncomputable def s12cB : Nat → List Value → Bool
  | i, l => s12bB i l
noncomputable def s12cV : Nat → List Value → Value
  | i, l => s12bV i l
noncomputable abbrev s12cE (iv : List Int) (bv : List Bool) (vv : List Value) (sv : List ByteArray) : Env := { iv := iv, bv := bv, vv := vv, sv := sv, fi := s12cI, fb := s12cB, fv := s12cV, et := 182 }
set_option maxHeartbeats 8000000 in
theorem s12cup : Agree 41 4 0 (s12bE [] [] [] []) (s12cE [] [] [] []) := ⟨rfl, (by
    intro f hf
    funext l
    show s12cI f l = s12bI f l
    unfold s12cI
    split <;> first | rfl | omega), (by
    intro f hf
    funext l
    show s12cB f l = s12bB f l
    unfold s12cB
    split <;> first | rfl | omega), (by
    intro f hf
    funext l
    show s12cV f l = s12bV f l
    unfold s12cV
    split <;> first | rfl | omega)⟩
theorem s12ci_may (k1 : IntKind) (b : Int) (k2 : IntKind) (t : Int) (l : Value) : s12cI 0 [.int k1 b, .int k2 t, l] = mayI b t (intsOf l) := rfl
theorem s12ci_lcnt (l : Value) (k1 : IntKind) (d : Int) (k2 : IntKind) (n : Int) : s12cI 1 [l, .int k1 d, .int k2 n] = (cntL (intsOf l) d n.toNat : Int) := rfl
theorem s12ci_lct (l : Value) (k1 : IntKind) (d : Int) : s12cI 2 [l, .int k1 d] = (ctL (intsOf l) d : Int) := rfl
theorem s12ci_least (l : Value) (k1 : IntKind) (n : Int) : s12cI 3 [l, .int k1 n] = leastL (intsOf l) n.toNat := rfl
theorem s12ci_wrong (k1 : IntKind) (b : Int) (k2 : IntKind) (t : Int) (l : Value) (k3 : IntKind) (d : Int) : s12cI 4 [.int k1 b, .int k2 t, l, .int k3 d] = wrongI b t (intsOf l) d := rfl
theorem s12ci_sec (k1 : IntKind) (b : Int) (l : Value) (k2 : IntKind) (d : Int) : s12cI 5 [.int k1 b, l, .int k2 d] = secL b (intsOf l) d := rfl
theorem s12ci_aheadI (k1 : IntKind) (b : Int) (k2 : IntKind) (t : Int) (l : Value) (k3 : IntKind) (d : Int) : s12cI 6 [.int k1 b, .int k2 t, l, .int k3 d] = aheadI b t (intsOf l) d := rfl
theorem s12ci_lenI (k1 : IntKind) (b : Int) (k2 : IntKind) (t : Int) (l : Value) (k3 : IntKind) (d : Int) : s12cI 7 [.int k1 b, .int k2 t, l, .int k3 d] = lenI b t (intsOf l) d := rfl
theorem s12ci_begI (k1 : IntKind) (b : Int) (k2 : IntKind) (t : Int) (l : Value) (k3 : IntKind) (d : Int) : s12cI 8 [.int k1 b, .int k2 t, l, .int k3 d] = begI b t (intsOf l) d := rfl
theorem s12ci_utcE (k1 : IntKind) (b : Int) (k2 : IntKind) (t : Int) (l : Value) (k3 : IntKind) (n : Int) : s12cI 9 [.int k1 b, .int k2 t, l, .int k3 n] = utcE b t (intsOf l) n := rfl
theorem s12ci_utcD (k1 : IntKind) (b : Int) (k2 : IntKind) (t : Int) (l : Value) (k3 : IntKind) (n : Int) : s12cI 10 [.int k1 b, .int k2 t, l, .int k3 n] = utcD b t (intsOf l) n := rfl
theorem s12ci_utcS (k1 : IntKind) (b : Int) (k2 : IntKind) (t : Int) (l : Value) (k3 : IntKind) (n : Int) : s12cI 11 [.int k1 b, .int k2 t, l, .int k3 n] = utcS b t (intsOf l) n := rfl
theorem s12ci_utcN (k1 : IntKind) (b : Int) (k2 : IntKind) (t : Int) (l : Value) (k3 : IntKind) (n : Int) : s12cI 12 [.int k1 b, .int k2 t, l, .int k3 n] = utcN b t (intsOf l) n := rfl
theorem s12ci_sz (k1 : IntKind) (a : Int) : s12cI 13 [.int k1 a] = szE a := rfl
theorem s12ci_sa (k1 : IntKind) (a : Int) : s12cI 14 [.int k1 a] = satE a := rfl
theorem s12ci_nv (k1 : IntKind) (a : Int) : s12cI 15 [.int k1 a] = svE a := rfl
theorem s12ci_ne (k1 : IntKind) (a : Int) : s12cI 16 [.int k1 a] = erE a := rfl
theorem s12ci_dq (k1 : IntKind) (a : Int) (k2 : IntKind) (b : Int) : s12cI 17 [.int k1 a, .int k2 b] = dqE a b := rfl
theorem s12ci_dm (k1 : IntKind) (a : Int) (k2 : IntKind) (b : Int) : s12cI 18 [.int k1 a, .int k2 b] = dmE a b := rfl
theorem s12ci_de (k1 : IntKind) (b : Int) : s12cI 19 [.int k1 b] = deE b := rfl
theorem s12ci_sm (k1 : IntKind) (k : Int) (k2 : IntKind) (B : Int) (k3 : IntKind) (A : Int) : s12cI 20 [.int k1 k, .int k2 B, .int k3 A] = smI k B A := rfl
theorem s12ci_sln (k1 : IntKind) (B : Int) (k2 : IntKind) (A : Int) : s12cI 21 [.int k1 B, .int k2 A] = slN B A := rfl
theorem s12ci_wb (k1 : IntKind) (B : Int) (k2 : IntKind) (b : Int) (k3 : IntKind) (t : Int) (l : Value) (k4 : IntKind) (d : Int) : s12cI 22 [.int k1 B, .int k2 b, .int k3 t, l, .int k4 d] = winB B b t (intsOf l) d := rfl
theorem s12ci_wn (k1 : IntKind) (B : Int) (k2 : IntKind) (A : Int) (k3 : IntKind) (b : Int) (k4 : IntKind) (t : Int) (l : Value) (k5 : IntKind) (d : Int) : s12cI 23 [.int k1 B, .int k2 A, .int k3 b, .int k4 t, l, .int k5 d] = winN B A b t (intsOf l) d := rfl
theorem s12ci_fits (k1 : IntKind) (k : Int) (k2 : IntKind) (B : Int) (k3 : IntKind) (A : Int) (k4 : IntKind) (b : Int) (k5 : IntKind) (t : Int) (l : Value) : s12cI 24 [.int k1 k, .int k2 B, .int k3 A, .int k4 b, .int k5 t, l] = fitsI k B A b t (intsOf l) := rfl
theorem s12ci_last (k1 : IntKind) (B : Int) (k2 : IntKind) (A : Int) (k3 : IntKind) (b : Int) (l : Value) (k4 : IntKind) (n : Int) : s12cI 25 [.int k1 B, .int k2 A, .int k3 b, l, .int k4 n] = lastN B A b (intsOf l) n.toNat := rfl
theorem s12ci_lge (k1 : IntKind) (k : Int) (k2 : IntKind) (B : Int) (k3 : IntKind) (A : Int) (k4 : IntKind) (g : Int) : s12cI 26 [.int k1 k, .int k2 B, .int k3 A, .int k4 g] = lagE k B A g := rfl
theorem s12ci_lgv (k1 : IntKind) (k : Int) (k2 : IntKind) (B : Int) (k3 : IntKind) (A : Int) (k4 : IntKind) (g : Int) : s12cI 27 [.int k1 k, .int k2 B, .int k3 A, .int k4 g] = lagV k B A g := rfl
theorem s12ci_mdn (k1 : IntKind) (a : Int) (k2 : IntKind) (b : Int) (k3 : IntKind) (c : Int) : s12cI 28 [.int k1 a, .int k2 b, .int k3 c] = mdN a b c := rfl
theorem s12ci_mde (k1 : IntKind) (a : Int) (k2 : IntKind) (b : Int) (k3 : IntKind) (c : Int) : s12cI 29 [.int k1 a, .int k2 b, .int k3 c] = mdE a b c := rfl
theorem s12ci_ate (k1 : IntKind) (k : Int) (k2 : IntKind) (B : Int) (k3 : IntKind) (A : Int) (k4 : IntKind) (b : Int) (k5 : IntKind) (t : Int) (l : Value) (k6 : IntKind) (n : Int) : s12cI 30 [.int k1 k, .int k2 B, .int k3 A, .int k4 b, .int k5 t, l, .int k6 n] = atE k B A b t (intsOf l) n := rfl
theorem s12ci_atv (k1 : IntKind) (k : Int) (k2 : IntKind) (B : Int) (k3 : IntKind) (A : Int) (k4 : IntKind) (b : Int) (k5 : IntKind) (t : Int) (l : Value) (k6 : IntKind) (n : Int) : s12cI 31 [.int k1 k, .int k2 B, .int k3 A, .int k4 b, .int k5 t, l, .int k6 n] = atV k B A b t (intsOf l) n := rfl
theorem s12ci_pln (k1 : IntKind) (b : Int) (l : Value) (k2 : IntKind) (n : Int) (k3 : IntKind) (d : Int) : s12cI 32 [.int k1 b, l, .int k2 n, .int k3 d] = plN b (intsOf l) n d := rfl
theorem s12ci_cel (l : Value) (k1 : IntKind) (j : Int) : s12cI 33 [l, .int k1 j] = (intsOf l).getD j.toNat 0 := rfl
theorem s12ci_wse (k1 : IntKind) (k : Int) (k2 : IntKind) (B : Int) (k3 : IntKind) (A : Int) (k4 : IntKind) (b : Int) (k5 : IntKind) (t : Int) (l : Value) (k6 : IntKind) (j : Int) : s12cI 34 [.int k1 k, .int k2 B, .int k3 A, .int k4 b, .int k5 t, l, .int k6 j] = wsE k B A b t (intsOf l) j := rfl
theorem s12ci_wsb (k1 : IntKind) (k : Int) (k2 : IntKind) (B : Int) (k3 : IntKind) (A : Int) (k4 : IntKind) (b : Int) (k5 : IntKind) (t : Int) (l : Value) (k6 : IntKind) (j : Int) : s12cI 35 [.int k1 k, .int k2 B, .int k3 A, .int k4 b, .int k5 t, l, .int k6 j] = wsB k B A b t (intsOf l) j := rfl
theorem s12ci_wsn (k1 : IntKind) (k : Int) (k2 : IntKind) (B : Int) (k3 : IntKind) (A : Int) (k4 : IntKind) (b : Int) (k5 : IntKind) (t : Int) (l : Value) (k6 : IntKind) (j : Int) : s12cI 36 [.int k1 k, .int k2 B, .int k3 A, .int k4 b, .int k5 t, l, .int k6 j] = wsN k B A b t (intsOf l) j := rfl
theorem s12ci_upf (k1 : IntKind) (a : Int) (k2 : IntKind) (b : Int) (k3 : IntKind) (c : Int) : s12cI 37 [.int k1 a, .int k2 b, .int k3 c] = upF a b c := rfl
theorem s12ci_pla (k1 : IntKind) (b : Int) (k2 : IntKind) (t : Int) (l : Value) (k3 : IntKind) (d : Int) (k4 : IntKind) (n : Int) : s12cI 38 [.int k1 b, .int k2 t, l, .int k3 d, .int k4 n] = plaI b t (intsOf l) d n := rfl
theorem s12ci_wiv (k1 : IntKind) (k : Int) (k2 : IntKind) (B : Int) (k3 : IntKind) (A : Int) (k4 : IntKind) (b : Int) (k5 : IntKind) (t : Int) (l : Value) (k6 : IntKind) (d : Int) (k7 : IntKind) (g : Int) : s12cI 39 [.int k1 k, .int k2 B, .int k3 A, .int k4 b, .int k5 t, l, .int k6 d, .int k7 g] = wiI k B A b t (intsOf l) d g := rfl
theorem s12ci_wbj (k1 : IntKind) (B : Int) (k2 : IntKind) (b : Int) (l : Value) (k3 : IntKind) (j : Int) : s12cI 40 [.int k1 B, .int k2 b, l, .int k3 j] = wbJ B b (intsOf l) j.toNat := rfl
theorem s12cb_lok (l : Value) (k1 : IntKind) (t : Int) (k2 : IntKind) (n : Int) : s12cB 0 [l, .int k1 t, .int k2 n] = okL (intsOf l) t n.toNat := rfl
theorem s12cb_mayb (k1 : IntKind) (b : Int) (k2 : IntKind) (t : Int) (l : Value) : s12cB 1 [.int k1 b, .int k2 t, l] = mayL b t (intsOf l) := rfl
theorem s12cb_fitl (k1 : IntKind) (B : Int) (k2 : IntKind) (A : Int) (k3 : IntKind) (b : Int) (l : Value) (k4 : IntKind) (n : Int) : s12cB 2 [.int k1 B, .int k2 A, .int k3 b, l, .int k4 n] = fitL B A b (intsOf l) n.toNat := rfl
theorem s12cb_noj (k1 : IntKind) (B : Int) (k2 : IntKind) (A : Int) (k3 : IntKind) (b : Int) (l : Value) (k4 : IntKind) (n : Int) (k5 : IntKind) (m : Int) : s12cB 3 [.int k1 B, .int k2 A, .int k3 b, l, .int k4 n, .int k5 m] = noJ B A b (intsOf l) n m.toNat := rfl
abbrev s12cc_num : Con := ⟨70, [(.err (.var 0))], (.tt true), (.int .i64 (.var 0)), ⟨1, 0, 0, 0⟩, none⟩
theorem s12cg_num : s12cc_num.Good Tryd.prog syG (s12cE [] [] [] []) := good_flat rfl rfl rfl (by
  intro n hc β ok w hG
  have hc' := hc
  simp only [Tree.holds, Sy.holds, AllN, Env.more, s12cE, List.cons_append, List.nil_append, List.append_nil, denV, denI, denB, denL, I2.den, VOp.den, List.getD_cons_zero, List.getD_cons_succ, Cst.den, syso, syse, syio, sybo, s12ci_may, s12ci_lcnt, s12ci_lct, s12ci_least, s12ci_wrong, s12ci_sec, s12ci_aheadI, s12ci_lenI, s12ci_begI, s12ci_utcE, s12ci_utcD, s12ci_utcS, s12ci_utcN, s12ci_sz, s12ci_sa, s12ci_nv, s12ci_ne, s12ci_dq, s12ci_dm, s12ci_de, s12ci_sm, s12ci_sln, s12ci_wb, s12ci_wn, s12ci_fits, s12ci_last, s12ci_lge, s12ci_lgv, s12ci_mdn, s12ci_mde, s12ci_ate, s12ci_atv, s12ci_pln, s12ci_cel, s12ci_wse, s12ci_wsb, s12ci_wsn, s12ci_upf, s12ci_pla, s12ci_wiv, s12ci_wbj, s12cb_lok, s12cb_mayb, s12cb_fitl, s12cb_noj, List.map_nil, List.map_cons, B2.ofInts, B2.denI, B2.denB, if_true, Bool.false_eq_true, if_false, Nat.div_one, Nat.mul_one, Nat.add_zero, holds] at hc
  exact num12_any n w (hG _ (List.mem_singleton.2 rfl)).2.2)
def sure12_tree : Tree :=
 (.need (.b2 .and (.b2 .le (.lit (-9223372036854775808)) (.iapp 35 (.cons (.int .i64 (.lit (1))) (.cons (.int .i64 (.lit (0))) (.cons (.int .i64 (.lit (1))) (.cons (.int .i64 (.lit (10))) (.cons (.int .i64 (.lit (2000))) (.cons (.tup (.cons (.int .i64 (.lit (911))) .nil)) (.cons (.int .i64 (.lit (0))) .nil))))))))) (.b2 .le (.iapp 35 (.cons (.int .i64 (.lit (1))) (.cons (.int .i64 (.lit (0))) (.cons (.int .i64 (.lit (1))) (.cons (.int .i64 (.lit (10))) (.cons (.int .i64 (.lit (2000))) (.cons (.tup (.cons (.int .i64 (.lit (911))) .nil)) (.cons (.int .i64 (.lit (0))) .nil)))))))) (.lit (9223372036854775807))))
 (.need (.b2 .and (.b2 .le (.lit (-9223372036854775808)) (.iapp 36 (.cons (.int .i64 (.lit (1))) (.cons (.int .i64 (.lit (0))) (.cons (.int .i64 (.lit (1))) (.cons (.int .i64 (.lit (10))) (.cons (.int .i64 (.lit (2000))) (.cons (.tup (.cons (.int .i64 (.lit (911))) .nil)) (.cons (.int .i64 (.lit (0))) .nil))))))))) (.b2 .le (.iapp 36 (.cons (.int .i64 (.lit (1))) (.cons (.int .i64 (.lit (0))) (.cons (.int .i64 (.lit (1))) (.cons (.int .i64 (.lit (10))) (.cons (.int .i64 (.lit (2000))) (.cons (.tup (.cons (.int .i64 (.lit (911))) .nil)) (.cons (.int .i64 (.lit (0))) .nil)))))))) (.lit (9223372036854775807))))
 (.br (.b2 .eq (.iapp 26 (.cons (.int .i64 (.lit (1))) (.cons (.int .i64 (.lit (0))) (.cons (.int .i64 (.lit (1))) (.cons (.int .i64 (.lit (500000000))) .nil))))) (.lit (0)))
 (.br (.b2 .eq (.iapp 34 (.cons (.int .i64 (.lit (1))) (.cons (.int .i64 (.lit (0))) (.cons (.int .i64 (.lit (1))) (.cons (.int .i64 (.lit (10))) (.cons (.int .i64 (.lit (2000))) (.cons (.tup (.cons (.int .i64 (.lit (911))) .nil)) (.cons (.int .i64 (.lit (0))) .nil)))))))) (.lit (0)))
 (.br (.b2 .eq (.iapp 30 (.cons (.int .i64 (.lit (1))) (.cons (.int .i64 (.lit (0))) (.cons (.int .i64 (.lit (1))) (.cons (.int .i64 (.lit (10))) (.cons (.int .i64 (.lit (2000))) (.cons (.tup (.cons (.int .i64 (.lit (911))) .nil)) (.cons (.int .i64 (.iapp 35 (.cons (.int .i64 (.lit (1))) (.cons (.int .i64 (.lit (0))) (.cons (.int .i64 (.lit (1))) (.cons (.int .i64 (.lit (10))) (.cons (.int .i64 (.lit (2000))) (.cons (.tup (.cons (.int .i64 (.lit (911))) .nil)) (.cons (.int .i64 (.lit (0))) .nil))))))))) .nil)))))))) (.lit (0)))
 (.br (.b2 .eq (.iapp 30 (.cons (.int .i64 (.lit (1))) (.cons (.int .i64 (.lit (0))) (.cons (.int .i64 (.lit (1))) (.cons (.int .i64 (.lit (10))) (.cons (.int .i64 (.lit (2000))) (.cons (.tup (.cons (.int .i64 (.lit (911))) .nil)) (.cons (.int .i64 (.iapp 36 (.cons (.int .i64 (.lit (1))) (.cons (.int .i64 (.lit (0))) (.cons (.int .i64 (.lit (1))) (.cons (.int .i64 (.lit (10))) (.cons (.int .i64 (.lit (2000))) (.cons (.tup (.cons (.int .i64 (.lit (911))) .nil)) (.cons (.int .i64 (.lit (0))) .nil))))))))) .nil)))))))) (.lit (0)))
 (.br (.b2 .eq (.iapp 27 (.cons (.int .i64 (.lit (1))) (.cons (.int .i64 (.lit (0))) (.cons (.int .i64 (.lit (1))) (.cons (.int .i64 (.lit (500000000))) .nil))))) (.lit (250000000)))
 (.br (.b2 .eq (.wrap .i64 (.i2 .sub (.iapp 36 (.cons (.int .i64 (.lit (1))) (.cons (.int .i64 (.lit (0))) (.cons (.int .i64 (.lit (1))) (.cons (.int .i64 (.lit (10))) (.cons (.int .i64 (.lit (2000))) (.cons (.tup (.cons (.int .i64 (.lit (911))) .nil)) (.cons (.int .i64 (.lit (0))) .nil)))))))) (.iapp 35 (.cons (.int .i64 (.lit (1))) (.cons (.int .i64 (.lit (0))) (.cons (.int .i64 (.lit (1))) (.cons (.int .i64 (.lit (10))) (.cons (.int .i64 (.lit (2000))) (.cons (.tup (.cons (.int .i64 (.lit (911))) .nil)) (.cons (.int .i64 (.lit (0))) .nil)))))))))) (.lit (2000000000)))
 (.br (.b2 .eq (.wrap .i64 (.i2 .sub (.iapp 31 (.cons (.int .i64 (.lit (1))) (.cons (.int .i64 (.lit (0))) (.cons (.int .i64 (.lit (1))) (.cons (.int .i64 (.lit (10))) (.cons (.int .i64 (.lit (2000))) (.cons (.tup (.cons (.int .i64 (.lit (911))) .nil)) (.cons (.int .i64 (.iapp 36 (.cons (.int .i64 (.lit (1))) (.cons (.int .i64 (.lit (0))) (.cons (.int .i64 (.lit (1))) (.cons (.int .i64 (.lit (10))) (.cons (.int .i64 (.lit (2000))) (.cons (.tup (.cons (.int .i64 (.lit (911))) .nil)) (.cons (.int .i64 (.lit (0))) .nil))))))))) .nil)))))))) (.iapp 31 (.cons (.int .i64 (.lit (1))) (.cons (.int .i64 (.lit (0))) (.cons (.int .i64 (.lit (1))) (.cons (.int .i64 (.lit (10))) (.cons (.int .i64 (.lit (2000))) (.cons (.tup (.cons (.int .i64 (.lit (911))) .nil)) (.cons (.int .i64 (.iapp 35 (.cons (.int .i64 (.lit (1))) (.cons (.int .i64 (.lit (0))) (.cons (.int .i64 (.lit (1))) (.cons (.int .i64 (.lit (10))) (.cons (.int .i64 (.lit (2000))) (.cons (.tup (.cons (.int .i64 (.lit (911))) .nil)) (.cons (.int .i64 (.lit (0))) .nil))))))))) .nil)))))))))) (.lit (1000000000)))
 (.br (.b2 .eq (.iapp 31 (.cons (.int .i64 (.lit (1))) (.cons (.int .i64 (.lit (0))) (.cons (.int .i64 (.lit (1))) (.cons (.int .i64 (.lit (10))) (.cons (.int .i64 (.lit (2000))) (.cons (.tup (.cons (.int .i64 (.lit (911))) .nil)) (.cons (.int .i64 (.iapp 36 (.cons (.int .i64 (.lit (1))) (.cons (.int .i64 (.lit (0))) (.cons (.int .i64 (.lit (1))) (.cons (.int .i64 (.lit (10))) (.cons (.int .i64 (.lit (2000))) (.cons (.tup (.cons (.int .i64 (.lit (911))) .nil)) (.cons (.int .i64 (.lit (0))) .nil))))))))) .nil)))))))) (.lit (78796801000000000)))
 (.ret (.bool (.b2 .eq (.iapp 20 (.cons (.int .i64 (.lit (2))) (.cons (.int .i64 (.lit (0))) (.cons (.int .i64 (.lit (5))) .nil)))) (.lit (1)))))
 (.ret (.bool (.tt false))))
 (.ret (.bool (.tt false))))
 (.ret (.bool (.tt false))))
 (.ret (.bool (.tt false))))
 (.ret (.bool (.tt false))))
 (.ret (.bool (.tt false))))
 (.ret (.bool (.tt false))))
 (.ret (.bool (.tt false))))))
abbrev s12cc_sure12 : Con := ⟨63, [], (.tt true), (.bool (.tt true)), ⟨0, 0, 0, 0⟩, none⟩
theorem sure12_w : walk Tryd.prog 182 ⟨[s12c_slag, s12c_sWin, s12c_sat, s12c_scheck, s12cc_num], syG, [], [], []⟩ [] .v s12cc_sure12 s12cc_sure12.n 3000 = some sure12_tree := by kernel_rfl
theorem sure12_h  (hc : holds (s12cE [] [] [] []) (.tt true)) (hty : patsTyp (s12cE [] [] [] []) []) : sure12_tree.holds (fun v_ => v_ = denV (s12cE [] [] [] []) b0 (.bool (.tt true))) (s12cE [] [] [] []) := by
  simp only [Tree.holds, Sy.holds, AllN, Env.more, s12cE, List.cons_append, List.nil_append, List.append_nil, denV, denI, denB, denL, I2.den, VOp.den, List.getD_cons_zero, List.getD_cons_succ, Cst.den, syso, syse, syio, sybo, s12ci_may, s12ci_lcnt, s12ci_lct, s12ci_least, s12ci_wrong, s12ci_sec, s12ci_aheadI, s12ci_lenI, s12ci_begI, s12ci_utcE, s12ci_utcD, s12ci_utcS, s12ci_utcN, s12ci_sz, s12ci_sa, s12ci_nv, s12ci_ne, s12ci_dq, s12ci_dm, s12ci_de, s12ci_sm, s12ci_sln, s12ci_wb, s12ci_wn, s12ci_fits, s12ci_last, s12ci_lge, s12ci_lgv, s12ci_mdn, s12ci_mde, s12ci_ate, s12ci_atv, s12ci_pln, s12ci_cel, s12ci_wse, s12ci_wsb, s12ci_wsn, s12ci_upf, s12ci_pla, s12ci_wiv, s12ci_wbj, s12cb_lok, s12cb_mayb, s12cb_fitl, s12cb_noj, List.map_nil, List.map_cons, B2.ofInts, B2.denI, B2.denB, if_true, Bool.false_eq_true, if_false, Nat.div_one, Nat.mul_one, Nat.add_zero, holds] at hc
  simp only [patsTyp, patTyp, patTypL, s12cE, denV, denL, List.getD_cons_zero, List.getD_cons_succ, and_true, true_and] at hty
  unfold sure12_tree
  simp only [Tree.holds, Sy.holds, AllN, Env.more, s12cE, List.cons_append, List.nil_append, List.append_nil, denV, denI, denB, denL, I2.den, VOp.den, List.getD_cons_zero, List.getD_cons_succ, Cst.den, syso, syse, syio, sybo, s12ci_may, s12ci_lcnt, s12ci_lct, s12ci_least, s12ci_wrong, s12ci_sec, s12ci_aheadI, s12ci_lenI, s12ci_begI, s12ci_utcE, s12ci_utcD, s12ci_utcS, s12ci_utcN, s12ci_sz, s12ci_sa, s12ci_nv, s12ci_ne, s12ci_dq, s12ci_dm, s12ci_de, s12ci_sm, s12ci_sln, s12ci_wb, s12ci_wn, s12ci_fits, s12ci_last, s12ci_lge, s12ci_lgv, s12ci_mdn, s12ci_mde, s12ci_ate, s12ci_atv, s12ci_pln, s12ci_cel, s12ci_wse, s12ci_wsb, s12ci_wsn, s12ci_upf, s12ci_pla, s12ci_wiv, s12ci_wbj, s12cb_lok, s12cb_mayb, s12cb_fitl, s12cb_noj, List.map_nil, List.map_cons, B2.ofInts, B2.denI, B2.denB, if_true, Bool.false_eq_true, if_false, Nat.div_one, Nat.mul_one, Nat.add_zero]
  have e : intsOf (Value.tuple #[Value.int .i64 911]) = [911] := rfl
  have q1 : wsB 1 0 1 10 2000 [911] 0 = 78796810000000000 := by decide
  have q2 : wsN 1 0 1 10 2000 [911] 0 = 78796812000000000 := by decide
  have q3 : wsE 1 0 1 10 2000 [911] 0 = 0 := by decide
  have q4 : atE 1 0 1 10 2000 [911] 78796810000000000 = 0 := by decide
  have q5 : atE 1 0 1 10 2000 [911] 78796812000000000 = 0 := by decide
  have q6 : atV 1 0 1 10 2000 [911] 78796810000000000 = 78796800000000000 := by decide
  have q7 : atV 1 0 1 10 2000 [911] 78796812000000000 = 78796801000000000 := by decide
  have q8 : lagE 1 0 1 500000000 = 0 := by decide
  have q9 : lagV 1 0 1 500000000 = 250000000 := by decide
  have q10 : smI 2 0 5 = 1 := by decide
  have q11 : IntKind.wrap .i64 (78796812000000000 - 78796810000000000) = 2000000000 := by decide
  have q12 : IntKind.wrap .i64 (78796801000000000 - 78796800000000000) = 1000000000 := by decide
  refine ⟨?_, fun h0 => ?_⟩
  ·
   simp only [e, q1, q2, q3, q4, q5, q6, q7, q8, q9, q10, q11, q12]
   first
   | exact True.intro
   | omega
  ·
   refine ⟨?_, fun h1 => ?_⟩
   ·
    simp only [e, q1, q2, q3, q4, q5, q6, q7, q8, q9, q10, q11, q12]
    first
    | exact True.intro
    | omega
   ·
    refine ⟨fun h2 => ?_, fun h2 => ?_⟩
    ·
     refine ⟨fun h3 => ?_, fun h3 => ?_⟩
     ·
      refine ⟨fun h4 => ?_, fun h4 => ?_⟩
      ·
       refine ⟨fun h5 => ?_, fun h5 => ?_⟩
       ·
        refine ⟨fun h6 => ?_, fun h6 => ?_⟩
        ·
         refine ⟨fun h7 => ?_, fun h7 => ?_⟩
         ·
          refine ⟨fun h8 => ?_, fun h8 => ?_⟩
          ·
           refine ⟨fun h9 => ?_, fun h9 => ?_⟩
           ·
            simp only [e, q1, q2, q3, q4, q5, q6, q7, q8, q9, q10, q11, q12] at *
            first
            | rfl
            | (exfalso; omega)
            | (exfalso
               simp only [not_true_eq_false] at *
               done)
            | (exfalso
               simp at *
               done)
           ·
            simp only [e, q1, q2, q3, q4, q5, q6, q7, q8, q9, q10, q11, q12] at *
            first
            | rfl
            | (exfalso; omega)
            | (exfalso
               simp only [not_true_eq_false] at *
               done)
            | (exfalso
               simp at *
               done)
          ·
           simp only [e, q1, q2, q3, q4, q5, q6, q7, q8, q9, q10, q11, q12] at *
           first
           | rfl
           | (exfalso; omega)
           | (exfalso
              simp only [not_true_eq_false] at *
              done)
           | (exfalso
              simp at *
              done)
         ·
          simp only [e, q1, q2, q3, q4, q5, q6, q7, q8, q9, q10, q11, q12] at *
          first
          | rfl
          | (exfalso; omega)
          | (exfalso
             simp only [not_true_eq_false] at *
             done)
          | (exfalso
             simp at *
             done)
        ·
         simp only [e, q1, q2, q3, q4, q5, q6, q7, q8, q9, q10, q11, q12] at *
         first
         | rfl
         | (exfalso; omega)
         | (exfalso
            simp only [not_true_eq_false] at *
            done)
         | (exfalso
            simp at *
            done)
       ·
        simp only [e, q1, q2, q3, q4, q5, q6, q7, q8, q9, q10, q11, q12] at *
        first
        | rfl
        | (exfalso; omega)
        | (exfalso
           simp only [not_true_eq_false] at *
           done)
        | (exfalso
           simp at *
           done)
      ·
       simp only [e, q1, q2, q3, q4, q5, q6, q7, q8, q9, q10, q11, q12] at *
       first
       | rfl
       | (exfalso; omega)
       | (exfalso
          simp only [not_true_eq_false] at *
          done)
       | (exfalso
          simp at *
          done)
     ·
      simp only [e, q1, q2, q3, q4, q5, q6, q7, q8, q9, q10, q11, q12] at *
      first
      | rfl
      | (exfalso; omega)
      | (exfalso
         simp only [not_true_eq_false] at *
         done)
      | (exfalso
         simp at *
         done)
    ·
     simp only [e, q1, q2, q3, q4, q5, q6, q7, q8, q9, q10, q11, q12] at *
     first
     | rfl
     | (exfalso; omega)
     | (exfalso
        simp only [not_true_eq_false] at *
        done)
     | (exfalso
        simp at *
        done)
theorem s12cg_sure12 : s12cc_sure12.Good Tryd.prog syG (s12cE [] [] [] []) := good_of_walk (Γ := ⟨[s12c_slag, s12c_sWin, s12c_sat, s12c_scheck, s12cc_num], syG, [], [], []⟩) (ρ := s12cE [] [] [] []) sym sure12_w rfl (fun _ _ _ _ => (ok_cons (Con.Good.env (Con.Good.up (Con.Good.up s12g_slag s12bup rfl) s12cup rfl) _ _ _ _) (ok_cons (Con.Good.env (Con.Good.up (Con.Good.up s12g_sWin s12bup rfl) s12cup rfl) _ _ _ _) (ok_cons (Con.Good.env (Con.Good.up (Con.Good.up s12g_sat s12bup rfl) s12cup rfl) _ _ _ _) (ok_cons (Con.Good.env (Con.Good.up (Con.Good.up s12g_scheck s12bup rfl) s12cup rfl) _ _ _ _) (ok_cons (Con.Good.env s12cg_num _ _ _ _) ok_nil)))))) (fun hc hty => sure12_h  hc hty)
end Go.Proofs.YtbjgopehomnpgaaDoor
