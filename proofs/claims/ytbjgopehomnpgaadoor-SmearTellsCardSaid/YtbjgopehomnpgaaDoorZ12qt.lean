/-
  Layer 12 by the second engine: smears.
-/
import Derived.Test.YtbjgopehomnpgaaDoorSycqt
import Derived.Test.YtbjgopehomnpgaaDoorZ12aqt
import Derived.Test.YtbjgopehomnpgaaDoorN12cqt
import Derived.Test.YtbjgopehomnpgaaDoorW02sqt
namespace Go.Proofs.YtbjgopehomnpgaaDoor
open Go.RowKit Go.Extern.Stop Go.Stop Go.Extern Go.Proofs.YtbjgopehomnpgaaDoor.Sy
set_option linter.unusedVariables false
set_option linter.unusedSimpArgs false
def plaI (b t : Int) (l : List Int) (d n : Int) : Int := if wrongI b t l d = 0 then plN b l n d else 0
def wiI (k B A b t : Int) (l : List Int) (d g : Int) : Int := wbN B b l d + g - (b + ctL l d) * 1000000000 - lagV k B A g
theorem md_in {a b c : Int} (hc : 1 ≤ c) (h0 : -c ≤ a) (h1 : a ≤ c) (hb : 0 ≤ b) (hb2 : b ≤ 2000000000) : mdN a b c = mdF a b c ∧ mdE a b c = 0 ∧ -b ≤ mdF a b c ∧ mdF a b c ≤ b := by
  have h := mdF_rng hc h0 h1 hb
  have hin : InR (a * b / c) := by
    unfold mdF at h
    constructor <;> omega
  refine ⟨?_, ?_, h⟩
  · unfold mdN mdF; rw [if_neg (by omega), if_pos hin]
  · unfold mdE; rw [if_neg (by omega), if_pos hin]
theorem md_in2 {a b c : Int} (hc : 1 ≤ c) (h0 : -c ≤ b) (h1 : b ≤ c) (hb : 0 ≤ a) (hb2 : a ≤ 2000000000) : mdN a b c = mdF a b c ∧ mdE a b c = 0 ∧ -a ≤ mdF a b c ∧ mdF a b c ≤ a := by
  have h := mdF_rng hc h0 h1 hb
  rw [mdF_comm] at h
  have hin : InR (a * b / c) := by
    unfold mdF at h
    constructor <;> omega
  refine ⟨?_, ?_, h⟩
  · unfold mdN mdF; rw [if_neg (by omega), if_pos hin]
  · unfold mdE; rw [if_neg (by omega), if_pos hin]
theorem md_a {g N : Int} (h0 : 0 ≤ g) (h1 : g ≤ N) (h2 : 1 ≤ N) : mdN 2000000000 g N = mdF 2000000000 g N ∧ mdE 2000000000 g N = 0 ∧ 0 ≤ mdF 2000000000 g N ∧ mdF 2000000000 g N ≤ 2000000000 := by
  have := md_in2 (a := 2000000000) (b := g) (c := N) h2 (by omega) h1 (by omega) (by omega)
  exact ⟨this.1, this.2.1, mdF_nn h2 (by omega) h0, this.2.2.2⟩
theorem md_b {g N : Int} (h0 : 0 ≤ g) (h1 : g ≤ N) (h2 : 1 ≤ N) : mdN g 2000000000 N = mdF 2000000000 g N := by
  have := md_in (a := g) (b := 2000000000) (c := N) h2 (by omega) h1 (by omega) (by omega)
  rw [this.1, mdF_comm]
theorem md_c {u r N : Int} (h0 : 0 ≤ u) (h1 : u ≤ N) (h2 : 1 ≤ N) (h3 : 0 ≤ r) (h4 : r ≤ 2000000000) : mdN u r N = mdF u r N ∧ mdE u r N = 0 ∧ 0 ≤ mdF u r N ∧ mdF u r N ≤ 2000000000 := by
  have := md_in (a := u) (b := r) (c := N) h2 (by omega) h1 h3 h4
  exact ⟨this.1, this.2.1, mdF_nn h2 h0 h3, Int.le_trans this.2.2.2 h4⟩
theorem lg_facts {B A g : Int} (g0 : 0 ≤ g) (g1 : g ≤ slN B A) (h1 : 1 ≤ slN B A) (h2 : slN B A ≤ 100000000000000) : (mdN 2000000000 g (slN B A) = mdF 2000000000 g (slN B A) ∧ mdE 2000000000 g (slN B A) = 0 ∧ 0 ≤ mdF 2000000000 g (slN B A) ∧ mdF 2000000000 g (slN B A) ≤ 2000000000) ∧ mdN g 2000000000 (slN B A) = mdF 2000000000 g (slN B A) ∧ (mdN 2000000000 (slN B A - g) (slN B A) = mdF 2000000000 (slN B A - g) (slN B A) ∧ mdE 2000000000 (slN B A - g) (slN B A) = 0 ∧ 0 ≤ mdF 2000000000 (slN B A - g) (slN B A) ∧ mdF 2000000000 (slN B A - g) (slN B A) ≤ 2000000000) ∧ mdN (slN B A - g) 2000000000 (slN B A) = mdF 2000000000 (slN B A - g) (slN B A) ∧ (mdN (slN B A - g) (mdF 2000000000 (slN B A - g) (slN B A)) (slN B A) = mdF (slN B A - g) (mdF 2000000000 (slN B A - g) (slN B A)) (slN B A) ∧ mdE (slN B A - g) (mdF 2000000000 (slN B A - g) (slN B A)) (slN B A) = 0 ∧ 0 ≤ mdF (slN B A - g) (mdF 2000000000 (slN B A - g) (slN B A)) (slN B A) ∧ mdF (slN B A - g) (mdF 2000000000 (slN B A - g) (slN B A)) (slN B A) ≤ 2000000000) ∧ IntKind.wrap .i64 (2 * g) = 2 * g ∧ IntKind.wrap .i64 (slN B A - g) = slN B A - g ∧ ((IntKind.wrap .i64 (1000000000 - mdF (slN B A - g) (mdF 2000000000 (slN B A - g) (slN B A)) (slN B A)) = (1000000000 - mdF (slN B A - g) (mdF 2000000000 (slN B A - g) (slN B A)) (slN B A)) ∨ (1000000000 - mdF (slN B A - g) (mdF 2000000000 (slN B A - g) (slN B A)) (slN B A)) < -9223372036854775808 ∨ 9223372036854775807 < (1000000000 - mdF (slN B A - g) (mdF 2000000000 (slN B A - g) (slN B A)) (slN B A))) ∧ -9223372036854775808 ≤ IntKind.wrap .i64 (1000000000 - mdF (slN B A - g) (mdF 2000000000 (slN B A - g) (slN B A)) (slN B A)) ∧ IntKind.wrap .i64 (1000000000 - mdF (slN B A - g) (mdF 2000000000 (slN B A - g) (slN B A)) (slN B A)) ≤ 9223372036854775807) := by
  have y3 := md_a (g := slN B A - g) (N := slN B A) (by omega) (by omega) (by omega)
  exact ⟨md_a g0 g1 h1, md_b g0 g1 h1, y3, md_b (by omega) (by omega) h1, md_c (by omega) (by omega) h1 y3.2.2.1 y3.2.2.2, by have := wr_i64 (2 * g); omega, by have := wr_i64 (slN B A - g); omega, wr_i64 _⟩
theorem errOf_val (n : Int) : errOf n = errVal 182 n := by unfold errOf errVal; rfl
theorem mdiv_any (a b c : Int) (w : World) (ha : InR a) (hb : InR b) (hc : InR c) : Calls Tryd.prog 119 #[.int .i64 a, .int .i64 b, .int .i64 c] w fun e w' => e = .returned (.tuple #[.int .i64 (mdN a b c), errVal 182 (mdE a b c)]) ∧ Below w.heap.size w w' := by
  have h := wmuldiv_any a b c w ha hb hc
  rw [errOf_val] at h
  exact h
theorem ints_get (l : Value) {j : Nat} (hj : j < (Sy.rows l).length) : Go.RowKit.intOf ((Sy.rows l).getD j Go.undef) = (intsOf l).getD j 0 := (getD_of (ints_at l hj)).symm
theorem lag_in {k B A g : Int} (hs : smI k B A = 0) (hk : k ≠ 0) (h0 : 0 ≤ g) (h1 : g ≤ slN B A) : 0 ≤ lagV k B A g ∧ lagV k B A g ≤ 1000000000 := by
  have s1 := smI_spec k B A
  have hK : KM k B A := by unfold KM; omega
  rw [lagV_C hK hs h0 h1]
  exact lagC_in (M := B + A + 1) rfl hK g
theorem at_plain {k B A b t n : Int} {l : List Int} (he : atE k B A b t l n = 0) (h : k = 0 ∨ noJ B A b l n l.length = true) : atV k B A b t l n = plN b l n (utcD b t l n) := by
  unfold atV
  rw [if_neg (by omega), if_pos]
  rcases h with h | h
  · exact .inl h
  · exact .inr (hitN_none _ h)
theorem at_hit {k B A b t n : Int} {l : List Int} (he : atE k B A b t l n = 0) (hk : k ≠ 0) {j : Nat} (hj : j < l.length) (h0 : noJ B A b l n j = true) (h1 : wbJ B b l j ≤ n) (h2 : n < wbJ B b l j + slN B A) : atV k B A b t l n = plN b l n (l.getD j 0) - lagV k B A (n - wbJ B b l j) := by
  have hin : inJ B A b l n j = true := decide_eq_true ⟨h1, h2⟩
  have hh : hitJ B A b l n = j := hitN_some h0 hin _ hj
  unfold atV
  rw [if_neg (by omega), if_neg (by omega), hh]
  rfl
theorem at_bad {k B A b t n : Int} {l : List Int} (he : atE k B A b t l n ≠ 0) : atV k B A b t l n = 0 := by
  unfold atV
  rw [if_pos he]
def wsE (k B A b t : Int) (l : List Int) (j : Int) : Int := if fitsI k B A b t l ≠ 0 then fitsI k B A b t l else if k = 0 ∨ j < 0 ∨ (l.length : Int) ≤ j then 1 else 0
def wsB (k B A b t : Int) (l : List Int) (j : Int) : Int := if wsE k B A b t l j = 0 then wbJ B b l j.toNat else 0
def wsN (k B A b t : Int) (l : List Int) (j : Int) : Int := if wsE k B A b t l j = 0 then wbJ B b l j.toNat + slN B A else 0
theorem ws_spec (k B A b t : Int) (l : List Int) (j : Int) : (wsE k B A b t l j = fitsI k B A b t l ∧ fitsI k B A b t l ≠ 0 ∧ wsB k B A b t l j = 0 ∧ wsN k B A b t l j = 0) ∨ (fitsI k B A b t l = 0 ∧ wsE k B A b t l j = 1 ∧ (k = 0 ∨ j < 0 ∨ (l.length : Int) ≤ j) ∧ wsB k B A b t l j = 0 ∧ wsN k B A b t l j = 0) ∨ (fitsI k B A b t l = 0 ∧ wsE k B A b t l j = 0 ∧ k ≠ 0 ∧ 0 ≤ j ∧ j < l.length ∧ wsB k B A b t l j = wbJ B b l j.toNat ∧ wsN k B A b t l j = wbJ B b l j.toNat + slN B A) := by
  by_cases h1 : fitsI k B A b t l ≠ 0
  · left
    have e : wsE k B A b t l j = fitsI k B A b t l := by unfold wsE; rw [if_pos h1]
    exact ⟨e, h1, by unfold wsB; rw [e, if_neg h1], by unfold wsN; rw [e, if_neg h1]⟩
  · right
    by_cases h2 : k = 0 ∨ j < 0 ∨ (l.length : Int) ≤ j
    · left
      have e : wsE k B A b t l j = 1 := by unfold wsE; rw [if_neg h1, if_pos h2]
      exact ⟨by omega, e, h2, by unfold wsB; rw [e]; rfl, by unfold wsN; rw [e]; rfl⟩
    · right
      have e : wsE k B A b t l j = 0 := by unfold wsE; rw [if_neg h1, if_neg h2]
      exact ⟨by omega, e, by omega, by omega, by omega, by unfold wsB; rw [e, if_pos rfl], by unfold wsN; rw [e, if_pos rfl]⟩
theorem at_spec (k B A b t n : Int) (l : List Int) : (atE k B A b t l n = fitsI k B A b t l ∧ fitsI k B A b t l ≠ 0) ∨ (fitsI k B A b t l = 0 ∧ atE k B A b t l n = utcE b t l n) := by
  unfold atE
  by_cases h1 : fitsI k B A b t l ≠ 0
  · left; rw [if_pos h1]; exact ⟨rfl, h1⟩
  · right; rw [if_neg h1]; exact ⟨by omega, rfl⟩
theorem errV9 {n : Int} (h : n = 9) : Value.iface 182 (.int .i64 9) = errVal 182 n := by subst h; rfl
noncomputable def s12I : Nat → List Value → Int
  | 30, [.int _ k, .int _ B, .int _ A, .int _ b, .int _ t, l, .int _ n] => atE k B A b t (intsOf l) n
  | 31, [.int _ k, .int _ B, .int _ A, .int _ b, .int _ t, l, .int _ n] => atV k B A b t (intsOf l) n
  | 32, [.int _ b, l, .int _ n, .int _ d] => plN b (intsOf l) n d
  | 33, [l, .int _ j] => (intsOf l).getD j.toNat 0
  | 34, [.int _ k, .int _ B, .int _ A, .int _ b, .int _ t, l, .int _ j] => wsE k B A b t (intsOf l) j
  | 35, [.int _ k, .int _ B, .int _ A, .int _ b, .int _ t, l, .int _ j] => wsB k B A b t (intsOf l) j
  | 36, [.int _ k, .int _ B, .int _ A, .int _ b, .int _ t, l, .int _ j] => wsN k B A b t (intsOf l) j
  | 37, [.int _ a, .int _ b, .int _ c] => upF a b c
  | 38, [.int _ b, .int _ t, l, .int _ d, .int _ n] => plaI b t (intsOf l) d n
  | 39, [.int _ k, .int _ B, .int _ A, .int _ b, .int _ t, l, .int _ d, .int _ g] => wiI k B A b t (intsOf l) d g
  | i, l => s12aI i l
noncomputable def s12B : Nat → List Value → Bool
  | 2, [.int _ B, .int _ A, .int _ b, l, .int _ n] => fitL B A b (intsOf l) n.toNat
  | 3, [.int _ B, .int _ A, .int _ b, l, .int _ n, .int _ m] => noJ B A b (intsOf l) n m.toNat
  | i, l => s12aB i l
noncomputable def s12V : Nat → List Value → Value
  | i, l => s12aV i l
noncomputable abbrev s12E (iv : List Int) (bv : List Bool) (vv : List Value) (sv : List ByteArray) : Env := { iv := iv, bv := bv, vv := vv, sv := sv, fi := s12I, fb := s12B, fv := s12V, et := 182 }
set_option maxHeartbeats 8000000 in
theorem s12up : Agree 30 2 0 (s12aE [] [] [] []) (s12E [] [] [] []) := ⟨rfl, (by
    intro f hf
    funext l
    show s12I f l = s12aI f l
    unfold s12I
    split <;> first | rfl | omega), (by
    intro f hf
    funext l
    show s12B f l = s12aB f l
    unfold s12B
    split <;> first | rfl | omega), (by
    intro f hf
    funext l
    show s12V f l = s12aV f l
    unfold s12V
    split <;> first | rfl | omega)⟩
theorem s12i_may (k1 : IntKind) (b : Int) (k2 : IntKind) (t : Int) (l : Value) : s12I 0 [.int k1 b, .int k2 t, l] = mayI b t (intsOf l) := rfl
theorem s12i_wrong (k1 : IntKind) (b : Int) (k2 : IntKind) (t : Int) (l : Value) (k3 : IntKind) (d : Int) : s12I 4 [.int k1 b, .int k2 t, l, .int k3 d] = wrongI b t (intsOf l) d := rfl
theorem s12i_aheadI (k1 : IntKind) (b : Int) (k2 : IntKind) (t : Int) (l : Value) (k3 : IntKind) (d : Int) : s12I 6 [.int k1 b, .int k2 t, l, .int k3 d] = aheadI b t (intsOf l) d := rfl
theorem s12i_begI (k1 : IntKind) (b : Int) (k2 : IntKind) (t : Int) (l : Value) (k3 : IntKind) (d : Int) : s12I 8 [.int k1 b, .int k2 t, l, .int k3 d] = begI b t (intsOf l) d := rfl
theorem s12i_utcE (k1 : IntKind) (b : Int) (k2 : IntKind) (t : Int) (l : Value) (k3 : IntKind) (n : Int) : s12I 9 [.int k1 b, .int k2 t, l, .int k3 n] = utcE b t (intsOf l) n := rfl
theorem s12i_utcD (k1 : IntKind) (b : Int) (k2 : IntKind) (t : Int) (l : Value) (k3 : IntKind) (n : Int) : s12I 10 [.int k1 b, .int k2 t, l, .int k3 n] = utcD b t (intsOf l) n := rfl
theorem s12i_sm (k1 : IntKind) (k : Int) (k2 : IntKind) (B : Int) (k3 : IntKind) (A : Int) : s12I 20 [.int k1 k, .int k2 B, .int k3 A] = smI k B A := rfl
theorem s12i_sln (k1 : IntKind) (B : Int) (k2 : IntKind) (A : Int) : s12I 21 [.int k1 B, .int k2 A] = slN B A := rfl
theorem s12i_wb (k1 : IntKind) (B : Int) (k2 : IntKind) (b : Int) (k3 : IntKind) (t : Int) (l : Value) (k4 : IntKind) (d : Int) : s12I 22 [.int k1 B, .int k2 b, .int k3 t, l, .int k4 d] = winB B b t (intsOf l) d := rfl
theorem s12i_wn (k1 : IntKind) (B : Int) (k2 : IntKind) (A : Int) (k3 : IntKind) (b : Int) (k4 : IntKind) (t : Int) (l : Value) (k5 : IntKind) (d : Int) : s12I 23 [.int k1 B, .int k2 A, .int k3 b, .int k4 t, l, .int k5 d] = winN B A b t (intsOf l) d := rfl
theorem s12i_fits (k1 : IntKind) (k : Int) (k2 : IntKind) (B : Int) (k3 : IntKind) (A : Int) (k4 : IntKind) (b : Int) (k5 : IntKind) (t : Int) (l : Value) : s12I 24 [.int k1 k, .int k2 B, .int k3 A, .int k4 b, .int k5 t, l] = fitsI k B A b t (intsOf l) := rfl
theorem s12i_last (k1 : IntKind) (B : Int) (k2 : IntKind) (A : Int) (k3 : IntKind) (b : Int) (l : Value) (k4 : IntKind) (n : Int) : s12I 25 [.int k1 B, .int k2 A, .int k3 b, l, .int k4 n] = lastN B A b (intsOf l) n.toNat := rfl
theorem s12i_lge (k1 : IntKind) (k : Int) (k2 : IntKind) (B : Int) (k3 : IntKind) (A : Int) (k4 : IntKind) (g : Int) : s12I 26 [.int k1 k, .int k2 B, .int k3 A, .int k4 g] = lagE k B A g := rfl
theorem s12i_lgv (k1 : IntKind) (k : Int) (k2 : IntKind) (B : Int) (k3 : IntKind) (A : Int) (k4 : IntKind) (g : Int) : s12I 27 [.int k1 k, .int k2 B, .int k3 A, .int k4 g] = lagV k B A g := rfl
theorem s12i_mdn (k1 : IntKind) (a : Int) (k2 : IntKind) (b : Int) (k3 : IntKind) (c : Int) : s12I 28 [.int k1 a, .int k2 b, .int k3 c] = mdN a b c := rfl
theorem s12i_mde (k1 : IntKind) (a : Int) (k2 : IntKind) (b : Int) (k3 : IntKind) (c : Int) : s12I 29 [.int k1 a, .int k2 b, .int k3 c] = mdE a b c := rfl
theorem s12i_ate (k1 : IntKind) (k : Int) (k2 : IntKind) (B : Int) (k3 : IntKind) (A : Int) (k4 : IntKind) (b : Int) (k5 : IntKind) (t : Int) (l : Value) (k6 : IntKind) (n : Int) : s12I 30 [.int k1 k, .int k2 B, .int k3 A, .int k4 b, .int k5 t, l, .int k6 n] = atE k B A b t (intsOf l) n := rfl
theorem s12i_atv (k1 : IntKind) (k : Int) (k2 : IntKind) (B : Int) (k3 : IntKind) (A : Int) (k4 : IntKind) (b : Int) (k5 : IntKind) (t : Int) (l : Value) (k6 : IntKind) (n : Int) : s12I 31 [.int k1 k, .int k2 B, .int k3 A, .int k4 b, .int k5 t, l, .int k6 n] = atV k B A b t (intsOf l) n := rfl
theorem s12i_wse (k1 : IntKind) (k : Int) (k2 : IntKind) (B : Int) (k3 : IntKind) (A : Int) (k4 : IntKind) (b : Int) (k5 : IntKind) (t : Int) (l : Value) (k6 : IntKind) (j : Int) : s12I 34 [.int k1 k, .int k2 B, .int k3 A, .int k4 b, .int k5 t, l, .int k6 j] = wsE k B A b t (intsOf l) j := rfl
theorem s12i_wsb (k1 : IntKind) (k : Int) (k2 : IntKind) (B : Int) (k3 : IntKind) (A : Int) (k4 : IntKind) (b : Int) (k5 : IntKind) (t : Int) (l : Value) (k6 : IntKind) (j : Int) : s12I 35 [.int k1 k, .int k2 B, .int k3 A, .int k4 b, .int k5 t, l, .int k6 j] = wsB k B A b t (intsOf l) j := rfl
theorem s12i_wsn (k1 : IntKind) (k : Int) (k2 : IntKind) (B : Int) (k3 : IntKind) (A : Int) (k4 : IntKind) (b : Int) (k5 : IntKind) (t : Int) (l : Value) (k6 : IntKind) (j : Int) : s12I 36 [.int k1 k, .int k2 B, .int k3 A, .int k4 b, .int k5 t, l, .int k6 j] = wsN k B A b t (intsOf l) j := rfl
theorem s12i_upf (k1 : IntKind) (a : Int) (k2 : IntKind) (b : Int) (k3 : IntKind) (c : Int) : s12I 37 [.int k1 a, .int k2 b, .int k3 c] = upF a b c := rfl
theorem s12i_pla (k1 : IntKind) (b : Int) (k2 : IntKind) (t : Int) (l : Value) (k3 : IntKind) (d : Int) (k4 : IntKind) (n : Int) : s12I 38 [.int k1 b, .int k2 t, l, .int k3 d, .int k4 n] = plaI b t (intsOf l) d n := rfl
theorem s12i_wiv (k1 : IntKind) (k : Int) (k2 : IntKind) (B : Int) (k3 : IntKind) (A : Int) (k4 : IntKind) (b : Int) (k5 : IntKind) (t : Int) (l : Value) (k6 : IntKind) (d : Int) (k7 : IntKind) (g : Int) : s12I 39 [.int k1 k, .int k2 B, .int k3 A, .int k4 b, .int k5 t, l, .int k6 d, .int k7 g] = wiI k B A b t (intsOf l) d g := rfl
theorem s12b_fitl (k1 : IntKind) (B : Int) (k2 : IntKind) (A : Int) (k3 : IntKind) (b : Int) (l : Value) (k4 : IntKind) (n : Int) : s12B 2 [.int k1 B, .int k2 A, .int k3 b, l, .int k4 n] = fitL B A b (intsOf l) n.toNat := rfl
theorem s12b_noj (k1 : IntKind) (B : Int) (k2 : IntKind) (A : Int) (k3 : IntKind) (b : Int) (l : Value) (k4 : IntKind) (n : Int) (k5 : IntKind) (m : Int) : s12B 3 [.int k1 B, .int k2 A, .int k3 b, l, .int k4 n, .int k5 m] = noJ B A b (intsOf l) n m.toNat := rfl
abbrev s12c_mdiv : Con := ⟨119, [z0_, z1_, z2_], (an_ (an_ (le_ lm_ v0_) (le_ v0_ lM_)) (an_ (an_ (le_ lm_ v1_) (le_ v1_ lM_)) (an_ (le_ lm_ v2_) (le_ v2_ lM_)))), (.tup (.cons (.int .i64 (.iapp 28 (.cons z0_ (.cons z1_ (.cons z2_ .nil))))) (.cons (.err (.iapp 29 (.cons z0_ (.cons z1_ (.cons z2_ .nil))))) .nil))), ⟨3, 0, 0, 0⟩, none⟩
theorem s12g_mdiv : s12c_mdiv.Good Tryd.prog syG (s12E [] [] [] []) := good_flat rfl rfl rfl (by
  intro a b c hc β ok w hG
  have hc' := hc
  simp only [Tree.holds, Sy.holds, AllN, Env.more, s12E, List.cons_append, List.nil_append, List.append_nil, denV, denI, denB, denL, I2.den, VOp.den, List.getD_cons_zero, List.getD_cons_succ, Cst.den, syso, syse, syio, sybo, s12i_mdn, s12i_mde, List.map_nil, List.map_cons, B2.ofInts, B2.denI, B2.denB, if_true, Bool.false_eq_true, if_false, Nat.div_one, Nat.mul_one, Nat.add_zero, holds] at hc
  exact mdiv_any a b c w hc.1 hc.2.1 hc.2.2)
abbrev s12c_rmdiv : Con := ⟨153, [z0_, z1_, z2_], (an_ (an_ (le_ lm_ v0_) (le_ v0_ lM_)) (an_ (an_ (le_ lm_ v1_) (le_ v1_ lM_)) (an_ (le_ lm_ v2_) (le_ v2_ lM_)))), (.tup (.cons (.int .i64 (.iapp 28 (.cons z0_ (.cons z1_ (.cons z2_ .nil))))) (.cons (.int .i64 (.iapp 29 (.cons z0_ (.cons z1_ (.cons z2_ .nil))))) .nil))), ⟨3, 0, 0, 0⟩, none⟩
theorem s12g_rmdiv : s12c_rmdiv.Good Tryd.prog syG (s12E [] [] [] []) := good_flat rfl rfl rfl (by
  intro a b c hc β ok w hG
  have hc' := hc
  simp only [Tree.holds, Sy.holds, AllN, Env.more, s12E, List.cons_append, List.nil_append, List.append_nil, denV, denI, denB, denL, I2.den, VOp.den, List.getD_cons_zero, List.getD_cons_succ, Cst.den, syso, syse, syio, sybo, s12i_mdn, s12i_mde, List.map_nil, List.map_cons, B2.ofInts, B2.denI, B2.denB, if_true, Bool.false_eq_true, if_false, Nat.div_one, Nat.mul_one, Nat.add_zero, holds] at hc
  exact rmuldiv a b c w hc.1 hc.2.1 hc.2.2)
def scheck_tree : Tree :=
 (.br (lt_ v1_ (.lit 0))
 (.ret (.iface 182 (.int .i64 (.lit 1))))
 (.br (lt_ (.lit 43200) v1_)
 (.ret (.iface 182 (.int .i64 (.lit 1))))
 (.br (lt_ v2_ (.lit 0))
 (.ret (.iface 182 (.int .i64 (.lit 1))))
 (.br (lt_ (.lit 43200) v2_)
 (.ret (.iface 182 (.int .i64 (.lit 1))))
 (.br (eq_ v0_ (.lit 0))
 (.br (.not (eq_ (wr_ (ad_ v1_ v2_)) (.lit 0)))
 (.ret (.iface 182 (.int .i64 (.lit 1))))
 (.ret (.cst .nilI)))
 (.br (eq_ v0_ (.lit 1))
 (.br (.not (le_ (.lit 1) (wr_ (ad_ v1_ v2_))))
 (.ret (.iface 182 (.int .i64 (.lit 1))))
 (.ret (.cst .nilI)))
 (.br (eq_ v0_ (.lit 2))
 (.br (.not (le_ (.lit 3600) (wr_ (ad_ v1_ v2_))))
 (.ret (.iface 182 (.int .i64 (.lit 1))))
 (.ret (.cst .nilI)))
 (.ret (.iface 182 (.int .i64 (.lit 1)))))))))))
abbrev s12c_scheck : Con := ⟨68, [(.agg (.cons z0_ (.cons z1_ (.cons z2_ .nil))))], (an_ (an_ (le_ lm_ v0_) (le_ v0_ lM_)) (an_ (an_ (le_ lm_ v1_) (le_ v1_ lM_)) (an_ (le_ lm_ v2_) (le_ v2_ lM_)))), (.err (.iapp 20 (.cons z0_ (.cons z1_ (.cons z2_ .nil))))), ⟨3, 0, 0, 0⟩, none⟩
theorem scheck_w : walk Tryd.prog 182 ⟨[], syG, [], [], []⟩ [] .v s12c_scheck s12c_scheck.n 3000 = some scheck_tree := by kernel_rfl
theorem scheck_h (k : Int) (B : Int) (A : Int) (hc : holds (s12E [k, B, A] [] [] []) (an_ (an_ (le_ lm_ v0_) (le_ v0_ lM_)) (an_ (an_ (le_ lm_ v1_) (le_ v1_ lM_)) (an_ (le_ lm_ v2_) (le_ v2_ lM_))))) (hty : patsTyp (s12E [k, B, A] [] [] []) [(.agg (.cons z0_ (.cons z1_ (.cons z2_ .nil))))]) : scheck_tree.holds (fun v_ => v_ = denV (s12E [k, B, A] [] [] []) b0 (.err (.iapp 20 (.cons z0_ (.cons z1_ (.cons z2_ .nil)))))) (s12E [k, B, A] [] [] []) := by
  simp only [Tree.holds, Sy.holds, AllN, Env.more, s12E, List.cons_append, List.nil_append, List.append_nil, denV, denI, denB, denL, I2.den, VOp.den, List.getD_cons_zero, List.getD_cons_succ, Cst.den, syso, syse, syio, sybo, List.map_nil, List.map_cons, B2.ofInts, B2.denI, B2.denB, if_true, Bool.false_eq_true, if_false, Nat.div_one, Nat.mul_one, Nat.add_zero, holds] at hc
  simp only [patsTyp, patTyp, patTypL, s12E, denV, denL, List.getD_cons_zero, List.getD_cons_succ, and_true, true_and] at hty
  unfold scheck_tree
  simp only [Tree.holds, Sy.holds, AllN, Env.more, s12E, List.cons_append, List.nil_append, List.append_nil, denV, denI, denB, denL, I2.den, VOp.den, List.getD_cons_zero, List.getD_cons_succ, Cst.den, syso, syse, syio, sybo, s12i_sm, List.map_nil, List.map_cons, B2.ofInts, B2.denI, B2.denB, if_true, Bool.false_eq_true, if_false, Nat.div_one, Nat.mul_one, Nat.add_zero]
  have s1 := smI_spec k B A
  refine ⟨fun h0 => ?_, fun h0 => ?_⟩
  ·
   first
   | (exfalso; omega)
   | exact errV1 (by omega) | exact errV0 (by omega) | exact errV2 (by omega) | exact errV9 (by omega) | exact errV10 (by omega) | (refine congrArg (errVal _) ?_; omega)
  ·
   refine ⟨fun h1 => ?_, fun h1 => ?_⟩
   ·
    first
    | (exfalso; omega)
    | exact errV1 (by omega) | exact errV0 (by omega) | exact errV2 (by omega) | exact errV9 (by omega) | exact errV10 (by omega) | (refine congrArg (errVal _) ?_; omega)
   ·
    refine ⟨fun h2 => ?_, fun h2 => ?_⟩
    ·
     first
     | (exfalso; omega)
     | exact errV1 (by omega) | exact errV0 (by omega) | exact errV2 (by omega) | exact errV9 (by omega) | exact errV10 (by omega) | (refine congrArg (errVal _) ?_; omega)
    ·
     refine ⟨fun h3 => ?_, fun h3 => ?_⟩
     ·
      first
      | (exfalso; omega)
      | exact errV1 (by omega) | exact errV0 (by omega) | exact errV2 (by omega) | exact errV9 (by omega) | exact errV10 (by omega) | (refine congrArg (errVal _) ?_; omega)
     ·
      refine ⟨fun h4 => ?_, fun h4 => ?_⟩
      ·
       have wf0 := wr_i64 (B + A)
       refine ⟨fun h5 => ?_, fun h5 => ?_⟩
       ·
        first
        | (exfalso; omega)
        | exact errV1 (by omega) | exact errV0 (by omega) | exact errV2 (by omega) | exact errV9 (by omega) | exact errV10 (by omega) | (refine congrArg (errVal _) ?_; omega)
       ·
        first
        | (exfalso; omega)
        | exact errV1 (by omega) | exact errV0 (by omega) | exact errV2 (by omega) | exact errV9 (by omega) | exact errV10 (by omega) | (refine congrArg (errVal _) ?_; omega)
      ·
       refine ⟨fun h6 => ?_, fun h6 => ?_⟩
       ·
        have wf1 := wr_i64 (B + A)
        refine ⟨fun h7 => ?_, fun h7 => ?_⟩
        ·
         first
         | (exfalso; omega)
         | exact errV1 (by omega) | exact errV0 (by omega) | exact errV2 (by omega) | exact errV9 (by omega) | exact errV10 (by omega) | (refine congrArg (errVal _) ?_; omega)
        ·
         first
         | (exfalso; omega)
         | exact errV1 (by omega) | exact errV0 (by omega) | exact errV2 (by omega) | exact errV9 (by omega) | exact errV10 (by omega) | (refine congrArg (errVal _) ?_; omega)
       ·
        refine ⟨fun h8 => ?_, fun h8 => ?_⟩
        ·
         have wf2 := wr_i64 (B + A)
         refine ⟨fun h9 => ?_, fun h9 => ?_⟩
         ·
          first
          | (exfalso; omega)
          | exact errV1 (by omega) | exact errV0 (by omega) | exact errV2 (by omega) | exact errV9 (by omega) | exact errV10 (by omega) | (refine congrArg (errVal _) ?_; omega)
         ·
          first
          | (exfalso; omega)
          | exact errV1 (by omega) | exact errV0 (by omega) | exact errV2 (by omega) | exact errV9 (by omega) | exact errV10 (by omega) | (refine congrArg (errVal _) ?_; omega)
        ·
         first
         | (exfalso; omega)
         | exact errV1 (by omega) | exact errV0 (by omega) | exact errV2 (by omega) | exact errV9 (by omega) | exact errV10 (by omega) | (refine congrArg (errVal _) ?_; omega)
theorem s12g_scheck : s12c_scheck.Good Tryd.prog syG (s12E [] [] [] []) := good_of_walk (Γ := ⟨[], syG, [], [], []⟩) (ρ := s12E [] [] [] []) sym scheck_w rfl (fun _ _ _ _ => ok_nil) (fun k B A hc hty => scheck_h k B A hc hty)
def rmay12_tree : Tree :=
 (.br (lt_ v1_ (.lit 0))
 (.ret (.bool (.tt false)))
 (.br (lt_ (.lit 43200) v1_)
 (.ret (.bool (.tt false)))
 (.br (lt_ v2_ (.lit 0))
 (.ret (.bool (.tt false)))
 (.br (lt_ (.lit 43200) v2_)
 (.ret (.bool (.tt false)))
 (.br (eq_ v0_ (.lit 0))
 (.br (eq_ (wr_ (ad_ v1_ v2_)) (.lit 0))
 (.ret (.bool (.tt true)))
 (.br (eq_ v0_ (.lit 1))
 (.br (le_ (.lit 1) (wr_ (ad_ v1_ v2_)))
 (.ret (.bool (.tt true)))
 (.br (eq_ v0_ (.lit 2))
 (.ret (.bool (le_ (.lit 3600) (wr_ (ad_ v1_ v2_)))))
 (.ret (.bool (.tt false)))))
 (.br (eq_ v0_ (.lit 2))
 (.ret (.bool (le_ (.lit 3600) (wr_ (ad_ v1_ v2_)))))
 (.ret (.bool (.tt false))))))
 (.br (eq_ v0_ (.lit 1))
 (.br (le_ (.lit 1) (wr_ (ad_ v1_ v2_)))
 (.ret (.bool (.tt true)))
 (.br (eq_ v0_ (.lit 2))
 (.ret (.bool (le_ (.lit 3600) (wr_ (ad_ v1_ v2_)))))
 (.ret (.bool (.tt false)))))
 (.br (eq_ v0_ (.lit 2))
 (.ret (.bool (le_ (.lit 3600) (wr_ (ad_ v1_ v2_)))))
 (.ret (.bool (.tt false))))))))))
abbrev s12c_rmay12 : Con := ⟨69, [(.agg (.cons z0_ (.cons z1_ (.cons z2_ .nil))))], (an_ (an_ (le_ lm_ v0_) (le_ v0_ lM_)) (an_ (an_ (le_ lm_ v1_) (le_ v1_ lM_)) (an_ (le_ lm_ v2_) (le_ v2_ lM_)))), (.bool (eq_ (.iapp 20 (.cons z0_ (.cons z1_ (.cons z2_ .nil)))) (.lit 0))), ⟨3, 0, 0, 0⟩, none⟩
theorem rmay12_w : walk Tryd.prog 182 ⟨[], syG, [], [], []⟩ [] .v s12c_rmay12 s12c_rmay12.n 3000 = some rmay12_tree := by kernel_rfl
theorem rmay12_h (k : Int) (B : Int) (A : Int) (hc : holds (s12E [k, B, A] [] [] []) (an_ (an_ (le_ lm_ v0_) (le_ v0_ lM_)) (an_ (an_ (le_ lm_ v1_) (le_ v1_ lM_)) (an_ (le_ lm_ v2_) (le_ v2_ lM_))))) (hty : patsTyp (s12E [k, B, A] [] [] []) [(.agg (.cons z0_ (.cons z1_ (.cons z2_ .nil))))]) : rmay12_tree.holds (fun v_ => v_ = denV (s12E [k, B, A] [] [] []) b0 (.bool (eq_ (.iapp 20 (.cons z0_ (.cons z1_ (.cons z2_ .nil)))) (.lit 0)))) (s12E [k, B, A] [] [] []) := by
  simp only [Tree.holds, Sy.holds, AllN, Env.more, s12E, List.cons_append, List.nil_append, List.append_nil, denV, denI, denB, denL, I2.den, VOp.den, List.getD_cons_zero, List.getD_cons_succ, Cst.den, syso, syse, syio, sybo, List.map_nil, List.map_cons, B2.ofInts, B2.denI, B2.denB, if_true, Bool.false_eq_true, if_false, Nat.div_one, Nat.mul_one, Nat.add_zero, holds] at hc
  simp only [patsTyp, patTyp, patTypL, s12E, denV, denL, List.getD_cons_zero, List.getD_cons_succ, and_true, true_and] at hty
  unfold rmay12_tree
  simp only [Tree.holds, Sy.holds, AllN, Env.more, s12E, List.cons_append, List.nil_append, List.append_nil, denV, denI, denB, denL, I2.den, VOp.den, List.getD_cons_zero, List.getD_cons_succ, Cst.den, syso, syse, syio, sybo, s12i_sm, List.map_nil, List.map_cons, B2.ofInts, B2.denI, B2.denB, if_true, Bool.false_eq_true, if_false, Nat.div_one, Nat.mul_one, Nat.add_zero]
  have s1 := smI_spec k B A
  refine ⟨fun h0 => ?_, fun h0 => ?_⟩
  ·
   refine congrArg Value.bool (Bool.eq_iff_iff.2 ?_)
   simp only [beq_iff_eq, decide_eq_true_eq, true_iff, false_iff, Bool.false_eq_true]
   omega
  ·
   refine ⟨fun h1 => ?_, fun h1 => ?_⟩
   ·
    refine congrArg Value.bool (Bool.eq_iff_iff.2 ?_)
    simp only [beq_iff_eq, decide_eq_true_eq, true_iff, false_iff, Bool.false_eq_true]
    omega
   ·
    refine ⟨fun h2 => ?_, fun h2 => ?_⟩
    ·
     refine congrArg Value.bool (Bool.eq_iff_iff.2 ?_)
     simp only [beq_iff_eq, decide_eq_true_eq, true_iff, false_iff, Bool.false_eq_true]
     omega
    ·
     refine ⟨fun h3 => ?_, fun h3 => ?_⟩
     ·
      refine congrArg Value.bool (Bool.eq_iff_iff.2 ?_)
      simp only [beq_iff_eq, decide_eq_true_eq, true_iff, false_iff, Bool.false_eq_true]
      omega
     ·
      refine ⟨fun h4 => ?_, fun h4 => ?_⟩
      ·
       have wf0 := wr_i64 (B + A)
       refine ⟨fun h5 => ?_, fun h5 => ?_⟩
       ·
        refine congrArg Value.bool (Bool.eq_iff_iff.2 ?_)
        simp only [beq_iff_eq, decide_eq_true_eq, true_iff, false_iff, Bool.false_eq_true]
        omega
       ·
        refine ⟨fun h6 => ?_, fun h6 => ?_⟩
        ·
         refine ⟨fun h7 => ?_, fun h7 => ?_⟩
         ·
          refine congrArg Value.bool (Bool.eq_iff_iff.2 ?_)
          simp only [beq_iff_eq, decide_eq_true_eq, true_iff, false_iff, Bool.false_eq_true]
          omega
         ·
          refine ⟨fun h8 => ?_, fun h8 => ?_⟩
          ·
           refine congrArg Value.bool (Bool.eq_iff_iff.2 ?_)
           simp only [beq_iff_eq, decide_eq_true_eq, true_iff, false_iff, Bool.false_eq_true]
           omega
          ·
           refine congrArg Value.bool (Bool.eq_iff_iff.2 ?_)
           simp only [beq_iff_eq, decide_eq_true_eq, true_iff, false_iff, Bool.false_eq_true]
           omega
        ·
         refine ⟨fun h9 => ?_, fun h9 => ?_⟩
         ·
          refine congrArg Value.bool (Bool.eq_iff_iff.2 ?_)
          simp only [beq_iff_eq, decide_eq_true_eq, true_iff, false_iff, Bool.false_eq_true]
          omega
         ·
          refine congrArg Value.bool (Bool.eq_iff_iff.2 ?_)
          simp only [beq_iff_eq, decide_eq_true_eq, true_iff, false_iff, Bool.false_eq_true]
          omega
      ·
       refine ⟨fun h10 => ?_, fun h10 => ?_⟩
       ·
        have wf1 := wr_i64 (B + A)
        refine ⟨fun h11 => ?_, fun h11 => ?_⟩
        ·
         refine congrArg Value.bool (Bool.eq_iff_iff.2 ?_)
         simp only [beq_iff_eq, decide_eq_true_eq, true_iff, false_iff, Bool.false_eq_true]
         omega
        ·
         refine ⟨fun h12 => ?_, fun h12 => ?_⟩
         ·
          refine congrArg Value.bool (Bool.eq_iff_iff.2 ?_)
          simp only [beq_iff_eq, decide_eq_true_eq, true_iff, false_iff, Bool.false_eq_true]
          omega
         ·
          refine congrArg Value.bool (Bool.eq_iff_iff.2 ?_)
          simp only [beq_iff_eq, decide_eq_true_eq, true_iff, false_iff, Bool.false_eq_true]
          omega
       ·
        refine ⟨fun h13 => ?_, fun h13 => ?_⟩
        ·
         have wf2 := wr_i64 (B + A)
         refine congrArg Value.bool (Bool.eq_iff_iff.2 ?_)
         simp only [beq_iff_eq, decide_eq_true_eq, true_iff, false_iff, Bool.false_eq_true]
         omega
        ·
         refine congrArg Value.bool (Bool.eq_iff_iff.2 ?_)
         simp only [beq_iff_eq, decide_eq_true_eq, true_iff, false_iff, Bool.false_eq_true]
         omega
theorem s12g_rmay12 : s12c_rmay12.Good Tryd.prog syG (s12E [] [] [] []) := good_of_walk (Γ := ⟨[], syG, [], [], []⟩) (ρ := s12E [] [] [] []) sym rmay12_w rfl (fun _ _ _ _ => ok_nil) (fun k B A hc hty => rmay12_h k B A hc hty)
def slen_tree : Tree :=
 (.ret (.int .i64 (wr_ (ml_ (wr_ (ad_ (wr_ (ad_ v1_ v2_)) (.lit 1))) (.lit 1000000000)))))
abbrev s12c_slen : Con := ⟨150, [(.agg (.cons z0_ (.cons z1_ (.cons z2_ .nil))))], (an_ (le_ (.lit 0) v1_) (an_ (le_ v1_ (.lit 43200)) (an_ (le_ (.lit 0) v2_) (le_ v2_ (.lit 43200))))), (.int .i64 (.iapp 21 (.cons z1_ (.cons z2_ .nil)))), ⟨3, 0, 0, 0⟩, none⟩
theorem slen_w : walk Tryd.prog 182 ⟨[], syG, [], [], []⟩ [] .v s12c_slen s12c_slen.n 3000 = some slen_tree := by kernel_rfl
theorem slen_h (k : Int) (B : Int) (A : Int) (hc : holds (s12E [k, B, A] [] [] []) (an_ (le_ (.lit 0) v1_) (an_ (le_ v1_ (.lit 43200)) (an_ (le_ (.lit 0) v2_) (le_ v2_ (.lit 43200)))))) (hty : patsTyp (s12E [k, B, A] [] [] []) [(.agg (.cons z0_ (.cons z1_ (.cons z2_ .nil))))]) : slen_tree.holds (fun v_ => v_ = denV (s12E [k, B, A] [] [] []) b0 (.int .i64 (.iapp 21 (.cons z1_ (.cons z2_ .nil))))) (s12E [k, B, A] [] [] []) := by
  simp only [Tree.holds, Sy.holds, AllN, Env.more, s12E, List.cons_append, List.nil_append, List.append_nil, denV, denI, denB, denL, I2.den, VOp.den, List.getD_cons_zero, List.getD_cons_succ, Cst.den, syso, syse, syio, sybo, List.map_nil, List.map_cons, B2.ofInts, B2.denI, B2.denB, if_true, Bool.false_eq_true, if_false, Nat.div_one, Nat.mul_one, Nat.add_zero, holds] at hc
  simp only [patsTyp, patTyp, patTypL, s12E, denV, denL, List.getD_cons_zero, List.getD_cons_succ, and_true, true_and] at hty
  unfold slen_tree
  simp only [Tree.holds, Sy.holds, AllN, Env.more, s12E, List.cons_append, List.nil_append, List.append_nil, denV, denI, denB, denL, I2.den, VOp.den, List.getD_cons_zero, List.getD_cons_succ, Cst.den, syso, syse, syio, sybo, s12i_sln, List.map_nil, List.map_cons, B2.ofInts, B2.denI, B2.denB, if_true, Bool.false_eq_true, if_false, Nat.div_one, Nat.mul_one, Nat.add_zero]
  have n1 := slN_spec B A
  have wf0 := wr_i64 (B + A)
  have wf1 := wr_i64 ((IntKind.wrap .i64 (B + A)) + 1)
  have wf2 := wr_i64 ((IntKind.wrap .i64 ((IntKind.wrap .i64 (B + A)) + 1)) * 1000000000)
  refine congrArg (Value.int .i64) ?_
  omega
theorem s12g_slen : s12c_slen.Good Tryd.prog syG (s12E [] [] [] []) := good_of_walk (Γ := ⟨[], syG, [], [], []⟩) (ρ := s12E [] [] [] []) sym slen_w rfl (fun _ _ _ _ => ok_nil) (fun k B A hc hty => slen_h k B A hc hty)
def swin_tree : Tree :=
 (.br (.not (eq_ (.iapp 4 (.cons z3_ (.cons z4_ (.cons o0_ (.cons z5_ .nil))))) (.lit 0)))
 (.ret (.tup (.cons (.int .i64 (.lit 0)) (.cons (.int .i64 (.lit 0)) (.cons (.err (.iapp 4 (.cons z3_ (.cons z4_ (.cons o0_ (.cons z5_ .nil)))))) .nil)))))
 (.need (an_ (le_ (.lit 0) v1_) (an_ (le_ v1_ (.lit 43200)) (an_ (le_ (.lit 0) v2_) (le_ v2_ (.lit 43200)))))
 (.ret (.tup (.cons (.int .i64 (wr_ (ad_ (.iapp 8 (.cons z3_ (.cons z4_ (.cons o0_ (.cons z5_ .nil))))) (wr_ (ml_ (wr_ (sb_ (.lit 86400) v1_)) (.lit 1000000000)))))) (.cons (.int .i64 (wr_ (ad_ (wr_ (ad_ (.iapp 8 (.cons z3_ (.cons z4_ (.cons o0_ (.cons z5_ .nil))))) (wr_ (ml_ (wr_ (sb_ (.lit 86400) v1_)) (.lit 1000000000))))) (.iapp 21 (.cons z1_ (.cons z2_ .nil)))))) (.cons (.cst .nilI) .nil)))))))
abbrev s12c_swin : Con := ⟨154, [(.agg (.cons z0_ (.cons z1_ (.cons z2_ .nil)))), (.agg (.cons z3_ (.cons z4_ (.cons (.hs .no (.cons (.int .i64) .nil) o0_) .nil)))), z5_], (an_ (le_ (.lit 0) v1_) (an_ (le_ v1_ (.lit 43200)) (an_ (le_ (.lit 0) v2_) (le_ v2_ (.lit 43200))))), (.tup (.cons (.int .i64 (.iapp 22 (.cons z1_ (.cons z3_ (.cons z4_ (.cons o0_ (.cons z5_ .nil))))))) (.cons (.int .i64 (.iapp 23 (.cons z1_ (.cons z2_ (.cons z3_ (.cons z4_ (.cons o0_ (.cons z5_ .nil)))))))) (.cons (.err (.iapp 4 (.cons z3_ (.cons z4_ (.cons o0_ (.cons z5_ .nil)))))) .nil)))), ⟨6, 0, 1, 0⟩, none⟩
theorem swin_w : walk Tryd.prog 182 ⟨[y9c_LBegin, s12c_slen], syG, [], [], []⟩ [] .v s12c_swin s12c_swin.n 3000 = some swin_tree := by kernel_rfl
theorem swin_h (k : Int) (B : Int) (A : Int) (b : Int) (t : Int) (d : Int) (l : Value) (hc : holds (s12E [k, B, A, b, t, d] [] [l] []) (an_ (le_ (.lit 0) v1_) (an_ (le_ v1_ (.lit 43200)) (an_ (le_ (.lit 0) v2_) (le_ v2_ (.lit 43200)))))) (hty : patsTyp (s12E [k, B, A, b, t, d] [] [l] []) [(.agg (.cons z0_ (.cons z1_ (.cons z2_ .nil)))), (.agg (.cons z3_ (.cons z4_ (.cons (.hs .no (.cons (.int .i64) .nil) o0_) .nil)))), z5_]) : swin_tree.holds (fun v_ => v_ = denV (s12E [k, B, A, b, t, d] [] [l] []) b0 (.tup (.cons (.int .i64 (.iapp 22 (.cons z1_ (.cons z3_ (.cons z4_ (.cons o0_ (.cons z5_ .nil))))))) (.cons (.int .i64 (.iapp 23 (.cons z1_ (.cons z2_ (.cons z3_ (.cons z4_ (.cons o0_ (.cons z5_ .nil)))))))) (.cons (.err (.iapp 4 (.cons z3_ (.cons z4_ (.cons o0_ (.cons z5_ .nil)))))) .nil))))) (s12E [k, B, A, b, t, d] [] [l] []) := by
  simp only [Tree.holds, Sy.holds, AllN, Env.more, s12E, List.cons_append, List.nil_append, List.append_nil, denV, denI, denB, denL, I2.den, VOp.den, List.getD_cons_zero, List.getD_cons_succ, Cst.den, syso, syse, syio, sybo, List.map_nil, List.map_cons, B2.ofInts, B2.denI, B2.denB, if_true, Bool.false_eq_true, if_false, Nat.div_one, Nat.mul_one, Nat.add_zero, holds] at hc
  simp only [patsTyp, patTyp, patTypL, s12E, denV, denL, List.getD_cons_zero, List.getD_cons_succ, and_true, true_and] at hty
  have hL_l : typ (.sl (.cons (.int .i64) .nil)) l := by first | exact hty | exact hty.1 | exact hty.2 | exact hty.1.1 | exact hty.1.2 | exact hty.2.1 | exact hty.2.2 | exact hty.2.2.1 | exact hty.2.2.2
  have hN_l := typ_len (n := 1) hL_l rfl (by omega)
  simp only [Nat.div_one, Nat.mul_one] at hN_l
  unfold swin_tree
  simp only [Tree.holds, Sy.holds, AllN, Env.more, s12E, List.cons_append, List.nil_append, List.append_nil, denV, denI, denB, denL, I2.den, VOp.den, List.getD_cons_zero, List.getD_cons_succ, Cst.den, syso, syse, syio, sybo, s12i_wrong, s12i_begI, s12i_sln, s12i_wb, s12i_wn, List.map_nil, List.map_cons, B2.ofInts, B2.denI, B2.denB, if_true, Bool.false_eq_true, if_false, Nat.div_one, Nat.mul_one, Nat.add_zero]
  have w1 := win_spec B A b t (intsOf l) d
  have d1 := day_spec b t (intsOf l) d
  have c1 := secL_spec b (intsOf l) d
  have r1 := wrongI_spec b t (intsOf l) d
  have n1 := slN_spec B A
  refine ⟨fun h0 => ?_, fun h0 => ?_⟩
  ·
   first
   | (exfalso; omega)
   | (simp only [Value.tuple.injEq, Value.agg.injEq, Value.int.injEq, Value.bool.injEq, Array.mk.injEq, List.cons.injEq, true_and, and_true]
      exact ⟨by omega, by omega, by first | exact errV1 (by omega) | exact errV0 (by omega) | exact errV2 (by omega) | exact errV9 (by omega) | exact errV10 (by omega) | (refine congrArg (errVal _) ?_; omega)⟩)
   | (simp only [Value.tuple.injEq, Value.agg.injEq, Value.int.injEq, Value.bool.injEq, Array.mk.injEq, List.cons.injEq, true_and, and_true]
      exact ⟨by omega, by omega⟩)
  ·
   refine ⟨?_, fun h1 => ?_⟩
   ·
    omega
   ·
    have wf0 := wr_i64 (86400 - B)
    have wf1 := wr_i64 ((IntKind.wrap .i64 (86400 - B)) * 1000000000)
    have wf2 := wr_i64 ((begI b t (intsOf l) d) + (IntKind.wrap .i64 ((IntKind.wrap .i64 (86400 - B)) * 1000000000)))
    have wf3 := wr_i64 ((IntKind.wrap .i64 ((begI b t (intsOf l) d) + (IntKind.wrap .i64 ((IntKind.wrap .i64 (86400 - B)) * 1000000000)))) + (slN B A))
    first
    | (exfalso; omega)
    | (simp only [Value.tuple.injEq, Value.agg.injEq, Value.int.injEq, Value.bool.injEq, Array.mk.injEq, List.cons.injEq, true_and, and_true]
       exact ⟨by omega, by omega, by first | exact errV1 (by omega) | exact errV0 (by omega) | exact errV2 (by omega) | exact errV9 (by omega) | exact errV10 (by omega) | (refine congrArg (errVal _) ?_; omega)⟩)
    | (simp only [Value.tuple.injEq, Value.agg.injEq, Value.int.injEq, Value.bool.injEq, Array.mk.injEq, List.cons.injEq, true_and, and_true]
       exact ⟨by omega, by omega⟩)
theorem s12g_swin : s12c_swin.Good Tryd.prog syG (s12E [] [] [] []) := good_of_walk (Γ := ⟨[y9c_LBegin, s12c_slen], syG, [], [], []⟩) (ρ := s12E [] [] [] []) sym swin_w rfl (fun _ _ _ _ => (ok_cons (Con.Good.env (Con.Good.up (Con.Good.up y9g_LBegin s12aup rfl) s12up rfl) _ _ _ _) (ok_cons (Con.Good.env s12g_slen _ _ _ _) ok_nil))) (fun k B A b t d l hc hty => swin_h k B A b t d l hc hty)
def sfits_tree : Tree :=
 (.need (an_ (an_ (le_ lm_ v0_) (le_ v0_ lM_)) (an_ (an_ (le_ lm_ v1_) (le_ v1_ lM_)) (an_ (le_ lm_ v2_) (le_ v2_ lM_))))
 (.br (.not (eq_ (.iapp 20 (.cons z0_ (.cons z1_ (.cons z2_ .nil)))) (.lit 0)))
 (.ret (.iface 182 (.int .i64 (.lit 1))))
 (.br (.not (eq_ (.iapp 0 (.cons z3_ (.cons z4_ (.cons o0_ .nil)))) (.lit 0)))
 (.ret (.iface 182 (.int .i64 (.lit 1))))
 (.br (eq_ v0_ (.lit 0))
 (.ret (.cst .nilI))
 (.loop ⟨2, 0, 0, 0⟩ (an_ (le_ (.lit 0) (.lit 0)) (an_ (le_ (.lit 0) (.ofI (.vop (.len 1) (.cons o0_ .nil)))) (an_ (.bapp 2 (.cons z1_ (.cons z2_ (.cons z3_ (.cons o0_ (.cons (.int .i64 (.lit 0)) .nil)))))) (eq_ (.lit (-4611686018427387904)) (.iapp 25 (.cons z1_ (.cons z2_ (.cons z3_ (.cons o0_ (.cons (.int .i64 (.lit 0)) .nil)))))))))) (an_ (le_ (.lit 0) v5_) (an_ (le_ v5_ (.ofI (.vop (.len 1) (.cons o0_ .nil)))) (an_ (.bapp 2 (.cons z1_ (.cons z2_ (.cons z3_ (.cons o0_ (.cons z5_ .nil)))))) (eq_ v6_ (.iapp 25 (.cons z1_ (.cons z2_ (.cons z3_ (.cons o0_ (.cons z5_ .nil))))))))))
 (.br (lt_ v5_ (.ofI (.vop (.len 1) (.cons o0_ .nil))))
 (.need (an_ (le_ (.lit 0) v5_) (lt_ v5_ (.ofI (.vop (.len 1) (.cons o0_ .nil)))))
 (.need (an_ (le_ (.lit 0) v1_) (an_ (le_ v1_ (.lit 43200)) (an_ (le_ (.lit 0) v2_) (le_ v2_ (.lit 43200)))))
 (.br (.not (eq_ (.iapp 4 (.cons z3_ (.cons z4_ (.cons o0_ (.cons (.int .i64 (.ofI (.vop (.sel 1 0) (.cons o0_ (.cons z5_ .nil))))) .nil))))) (.lit 0)))
 (.ret (.err (.iapp 4 (.cons z3_ (.cons z4_ (.cons o0_ (.cons (.int .i64 (.ofI (.vop (.sel 1 0) (.cons o0_ (.cons z5_ .nil))))) .nil)))))))
 (.br (lt_ (.iapp 22 (.cons z1_ (.cons z3_ (.cons z4_ (.cons o0_ (.cons (.int .i64 (.ofI (.vop (.sel 1 0) (.cons o0_ (.cons z5_ .nil))))) .nil)))))) v6_)
 (.ret (.iface 182 (.int .i64 (.lit 9))))
 (.back (an_ (le_ (.lit 0) (wr_ (ad_ v5_ (.lit 1)))) (an_ (le_ (wr_ (ad_ v5_ (.lit 1))) (.ofI (.vop (.len 1) (.cons o0_ .nil)))) (an_ (.bapp 2 (.cons z1_ (.cons z2_ (.cons z3_ (.cons o0_ (.cons (.int .i64 (wr_ (ad_ v5_ (.lit 1)))) .nil)))))) (eq_ (.iapp 23 (.cons z1_ (.cons z2_ (.cons z3_ (.cons z4_ (.cons o0_ (.cons (.int .i64 (.ofI (.vop (.sel 1 0) (.cons o0_ (.cons z5_ .nil))))) .nil))))))) (.iapp 25 (.cons z1_ (.cons z2_ (.cons z3_ (.cons o0_ (.cons (.int .i64 (wr_ (ad_ v5_ (.lit 1)))) .nil)))))))))) (sb_ (.ofI (.vop (.len 1) (.cons o0_ .nil))) (wr_ (ad_ v5_ (.lit 1)))) (sb_ (.ofI (.vop (.len 1) (.cons o0_ .nil))) v5_))))))
 (.ret (.cst .nilI))))))))
abbrev s12c_sfits : Con := ⟨71, [(.agg (.cons z0_ (.cons z1_ (.cons z2_ .nil)))), (.agg (.cons z3_ (.cons z4_ (.cons (.hs .no (.cons (.int .i64) .nil) o0_) .nil))))], (an_ (an_ (le_ lm_ v0_) (le_ v0_ lM_)) (an_ (an_ (le_ lm_ v1_) (le_ v1_ lM_)) (an_ (le_ lm_ v2_) (le_ v2_ lM_)))), (.err (.iapp 24 (.cons z0_ (.cons z1_ (.cons z2_ (.cons z3_ (.cons z4_ (.cons o0_ .nil)))))))), ⟨5, 0, 1, 0⟩, none⟩
theorem sfits_w : walk Tryd.prog 182 ⟨[s12c_scheck, y9c_check, s12c_swin], syG, [], [], []⟩ [⟨0, ⟨2, 0, 0, 0⟩, [(26, z5_), (5, z6_)], none, (an_ (le_ (.lit 0) v5_) (an_ (le_ v5_ (.ofI (.vop (.len 1) (.cons o0_ .nil)))) (an_ (.bapp 2 (.cons z1_ (.cons z2_ (.cons z3_ (.cons o0_ (.cons z5_ .nil)))))) (eq_ v6_ (.iapp 25 (.cons z1_ (.cons z2_ (.cons z3_ (.cons o0_ (.cons z5_ .nil)))))))))), (sb_ (.ofI (.vop (.len 1) (.cons o0_ .nil))) v5_), 0, []⟩] .v s12c_sfits s12c_sfits.n 3000 = some sfits_tree := by kernel_rfl
theorem sfits_h (k : Int) (B : Int) (A : Int) (b : Int) (t : Int) (l : Value) (hc : holds (s12E [k, B, A, b, t] [] [l] []) (an_ (an_ (le_ lm_ v0_) (le_ v0_ lM_)) (an_ (an_ (le_ lm_ v1_) (le_ v1_ lM_)) (an_ (le_ lm_ v2_) (le_ v2_ lM_))))) (hty : patsTyp (s12E [k, B, A, b, t] [] [l] []) [(.agg (.cons z0_ (.cons z1_ (.cons z2_ .nil)))), (.agg (.cons z3_ (.cons z4_ (.cons (.hs .no (.cons (.int .i64) .nil) o0_) .nil))))]) : sfits_tree.holds (fun v_ => v_ = denV (s12E [k, B, A, b, t] [] [l] []) b0 (.err (.iapp 24 (.cons z0_ (.cons z1_ (.cons z2_ (.cons z3_ (.cons z4_ (.cons o0_ .nil))))))))) (s12E [k, B, A, b, t] [] [l] []) := by
  simp only [Tree.holds, Sy.holds, AllN, Env.more, s12E, List.cons_append, List.nil_append, List.append_nil, denV, denI, denB, denL, I2.den, VOp.den, List.getD_cons_zero, List.getD_cons_succ, Cst.den, syso, syse, syio, sybo, List.map_nil, List.map_cons, B2.ofInts, B2.denI, B2.denB, if_true, Bool.false_eq_true, if_false, Nat.div_one, Nat.mul_one, Nat.add_zero, holds] at hc
  simp only [patsTyp, patTyp, patTypL, s12E, denV, denL, List.getD_cons_zero, List.getD_cons_succ, and_true, true_and] at hty
  have hL_l : typ (.sl (.cons (.int .i64) .nil)) l := by first | exact hty | exact hty.1 | exact hty.2 | exact hty.1.1 | exact hty.1.2 | exact hty.2.1 | exact hty.2.2 | exact hty.2.2.1 | exact hty.2.2.2
  have hN_l := typ_len (n := 1) hL_l rfl (by omega)
  simp only [Nat.div_one, Nat.mul_one] at hN_l
  unfold sfits_tree
  simp only [Tree.holds, Sy.holds, AllN, Env.more, s12E, List.cons_append, List.nil_append, List.append_nil, denV, denI, denB, denL, I2.den, VOp.den, List.getD_cons_zero, List.getD_cons_succ, Cst.den, syso, syse, syio, sybo, s12i_may, s12i_wrong, s12i_sm, s12i_wb, s12i_wn, s12i_fits, s12i_last, s12b_fitl, List.map_nil, List.map_cons, B2.ofInts, B2.denI, B2.denB, if_true, Bool.false_eq_true, if_false, Nat.div_one, Nat.mul_one, Nat.add_zero]
  have s1 := smI_spec k B A
  have f1 := fitsI_spec k B A b t (intsOf l)
  have m1 := mayI_spec b t (intsOf l)
  have n1 := slN_spec B A
  have hlen := ints_len l
  refine ⟨?_, fun h0 => ?_⟩
  ·
   omega
  ·
   refine ⟨fun h1 => ?_, fun h1 => ?_⟩
   ·
    first
    | (exfalso; omega)
    | exact errV1 (by omega)
    | exact errV0 (by omega)
   ·
    refine ⟨fun h2 => ?_, fun h2 => ?_⟩
    ·
     first
     | (exfalso; omega)
     | exact errV1 (by omega)
     | exact errV0 (by omega)
    ·
     refine ⟨fun h3 => ?_, fun h3 => ?_⟩
     ·
      first
      | (exfalso; omega)
      | exact errV1 (by omega)
      | exact errV0 (by omega)
     ·
      refine ⟨?_, ?_⟩
      ·
       exact ⟨by omega, by omega, rfl, rfl⟩
      ·
       intro i0a i0b hi0
       refine ⟨fun h4 => ?_, fun h4 => ?_⟩
       ·
        refine ⟨?_, fun h5 => ?_⟩
        ·
         first
         | omega
         | (
            obtain ⟨q0, q1, q2, q3⟩ := hi0
            have hi : i0a.toNat < (Sy.rows l).length := by omega
            have hml : mayL b t (intsOf l) = true := by
              rcases m1 with ⟨x, _⟩ | ⟨_, x, _⟩
              · exfalso; omega
              · exact x
            have hsa := sec_at hml (i := i0a.toNat) (by omega)
            have hg := ints_get l hi
            have hw0 := win_spec B A b t (intsOf l) ((intsOf l).getD i0a.toNat 0)
            have hs0 := secL_spec b (intsOf l) ((intsOf l).getD i0a.toNat 0)
            simp only [hg] at *
            omega)
        ·
         refine ⟨?_, fun h6 => ?_⟩
         ·
          first
          | omega
          | (
             obtain ⟨q0, q1, q2, q3⟩ := hi0
             have hi : i0a.toNat < (Sy.rows l).length := by omega
             have hml : mayL b t (intsOf l) = true := by
               rcases m1 with ⟨x, _⟩ | ⟨_, x, _⟩
               · exfalso; omega
               · exact x
             have hsa := sec_at hml (i := i0a.toNat) (by omega)
             have hg := ints_get l hi
             have hw0 := win_spec B A b t (intsOf l) ((intsOf l).getD i0a.toNat 0)
             have hs0 := secL_spec b (intsOf l) ((intsOf l).getD i0a.toNat 0)
             simp only [hg] at *
             omega)
         ·
          refine ⟨fun h7 => ?_, fun h7 => ?_⟩
          ·
           by_cases hlt : i0a < ((Sy.rows l).length : Int)
           · first
             | (exfalso; omega)
             | (
                obtain ⟨q0, q1, q2, q3⟩ := hi0
                have hi : i0a.toNat < (Sy.rows l).length := by omega
                have hml : mayL b t (intsOf l) = true := by
                  rcases m1 with ⟨x, _⟩ | ⟨_, x, _⟩
                  · exfalso; omega
                  · exact x
                have hsa := sec_at hml (i := i0a.toNat) (by omega)
                have hg := ints_get l hi
                have hw0 := win_spec B A b t (intsOf l) ((intsOf l).getD i0a.toNat 0)
                have hs0 := secL_spec b (intsOf l) ((intsOf l).getD i0a.toNat 0)
                simp only [hg] at *
                exfalso
                omega)
             | (
                obtain ⟨q0, q1, q2, q3⟩ := hi0
                have hi : i0a.toNat < (Sy.rows l).length := by omega
                have hml : mayL b t (intsOf l) = true := by
                  rcases m1 with ⟨x, _⟩ | ⟨_, x, _⟩
                  · exfalso; omega
                  · exact x
                have hsa := sec_at hml (i := i0a.toNat) (by omega)
                have hg := ints_get l hi
                have hw0 := win_spec B A b t (intsOf l) ((intsOf l).getD i0a.toNat 0)
                have hs0 := secL_spec b (intsOf l) ((intsOf l).getD i0a.toNat 0)
                simp only [hg] at *
                have hl1 : lastN B A b (intsOf l) i0a.toNat = (if i0a.toNat = 0 then -4611686018427387904 else wbN B b (intsOf l) ((intsOf l).getD (i0a.toNat - 1) 0) + slN B A) := rfl
                have hJ : fitJ B A b (intsOf l) i0a.toNat = decide (i0a.toNat = 0 ∨ wbN B b (intsOf l) ((intsOf l).getD (i0a.toNat - 1) 0) + slN B A ≤ wbN B b (intsOf l) ((intsOf l).getD i0a.toNat 0)) := rfl
                have hfalse : fitJ B A b (intsOf l) i0a.toNat = false := by
                  rw [hJ]
                  refine decide_eq_false fun hor => ?_
                  by_cases hz : i0a.toNat = 0
                  · rw [if_pos hz] at hl1; omega
                  · rw [if_neg hz] at hl1
                    rcases hor with hor | hor
                    · exact hz hor
                    · omega
                have hbad : fitL B A b (intsOf l) (intsOf l).length = false := by
                  cases hc : fitL B A b (intsOf l) (intsOf l).length with
                  | false => rfl
                  | true => rw [fitL_get hc (by omega)] at hfalse; cases hfalse
                rw [hbad] at f1
                simp only [Bool.false_eq_true, Bool.true_eq_false, and_false, and_true, or_false, false_or] at f1
                exact errV9 (by omega))
           · first
             | (exfalso; omega)
             | (obtain ⟨q0, q1, q2, q3⟩ := hi0
                have hfull : fitL B A b (intsOf l) (intsOf l).length = true := by rw [hlen, show (Sy.rows l).length = i0a.toNat by omega]; exact q2
                rw [hfull] at f1
                simp only [Bool.false_eq_true, Bool.true_eq_false, and_false, and_true, or_false, false_or] at f1
                exact errV0 (by omega))
          ·
           refine ⟨fun h8 => ?_, fun h8 => ?_⟩
           ·
            by_cases hlt : i0a < ((Sy.rows l).length : Int)
            · first
              | (exfalso; omega)
              | (
                 obtain ⟨q0, q1, q2, q3⟩ := hi0
                 have hi : i0a.toNat < (Sy.rows l).length := by omega
                 have hml : mayL b t (intsOf l) = true := by
                   rcases m1 with ⟨x, _⟩ | ⟨_, x, _⟩
                   · exfalso; omega
                   · exact x
                 have hsa := sec_at hml (i := i0a.toNat) (by omega)
                 have hg := ints_get l hi
                 have hw0 := win_spec B A b t (intsOf l) ((intsOf l).getD i0a.toNat 0)
                 have hs0 := secL_spec b (intsOf l) ((intsOf l).getD i0a.toNat 0)
                 simp only [hg] at *
                 exfalso
                 omega)
              | (
                 obtain ⟨q0, q1, q2, q3⟩ := hi0
                 have hi : i0a.toNat < (Sy.rows l).length := by omega
                 have hml : mayL b t (intsOf l) = true := by
                   rcases m1 with ⟨x, _⟩ | ⟨_, x, _⟩
                   · exfalso; omega
                   · exact x
                 have hsa := sec_at hml (i := i0a.toNat) (by omega)
                 have hg := ints_get l hi
                 have hw0 := win_spec B A b t (intsOf l) ((intsOf l).getD i0a.toNat 0)
                 have hs0 := secL_spec b (intsOf l) ((intsOf l).getD i0a.toNat 0)
                 simp only [hg] at *
                 have hl1 : lastN B A b (intsOf l) i0a.toNat = (if i0a.toNat = 0 then -4611686018427387904 else wbN B b (intsOf l) ((intsOf l).getD (i0a.toNat - 1) 0) + slN B A) := rfl
                 have hJ : fitJ B A b (intsOf l) i0a.toNat = decide (i0a.toNat = 0 ∨ wbN B b (intsOf l) ((intsOf l).getD (i0a.toNat - 1) 0) + slN B A ≤ wbN B b (intsOf l) ((intsOf l).getD i0a.toNat 0)) := rfl
                 have hfalse : fitJ B A b (intsOf l) i0a.toNat = false := by
                   rw [hJ]
                   refine decide_eq_false fun hor => ?_
                   by_cases hz : i0a.toNat = 0
                   · rw [if_pos hz] at hl1; omega
                   · rw [if_neg hz] at hl1
                     rcases hor with hor | hor
                     · exact hz hor
                     · omega
                 have hbad : fitL B A b (intsOf l) (intsOf l).length = false := by
                   cases hc : fitL B A b (intsOf l) (intsOf l).length with
                   | false => rfl
                   | true => rw [fitL_get hc (by omega)] at hfalse; cases hfalse
                 rw [hbad] at f1
                 simp only [Bool.false_eq_true, Bool.true_eq_false, and_false, and_true, or_false, false_or] at f1
                 exact errV9 (by omega))
            · first
              | (exfalso; omega)
              | (obtain ⟨q0, q1, q2, q3⟩ := hi0
                 have hfull : fitL B A b (intsOf l) (intsOf l).length = true := by rw [hlen, show (Sy.rows l).length = i0a.toNat by omega]; exact q2
                 rw [hfull] at f1
                 simp only [Bool.false_eq_true, Bool.true_eq_false, and_false, and_true, or_false, false_or] at f1
                 exact errV0 (by omega))
           ·
            have wf0 := wr_i64 (i0a + 1)
            refine ⟨?_, ?_⟩
            ·
             obtain ⟨q0, q1, q2, q3⟩ := hi0
             have hi : i0a.toNat < (Sy.rows l).length := by omega
             have hml : mayL b t (intsOf l) = true := by
               rcases m1 with ⟨x, _⟩ | ⟨_, x, _⟩
               · exfalso; omega
               · exact x
             have hsa := sec_at hml (i := i0a.toNat) (by omega)
             have hg := ints_get l hi
             have hw0 := win_spec B A b t (intsOf l) ((intsOf l).getD i0a.toNat 0)
             have hs0 := secL_spec b (intsOf l) ((intsOf l).getD i0a.toNat 0)
             simp only [hg] at *
             have hl1 : lastN B A b (intsOf l) i0a.toNat = (if i0a.toNat = 0 then -4611686018427387904 else wbN B b (intsOf l) ((intsOf l).getD (i0a.toNat - 1) 0) + slN B A) := rfl
             have hJ : fitJ B A b (intsOf l) i0a.toNat = decide (i0a.toNat = 0 ∨ wbN B b (intsOf l) ((intsOf l).getD (i0a.toNat - 1) 0) + slN B A ≤ wbN B b (intsOf l) ((intsOf l).getD i0a.toNat 0)) := rfl
             have hw : IntKind.wrap .i64 (i0a + 1) = i0a + 1 := by have := wr_i64 (i0a + 1); omega
             rw [hw, toNat_succ (by omega), fitL_succ, q2]
             refine ⟨by omega, by omega, ?_, ?_⟩
             · rw [Bool.true_and, hJ]
               refine decide_eq_true ?_
               by_cases hz : i0a.toNat = 0
               · exact .inl hz
               · rw [if_neg hz] at hl1
                 right
                 omega
             · have hl2 : lastN B A b (intsOf l) (i0a.toNat + 1) = wbN B b (intsOf l) ((intsOf l).getD i0a.toNat 0) + slN B A := rfl
               rw [hl2]
               omega
            ·
             have := wr_i64 (i0a + 1)
             omega
       ·
        by_cases hlt : i0a < ((Sy.rows l).length : Int)
        · first
          | (exfalso; omega)
          | (
             obtain ⟨q0, q1, q2, q3⟩ := hi0
             have hi : i0a.toNat < (Sy.rows l).length := by omega
             have hml : mayL b t (intsOf l) = true := by
               rcases m1 with ⟨x, _⟩ | ⟨_, x, _⟩
               · exfalso; omega
               · exact x
             have hsa := sec_at hml (i := i0a.toNat) (by omega)
             have hg := ints_get l hi
             have hw0 := win_spec B A b t (intsOf l) ((intsOf l).getD i0a.toNat 0)
             have hs0 := secL_spec b (intsOf l) ((intsOf l).getD i0a.toNat 0)
             simp only [hg] at *
             exfalso
             omega)
          | (
             obtain ⟨q0, q1, q2, q3⟩ := hi0
             have hi : i0a.toNat < (Sy.rows l).length := by omega
             have hml : mayL b t (intsOf l) = true := by
               rcases m1 with ⟨x, _⟩ | ⟨_, x, _⟩
               · exfalso; omega
               · exact x
             have hsa := sec_at hml (i := i0a.toNat) (by omega)
             have hg := ints_get l hi
             have hw0 := win_spec B A b t (intsOf l) ((intsOf l).getD i0a.toNat 0)
             have hs0 := secL_spec b (intsOf l) ((intsOf l).getD i0a.toNat 0)
             simp only [hg] at *
             have hl1 : lastN B A b (intsOf l) i0a.toNat = (if i0a.toNat = 0 then -4611686018427387904 else wbN B b (intsOf l) ((intsOf l).getD (i0a.toNat - 1) 0) + slN B A) := rfl
             have hJ : fitJ B A b (intsOf l) i0a.toNat = decide (i0a.toNat = 0 ∨ wbN B b (intsOf l) ((intsOf l).getD (i0a.toNat - 1) 0) + slN B A ≤ wbN B b (intsOf l) ((intsOf l).getD i0a.toNat 0)) := rfl
             have hfalse : fitJ B A b (intsOf l) i0a.toNat = false := by
               rw [hJ]
               refine decide_eq_false fun hor => ?_
               by_cases hz : i0a.toNat = 0
               · rw [if_pos hz] at hl1; omega
               · rw [if_neg hz] at hl1
                 rcases hor with hor | hor
                 · exact hz hor
                 · omega
             have hbad : fitL B A b (intsOf l) (intsOf l).length = false := by
               cases hc : fitL B A b (intsOf l) (intsOf l).length with
               | false => rfl
               | true => rw [fitL_get hc (by omega)] at hfalse; cases hfalse
             rw [hbad] at f1
             simp only [Bool.false_eq_true, Bool.true_eq_false, and_false, and_true, or_false, false_or] at f1
             exact errV9 (by omega))
        · first
          | (exfalso; omega)
          | (obtain ⟨q0, q1, q2, q3⟩ := hi0
             have hfull : fitL B A b (intsOf l) (intsOf l).length = true := by rw [hlen, show (Sy.rows l).length = i0a.toNat by omega]; exact q2
             rw [hfull] at f1
             simp only [Bool.false_eq_true, Bool.true_eq_false, and_false, and_true, or_false, false_or] at f1
             exact errV0 (by omega))
theorem s12g_sfits : s12c_sfits.Good Tryd.prog syG (s12E [] [] [] []) := good_of_walk (Γ := ⟨[s12c_scheck, y9c_check, s12c_swin], syG, [], [], []⟩) (ρ := s12E [] [] [] []) sym sfits_w rfl (fun _ _ _ _ => (ok_cons (Con.Good.env s12g_scheck _ _ _ _) (ok_cons (Con.Good.env (Con.Good.up (Con.Good.up y9g_check s12aup rfl) s12up rfl) _ _ _ _) (ok_cons (Con.Good.env s12g_swin _ _ _ _) ok_nil)))) (fun k B A b t l hc hty => sfits_h k B A b t l hc hty)
def sup_tree : Tree :=
 (.need (an_ (an_ (le_ lm_ (wr_ (sb_ (.lit 0) v0_))) (le_ (wr_ (sb_ (.lit 0) v0_)) lM_)) (an_ (an_ (le_ lm_ v1_) (le_ v1_ lM_)) (an_ (le_ lm_ v2_) (le_ v2_ lM_))))
 (.ret (.tup (.cons (.int .i64 (wr_ (sb_ (.lit 0) (.iapp 28 (.cons (.int .i64 (wr_ (sb_ (.lit 0) v0_))) (.cons z1_ (.cons z2_ .nil))))))) (.cons (.err (.iapp 29 (.cons (.int .i64 (wr_ (sb_ (.lit 0) v0_))) (.cons z1_ (.cons z2_ .nil))))) .nil)))))
abbrev s12c_sup : Con := ⟨151, [z0_, z1_, z2_], (an_ (le_ (.lit 1) v2_) (an_ (le_ v2_ lM_) (an_ (le_ (.lit 0) v0_) (an_ (le_ v0_ v2_) (an_ (le_ (.lit 0) v1_) (le_ v1_ (.lit 2000000000))))))), (.tup (.cons (.int .i64 (.iapp 37 (.cons z0_ (.cons z1_ (.cons z2_ .nil))))) (.cons (.err (.lit 0)) .nil))), ⟨3, 0, 0, 0⟩, none⟩
theorem sup_w : walk Tryd.prog 182 ⟨[s12c_mdiv], syG, [], [], []⟩ [] .v s12c_sup s12c_sup.n 3000 = some sup_tree := by kernel_rfl
theorem sup_h (a : Int) (b : Int) (c : Int) (hc : holds (s12E [a, b, c] [] [] []) (an_ (le_ (.lit 1) v2_) (an_ (le_ v2_ lM_) (an_ (le_ (.lit 0) v0_) (an_ (le_ v0_ v2_) (an_ (le_ (.lit 0) v1_) (le_ v1_ (.lit 2000000000)))))))) (hty : patsTyp (s12E [a, b, c] [] [] []) [z0_, z1_, z2_]) : sup_tree.holds (fun v_ => v_ = denV (s12E [a, b, c] [] [] []) b0 (.tup (.cons (.int .i64 (.iapp 37 (.cons z0_ (.cons z1_ (.cons z2_ .nil))))) (.cons (.err (.lit 0)) .nil)))) (s12E [a, b, c] [] [] []) := by
  simp only [Tree.holds, Sy.holds, AllN, Env.more, s12E, List.cons_append, List.nil_append, List.append_nil, denV, denI, denB, denL, I2.den, VOp.den, List.getD_cons_zero, List.getD_cons_succ, Cst.den, syso, syse, syio, sybo, List.map_nil, List.map_cons, B2.ofInts, B2.denI, B2.denB, if_true, Bool.false_eq_true, if_false, Nat.div_one, Nat.mul_one, Nat.add_zero, holds] at hc
  simp only [patsTyp, patTyp, patTypL, s12E, denV, denL, List.getD_cons_zero, List.getD_cons_succ, and_true, true_and] at hty
  unfold sup_tree
  simp only [Tree.holds, Sy.holds, AllN, Env.more, s12E, List.cons_append, List.nil_append, List.append_nil, denV, denI, denB, denL, I2.den, VOp.den, List.getD_cons_zero, List.getD_cons_succ, Cst.den, syso, syse, syio, sybo, s12i_mdn, s12i_mde, s12i_upf, List.map_nil, List.map_cons, B2.ofInts, B2.denI, B2.denB, if_true, Bool.false_eq_true, if_false, Nat.div_one, Nat.mul_one, Nat.add_zero]
  have wf0 := wr_i64 (0 - a)
  refine ⟨?_, fun h0 => ?_⟩
  ·
   omega
  ·
   have wf1 := wr_i64 (0 - (mdN (IntKind.wrap .i64 (0 - a)) b c))
   try simp only [hw0]
   have hw := wr_i64 (0 - a)
   have hw2 : IntKind.wrap .i64 (0 - a) = -a := by omega
   simp only [hw2] at *
   have h1 := md_in (a := -a) (b := b) (c := c) (by omega) (by omega) (by omega) (by omega) (by omega)
   rw [h1.1, h1.2.1]
   have hu : upF a b c = -mdF (-a) b c := rfl
   have hw3 := wr_i64 (0 - mdF (-a) b c)
   simp only [Value.tuple.injEq, Array.mk.injEq, List.cons.injEq, Value.int.injEq, true_and, and_true]
   omega
theorem s12g_sup : s12c_sup.Good Tryd.prog syG (s12E [] [] [] []) := good_of_walk (Γ := ⟨[s12c_mdiv], syG, [], [], []⟩) (ρ := s12E [] [] [] []) sym sup_w rfl (fun _ _ _ _ => (ok_cons (Con.Good.env s12g_mdiv _ _ _ _) ok_nil)) (fun a b c hc hty => sup_h a b c hc hty)
def rup_tree : Tree :=
 (.need (an_ (an_ (le_ lm_ (wr_ (sb_ (.lit 0) v0_))) (le_ (wr_ (sb_ (.lit 0) v0_)) lM_)) (an_ (an_ (le_ lm_ v1_) (le_ v1_ lM_)) (an_ (le_ lm_ v2_) (le_ v2_ lM_))))
 (.ret (.int .i64 (wr_ (sb_ (.lit 0) (.iapp 28 (.cons (.int .i64 (wr_ (sb_ (.lit 0) v0_))) (.cons z1_ (.cons z2_ .nil)))))))))
abbrev s12c_rup : Con := ⟨152, [z0_, z1_, z2_], (an_ (le_ (.lit 1) v2_) (an_ (le_ v2_ lM_) (an_ (le_ (.lit 0) v0_) (an_ (le_ v0_ v2_) (an_ (le_ (.lit 0) v1_) (le_ v1_ (.lit 2000000000))))))), (.int .i64 (.iapp 37 (.cons z0_ (.cons z1_ (.cons z2_ .nil))))), ⟨3, 0, 0, 0⟩, none⟩
theorem rup_w : walk Tryd.prog 182 ⟨[s12c_rmdiv], syG, [], [], []⟩ [] .v s12c_rup s12c_rup.n 3000 = some rup_tree := by kernel_rfl
theorem rup_h (a : Int) (b : Int) (c : Int) (hc : holds (s12E [a, b, c] [] [] []) (an_ (le_ (.lit 1) v2_) (an_ (le_ v2_ lM_) (an_ (le_ (.lit 0) v0_) (an_ (le_ v0_ v2_) (an_ (le_ (.lit 0) v1_) (le_ v1_ (.lit 2000000000)))))))) (hty : patsTyp (s12E [a, b, c] [] [] []) [z0_, z1_, z2_]) : rup_tree.holds (fun v_ => v_ = denV (s12E [a, b, c] [] [] []) b0 (.int .i64 (.iapp 37 (.cons z0_ (.cons z1_ (.cons z2_ .nil)))))) (s12E [a, b, c] [] [] []) := by
  simp only [Tree.holds, Sy.holds, AllN, Env.more, s12E, List.cons_append, List.nil_append, List.append_nil, denV, denI, denB, denL, I2.den, VOp.den, List.getD_cons_zero, List.getD_cons_succ, Cst.den, syso, syse, syio, sybo, List.map_nil, List.map_cons, B2.ofInts, B2.denI, B2.denB, if_true, Bool.false_eq_true, if_false, Nat.div_one, Nat.mul_one, Nat.add_zero, holds] at hc
  simp only [patsTyp, patTyp, patTypL, s12E, denV, denL, List.getD_cons_zero, List.getD_cons_succ, and_true, true_and] at hty
  unfold rup_tree
  simp only [Tree.holds, Sy.holds, AllN, Env.more, s12E, List.cons_append, List.nil_append, List.append_nil, denV, denI, denB, denL, I2.den, VOp.den, List.getD_cons_zero, List.getD_cons_succ, Cst.den, syso, syse, syio, sybo, s12i_mdn, s12i_upf, List.map_nil, List.map_cons, B2.ofInts, B2.denI, B2.denB, if_true, Bool.false_eq_true, if_false, Nat.div_one, Nat.mul_one, Nat.add_zero]
  have wf0 := wr_i64 (0 - a)
  refine ⟨?_, fun h0 => ?_⟩
  ·
   omega
  ·
   have wf1 := wr_i64 (0 - (mdN (IntKind.wrap .i64 (0 - a)) b c))
   try simp only [hw0]
   have hw := wr_i64 (0 - a)
   have hw2 : IntKind.wrap .i64 (0 - a) = -a := by omega
   simp only [hw2] at *
   have h1 := md_in (a := -a) (b := b) (c := c) (by omega) (by omega) (by omega) (by omega) (by omega)
   rw [h1.1]
   have hu : upF a b c = -mdF (-a) b c := rfl
   have hw3 := wr_i64 (0 - mdF (-a) b c)
   refine congrArg (Value.int .i64) ?_
   omega
theorem s12g_rup : s12c_rup.Good Tryd.prog syG (s12E [] [] [] []) := good_of_walk (Γ := ⟨[s12c_rmdiv], syG, [], [], []⟩) (ρ := s12E [] [] [] []) sym rup_w rfl (fun _ _ _ _ => (ok_cons (Con.Good.env s12g_rmdiv _ _ _ _) ok_nil)) (fun a b c hc hty => rup_h a b c hc hty)
def slag_tree : Tree :=
 (.need (an_ (an_ (le_ lm_ v0_) (le_ v0_ lM_)) (an_ (an_ (le_ lm_ v1_) (le_ v1_ lM_)) (an_ (le_ lm_ v2_) (le_ v2_ lM_))))
 (.br (.not (eq_ (.iapp 20 (.cons z0_ (.cons z1_ (.cons z2_ .nil)))) (.lit 0)))
 (.ret (.tup (.cons (.int .i64 (.lit 0)) (.cons (.iface 182 (.int .i64 (.lit 1))) .nil))))
 (.br (eq_ v0_ (.lit 0))
 (.ret (.tup (.cons (.int .i64 (.lit 0)) (.cons (.iface 182 (.int .i64 (.lit 1))) .nil))))
 (.br (lt_ v3_ (.lit 0))
 (.ret (.tup (.cons (.int .i64 (.lit 0)) (.cons (.iface 182 (.int .i64 (.lit 1))) .nil))))
 (.need (an_ (le_ (.lit 0) v1_) (an_ (le_ v1_ (.lit 43200)) (an_ (le_ (.lit 0) v2_) (le_ v2_ (.lit 43200)))))
 (.br (lt_ (.iapp 21 (.cons z1_ (.cons z2_ .nil))) v3_)
 (.ret (.tup (.cons (.int .i64 (.lit 0)) (.cons (.iface 182 (.int .i64 (.lit 1))) .nil))))
 (.need (an_ (le_ (.lit 0) v1_) (an_ (le_ v1_ (.lit 43200)) (an_ (le_ (.lit 0) v2_) (le_ v2_ (.lit 43200)))))
 (.br (eq_ v0_ (.lit 1))
 (.need (an_ (le_ (.lit 1) (.iapp 21 (.cons z1_ (.cons z2_ .nil)))) (an_ (le_ (.iapp 21 (.cons z1_ (.cons z2_ .nil))) lM_) (an_ (le_ (.lit 0) v3_) (le_ v3_ (.iapp 21 (.cons z1_ (.cons z2_ .nil)))))))
 (.ret (.tup (.cons (.int .i64 (.iapp 37 (.cons z3_ (.cons (.int .i64 (.lit 1000000000)) (.cons (.int .i64 (.iapp 21 (.cons z1_ (.cons z2_ .nil)))) .nil))))) (.cons (.err (.lit 0)) .nil)))))
 (.br (lt_ (wr_ (ml_ (.lit 2) v3_)) (.iapp 21 (.cons z1_ (.cons z2_ .nil))))
 (.need (an_ (an_ (le_ lm_ v3_) (le_ v3_ lM_)) (an_ (le_ lm_ (.iapp 21 (.cons z1_ (.cons z2_ .nil)))) (le_ (.iapp 21 (.cons z1_ (.cons z2_ .nil))) lM_)))
 (.br (.not (eq_ (.iapp 29 (.cons (.int .i64 (.lit 2000000000)) (.cons z3_ (.cons (.int .i64 (.iapp 21 (.cons z1_ (.cons z2_ .nil)))) .nil)))) (.lit 0)))
 (.ret (.tup (.cons (.int .i64 (.lit 0)) (.cons (.err (.iapp 29 (.cons (.int .i64 (.lit 2000000000)) (.cons z3_ (.cons (.int .i64 (.iapp 21 (.cons z1_ (.cons z2_ .nil)))) .nil))))) .nil))))
 (.need (an_ (le_ (.lit 1) (.iapp 21 (.cons z1_ (.cons z2_ .nil)))) (an_ (le_ (.iapp 21 (.cons z1_ (.cons z2_ .nil))) lM_) (an_ (le_ (.lit 0) v3_) (an_ (le_ v3_ (.iapp 21 (.cons z1_ (.cons z2_ .nil)))) (an_ (le_ (.lit 0) (.iapp 28 (.cons (.int .i64 (.lit 2000000000)) (.cons z3_ (.cons (.int .i64 (.iapp 21 (.cons z1_ (.cons z2_ .nil)))) .nil))))) (le_ (.iapp 28 (.cons (.int .i64 (.lit 2000000000)) (.cons z3_ (.cons (.int .i64 (.iapp 21 (.cons z1_ (.cons z2_ .nil)))) .nil)))) (.lit 2000000000)))))))
 (.ret (.tup (.cons (.int .i64 (.iapp 37 (.cons z3_ (.cons (.int .i64 (.iapp 28 (.cons (.int .i64 (.lit 2000000000)) (.cons z3_ (.cons (.int .i64 (.iapp 21 (.cons z1_ (.cons z2_ .nil)))) .nil))))) (.cons (.int .i64 (.iapp 21 (.cons z1_ (.cons z2_ .nil)))) .nil))))) (.cons (.err (.lit 0)) .nil)))))))
 (.need (an_ (an_ (le_ lm_ (wr_ (sb_ (.iapp 21 (.cons z1_ (.cons z2_ .nil))) v3_))) (le_ (wr_ (sb_ (.iapp 21 (.cons z1_ (.cons z2_ .nil))) v3_)) lM_)) (an_ (le_ lm_ (.iapp 21 (.cons z1_ (.cons z2_ .nil)))) (le_ (.iapp 21 (.cons z1_ (.cons z2_ .nil))) lM_)))
 (.br (.not (eq_ (.iapp 29 (.cons (.int .i64 (.lit 2000000000)) (.cons (.int .i64 (wr_ (sb_ (.iapp 21 (.cons z1_ (.cons z2_ .nil))) v3_))) (.cons (.int .i64 (.iapp 21 (.cons z1_ (.cons z2_ .nil)))) .nil)))) (.lit 0)))
 (.ret (.tup (.cons (.int .i64 (.lit 0)) (.cons (.err (.iapp 29 (.cons (.int .i64 (.lit 2000000000)) (.cons (.int .i64 (wr_ (sb_ (.iapp 21 (.cons z1_ (.cons z2_ .nil))) v3_))) (.cons (.int .i64 (.iapp 21 (.cons z1_ (.cons z2_ .nil)))) .nil))))) .nil))))
 (.need (an_ (an_ (le_ lm_ (wr_ (sb_ (.iapp 21 (.cons z1_ (.cons z2_ .nil))) v3_))) (le_ (wr_ (sb_ (.iapp 21 (.cons z1_ (.cons z2_ .nil))) v3_)) lM_)) (an_ (an_ (le_ lm_ (.iapp 28 (.cons (.int .i64 (.lit 2000000000)) (.cons (.int .i64 (wr_ (sb_ (.iapp 21 (.cons z1_ (.cons z2_ .nil))) v3_))) (.cons (.int .i64 (.iapp 21 (.cons z1_ (.cons z2_ .nil)))) .nil))))) (le_ (.iapp 28 (.cons (.int .i64 (.lit 2000000000)) (.cons (.int .i64 (wr_ (sb_ (.iapp 21 (.cons z1_ (.cons z2_ .nil))) v3_))) (.cons (.int .i64 (.iapp 21 (.cons z1_ (.cons z2_ .nil)))) .nil)))) lM_)) (an_ (le_ lm_ (.iapp 21 (.cons z1_ (.cons z2_ .nil)))) (le_ (.iapp 21 (.cons z1_ (.cons z2_ .nil))) lM_))))
 (.br (.not (eq_ (.iapp 29 (.cons (.int .i64 (wr_ (sb_ (.iapp 21 (.cons z1_ (.cons z2_ .nil))) v3_))) (.cons (.int .i64 (.iapp 28 (.cons (.int .i64 (.lit 2000000000)) (.cons (.int .i64 (wr_ (sb_ (.iapp 21 (.cons z1_ (.cons z2_ .nil))) v3_))) (.cons (.int .i64 (.iapp 21 (.cons z1_ (.cons z2_ .nil)))) .nil))))) (.cons (.int .i64 (.iapp 21 (.cons z1_ (.cons z2_ .nil)))) .nil)))) (.lit 0)))
 (.ret (.tup (.cons (.int .i64 (.lit 0)) (.cons (.err (.iapp 29 (.cons (.int .i64 (wr_ (sb_ (.iapp 21 (.cons z1_ (.cons z2_ .nil))) v3_))) (.cons (.int .i64 (.iapp 28 (.cons (.int .i64 (.lit 2000000000)) (.cons (.int .i64 (wr_ (sb_ (.iapp 21 (.cons z1_ (.cons z2_ .nil))) v3_))) (.cons (.int .i64 (.iapp 21 (.cons z1_ (.cons z2_ .nil)))) .nil))))) (.cons (.int .i64 (.iapp 21 (.cons z1_ (.cons z2_ .nil)))) .nil))))) .nil))))
 (.ret (.tup (.cons (.int .i64 (wr_ (sb_ (.lit 1000000000) (.iapp 28 (.cons (.int .i64 (wr_ (sb_ (.iapp 21 (.cons z1_ (.cons z2_ .nil))) v3_))) (.cons (.int .i64 (.iapp 28 (.cons (.int .i64 (.lit 2000000000)) (.cons (.int .i64 (wr_ (sb_ (.iapp 21 (.cons z1_ (.cons z2_ .nil))) v3_))) (.cons (.int .i64 (.iapp 21 (.cons z1_ (.cons z2_ .nil)))) .nil))))) (.cons (.int .i64 (.iapp 21 (.cons z1_ (.cons z2_ .nil)))) .nil))))))) (.cons (.cst .nilI) .nil)))))))))))))))))
abbrev s12c_slag : Con := ⟨64, [(.agg (.cons z0_ (.cons z1_ (.cons z2_ .nil)))), z3_], (an_ (an_ (an_ (le_ lm_ v0_) (le_ v0_ lM_)) (an_ (an_ (le_ lm_ v1_) (le_ v1_ lM_)) (an_ (le_ lm_ v2_) (le_ v2_ lM_)))) (an_ (le_ lm_ v3_) (le_ v3_ lM_))), (.tup (.cons (.int .i64 (.iapp 27 (.cons z0_ (.cons z1_ (.cons z2_ (.cons z3_ .nil)))))) (.cons (.err (.iapp 26 (.cons z0_ (.cons z1_ (.cons z2_ (.cons z3_ .nil)))))) .nil))), ⟨4, 0, 0, 0⟩, none⟩
theorem slag_w : walk Tryd.prog 182 ⟨[s12c_scheck, s12c_slen, s12c_mdiv, s12c_sup], syG, [], [], []⟩ [] .v s12c_slag s12c_slag.n 3000 = some slag_tree := by kernel_rfl
set_option maxHeartbeats 4000000 in
theorem slag_h (k : Int) (B : Int) (A : Int) (g : Int) (hc : holds (s12E [k, B, A, g] [] [] []) (an_ (an_ (an_ (le_ lm_ v0_) (le_ v0_ lM_)) (an_ (an_ (le_ lm_ v1_) (le_ v1_ lM_)) (an_ (le_ lm_ v2_) (le_ v2_ lM_)))) (an_ (le_ lm_ v3_) (le_ v3_ lM_)))) (hty : patsTyp (s12E [k, B, A, g] [] [] []) [(.agg (.cons z0_ (.cons z1_ (.cons z2_ .nil)))), z3_]) : slag_tree.holds (fun v_ => v_ = denV (s12E [k, B, A, g] [] [] []) b0 (.tup (.cons (.int .i64 (.iapp 27 (.cons z0_ (.cons z1_ (.cons z2_ (.cons z3_ .nil)))))) (.cons (.err (.iapp 26 (.cons z0_ (.cons z1_ (.cons z2_ (.cons z3_ .nil)))))) .nil)))) (s12E [k, B, A, g] [] [] []) := by
  simp only [Tree.holds, Sy.holds, AllN, Env.more, s12E, List.cons_append, List.nil_append, List.append_nil, denV, denI, denB, denL, I2.den, VOp.den, List.getD_cons_zero, List.getD_cons_succ, Cst.den, syso, syse, syio, sybo, List.map_nil, List.map_cons, B2.ofInts, B2.denI, B2.denB, if_true, Bool.false_eq_true, if_false, Nat.div_one, Nat.mul_one, Nat.add_zero, holds] at hc
  simp only [patsTyp, patTyp, patTypL, s12E, denV, denL, List.getD_cons_zero, List.getD_cons_succ, and_true, true_and] at hty
  unfold slag_tree
  simp only [Tree.holds, Sy.holds, AllN, Env.more, s12E, List.cons_append, List.nil_append, List.append_nil, denV, denI, denB, denL, I2.den, VOp.den, List.getD_cons_zero, List.getD_cons_succ, Cst.den, syso, syse, syio, sybo, s12i_sm, s12i_sln, s12i_lge, s12i_lgv, s12i_mdn, s12i_mde, s12i_upf, List.map_nil, List.map_cons, B2.ofInts, B2.denI, B2.denB, if_true, Bool.false_eq_true, if_false, Nat.div_one, Nat.mul_one, Nat.add_zero]
  have e1 := lagE_spec k B A g
  have n1 := slN_spec B A
  refine ⟨?_, fun h0 => ?_⟩
  ·
   rcases e1 with ⟨E, V0, Z⟩ | ⟨E, hs, hk, g0, g1, B0, B1, A0, A1, N0, N1, NE, hk2⟩
   · have s1 := smI_spec k B A
     omega
   · obtain ⟨y1, y2, y3, y4, y6, x1, x2, x3⟩ := lg_facts (B := B) (A := A) g0 g1 (by omega) (by omega)
     try simp only [x1, x2, y1.1, y1.2.1, y2, y3.1, y3.2.1, y4, y6.1, y6.2.1] at *
     omega
  ·
   refine ⟨fun h1 => ?_, fun h1 => ?_⟩
   ·
    rcases e1 with ⟨E, V0, Z⟩ | ⟨E, hs, hk, g0, g1, B0, B1, A0, A1, N0, N1, NE, hk2⟩
    · have s1 := smI_spec k B A
      first
      | (rw [E, V0]
         done)
      | (rw [E, V0]
         rfl)
      | (exfalso; omega)
    · obtain ⟨y1, y2, y3, y4, y6, x1, x2, x3⟩ := lg_facts (B := B) (A := A) g0 g1 (by omega) (by omega)
      try simp only [x1, x2, y1.1, y1.2.1, y2, y3.1, y3.2.1, y4, y6.1, y6.2.1] at *
      rcases lagV_spec k B A g with ⟨q, _⟩ | ⟨_, q, v⟩ | ⟨_, q, c, v⟩ | ⟨_, q, c, v⟩
      all_goals first
      | (exfalso; omega)
      | (exfalso
         simp only [not_true_eq_false] at *
         done)
      | (rw [E, v]
         done)
      | (rw [E, v]
         rfl)
      | (rw [E, v]
         simp only [Value.tuple.injEq, Array.mk.injEq, List.cons.injEq, Value.int.injEq, true_and, and_true]
         omega)
      | (rw [E, v]
         simp only [Value.tuple.injEq, Array.mk.injEq, List.cons.injEq, Value.int.injEq, true_and, and_true]
         exact ⟨by omega, rfl⟩)
   ·
    refine ⟨fun h2 => ?_, fun h2 => ?_⟩
    ·
     rcases e1 with ⟨E, V0, Z⟩ | ⟨E, hs, hk, g0, g1, B0, B1, A0, A1, N0, N1, NE, hk2⟩
     · have s1 := smI_spec k B A
       first
       | (rw [E, V0]
          done)
       | (rw [E, V0]
          rfl)
       | (exfalso; omega)
     · obtain ⟨y1, y2, y3, y4, y6, x1, x2, x3⟩ := lg_facts (B := B) (A := A) g0 g1 (by omega) (by omega)
       try simp only [x1, x2, y1.1, y1.2.1, y2, y3.1, y3.2.1, y4, y6.1, y6.2.1] at *
       rcases lagV_spec k B A g with ⟨q, _⟩ | ⟨_, q, v⟩ | ⟨_, q, c, v⟩ | ⟨_, q, c, v⟩
       all_goals first
       | (exfalso; omega)
       | (exfalso
          simp only [not_true_eq_false] at *
          done)
       | (rw [E, v]
          done)
       | (rw [E, v]
          rfl)
       | (rw [E, v]
          simp only [Value.tuple.injEq, Array.mk.injEq, List.cons.injEq, Value.int.injEq, true_and, and_true]
          omega)
       | (rw [E, v]
          simp only [Value.tuple.injEq, Array.mk.injEq, List.cons.injEq, Value.int.injEq, true_and, and_true]
          exact ⟨by omega, rfl⟩)
    ·
     refine ⟨fun h3 => ?_, fun h3 => ?_⟩
     ·
      rcases e1 with ⟨E, V0, Z⟩ | ⟨E, hs, hk, g0, g1, B0, B1, A0, A1, N0, N1, NE, hk2⟩
      · have s1 := smI_spec k B A
        first
        | (rw [E, V0]
           done)
        | (rw [E, V0]
           rfl)
        | (exfalso; omega)
      · obtain ⟨y1, y2, y3, y4, y6, x1, x2, x3⟩ := lg_facts (B := B) (A := A) g0 g1 (by omega) (by omega)
        try simp only [x1, x2, y1.1, y1.2.1, y2, y3.1, y3.2.1, y4, y6.1, y6.2.1] at *
        rcases lagV_spec k B A g with ⟨q, _⟩ | ⟨_, q, v⟩ | ⟨_, q, c, v⟩ | ⟨_, q, c, v⟩
        all_goals first
        | (exfalso; omega)
        | (exfalso
           simp only [not_true_eq_false] at *
           done)
        | (rw [E, v]
           done)
        | (rw [E, v]
           rfl)
        | (rw [E, v]
           simp only [Value.tuple.injEq, Array.mk.injEq, List.cons.injEq, Value.int.injEq, true_and, and_true]
           omega)
        | (rw [E, v]
           simp only [Value.tuple.injEq, Array.mk.injEq, List.cons.injEq, Value.int.injEq, true_and, and_true]
           exact ⟨by omega, rfl⟩)
     ·
      refine ⟨?_, fun h4 => ?_⟩
      ·
       rcases e1 with ⟨E, V0, Z⟩ | ⟨E, hs, hk, g0, g1, B0, B1, A0, A1, N0, N1, NE, hk2⟩
       · have s1 := smI_spec k B A
         omega
       · obtain ⟨y1, y2, y3, y4, y6, x1, x2, x3⟩ := lg_facts (B := B) (A := A) g0 g1 (by omega) (by omega)
         try simp only [x1, x2, y1.1, y1.2.1, y2, y3.1, y3.2.1, y4, y6.1, y6.2.1] at *
         omega
      ·
       refine ⟨fun h5 => ?_, fun h5 => ?_⟩
       ·
        rcases e1 with ⟨E, V0, Z⟩ | ⟨E, hs, hk, g0, g1, B0, B1, A0, A1, N0, N1, NE, hk2⟩
        · have s1 := smI_spec k B A
          first
          | (rw [E, V0]
             done)
          | (rw [E, V0]
             rfl)
          | (exfalso; omega)
        · obtain ⟨y1, y2, y3, y4, y6, x1, x2, x3⟩ := lg_facts (B := B) (A := A) g0 g1 (by omega) (by omega)
          try simp only [x1, x2, y1.1, y1.2.1, y2, y3.1, y3.2.1, y4, y6.1, y6.2.1] at *
          rcases lagV_spec k B A g with ⟨q, _⟩ | ⟨_, q, v⟩ | ⟨_, q, c, v⟩ | ⟨_, q, c, v⟩
          all_goals first
          | (exfalso; omega)
          | (exfalso
             simp only [not_true_eq_false] at *
             done)
          | (rw [E, v]
             done)
          | (rw [E, v]
             rfl)
          | (rw [E, v]
             simp only [Value.tuple.injEq, Array.mk.injEq, List.cons.injEq, Value.int.injEq, true_and, and_true]
             omega)
          | (rw [E, v]
             simp only [Value.tuple.injEq, Array.mk.injEq, List.cons.injEq, Value.int.injEq, true_and, and_true]
             exact ⟨by omega, rfl⟩)
       ·
        refine ⟨?_, fun h6 => ?_⟩
        ·
         rcases e1 with ⟨E, V0, Z⟩ | ⟨E, hs, hk, g0, g1, B0, B1, A0, A1, N0, N1, NE, hk2⟩
         · have s1 := smI_spec k B A
           omega
         · obtain ⟨y1, y2, y3, y4, y6, x1, x2, x3⟩ := lg_facts (B := B) (A := A) g0 g1 (by omega) (by omega)
           try simp only [x1, x2, y1.1, y1.2.1, y2, y3.1, y3.2.1, y4, y6.1, y6.2.1] at *
           omega
        ·
         refine ⟨fun h7 => ?_, fun h7 => ?_⟩
         ·
          refine ⟨?_, fun h8 => ?_⟩
          ·
           rcases e1 with ⟨E, V0, Z⟩ | ⟨E, hs, hk, g0, g1, B0, B1, A0, A1, N0, N1, NE, hk2⟩
           · have s1 := smI_spec k B A
             omega
           · obtain ⟨y1, y2, y3, y4, y6, x1, x2, x3⟩ := lg_facts (B := B) (A := A) g0 g1 (by omega) (by omega)
             try simp only [x1, x2, y1.1, y1.2.1, y2, y3.1, y3.2.1, y4, y6.1, y6.2.1] at *
             omega
          ·
           rcases e1 with ⟨E, V0, Z⟩ | ⟨E, hs, hk, g0, g1, B0, B1, A0, A1, N0, N1, NE, hk2⟩
           · have s1 := smI_spec k B A
             first
             | (rw [E, V0]
                done)
             | (rw [E, V0]
                rfl)
             | (exfalso; omega)
           · obtain ⟨y1, y2, y3, y4, y6, x1, x2, x3⟩ := lg_facts (B := B) (A := A) g0 g1 (by omega) (by omega)
             try simp only [x1, x2, y1.1, y1.2.1, y2, y3.1, y3.2.1, y4, y6.1, y6.2.1] at *
             rcases lagV_spec k B A g with ⟨q, _⟩ | ⟨_, q, v⟩ | ⟨_, q, c, v⟩ | ⟨_, q, c, v⟩
             all_goals first
             | (exfalso; omega)
             | (exfalso
                simp only [not_true_eq_false] at *
                done)
             | (rw [E, v]
                done)
             | (rw [E, v]
                rfl)
             | (rw [E, v]
                simp only [Value.tuple.injEq, Array.mk.injEq, List.cons.injEq, Value.int.injEq, true_and, and_true]
                omega)
             | (rw [E, v]
                simp only [Value.tuple.injEq, Array.mk.injEq, List.cons.injEq, Value.int.injEq, true_and, and_true]
                exact ⟨by omega, rfl⟩)
         ·
          refine ⟨fun h9 => ?_, fun h9 => ?_⟩
          ·
           refine ⟨?_, fun h10 => ?_⟩
           ·
            rcases e1 with ⟨E, V0, Z⟩ | ⟨E, hs, hk, g0, g1, B0, B1, A0, A1, N0, N1, NE, hk2⟩
            · have s1 := smI_spec k B A
              omega
            · obtain ⟨y1, y2, y3, y4, y6, x1, x2, x3⟩ := lg_facts (B := B) (A := A) g0 g1 (by omega) (by omega)
              try simp only [x1, x2, y1.1, y1.2.1, y2, y3.1, y3.2.1, y4, y6.1, y6.2.1] at *
              omega
           ·
            refine ⟨fun h11 => ?_, fun h11 => ?_⟩
            ·
             rcases e1 with ⟨E, V0, Z⟩ | ⟨E, hs, hk, g0, g1, B0, B1, A0, A1, N0, N1, NE, hk2⟩
             · have s1 := smI_spec k B A
               first
               | (rw [E, V0]
                  done)
               | (rw [E, V0]
                  rfl)
               | (exfalso; omega)
             · obtain ⟨y1, y2, y3, y4, y6, x1, x2, x3⟩ := lg_facts (B := B) (A := A) g0 g1 (by omega) (by omega)
               try simp only [x1, x2, y1.1, y1.2.1, y2, y3.1, y3.2.1, y4, y6.1, y6.2.1] at *
               rcases lagV_spec k B A g with ⟨q, _⟩ | ⟨_, q, v⟩ | ⟨_, q, c, v⟩ | ⟨_, q, c, v⟩
               all_goals first
               | (exfalso; omega)
               | (exfalso
                  simp only [not_true_eq_false] at *
                  done)
               | (rw [E, v]
                  done)
               | (rw [E, v]
                  rfl)
               | (rw [E, v]
                  simp only [Value.tuple.injEq, Array.mk.injEq, List.cons.injEq, Value.int.injEq, true_and, and_true]
                  omega)
               | (rw [E, v]
                  simp only [Value.tuple.injEq, Array.mk.injEq, List.cons.injEq, Value.int.injEq, true_and, and_true]
                  exact ⟨by omega, rfl⟩)
            ·
             refine ⟨?_, fun h12 => ?_⟩
             ·
              rcases e1 with ⟨E, V0, Z⟩ | ⟨E, hs, hk, g0, g1, B0, B1, A0, A1, N0, N1, NE, hk2⟩
              · have s1 := smI_spec k B A
                omega
              · obtain ⟨y1, y2, y3, y4, y6, x1, x2, x3⟩ := lg_facts (B := B) (A := A) g0 g1 (by omega) (by omega)
                try simp only [x1, x2, y1.1, y1.2.1, y2, y3.1, y3.2.1, y4, y6.1, y6.2.1] at *
                omega
             ·
              rcases e1 with ⟨E, V0, Z⟩ | ⟨E, hs, hk, g0, g1, B0, B1, A0, A1, N0, N1, NE, hk2⟩
              · have s1 := smI_spec k B A
                first
                | (rw [E, V0]
                   done)
                | (rw [E, V0]
                   rfl)
                | (exfalso; omega)
              · obtain ⟨y1, y2, y3, y4, y6, x1, x2, x3⟩ := lg_facts (B := B) (A := A) g0 g1 (by omega) (by omega)
                try simp only [x1, x2, y1.1, y1.2.1, y2, y3.1, y3.2.1, y4, y6.1, y6.2.1] at *
                rcases lagV_spec k B A g with ⟨q, _⟩ | ⟨_, q, v⟩ | ⟨_, q, c, v⟩ | ⟨_, q, c, v⟩
                all_goals first
                | (exfalso; omega)
                | (exfalso
                   simp only [not_true_eq_false] at *
                   done)
                | (rw [E, v]
                   done)
                | (rw [E, v]
                   rfl)
                | (rw [E, v]
                   simp only [Value.tuple.injEq, Array.mk.injEq, List.cons.injEq, Value.int.injEq, true_and, and_true]
                   omega)
                | (rw [E, v]
                   simp only [Value.tuple.injEq, Array.mk.injEq, List.cons.injEq, Value.int.injEq, true_and, and_true]
                   exact ⟨by omega, rfl⟩)
          ·
           have wf1 := wr_i64 ((slN B A) - g)
           refine ⟨?_, fun h13 => ?_⟩
           ·
            rcases e1 with ⟨E, V0, Z⟩ | ⟨E, hs, hk, g0, g1, B0, B1, A0, A1, N0, N1, NE, hk2⟩
            · have s1 := smI_spec k B A
              omega
            · obtain ⟨y1, y2, y3, y4, y6, x1, x2, x3⟩ := lg_facts (B := B) (A := A) g0 g1 (by omega) (by omega)
              try simp only [x1, x2, y1.1, y1.2.1, y2, y3.1, y3.2.1, y4, y6.1, y6.2.1] at *
              omega
           ·
            try simp only [hw1]
            refine ⟨fun h14 => ?_, fun h14 => ?_⟩
            ·
             try simp only [hw1]
             rcases e1 with ⟨E, V0, Z⟩ | ⟨E, hs, hk, g0, g1, B0, B1, A0, A1, N0, N1, NE, hk2⟩
             · have s1 := smI_spec k B A
               first
               | (rw [E, V0]
                  done)
               | (rw [E, V0]
                  rfl)
               | (exfalso; omega)
             · obtain ⟨y1, y2, y3, y4, y6, x1, x2, x3⟩ := lg_facts (B := B) (A := A) g0 g1 (by omega) (by omega)
               try simp only [x1, x2, y1.1, y1.2.1, y2, y3.1, y3.2.1, y4, y6.1, y6.2.1] at *
               rcases lagV_spec k B A g with ⟨q, _⟩ | ⟨_, q, v⟩ | ⟨_, q, c, v⟩ | ⟨_, q, c, v⟩
               all_goals first
               | (exfalso; omega)
               | (exfalso
                  simp only [not_true_eq_false] at *
                  done)
               | (rw [E, v]
                  done)
               | (rw [E, v]
                  rfl)
               | (rw [E, v]
                  simp only [Value.tuple.injEq, Array.mk.injEq, List.cons.injEq, Value.int.injEq, true_and, and_true]
                  omega)
               | (rw [E, v]
                  simp only [Value.tuple.injEq, Array.mk.injEq, List.cons.injEq, Value.int.injEq, true_and, and_true]
                  exact ⟨by omega, rfl⟩)
            ·
             try simp only [hw1]
             refine ⟨?_, fun h15 => ?_⟩
             ·
              rcases e1 with ⟨E, V0, Z⟩ | ⟨E, hs, hk, g0, g1, B0, B1, A0, A1, N0, N1, NE, hk2⟩
              · have s1 := smI_spec k B A
                omega
              · obtain ⟨y1, y2, y3, y4, y6, x1, x2, x3⟩ := lg_facts (B := B) (A := A) g0 g1 (by omega) (by omega)
                try simp only [x1, x2, y1.1, y1.2.1, y2, y3.1, y3.2.1, y4, y6.1, y6.2.1] at *
                omega
             ·
              try simp only [hw1]
              refine ⟨fun h16 => ?_, fun h16 => ?_⟩
              ·
               try simp only [hw1]
               rcases e1 with ⟨E, V0, Z⟩ | ⟨E, hs, hk, g0, g1, B0, B1, A0, A1, N0, N1, NE, hk2⟩
               · have s1 := smI_spec k B A
                 first
                 | (rw [E, V0]
                    done)
                 | (rw [E, V0]
                    rfl)
                 | (exfalso; omega)
               · obtain ⟨y1, y2, y3, y4, y6, x1, x2, x3⟩ := lg_facts (B := B) (A := A) g0 g1 (by omega) (by omega)
                 try simp only [x1, x2, y1.1, y1.2.1, y2, y3.1, y3.2.1, y4, y6.1, y6.2.1] at *
                 rcases lagV_spec k B A g with ⟨q, _⟩ | ⟨_, q, v⟩ | ⟨_, q, c, v⟩ | ⟨_, q, c, v⟩
                 all_goals first
                 | (exfalso; omega)
                 | (exfalso
                    simp only [not_true_eq_false] at *
                    done)
                 | (rw [E, v]
                    done)
                 | (rw [E, v]
                    rfl)
                 | (rw [E, v]
                    simp only [Value.tuple.injEq, Array.mk.injEq, List.cons.injEq, Value.int.injEq, true_and, and_true]
                    omega)
                 | (rw [E, v]
                    simp only [Value.tuple.injEq, Array.mk.injEq, List.cons.injEq, Value.int.injEq, true_and, and_true]
                    exact ⟨by omega, rfl⟩)
              ·
               try simp only [hw1]
               rcases e1 with ⟨E, V0, Z⟩ | ⟨E, hs, hk, g0, g1, B0, B1, A0, A1, N0, N1, NE, hk2⟩
               · have s1 := smI_spec k B A
                 first
                 | (rw [E, V0]
                    done)
                 | (rw [E, V0]
                    rfl)
                 | (exfalso; omega)
               · obtain ⟨y1, y2, y3, y4, y6, x1, x2, x3⟩ := lg_facts (B := B) (A := A) g0 g1 (by omega) (by omega)
                 try simp only [x1, x2, y1.1, y1.2.1, y2, y3.1, y3.2.1, y4, y6.1, y6.2.1] at *
                 rcases lagV_spec k B A g with ⟨q, _⟩ | ⟨_, q, v⟩ | ⟨_, q, c, v⟩ | ⟨_, q, c, v⟩
                 all_goals first
                 | (exfalso; omega)
                 | (exfalso
                    simp only [not_true_eq_false] at *
                    done)
                 | (rw [E, v]
                    done)
                 | (rw [E, v]
                    rfl)
                 | (rw [E, v]
                    simp only [Value.tuple.injEq, Array.mk.injEq, List.cons.injEq, Value.int.injEq, true_and, and_true]
                    omega)
                 | (rw [E, v]
                    simp only [Value.tuple.injEq, Array.mk.injEq, List.cons.injEq, Value.int.injEq, true_and, and_true]
                    exact ⟨by omega, rfl⟩)
theorem s12g_slag : s12c_slag.Good Tryd.prog syG (s12E [] [] [] []) := good_of_walk (Γ := ⟨[s12c_scheck, s12c_slen, s12c_mdiv, s12c_sup], syG, [], [], []⟩) (ρ := s12E [] [] [] []) sym slag_w rfl (fun _ _ _ _ => (ok_cons (Con.Good.env s12g_scheck _ _ _ _) (ok_cons (Con.Good.env s12g_slen _ _ _ _) (ok_cons (Con.Good.env s12g_mdiv _ _ _ _) (ok_cons (Con.Good.env s12g_sup _ _ _ _) ok_nil))))) (fun k B A g hc hty => slag_h k B A g hc hty)
def splain_tree : Tree :=
 (.br (.not (eq_ (.iapp 4 (.cons z0_ (.cons z1_ (.cons o0_ (.cons z2_ .nil))))) (.lit 0)))
 (.ret (.tup (.cons (.int .i64 (.lit 0)) (.cons (.err (.iapp 4 (.cons z0_ (.cons z1_ (.cons o0_ (.cons z2_ .nil)))))) .nil))))
 (.ret (.tup (.cons (.int .i64 (wr_ (sb_ v3_ (wr_ (ml_ (.iapp 6 (.cons z0_ (.cons z1_ (.cons o0_ (.cons z2_ .nil))))) (.lit 1000000000)))))) (.cons (.cst .nilI) .nil)))))
abbrev s12c_splain : Con := ⟨156, [(.agg (.cons z0_ (.cons z1_ (.cons (.hs .no (.cons (.int .i64) .nil) o0_) .nil)))), z2_, z3_], (an_ (le_ (.lit (-4611686018427387904)) v3_) (le_ v3_ (.lit 4611686018427387904))), (.tup (.cons (.int .i64 (.iapp 38 (.cons z0_ (.cons z1_ (.cons o0_ (.cons z2_ (.cons z3_ .nil))))))) (.cons (.err (.iapp 4 (.cons z0_ (.cons z1_ (.cons o0_ (.cons z2_ .nil)))))) .nil))), ⟨4, 0, 1, 0⟩, none⟩
theorem splain_w : walk Tryd.prog 182 ⟨[y9c_LAhead], syG, [], [], []⟩ [] .v s12c_splain s12c_splain.n 3000 = some splain_tree := by kernel_rfl
theorem splain_h (b : Int) (t : Int) (d : Int) (n : Int) (l : Value) (hc : holds (s12E [b, t, d, n] [] [l] []) (an_ (le_ (.lit (-4611686018427387904)) v3_) (le_ v3_ (.lit 4611686018427387904)))) (hty : patsTyp (s12E [b, t, d, n] [] [l] []) [(.agg (.cons z0_ (.cons z1_ (.cons (.hs .no (.cons (.int .i64) .nil) o0_) .nil)))), z2_, z3_]) : splain_tree.holds (fun v_ => v_ = denV (s12E [b, t, d, n] [] [l] []) b0 (.tup (.cons (.int .i64 (.iapp 38 (.cons z0_ (.cons z1_ (.cons o0_ (.cons z2_ (.cons z3_ .nil))))))) (.cons (.err (.iapp 4 (.cons z0_ (.cons z1_ (.cons o0_ (.cons z2_ .nil)))))) .nil)))) (s12E [b, t, d, n] [] [l] []) := by
  simp only [Tree.holds, Sy.holds, AllN, Env.more, s12E, List.cons_append, List.nil_append, List.append_nil, denV, denI, denB, denL, I2.den, VOp.den, List.getD_cons_zero, List.getD_cons_succ, Cst.den, syso, syse, syio, sybo, List.map_nil, List.map_cons, B2.ofInts, B2.denI, B2.denB, if_true, Bool.false_eq_true, if_false, Nat.div_one, Nat.mul_one, Nat.add_zero, holds] at hc
  simp only [patsTyp, patTyp, patTypL, s12E, denV, denL, List.getD_cons_zero, List.getD_cons_succ, and_true, true_and] at hty
  have hL_l : typ (.sl (.cons (.int .i64) .nil)) l := by first | exact hty | exact hty.1 | exact hty.2 | exact hty.1.1 | exact hty.1.2 | exact hty.2.1 | exact hty.2.2 | exact hty.2.2.1 | exact hty.2.2.2
  have hN_l := typ_len (n := 1) hL_l rfl (by omega)
  simp only [Nat.div_one, Nat.mul_one] at hN_l
  unfold splain_tree
  simp only [Tree.holds, Sy.holds, AllN, Env.more, s12E, List.cons_append, List.nil_append, List.append_nil, denV, denI, denB, denL, I2.den, VOp.den, List.getD_cons_zero, List.getD_cons_succ, Cst.den, syso, syse, syio, sybo, s12i_wrong, s12i_aheadI, s12i_pla, List.map_nil, List.map_cons, B2.ofInts, B2.denI, B2.denB, if_true, Bool.false_eq_true, if_false, Nat.div_one, Nat.mul_one, Nat.add_zero]
  have d1 := day_spec b t (intsOf l) d
  have c1 := secL_spec b (intsOf l) d
  have r1 := wrongI_spec b t (intsOf l) d
  refine ⟨fun h0 => ?_, fun h0 => ?_⟩
  ·
   unfold plaI plN
   first
   | (rw [if_neg (by omega)]
      done)
   | (rw [if_neg (by omega)]
      rfl)
   | (rw [if_pos (by omega), show wrongI b t (intsOf l) d = 0 by omega]
      have h1 := wr_i64 (aheadI b t (intsOf l) d * 1000000000)
      have h2 := wr_i64 (n - IntKind.wrap .i64 (aheadI b t (intsOf l) d * 1000000000))
      simp only [Value.tuple.injEq, Array.mk.injEq, List.cons.injEq, Value.int.injEq, true_and, and_true]
      exact ⟨by omega, rfl⟩)
  ·
   have wf0 := wr_i64 ((aheadI b t (intsOf l) d) * 1000000000)
   have wf1 := wr_i64 (n - (IntKind.wrap .i64 ((aheadI b t (intsOf l) d) * 1000000000)))
   unfold plaI plN
   first
   | (rw [if_neg (by omega)]
      done)
   | (rw [if_neg (by omega)]
      rfl)
   | (rw [if_pos (by omega), show wrongI b t (intsOf l) d = 0 by omega]
      have h1 := wr_i64 (aheadI b t (intsOf l) d * 1000000000)
      have h2 := wr_i64 (n - IntKind.wrap .i64 (aheadI b t (intsOf l) d * 1000000000))
      simp only [Value.tuple.injEq, Array.mk.injEq, List.cons.injEq, Value.int.injEq, true_and, and_true]
      exact ⟨by omega, rfl⟩)
theorem s12g_splain : s12c_splain.Good Tryd.prog syG (s12E [] [] [] []) := good_of_walk (Γ := ⟨[y9c_LAhead], syG, [], [], []⟩) (ρ := s12E [] [] [] []) sym splain_w rfl (fun _ _ _ _ => (ok_cons (Con.Good.env (Con.Good.up (Con.Good.up y9g_LAhead s12aup rfl) s12up rfl) _ _ _ _) ok_nil)) (fun b t d n l hc hty => splain_h b t d n l hc hty)
def swith_tree : Tree :=
 (.need (an_ (le_ (.lit 0) v1_) (an_ (le_ v1_ (.lit 43200)) (an_ (le_ (.lit 0) v2_) (le_ v2_ (.lit 43200)))))
 (.br (.not (eq_ (.iapp 4 (.cons z3_ (.cons z4_ (.cons o0_ (.cons z5_ .nil))))) (.lit 0)))
 (.ret (.tup (.cons (.int .i64 (.lit 0)) (.cons (.err (.iapp 4 (.cons z3_ (.cons z4_ (.cons o0_ (.cons z5_ .nil)))))) .nil))))
 (.need (an_ (le_ (.lit (-4611686018427387904)) (.iapp 22 (.cons z1_ (.cons z3_ (.cons z4_ (.cons o0_ (.cons z5_ .nil))))))) (le_ (.iapp 22 (.cons z1_ (.cons z3_ (.cons z4_ (.cons o0_ (.cons z5_ .nil)))))) (.lit 4611686018427387904)))
 (.need (an_ (an_ (an_ (le_ lm_ v0_) (le_ v0_ lM_)) (an_ (an_ (le_ lm_ v1_) (le_ v1_ lM_)) (an_ (le_ lm_ v2_) (le_ v2_ lM_)))) (an_ (le_ lm_ v6_) (le_ v6_ lM_)))
 (.br (.not (eq_ (.iapp 26 (.cons z0_ (.cons z1_ (.cons z2_ (.cons z6_ .nil))))) (.lit 0)))
 (.ret (.tup (.cons (.int .i64 (.lit 0)) (.cons (.err (.iapp 26 (.cons z0_ (.cons z1_ (.cons z2_ (.cons z6_ .nil)))))) .nil))))
 (.ret (.tup (.cons (.int .i64 (wr_ (sb_ (wr_ (ad_ (.iapp 38 (.cons z3_ (.cons z4_ (.cons o0_ (.cons z5_ (.cons (.int .i64 (.iapp 22 (.cons z1_ (.cons z3_ (.cons z4_ (.cons o0_ (.cons z5_ .nil))))))) .nil)))))) v6_)) (.iapp 27 (.cons z0_ (.cons z1_ (.cons z2_ (.cons z6_ .nil)))))))) (.cons (.cst .nilI) .nil)))))))))
abbrev s12c_swith : Con := ⟨157, [(.agg (.cons z0_ (.cons z1_ (.cons z2_ .nil)))), (.agg (.cons z3_ (.cons z4_ (.cons (.hs .no (.cons (.int .i64) .nil) o0_) .nil)))), z5_, z6_], (an_ (an_ (an_ (le_ lm_ v0_) (le_ v0_ lM_)) (an_ (an_ (le_ lm_ v1_) (le_ v1_ lM_)) (an_ (le_ lm_ v2_) (le_ v2_ lM_)))) (an_ (an_ (le_ lm_ v5_) (le_ v5_ lM_)) (an_ (eq_ (.iapp 20 (.cons z0_ (.cons z1_ (.cons z2_ .nil)))) (.lit 0)) (an_ (.not (eq_ v0_ (.lit 0))) (an_ (eq_ (.iapp 4 (.cons z3_ (.cons z4_ (.cons o0_ (.cons z5_ .nil))))) (.lit 0)) (an_ (le_ (.lit 0) v6_) (le_ v6_ (.iapp 21 (.cons z1_ (.cons z2_ .nil)))))))))), (.tup (.cons (.int .i64 (.iapp 39 (.cons z0_ (.cons z1_ (.cons z2_ (.cons z3_ (.cons z4_ (.cons o0_ (.cons z5_ (.cons z6_ .nil)))))))))) (.cons (.err (.lit 0)) .nil))), ⟨7, 0, 1, 0⟩, none⟩
theorem swith_w : walk Tryd.prog 182 ⟨[s12c_swin, s12c_slag, s12c_splain], syG, [], [], []⟩ [] .v s12c_swith s12c_swith.n 3000 = some swith_tree := by kernel_rfl
theorem swith_h (k : Int) (B : Int) (A : Int) (b : Int) (t : Int) (d : Int) (g : Int) (l : Value) (hc : holds (s12E [k, B, A, b, t, d, g] [] [l] []) (an_ (an_ (an_ (le_ lm_ v0_) (le_ v0_ lM_)) (an_ (an_ (le_ lm_ v1_) (le_ v1_ lM_)) (an_ (le_ lm_ v2_) (le_ v2_ lM_)))) (an_ (an_ (le_ lm_ v5_) (le_ v5_ lM_)) (an_ (eq_ (.iapp 20 (.cons z0_ (.cons z1_ (.cons z2_ .nil)))) (.lit 0)) (an_ (.not (eq_ v0_ (.lit 0))) (an_ (eq_ (.iapp 4 (.cons z3_ (.cons z4_ (.cons o0_ (.cons z5_ .nil))))) (.lit 0)) (an_ (le_ (.lit 0) v6_) (le_ v6_ (.iapp 21 (.cons z1_ (.cons z2_ .nil))))))))))) (hty : patsTyp (s12E [k, B, A, b, t, d, g] [] [l] []) [(.agg (.cons z0_ (.cons z1_ (.cons z2_ .nil)))), (.agg (.cons z3_ (.cons z4_ (.cons (.hs .no (.cons (.int .i64) .nil) o0_) .nil)))), z5_, z6_]) : swith_tree.holds (fun v_ => v_ = denV (s12E [k, B, A, b, t, d, g] [] [l] []) b0 (.tup (.cons (.int .i64 (.iapp 39 (.cons z0_ (.cons z1_ (.cons z2_ (.cons z3_ (.cons z4_ (.cons o0_ (.cons z5_ (.cons z6_ .nil)))))))))) (.cons (.err (.lit 0)) .nil)))) (s12E [k, B, A, b, t, d, g] [] [l] []) := by
  simp only [Tree.holds, Sy.holds, AllN, Env.more, s12E, List.cons_append, List.nil_append, List.append_nil, denV, denI, denB, denL, I2.den, VOp.den, List.getD_cons_zero, List.getD_cons_succ, Cst.den, syso, syse, syio, sybo, s12i_wrong, s12i_sm, s12i_sln, List.map_nil, List.map_cons, B2.ofInts, B2.denI, B2.denB, if_true, Bool.false_eq_true, if_false, Nat.div_one, Nat.mul_one, Nat.add_zero, holds] at hc
  simp only [patsTyp, patTyp, patTypL, s12E, denV, denL, List.getD_cons_zero, List.getD_cons_succ, and_true, true_and] at hty
  have hL_l : typ (.sl (.cons (.int .i64) .nil)) l := by first | exact hty | exact hty.1 | exact hty.2 | exact hty.1.1 | exact hty.1.2 | exact hty.2.1 | exact hty.2.2 | exact hty.2.2.1 | exact hty.2.2.2
  have hN_l := typ_len (n := 1) hL_l rfl (by omega)
  simp only [Nat.div_one, Nat.mul_one] at hN_l
  unfold swith_tree
  simp only [Tree.holds, Sy.holds, AllN, Env.more, s12E, List.cons_append, List.nil_append, List.append_nil, denV, denI, denB, denL, I2.den, VOp.den, List.getD_cons_zero, List.getD_cons_succ, Cst.den, syso, syse, syio, sybo, s12i_wrong, s12i_wb, s12i_lge, s12i_lgv, s12i_pla, s12i_wiv, List.map_nil, List.map_cons, B2.ofInts, B2.denI, B2.denB, if_true, Bool.false_eq_true, if_false, Nat.div_one, Nat.mul_one, Nat.add_zero]
  have w1 := win_spec B A b t (intsOf l) d
  have d1 := day_spec b t (intsOf l) d
  have c1 := secL_spec b (intsOf l) d
  have r1 := wrongI_spec b t (intsOf l) d
  have n1 := slN_spec B A
  have s1 := smI_spec k B A
  have li := lag_in (k := k) (B := B) (A := A) (g := g)
  have e1 := lagE_spec k B A g
  refine ⟨?_, fun h0 => ?_⟩
  ·
   first
   | omega
   | exact ⟨⟨by omega, by omega, by omega⟩, by omega⟩
  ·
   refine ⟨fun h1 => ?_, fun h1 => ?_⟩
   ·
    have li2 := li (by omega) (by omega) (by omega) (by omega)
    have hp : plaI b t (intsOf l) d (winB B b t (intsOf l) d) = winB B b t (intsOf l) d - (b + ctL (intsOf l) d) * 1000000000 := by unfold plaI plN; rw [if_pos (by omega)]
    have hwi : wiI k B A b t (intsOf l) d g = wbN B b (intsOf l) d + g - (b + ctL (intsOf l) d) * 1000000000 - lagV k B A g := rfl
    simp only [hp] at *
    first
    | (exfalso; omega)
    | (have h1 := wr_i64 (winB B b t (intsOf l) d - (b + ctL (intsOf l) d) * 1000000000 + g)
       have h2 := wr_i64 (IntKind.wrap .i64 (winB B b t (intsOf l) d - (b + ctL (intsOf l) d) * 1000000000 + g) - lagV k B A g)
       simp only [Value.tuple.injEq, Array.mk.injEq, List.cons.injEq, Value.int.injEq, true_and, and_true]
       exact ⟨by omega, rfl⟩)
   ·
    refine ⟨?_, fun h2 => ?_⟩
    ·
     first
     | omega
     | exact ⟨⟨by omega, by omega, by omega⟩, by omega⟩
    ·
     refine ⟨?_, fun h3 => ?_⟩
     ·
      first
      | omega
      | exact ⟨⟨by omega, by omega, by omega⟩, by omega⟩
     ·
      refine ⟨fun h4 => ?_, fun h4 => ?_⟩
      ·
       have li2 := li (by omega) (by omega) (by omega) (by omega)
       have hp : plaI b t (intsOf l) d (winB B b t (intsOf l) d) = winB B b t (intsOf l) d - (b + ctL (intsOf l) d) * 1000000000 := by unfold plaI plN; rw [if_pos (by omega)]
       have hwi : wiI k B A b t (intsOf l) d g = wbN B b (intsOf l) d + g - (b + ctL (intsOf l) d) * 1000000000 - lagV k B A g := rfl
       simp only [hp] at *
       first
       | (exfalso; omega)
       | (have h1 := wr_i64 (winB B b t (intsOf l) d - (b + ctL (intsOf l) d) * 1000000000 + g)
          have h2 := wr_i64 (IntKind.wrap .i64 (winB B b t (intsOf l) d - (b + ctL (intsOf l) d) * 1000000000 + g) - lagV k B A g)
          simp only [Value.tuple.injEq, Array.mk.injEq, List.cons.injEq, Value.int.injEq, true_and, and_true]
          exact ⟨by omega, rfl⟩)
      ·
       have wf0 := wr_i64 ((plaI b t (intsOf l) d (winB B b t (intsOf l) d)) + g)
       have wf1 := wr_i64 ((IntKind.wrap .i64 ((plaI b t (intsOf l) d (winB B b t (intsOf l) d)) + g)) - (lagV k B A g))
       have li2 := li (by omega) (by omega) (by omega) (by omega)
       have hp : plaI b t (intsOf l) d (winB B b t (intsOf l) d) = winB B b t (intsOf l) d - (b + ctL (intsOf l) d) * 1000000000 := by unfold plaI plN; rw [if_pos (by omega)]
       have hwi : wiI k B A b t (intsOf l) d g = wbN B b (intsOf l) d + g - (b + ctL (intsOf l) d) * 1000000000 - lagV k B A g := rfl
       simp only [hp] at *
       first
       | (exfalso; omega)
       | (have h1 := wr_i64 (winB B b t (intsOf l) d - (b + ctL (intsOf l) d) * 1000000000 + g)
          have h2 := wr_i64 (IntKind.wrap .i64 (winB B b t (intsOf l) d - (b + ctL (intsOf l) d) * 1000000000 + g) - lagV k B A g)
          simp only [Value.tuple.injEq, Array.mk.injEq, List.cons.injEq, Value.int.injEq, true_and, and_true]
          exact ⟨by omega, rfl⟩)
theorem s12g_swith : s12c_swith.Good Tryd.prog syG (s12E [] [] [] []) := good_of_walk (Γ := ⟨[s12c_swin, s12c_slag, s12c_splain], syG, [], [], []⟩) (ρ := s12E [] [] [] []) sym swith_w rfl (fun _ _ _ _ => (ok_cons (Con.Good.env s12g_swin _ _ _ _) (ok_cons (Con.Good.env s12g_slag _ _ _ _) (ok_cons (Con.Good.env s12g_splain _ _ _ _) ok_nil)))) (fun k B A b t d g l hc hty => swith_h k B A b t d g l hc hty)
def sat_tree : Tree :=
 (.need (an_ (an_ (le_ lm_ v0_) (le_ v0_ lM_)) (an_ (an_ (le_ lm_ v1_) (le_ v1_ lM_)) (an_ (le_ lm_ v2_) (le_ v2_ lM_))))
 (.br (.not (eq_ (.iapp 24 (.cons z0_ (.cons z1_ (.cons z2_ (.cons z3_ (.cons z4_ (.cons o0_ .nil))))))) (.lit 0)))
 (.ret (.tup (.cons (.int .i64 (.lit 0)) (.cons (.err (.iapp 24 (.cons z0_ (.cons z1_ (.cons z2_ (.cons z3_ (.cons z4_ (.cons o0_ .nil)))))))) .nil))))
 (.need (an_ (le_ lm_ v5_) (le_ v5_ lM_))
 (.br (.not (eq_ (.iapp 9 (.cons z3_ (.cons z4_ (.cons o0_ (.cons z5_ .nil))))) (.lit 0)))
 (.ret (.tup (.cons (.int .i64 (.lit 0)) (.cons (.err (.iapp 9 (.cons z3_ (.cons z4_ (.cons o0_ (.cons z5_ .nil)))))) .nil))))
 (.br (eq_ v0_ (.lit 0))
 (.need (an_ (le_ (.lit (-4611686018427387904)) v5_) (le_ v5_ (.lit 4611686018427387904)))
 (.ret (.tup (.cons (.int .i64 (.iapp 38 (.cons z3_ (.cons z4_ (.cons o0_ (.cons (.int .i64 (.iapp 10 (.cons z3_ (.cons z4_ (.cons o0_ (.cons z5_ .nil)))))) (.cons z5_ .nil))))))) (.cons (.err (.iapp 4 (.cons z3_ (.cons z4_ (.cons o0_ (.cons (.int .i64 (.iapp 10 (.cons z3_ (.cons z4_ (.cons o0_ (.cons z5_ .nil)))))) .nil)))))) .nil)))))
 (.loop ⟨1, 0, 0, 0⟩ (an_ (le_ (.lit 0) (.lit 0)) (an_ (le_ (.lit 0) (.ofI (.vop (.len 1) (.cons o0_ .nil)))) (.bapp 3 (.cons z1_ (.cons z2_ (.cons z3_ (.cons o0_ (.cons z5_ (.cons (.int .i64 (.lit 0)) .nil))))))))) (an_ (le_ (.lit 0) v6_) (an_ (le_ v6_ (.ofI (.vop (.len 1) (.cons o0_ .nil)))) (.bapp 3 (.cons z1_ (.cons z2_ (.cons z3_ (.cons o0_ (.cons z5_ (.cons z6_ .nil)))))))))
 (.br (lt_ v6_ (.ofI (.vop (.len 1) (.cons o0_ .nil))))
 (.need (an_ (le_ (.lit 0) v6_) (lt_ v6_ (.ofI (.vop (.len 1) (.cons o0_ .nil)))))
 (.need (an_ (le_ (.lit 0) v1_) (an_ (le_ v1_ (.lit 43200)) (an_ (le_ (.lit 0) v2_) (le_ v2_ (.lit 43200)))))
 (.br (.not (eq_ (.iapp 4 (.cons z3_ (.cons z4_ (.cons o0_ (.cons (.int .i64 (.ofI (.vop (.sel 1 0) (.cons o0_ (.cons z6_ .nil))))) .nil))))) (.lit 0)))
 (.ret (.tup (.cons (.int .i64 (.lit 0)) (.cons (.err (.iapp 4 (.cons z3_ (.cons z4_ (.cons o0_ (.cons (.int .i64 (.ofI (.vop (.sel 1 0) (.cons o0_ (.cons z6_ .nil))))) .nil)))))) .nil))))
 (.br (le_ (.iapp 22 (.cons z1_ (.cons z3_ (.cons z4_ (.cons o0_ (.cons (.int .i64 (.ofI (.vop (.sel 1 0) (.cons o0_ (.cons z6_ .nil))))) .nil)))))) v5_)
 (.br (lt_ v5_ (.iapp 23 (.cons z1_ (.cons z2_ (.cons z3_ (.cons z4_ (.cons o0_ (.cons (.int .i64 (.ofI (.vop (.sel 1 0) (.cons o0_ (.cons z6_ .nil))))) .nil))))))))
 (.need (an_ (an_ (an_ (le_ lm_ v0_) (le_ v0_ lM_)) (an_ (an_ (le_ lm_ v1_) (le_ v1_ lM_)) (an_ (le_ lm_ v2_) (le_ v2_ lM_)))) (an_ (an_ (le_ lm_ (.ofI (.vop (.sel 1 0) (.cons o0_ (.cons z6_ .nil))))) (le_ (.ofI (.vop (.sel 1 0) (.cons o0_ (.cons z6_ .nil)))) lM_)) (an_ (eq_ (.iapp 20 (.cons z0_ (.cons z1_ (.cons z2_ .nil)))) (.lit 0)) (an_ (.not (eq_ v0_ (.lit 0))) (an_ (eq_ (.iapp 4 (.cons z3_ (.cons z4_ (.cons o0_ (.cons (.int .i64 (.ofI (.vop (.sel 1 0) (.cons o0_ (.cons z6_ .nil))))) .nil))))) (.lit 0)) (an_ (le_ (.lit 0) (wr_ (sb_ v5_ (.iapp 22 (.cons z1_ (.cons z3_ (.cons z4_ (.cons o0_ (.cons (.int .i64 (.ofI (.vop (.sel 1 0) (.cons o0_ (.cons z6_ .nil))))) .nil))))))))) (le_ (wr_ (sb_ v5_ (.iapp 22 (.cons z1_ (.cons z3_ (.cons z4_ (.cons o0_ (.cons (.int .i64 (.ofI (.vop (.sel 1 0) (.cons o0_ (.cons z6_ .nil))))) .nil)))))))) (.iapp 21 (.cons z1_ (.cons z2_ .nil))))))))))
 (.ret (.tup (.cons (.int .i64 (.iapp 39 (.cons z0_ (.cons z1_ (.cons z2_ (.cons z3_ (.cons z4_ (.cons o0_ (.cons (.int .i64 (.ofI (.vop (.sel 1 0) (.cons o0_ (.cons z6_ .nil))))) (.cons (.int .i64 (wr_ (sb_ v5_ (.iapp 22 (.cons z1_ (.cons z3_ (.cons z4_ (.cons o0_ (.cons (.int .i64 (.ofI (.vop (.sel 1 0) (.cons o0_ (.cons z6_ .nil))))) .nil))))))))) .nil)))))))))) (.cons (.err (.lit 0)) .nil)))))
 (.back (an_ (le_ (.lit 0) (wr_ (ad_ v6_ (.lit 1)))) (an_ (le_ (wr_ (ad_ v6_ (.lit 1))) (.ofI (.vop (.len 1) (.cons o0_ .nil)))) (.bapp 3 (.cons z1_ (.cons z2_ (.cons z3_ (.cons o0_ (.cons z5_ (.cons (.int .i64 (wr_ (ad_ v6_ (.lit 1)))) .nil))))))))) (sb_ (.ofI (.vop (.len 1) (.cons o0_ .nil))) (wr_ (ad_ v6_ (.lit 1)))) (sb_ (.ofI (.vop (.len 1) (.cons o0_ .nil))) v6_)))
 (.back (an_ (le_ (.lit 0) (wr_ (ad_ v6_ (.lit 1)))) (an_ (le_ (wr_ (ad_ v6_ (.lit 1))) (.ofI (.vop (.len 1) (.cons o0_ .nil)))) (.bapp 3 (.cons z1_ (.cons z2_ (.cons z3_ (.cons o0_ (.cons z5_ (.cons (.int .i64 (wr_ (ad_ v6_ (.lit 1)))) .nil))))))))) (sb_ (.ofI (.vop (.len 1) (.cons o0_ .nil))) (wr_ (ad_ v6_ (.lit 1)))) (sb_ (.ofI (.vop (.len 1) (.cons o0_ .nil))) v6_))))))
 (.need (an_ (le_ (.lit (-4611686018427387904)) v5_) (le_ v5_ (.lit 4611686018427387904)))
 (.ret (.tup (.cons (.int .i64 (.iapp 38 (.cons z3_ (.cons z4_ (.cons o0_ (.cons (.int .i64 (.iapp 10 (.cons z3_ (.cons z4_ (.cons o0_ (.cons z5_ .nil)))))) (.cons z5_ .nil))))))) (.cons (.err (.iapp 4 (.cons z3_ (.cons z4_ (.cons o0_ (.cons (.int .i64 (.iapp 10 (.cons z3_ (.cons z4_ (.cons o0_ (.cons z5_ .nil)))))) .nil)))))) .nil))))))))))))
abbrev s12c_sat : Con := ⟨73, [(.agg (.cons z0_ (.cons z1_ (.cons z2_ .nil)))), (.agg (.cons z3_ (.cons z4_ (.cons (.hs .no (.cons (.int .i64) .nil) o0_) .nil)))), z5_], (an_ (an_ (an_ (le_ lm_ v0_) (le_ v0_ lM_)) (an_ (an_ (le_ lm_ v1_) (le_ v1_ lM_)) (an_ (le_ lm_ v2_) (le_ v2_ lM_)))) (an_ (le_ lm_ v5_) (le_ v5_ lM_))), (.tup (.cons (.int .i64 (.iapp 31 (.cons z0_ (.cons z1_ (.cons z2_ (.cons z3_ (.cons z4_ (.cons o0_ (.cons z5_ .nil))))))))) (.cons (.err (.iapp 30 (.cons z0_ (.cons z1_ (.cons z2_ (.cons z3_ (.cons z4_ (.cons o0_ (.cons z5_ .nil))))))))) .nil))), ⟨6, 0, 1, 0⟩, none⟩
theorem sat_w : walk Tryd.prog 182 ⟨[s12c_sfits, y9c_lutc, s12c_swin, s12c_splain, s12c_swith], syG, [], [], []⟩ [⟨0, ⟨1, 0, 0, 0⟩, [(44, z6_)], none, (an_ (le_ (.lit 0) v6_) (an_ (le_ v6_ (.ofI (.vop (.len 1) (.cons o0_ .nil)))) (.bapp 3 (.cons z1_ (.cons z2_ (.cons z3_ (.cons o0_ (.cons z5_ (.cons z6_ .nil))))))))), (sb_ (.ofI (.vop (.len 1) (.cons o0_ .nil))) v6_), 0, []⟩] .v s12c_sat s12c_sat.n 3000 = some sat_tree := by kernel_rfl
set_option maxHeartbeats 4000000 in
theorem sat_h (k : Int) (B : Int) (A : Int) (b : Int) (t : Int) (n : Int) (l : Value) (hc : holds (s12E [k, B, A, b, t, n] [] [l] []) (an_ (an_ (an_ (le_ lm_ v0_) (le_ v0_ lM_)) (an_ (an_ (le_ lm_ v1_) (le_ v1_ lM_)) (an_ (le_ lm_ v2_) (le_ v2_ lM_)))) (an_ (le_ lm_ v5_) (le_ v5_ lM_)))) (hty : patsTyp (s12E [k, B, A, b, t, n] [] [l] []) [(.agg (.cons z0_ (.cons z1_ (.cons z2_ .nil)))), (.agg (.cons z3_ (.cons z4_ (.cons (.hs .no (.cons (.int .i64) .nil) o0_) .nil)))), z5_]) : sat_tree.holds (fun v_ => v_ = denV (s12E [k, B, A, b, t, n] [] [l] []) b0 (.tup (.cons (.int .i64 (.iapp 31 (.cons z0_ (.cons z1_ (.cons z2_ (.cons z3_ (.cons z4_ (.cons o0_ (.cons z5_ .nil))))))))) (.cons (.err (.iapp 30 (.cons z0_ (.cons z1_ (.cons z2_ (.cons z3_ (.cons z4_ (.cons o0_ (.cons z5_ .nil))))))))) .nil)))) (s12E [k, B, A, b, t, n] [] [l] []) := by
  simp only [Tree.holds, Sy.holds, AllN, Env.more, s12E, List.cons_append, List.nil_append, List.append_nil, denV, denI, denB, denL, I2.den, VOp.den, List.getD_cons_zero, List.getD_cons_succ, Cst.den, syso, syse, syio, sybo, List.map_nil, List.map_cons, B2.ofInts, B2.denI, B2.denB, if_true, Bool.false_eq_true, if_false, Nat.div_one, Nat.mul_one, Nat.add_zero, holds] at hc
  simp only [patsTyp, patTyp, patTypL, s12E, denV, denL, List.getD_cons_zero, List.getD_cons_succ, and_true, true_and] at hty
  have hL_l : typ (.sl (.cons (.int .i64) .nil)) l := by first | exact hty | exact hty.1 | exact hty.2 | exact hty.1.1 | exact hty.1.2 | exact hty.2.1 | exact hty.2.2 | exact hty.2.2.1 | exact hty.2.2.2
  have hN_l := typ_len (n := 1) hL_l rfl (by omega)
  simp only [Nat.div_one, Nat.mul_one] at hN_l
  unfold sat_tree
  simp only [Tree.holds, Sy.holds, AllN, Env.more, s12E, List.cons_append, List.nil_append, List.append_nil, denV, denI, denB, denL, I2.den, VOp.den, List.getD_cons_zero, List.getD_cons_succ, Cst.den, syso, syse, syio, sybo, s12i_wrong, s12i_utcE, s12i_utcD, s12i_sm, s12i_sln, s12i_wb, s12i_wn, s12i_fits, s12i_ate, s12i_atv, s12i_pla, s12i_wiv, s12b_noj, List.map_nil, List.map_cons, B2.ofInts, B2.denI, B2.denB, if_true, Bool.false_eq_true, if_false, Nat.div_one, Nat.mul_one, Nat.add_zero]
  have s1 := smI_spec k B A
  have f1 := fitsI_spec k B A b t (intsOf l)
  have m1 := mayI_spec b t (intsOf l)
  have n1 := slN_spec B A
  have hlen := ints_len l
  have a1 := at_spec k B A b t n (intsOf l)
  have u1 := utc_spec b t (intsOf l) n
  have x1 := utcE_spec b t (intsOf l) n
  refine ⟨?_, fun h0 => ?_⟩
  ·
   first
   | omega
   | exact ⟨⟨by omega, by omega, by omega⟩, by omega⟩
  ·
   refine ⟨fun h1 => ?_, fun h1 => ?_⟩
   ·
    have up : utcE b t (intsOf l) n = 0 → wrongI b t (intsOf l) (utcD b t (intsOf l) n) = 0 := fun h => by
      have := utc_parts h
      exact wrong_ok this.1 this.2.1 this.2.2.1
    have hp : utcE b t (intsOf l) n = 0 → plaI b t (intsOf l) (utcD b t (intsOf l) n) n = plN b (intsOf l) n (utcD b t (intsOf l) n) := fun h => by unfold plaI; rw [if_pos (up h)]
    first
    | (rw [at_bad (show atE k B A b t (intsOf l) n ≠ 0 by omega), show atE k B A b t (intsOf l) n = fitsI k B A b t (intsOf l) by omega]
       done)
    | (rw [at_bad (show atE k B A b t (intsOf l) n ≠ 0 by omega), show atE k B A b t (intsOf l) n = utcE b t (intsOf l) n by omega]
       done)
    | (have hE : atE k B A b t (intsOf l) n = 0 := by omega
       rw [at_plain hE (.inl (by omega)), hp (by omega), hE, up (by omega)])
    | (exfalso
       have := up (by omega)
       omega)
   ·
    refine ⟨?_, fun h2 => ?_⟩
    ·
     first
     | omega
     | exact ⟨⟨by omega, by omega, by omega⟩, by omega⟩
    ·
     refine ⟨fun h3 => ?_, fun h3 => ?_⟩
     ·
      have up : utcE b t (intsOf l) n = 0 → wrongI b t (intsOf l) (utcD b t (intsOf l) n) = 0 := fun h => by
        have := utc_parts h
        exact wrong_ok this.1 this.2.1 this.2.2.1
      have hp : utcE b t (intsOf l) n = 0 → plaI b t (intsOf l) (utcD b t (intsOf l) n) n = plN b (intsOf l) n (utcD b t (intsOf l) n) := fun h => by unfold plaI; rw [if_pos (up h)]
      first
      | (rw [at_bad (show atE k B A b t (intsOf l) n ≠ 0 by omega), show atE k B A b t (intsOf l) n = fitsI k B A b t (intsOf l) by omega]
         done)
      | (rw [at_bad (show atE k B A b t (intsOf l) n ≠ 0 by omega), show atE k B A b t (intsOf l) n = utcE b t (intsOf l) n by omega]
         done)
      | (have hE : atE k B A b t (intsOf l) n = 0 := by omega
         rw [at_plain hE (.inl (by omega)), hp (by omega), hE, up (by omega)])
      | (exfalso
         have := up (by omega)
         omega)
     ·
      refine ⟨fun h4 => ?_, fun h4 => ?_⟩
      ·
       refine ⟨?_, fun h5 => ?_⟩
       ·
        first
        | omega
        | exact ⟨⟨by omega, by omega, by omega⟩, by omega⟩
       ·
        have up : utcE b t (intsOf l) n = 0 → wrongI b t (intsOf l) (utcD b t (intsOf l) n) = 0 := fun h => by
          have := utc_parts h
          exact wrong_ok this.1 this.2.1 this.2.2.1
        have hp : utcE b t (intsOf l) n = 0 → plaI b t (intsOf l) (utcD b t (intsOf l) n) n = plN b (intsOf l) n (utcD b t (intsOf l) n) := fun h => by unfold plaI; rw [if_pos (up h)]
        first
        | (rw [at_bad (show atE k B A b t (intsOf l) n ≠ 0 by omega), show atE k B A b t (intsOf l) n = fitsI k B A b t (intsOf l) by omega]
           done)
        | (rw [at_bad (show atE k B A b t (intsOf l) n ≠ 0 by omega), show atE k B A b t (intsOf l) n = utcE b t (intsOf l) n by omega]
           done)
        | (have hE : atE k B A b t (intsOf l) n = 0 := by omega
           rw [at_plain hE (.inl (by omega)), hp (by omega), hE, up (by omega)])
        | (exfalso
           have := up (by omega)
           omega)
      ·
       refine ⟨?_, ?_⟩
       ·
        exact ⟨by omega, by omega, rfl⟩
       ·
        intro i0a hi0
        refine ⟨fun h6 => ?_, fun h6 => ?_⟩
        ·
         refine ⟨?_, fun h7 => ?_⟩
         ·
          first
          | omega
          | exact ⟨by omega, by omega, by omega⟩
          | (
             obtain ⟨q0, q1, q2⟩ := hi0
             have hi : i0a.toNat < (Sy.rows l).length := by omega
             have hml : mayL b t (intsOf l) = true := by
               rcases m1 with ⟨x, _⟩ | ⟨_, x, _⟩
               · exfalso; omega
               · exact x
             have hsa := sec_at hml (i := i0a.toNat) (by omega)
             have hg := ints_get l hi
             have hw0 := win_spec B A b t (intsOf l) ((intsOf l).getD i0a.toNat 0)
             have hs0 := secL_spec b (intsOf l) ((intsOf l).getD i0a.toNat 0)
             simp only [hg] at *
             have e9 : wbJ B b (intsOf l) i0a.toNat = wbN B b (intsOf l) ((intsOf l).getD i0a.toNat 0) := rfl
             have h9 := wr_i64 (n - winB B b t (intsOf l) ((intsOf l).getD i0a.toNat 0))
             first
             | omega
             | (refine ⟨⟨by omega, by omega, by omega⟩, by omega, by omega, by omega, by omega, by omega, by omega⟩))
         ·
          refine ⟨?_, fun h8 => ?_⟩
          ·
           first
           | omega
           | exact ⟨by omega, by omega, by omega⟩
           | (
              obtain ⟨q0, q1, q2⟩ := hi0
              have hi : i0a.toNat < (Sy.rows l).length := by omega
              have hml : mayL b t (intsOf l) = true := by
                rcases m1 with ⟨x, _⟩ | ⟨_, x, _⟩
                · exfalso; omega
                · exact x
              have hsa := sec_at hml (i := i0a.toNat) (by omega)
              have hg := ints_get l hi
              have hw0 := win_spec B A b t (intsOf l) ((intsOf l).getD i0a.toNat 0)
              have hs0 := secL_spec b (intsOf l) ((intsOf l).getD i0a.toNat 0)
              simp only [hg] at *
              have e9 : wbJ B b (intsOf l) i0a.toNat = wbN B b (intsOf l) ((intsOf l).getD i0a.toNat 0) := rfl
              have h9 := wr_i64 (n - winB B b t (intsOf l) ((intsOf l).getD i0a.toNat 0))
              first
              | omega
              | (refine ⟨⟨by omega, by omega, by omega⟩, by omega, by omega, by omega, by omega, by omega, by omega⟩))
          ·
           refine ⟨fun h9 => ?_, fun h9 => ?_⟩
           ·
            have up : utcE b t (intsOf l) n = 0 → wrongI b t (intsOf l) (utcD b t (intsOf l) n) = 0 := fun h => by
              have := utc_parts h
              exact wrong_ok this.1 this.2.1 this.2.2.1
            have hp : utcE b t (intsOf l) n = 0 → plaI b t (intsOf l) (utcD b t (intsOf l) n) n = plN b (intsOf l) n (utcD b t (intsOf l) n) := fun h => by unfold plaI; rw [if_pos (up h)]
            by_cases hlt : i0a < ((Sy.rows l).length : Int)
            · first
              | (exfalso; omega)
              | (
                 obtain ⟨q0, q1, q2⟩ := hi0
                 have hi : i0a.toNat < (Sy.rows l).length := by omega
                 have hml : mayL b t (intsOf l) = true := by
                   rcases m1 with ⟨x, _⟩ | ⟨_, x, _⟩
                   · exfalso; omega
                   · exact x
                 have hsa := sec_at hml (i := i0a.toNat) (by omega)
                 have hg := ints_get l hi
                 have hw0 := win_spec B A b t (intsOf l) ((intsOf l).getD i0a.toNat 0)
                 have hs0 := secL_spec b (intsOf l) ((intsOf l).getD i0a.toNat 0)
                 simp only [hg] at *
                 exfalso
                 omega)
              | (
                 obtain ⟨q0, q1, q2⟩ := hi0
                 have hi : i0a.toNat < (Sy.rows l).length := by omega
                 have hml : mayL b t (intsOf l) = true := by
                   rcases m1 with ⟨x, _⟩ | ⟨_, x, _⟩
                   · exfalso; omega
                   · exact x
                 have hsa := sec_at hml (i := i0a.toNat) (by omega)
                 have hg := ints_get l hi
                 have hw0 := win_spec B A b t (intsOf l) ((intsOf l).getD i0a.toNat 0)
                 have hs0 := secL_spec b (intsOf l) ((intsOf l).getD i0a.toNat 0)
                 simp only [hg] at *
                 have e9 : wbJ B b (intsOf l) i0a.toNat = wbN B b (intsOf l) ((intsOf l).getD i0a.toNat 0) := rfl
                 have hE : atE k B A b t (intsOf l) n = 0 := by omega
                 have hz : IntKind.wrap .i64 (n - winB B b t (intsOf l) ((intsOf l).getD i0a.toNat 0)) = n - wbJ B b (intsOf l) i0a.toNat := by have := wr_i64 (n - winB B b t (intsOf l) ((intsOf l).getD i0a.toNat 0)); omega
                 rw [at_hit hE (by omega) (j := i0a.toNat) (by omega) q2 (by omega) (by omega), hE, hz]
                 unfold wiI plN
                 simp only [Value.tuple.injEq, Array.mk.injEq, List.cons.injEq, Value.int.injEq, true_and, and_true]
                 omega)
            · first
              | (obtain ⟨q0, q1, q2⟩ := hi0
                 have hE : atE k B A b t (intsOf l) n = 0 := by omega
                 rw [at_plain hE (.inr (by rw [hlen, show (Sy.rows l).length = i0a.toNat by omega]; exact q2)), hp (by omega), hE, up (by omega)])
              | (exfalso
                 have := up (by omega)
                 omega)
           ·
            refine ⟨fun h10 => ?_, fun h10 => ?_⟩
            ·
             refine ⟨fun h11 => ?_, fun h11 => ?_⟩
             ·
              have wf0 := wr_i64 (n - (winB B b t (intsOf l) (Go.RowKit.intOf ((rows l).getD (Int.toNat i0a) Go.undef))))
              refine ⟨?_, fun h12 => ?_⟩
              ·
               first
               | omega
               | exact ⟨by omega, by omega, by omega⟩
               | (
                  obtain ⟨q0, q1, q2⟩ := hi0
                  have hi : i0a.toNat < (Sy.rows l).length := by omega
                  have hml : mayL b t (intsOf l) = true := by
                    rcases m1 with ⟨x, _⟩ | ⟨_, x, _⟩
                    · exfalso; omega
                    · exact x
                  have hsa := sec_at hml (i := i0a.toNat) (by omega)
                  have hg := ints_get l hi
                  have hw0 := win_spec B A b t (intsOf l) ((intsOf l).getD i0a.toNat 0)
                  have hs0 := secL_spec b (intsOf l) ((intsOf l).getD i0a.toNat 0)
                  simp only [hg] at *
                  have e9 : wbJ B b (intsOf l) i0a.toNat = wbN B b (intsOf l) ((intsOf l).getD i0a.toNat 0) := rfl
                  have h9 := wr_i64 (n - winB B b t (intsOf l) ((intsOf l).getD i0a.toNat 0))
                  first
                  | omega
                  | (refine ⟨⟨by omega, by omega, by omega⟩, by omega, by omega, by omega, by omega, by omega, by omega⟩))
              ·
               try simp only [hw0]
               have up : utcE b t (intsOf l) n = 0 → wrongI b t (intsOf l) (utcD b t (intsOf l) n) = 0 := fun h => by
                 have := utc_parts h
                 exact wrong_ok this.1 this.2.1 this.2.2.1
               have hp : utcE b t (intsOf l) n = 0 → plaI b t (intsOf l) (utcD b t (intsOf l) n) n = plN b (intsOf l) n (utcD b t (intsOf l) n) := fun h => by unfold plaI; rw [if_pos (up h)]
               by_cases hlt : i0a < ((Sy.rows l).length : Int)
               · first
                 | (exfalso; omega)
                 | (
                    obtain ⟨q0, q1, q2⟩ := hi0
                    have hi : i0a.toNat < (Sy.rows l).length := by omega
                    have hml : mayL b t (intsOf l) = true := by
                      rcases m1 with ⟨x, _⟩ | ⟨_, x, _⟩
                      · exfalso; omega
                      · exact x
                    have hsa := sec_at hml (i := i0a.toNat) (by omega)
                    have hg := ints_get l hi
                    have hw0 := win_spec B A b t (intsOf l) ((intsOf l).getD i0a.toNat 0)
                    have hs0 := secL_spec b (intsOf l) ((intsOf l).getD i0a.toNat 0)
                    simp only [hg] at *
                    exfalso
                    omega)
                 | (
                    obtain ⟨q0, q1, q2⟩ := hi0
                    have hi : i0a.toNat < (Sy.rows l).length := by omega
                    have hml : mayL b t (intsOf l) = true := by
                      rcases m1 with ⟨x, _⟩ | ⟨_, x, _⟩
                      · exfalso; omega
                      · exact x
                    have hsa := sec_at hml (i := i0a.toNat) (by omega)
                    have hg := ints_get l hi
                    have hw0 := win_spec B A b t (intsOf l) ((intsOf l).getD i0a.toNat 0)
                    have hs0 := secL_spec b (intsOf l) ((intsOf l).getD i0a.toNat 0)
                    simp only [hg] at *
                    have e9 : wbJ B b (intsOf l) i0a.toNat = wbN B b (intsOf l) ((intsOf l).getD i0a.toNat 0) := rfl
                    have hE : atE k B A b t (intsOf l) n = 0 := by omega
                    have hz : IntKind.wrap .i64 (n - winB B b t (intsOf l) ((intsOf l).getD i0a.toNat 0)) = n - wbJ B b (intsOf l) i0a.toNat := by have := wr_i64 (n - winB B b t (intsOf l) ((intsOf l).getD i0a.toNat 0)); omega
                    rw [at_hit hE (by omega) (j := i0a.toNat) (by omega) q2 (by omega) (by omega), hE, hz]
                    unfold wiI plN
                    simp only [Value.tuple.injEq, Array.mk.injEq, List.cons.injEq, Value.int.injEq, true_and, and_true]
                    omega)
               · first
                 | (obtain ⟨q0, q1, q2⟩ := hi0
                    have hE : atE k B A b t (intsOf l) n = 0 := by omega
                    rw [at_plain hE (.inr (by rw [hlen, show (Sy.rows l).length = i0a.toNat by omega]; exact q2)), hp (by omega), hE, up (by omega)])
                 | (exfalso
                    have := up (by omega)
                    omega)
             ·
              have wf1 := wr_i64 (i0a + 1)
              refine ⟨?_, ?_⟩
              ·
               obtain ⟨q0, q1, q2⟩ := hi0
               have hi : i0a.toNat < (Sy.rows l).length := by omega
               have hml : mayL b t (intsOf l) = true := by
                 rcases m1 with ⟨x, _⟩ | ⟨_, x, _⟩
                 · exfalso; omega
                 · exact x
               have hsa := sec_at hml (i := i0a.toNat) (by omega)
               have hg := ints_get l hi
               have hw0 := win_spec B A b t (intsOf l) ((intsOf l).getD i0a.toNat 0)
               have hs0 := secL_spec b (intsOf l) ((intsOf l).getD i0a.toNat 0)
               simp only [hg] at *
               have hw : IntKind.wrap .i64 (i0a + 1) = i0a + 1 := by have := wr_i64 (i0a + 1); omega
               have e9 : wbJ B b (intsOf l) i0a.toNat = wbN B b (intsOf l) ((intsOf l).getD i0a.toNat 0) := rfl
               have hI := inJ_spec B A b (intsOf l) n i0a.toNat
               rw [hw, toNat_succ (by omega), noJ_succ, q2]
               refine ⟨by omega, by omega, ?_⟩
               rcases hI with ⟨y1, y2, y3⟩ | ⟨y1, y2⟩
               · exfalso; omega
               · rw [y1]; rfl
              ·
               have := wr_i64 (i0a + 1)
               omega
            ·
             have wf2 := wr_i64 (i0a + 1)
             refine ⟨?_, ?_⟩
             ·
              obtain ⟨q0, q1, q2⟩ := hi0
              have hi : i0a.toNat < (Sy.rows l).length := by omega
              have hml : mayL b t (intsOf l) = true := by
                rcases m1 with ⟨x, _⟩ | ⟨_, x, _⟩
                · exfalso; omega
                · exact x
              have hsa := sec_at hml (i := i0a.toNat) (by omega)
              have hg := ints_get l hi
              have hw0 := win_spec B A b t (intsOf l) ((intsOf l).getD i0a.toNat 0)
              have hs0 := secL_spec b (intsOf l) ((intsOf l).getD i0a.toNat 0)
              simp only [hg] at *
              have hw : IntKind.wrap .i64 (i0a + 1) = i0a + 1 := by have := wr_i64 (i0a + 1); omega
              have e9 : wbJ B b (intsOf l) i0a.toNat = wbN B b (intsOf l) ((intsOf l).getD i0a.toNat 0) := rfl
              have hI := inJ_spec B A b (intsOf l) n i0a.toNat
              rw [hw, toNat_succ (by omega), noJ_succ, q2]
              refine ⟨by omega, by omega, ?_⟩
              rcases hI with ⟨y1, y2, y3⟩ | ⟨y1, y2⟩
              · exfalso; omega
              · rw [y1]; rfl
             ·
              have := wr_i64 (i0a + 1)
              omega
        ·
         refine ⟨?_, fun h13 => ?_⟩
         ·
          first
          | omega
          | exact ⟨by omega, by omega, by omega⟩
          | (
             obtain ⟨q0, q1, q2⟩ := hi0
             have hi : i0a.toNat < (Sy.rows l).length := by omega
             have hml : mayL b t (intsOf l) = true := by
               rcases m1 with ⟨x, _⟩ | ⟨_, x, _⟩
               · exfalso; omega
               · exact x
             have hsa := sec_at hml (i := i0a.toNat) (by omega)
             have hg := ints_get l hi
             have hw0 := win_spec B A b t (intsOf l) ((intsOf l).getD i0a.toNat 0)
             have hs0 := secL_spec b (intsOf l) ((intsOf l).getD i0a.toNat 0)
             simp only [hg] at *
             have e9 : wbJ B b (intsOf l) i0a.toNat = wbN B b (intsOf l) ((intsOf l).getD i0a.toNat 0) := rfl
             have h9 := wr_i64 (n - winB B b t (intsOf l) ((intsOf l).getD i0a.toNat 0))
             first
             | omega
             | (refine ⟨⟨by omega, by omega, by omega⟩, by omega, by omega, by omega, by omega, by omega, by omega⟩))
         ·
          have up : utcE b t (intsOf l) n = 0 → wrongI b t (intsOf l) (utcD b t (intsOf l) n) = 0 := fun h => by
            have := utc_parts h
            exact wrong_ok this.1 this.2.1 this.2.2.1
          have hp : utcE b t (intsOf l) n = 0 → plaI b t (intsOf l) (utcD b t (intsOf l) n) n = plN b (intsOf l) n (utcD b t (intsOf l) n) := fun h => by unfold plaI; rw [if_pos (up h)]
          by_cases hlt : i0a < ((Sy.rows l).length : Int)
          · first
            | (exfalso; omega)
            | (
               obtain ⟨q0, q1, q2⟩ := hi0
               have hi : i0a.toNat < (Sy.rows l).length := by omega
               have hml : mayL b t (intsOf l) = true := by
                 rcases m1 with ⟨x, _⟩ | ⟨_, x, _⟩
                 · exfalso; omega
                 · exact x
               have hsa := sec_at hml (i := i0a.toNat) (by omega)
               have hg := ints_get l hi
               have hw0 := win_spec B A b t (intsOf l) ((intsOf l).getD i0a.toNat 0)
               have hs0 := secL_spec b (intsOf l) ((intsOf l).getD i0a.toNat 0)
               simp only [hg] at *
               exfalso
               omega)
            | (
               obtain ⟨q0, q1, q2⟩ := hi0
               have hi : i0a.toNat < (Sy.rows l).length := by omega
               have hml : mayL b t (intsOf l) = true := by
                 rcases m1 with ⟨x, _⟩ | ⟨_, x, _⟩
                 · exfalso; omega
                 · exact x
               have hsa := sec_at hml (i := i0a.toNat) (by omega)
               have hg := ints_get l hi
               have hw0 := win_spec B A b t (intsOf l) ((intsOf l).getD i0a.toNat 0)
               have hs0 := secL_spec b (intsOf l) ((intsOf l).getD i0a.toNat 0)
               simp only [hg] at *
               have e9 : wbJ B b (intsOf l) i0a.toNat = wbN B b (intsOf l) ((intsOf l).getD i0a.toNat 0) := rfl
               have hE : atE k B A b t (intsOf l) n = 0 := by omega
               have hz : IntKind.wrap .i64 (n - winB B b t (intsOf l) ((intsOf l).getD i0a.toNat 0)) = n - wbJ B b (intsOf l) i0a.toNat := by have := wr_i64 (n - winB B b t (intsOf l) ((intsOf l).getD i0a.toNat 0)); omega
               rw [at_hit hE (by omega) (j := i0a.toNat) (by omega) q2 (by omega) (by omega), hE, hz]
               unfold wiI plN
               simp only [Value.tuple.injEq, Array.mk.injEq, List.cons.injEq, Value.int.injEq, true_and, and_true]
               omega)
          · first
            | (obtain ⟨q0, q1, q2⟩ := hi0
               have hE : atE k B A b t (intsOf l) n = 0 := by omega
               rw [at_plain hE (.inr (by rw [hlen, show (Sy.rows l).length = i0a.toNat by omega]; exact q2)), hp (by omega), hE, up (by omega)])
            | (exfalso
               have := up (by omega)
               omega)
theorem s12g_sat : s12c_sat.Good Tryd.prog syG (s12E [] [] [] []) := good_of_walk (Γ := ⟨[s12c_sfits, y9c_lutc, s12c_swin, s12c_splain, s12c_swith], syG, [], [], []⟩) (ρ := s12E [] [] [] []) sym sat_w rfl (fun _ _ _ _ => (ok_cons (Con.Good.env s12g_sfits _ _ _ _) (ok_cons (Con.Good.env (Con.Good.up (Con.Good.up y9g_lutc s12aup rfl) s12up rfl) _ _ _ _) (ok_cons (Con.Good.env s12g_swin _ _ _ _) (ok_cons (Con.Good.env s12g_splain _ _ _ _) (ok_cons (Con.Good.env s12g_swith _ _ _ _) ok_nil)))))) (fun k B A b t n l hc hty => sat_h k B A b t n l hc hty)
def sWin_tree : Tree :=
 (.need (an_ (an_ (le_ lm_ v0_) (le_ v0_ lM_)) (an_ (an_ (le_ lm_ v1_) (le_ v1_ lM_)) (an_ (le_ lm_ v2_) (le_ v2_ lM_))))
 (.br (.not (eq_ (.iapp 24 (.cons z0_ (.cons z1_ (.cons z2_ (.cons z3_ (.cons z4_ (.cons o0_ .nil))))))) (.lit 0)))
 (.ret (.tup (.cons (.int .i64 (.lit 0)) (.cons (.int .i64 (.lit 0)) (.cons (.err (.iapp 24 (.cons z0_ (.cons z1_ (.cons z2_ (.cons z3_ (.cons z4_ (.cons o0_ .nil)))))))) .nil)))))
 (.br (eq_ v0_ (.lit 0))
 (.ret (.tup (.cons (.int .i64 (.lit 0)) (.cons (.int .i64 (.lit 0)) (.cons (.iface 182 (.int .i64 (.lit 1))) .nil)))))
 (.br (lt_ v5_ (.lit 0))
 (.ret (.tup (.cons (.int .i64 (.lit 0)) (.cons (.int .i64 (.lit 0)) (.cons (.iface 182 (.int .i64 (.lit 1))) .nil)))))
 (.br (le_ (.ofI (.vop (.len 1) (.cons o0_ .nil))) v5_)
 (.ret (.tup (.cons (.int .i64 (.lit 0)) (.cons (.int .i64 (.lit 0)) (.cons (.iface 182 (.int .i64 (.lit 1))) .nil)))))
 (.need (an_ (le_ (.lit 0) v5_) (lt_ v5_ (.ofI (.vop (.len 1) (.cons o0_ .nil)))))
 (.need (an_ (le_ (.lit 0) v1_) (an_ (le_ v1_ (.lit 43200)) (an_ (le_ (.lit 0) v2_) (le_ v2_ (.lit 43200)))))
 (.ret (.tup (.cons (.int .i64 (.iapp 22 (.cons z1_ (.cons z3_ (.cons z4_ (.cons o0_ (.cons (.int .i64 (.ofI (.vop (.sel 1 0) (.cons o0_ (.cons z5_ .nil))))) .nil))))))) (.cons (.int .i64 (.iapp 23 (.cons z1_ (.cons z2_ (.cons z3_ (.cons z4_ (.cons o0_ (.cons (.int .i64 (.ofI (.vop (.sel 1 0) (.cons o0_ (.cons z5_ .nil))))) .nil)))))))) (.cons (.err (.iapp 4 (.cons z3_ (.cons z4_ (.cons o0_ (.cons (.int .i64 (.ofI (.vop (.sel 1 0) (.cons o0_ (.cons z5_ .nil))))) .nil)))))) .nil))))))))))))
abbrev s12c_sWin : Con := ⟨67, [(.agg (.cons z0_ (.cons z1_ (.cons z2_ .nil)))), (.agg (.cons z3_ (.cons z4_ (.cons (.hs .no (.cons (.int .i64) .nil) o0_) .nil)))), z5_], (an_ (an_ (an_ (le_ lm_ v0_) (le_ v0_ lM_)) (an_ (an_ (le_ lm_ v1_) (le_ v1_ lM_)) (an_ (le_ lm_ v2_) (le_ v2_ lM_)))) (an_ (le_ lm_ v5_) (le_ v5_ lM_))), (.tup (.cons (.int .i64 (.iapp 35 (.cons z0_ (.cons z1_ (.cons z2_ (.cons z3_ (.cons z4_ (.cons o0_ (.cons z5_ .nil))))))))) (.cons (.int .i64 (.iapp 36 (.cons z0_ (.cons z1_ (.cons z2_ (.cons z3_ (.cons z4_ (.cons o0_ (.cons z5_ .nil))))))))) (.cons (.err (.iapp 34 (.cons z0_ (.cons z1_ (.cons z2_ (.cons z3_ (.cons z4_ (.cons o0_ (.cons z5_ .nil))))))))) .nil)))), ⟨6, 0, 1, 0⟩, none⟩
theorem sWin_w : walk Tryd.prog 182 ⟨[s12c_sfits, s12c_swin], syG, [], [], []⟩ [] .v s12c_sWin s12c_sWin.n 3000 = some sWin_tree := by kernel_rfl
theorem sWin_h (k : Int) (B : Int) (A : Int) (b : Int) (t : Int) (j : Int) (l : Value) (hc : holds (s12E [k, B, A, b, t, j] [] [l] []) (an_ (an_ (an_ (le_ lm_ v0_) (le_ v0_ lM_)) (an_ (an_ (le_ lm_ v1_) (le_ v1_ lM_)) (an_ (le_ lm_ v2_) (le_ v2_ lM_)))) (an_ (le_ lm_ v5_) (le_ v5_ lM_)))) (hty : patsTyp (s12E [k, B, A, b, t, j] [] [l] []) [(.agg (.cons z0_ (.cons z1_ (.cons z2_ .nil)))), (.agg (.cons z3_ (.cons z4_ (.cons (.hs .no (.cons (.int .i64) .nil) o0_) .nil)))), z5_]) : sWin_tree.holds (fun v_ => v_ = denV (s12E [k, B, A, b, t, j] [] [l] []) b0 (.tup (.cons (.int .i64 (.iapp 35 (.cons z0_ (.cons z1_ (.cons z2_ (.cons z3_ (.cons z4_ (.cons o0_ (.cons z5_ .nil))))))))) (.cons (.int .i64 (.iapp 36 (.cons z0_ (.cons z1_ (.cons z2_ (.cons z3_ (.cons z4_ (.cons o0_ (.cons z5_ .nil))))))))) (.cons (.err (.iapp 34 (.cons z0_ (.cons z1_ (.cons z2_ (.cons z3_ (.cons z4_ (.cons o0_ (.cons z5_ .nil))))))))) .nil))))) (s12E [k, B, A, b, t, j] [] [l] []) := by
  simp only [Tree.holds, Sy.holds, AllN, Env.more, s12E, List.cons_append, List.nil_append, List.append_nil, denV, denI, denB, denL, I2.den, VOp.den, List.getD_cons_zero, List.getD_cons_succ, Cst.den, syso, syse, syio, sybo, List.map_nil, List.map_cons, B2.ofInts, B2.denI, B2.denB, if_true, Bool.false_eq_true, if_false, Nat.div_one, Nat.mul_one, Nat.add_zero, holds] at hc
  simp only [patsTyp, patTyp, patTypL, s12E, denV, denL, List.getD_cons_zero, List.getD_cons_succ, and_true, true_and] at hty
  have hL_l : typ (.sl (.cons (.int .i64) .nil)) l := by first | exact hty | exact hty.1 | exact hty.2 | exact hty.1.1 | exact hty.1.2 | exact hty.2.1 | exact hty.2.2 | exact hty.2.2.1 | exact hty.2.2.2
  have hN_l := typ_len (n := 1) hL_l rfl (by omega)
  simp only [Nat.div_one, Nat.mul_one] at hN_l
  unfold sWin_tree
  simp only [Tree.holds, Sy.holds, AllN, Env.more, s12E, List.cons_append, List.nil_append, List.append_nil, denV, denI, denB, denL, I2.den, VOp.den, List.getD_cons_zero, List.getD_cons_succ, Cst.den, syso, syse, syio, sybo, s12i_wrong, s12i_wb, s12i_wn, s12i_fits, s12i_wse, s12i_wsb, s12i_wsn, List.map_nil, List.map_cons, B2.ofInts, B2.denI, B2.denB, if_true, Bool.false_eq_true, if_false, Nat.div_one, Nat.mul_one, Nat.add_zero]
  have s1 := smI_spec k B A
  have f1 := fitsI_spec k B A b t (intsOf l)
  have m1 := mayI_spec b t (intsOf l)
  have n1 := slN_spec B A
  have hlen := ints_len l
  have y1 := ws_spec k B A b t (intsOf l) j
  refine ⟨?_, fun h0 => ?_⟩
  ·
   first
   | omega
   | exact ⟨by omega, by omega, by omega, by omega⟩
  ·
   refine ⟨fun h1 => ?_, fun h1 => ?_⟩
   ·
    by_cases hE : wsE k B A b t (intsOf l) j = 0
    · first
      | (exfalso; omega)
      | (have hi : j.toNat < (Sy.rows l).length := by omega
         have hml : mayL b t (intsOf l) = true := by
           rcases m1 with ⟨x, _⟩ | ⟨_, x, _⟩
           · exfalso; omega
           · exact x
         have hsa := sec_at hml (i := j.toNat) (by omega)
         have hg := ints_get l hi
         have hw0 := win_spec B A b t (intsOf l) ((intsOf l).getD j.toNat 0)
         have e9 : wbJ B b (intsOf l) j.toNat = wbN B b (intsOf l) ((intsOf l).getD j.toNat 0) := rfl
         rw [hg, hE, show wrongI b t (intsOf l) ((intsOf l).getD j.toNat 0) = 0 by omega]
         simp only [Value.tuple.injEq, Array.mk.injEq, List.cons.injEq, Value.int.injEq, true_and, and_true]
         exact ⟨by omega, by omega⟩)
    · rw [show wsB k B A b t (intsOf l) j = 0 by omega, show wsN k B A b t (intsOf l) j = 0 by omega]
      first
      | (rw [show wsE k B A b t (intsOf l) j = 1 by omega]
         rfl)
      | (rw [show wsE k B A b t (intsOf l) j = fitsI k B A b t (intsOf l) by omega]
         done)
      | (exfalso; omega)
   ·
    refine ⟨fun h2 => ?_, fun h2 => ?_⟩
    ·
     by_cases hE : wsE k B A b t (intsOf l) j = 0
     · first
       | (exfalso; omega)
       | (have hi : j.toNat < (Sy.rows l).length := by omega
          have hml : mayL b t (intsOf l) = true := by
            rcases m1 with ⟨x, _⟩ | ⟨_, x, _⟩
            · exfalso; omega
            · exact x
          have hsa := sec_at hml (i := j.toNat) (by omega)
          have hg := ints_get l hi
          have hw0 := win_spec B A b t (intsOf l) ((intsOf l).getD j.toNat 0)
          have e9 : wbJ B b (intsOf l) j.toNat = wbN B b (intsOf l) ((intsOf l).getD j.toNat 0) := rfl
          rw [hg, hE, show wrongI b t (intsOf l) ((intsOf l).getD j.toNat 0) = 0 by omega]
          simp only [Value.tuple.injEq, Array.mk.injEq, List.cons.injEq, Value.int.injEq, true_and, and_true]
          exact ⟨by omega, by omega⟩)
     · rw [show wsB k B A b t (intsOf l) j = 0 by omega, show wsN k B A b t (intsOf l) j = 0 by omega]
       first
       | (rw [show wsE k B A b t (intsOf l) j = 1 by omega]
          rfl)
       | (rw [show wsE k B A b t (intsOf l) j = fitsI k B A b t (intsOf l) by omega]
          done)
       | (exfalso; omega)
    ·
     refine ⟨fun h3 => ?_, fun h3 => ?_⟩
     ·
      by_cases hE : wsE k B A b t (intsOf l) j = 0
      · first
        | (exfalso; omega)
        | (have hi : j.toNat < (Sy.rows l).length := by omega
           have hml : mayL b t (intsOf l) = true := by
             rcases m1 with ⟨x, _⟩ | ⟨_, x, _⟩
             · exfalso; omega
             · exact x
           have hsa := sec_at hml (i := j.toNat) (by omega)
           have hg := ints_get l hi
           have hw0 := win_spec B A b t (intsOf l) ((intsOf l).getD j.toNat 0)
           have e9 : wbJ B b (intsOf l) j.toNat = wbN B b (intsOf l) ((intsOf l).getD j.toNat 0) := rfl
           rw [hg, hE, show wrongI b t (intsOf l) ((intsOf l).getD j.toNat 0) = 0 by omega]
           simp only [Value.tuple.injEq, Array.mk.injEq, List.cons.injEq, Value.int.injEq, true_and, and_true]
           exact ⟨by omega, by omega⟩)
      · rw [show wsB k B A b t (intsOf l) j = 0 by omega, show wsN k B A b t (intsOf l) j = 0 by omega]
        first
        | (rw [show wsE k B A b t (intsOf l) j = 1 by omega]
           rfl)
        | (rw [show wsE k B A b t (intsOf l) j = fitsI k B A b t (intsOf l) by omega]
           done)
        | (exfalso; omega)
     ·
      refine ⟨fun h4 => ?_, fun h4 => ?_⟩
      ·
       by_cases hE : wsE k B A b t (intsOf l) j = 0
       · first
         | (exfalso; omega)
         | (have hi : j.toNat < (Sy.rows l).length := by omega
            have hml : mayL b t (intsOf l) = true := by
              rcases m1 with ⟨x, _⟩ | ⟨_, x, _⟩
              · exfalso; omega
              · exact x
            have hsa := sec_at hml (i := j.toNat) (by omega)
            have hg := ints_get l hi
            have hw0 := win_spec B A b t (intsOf l) ((intsOf l).getD j.toNat 0)
            have e9 : wbJ B b (intsOf l) j.toNat = wbN B b (intsOf l) ((intsOf l).getD j.toNat 0) := rfl
            rw [hg, hE, show wrongI b t (intsOf l) ((intsOf l).getD j.toNat 0) = 0 by omega]
            simp only [Value.tuple.injEq, Array.mk.injEq, List.cons.injEq, Value.int.injEq, true_and, and_true]
            exact ⟨by omega, by omega⟩)
       · rw [show wsB k B A b t (intsOf l) j = 0 by omega, show wsN k B A b t (intsOf l) j = 0 by omega]
         first
         | (rw [show wsE k B A b t (intsOf l) j = 1 by omega]
            rfl)
         | (rw [show wsE k B A b t (intsOf l) j = fitsI k B A b t (intsOf l) by omega]
            done)
         | (exfalso; omega)
      ·
       refine ⟨?_, fun h5 => ?_⟩
       ·
        first
        | omega
        | exact ⟨by omega, by omega, by omega, by omega⟩
       ·
        refine ⟨?_, fun h6 => ?_⟩
        ·
         first
         | omega
         | exact ⟨by omega, by omega, by omega, by omega⟩
        ·
         by_cases hE : wsE k B A b t (intsOf l) j = 0
         · first
           | (exfalso; omega)
           | (have hi : j.toNat < (Sy.rows l).length := by omega
              have hml : mayL b t (intsOf l) = true := by
                rcases m1 with ⟨x, _⟩ | ⟨_, x, _⟩
                · exfalso; omega
                · exact x
              have hsa := sec_at hml (i := j.toNat) (by omega)
              have hg := ints_get l hi
              have hw0 := win_spec B A b t (intsOf l) ((intsOf l).getD j.toNat 0)
              have e9 : wbJ B b (intsOf l) j.toNat = wbN B b (intsOf l) ((intsOf l).getD j.toNat 0) := rfl
              rw [hg, hE, show wrongI b t (intsOf l) ((intsOf l).getD j.toNat 0) = 0 by omega]
              simp only [Value.tuple.injEq, Array.mk.injEq, List.cons.injEq, Value.int.injEq, true_and, and_true]
              exact ⟨by omega, by omega⟩)
         · rw [show wsB k B A b t (intsOf l) j = 0 by omega, show wsN k B A b t (intsOf l) j = 0 by omega]
           first
           | (rw [show wsE k B A b t (intsOf l) j = 1 by omega]
              rfl)
           | (rw [show wsE k B A b t (intsOf l) j = fitsI k B A b t (intsOf l) by omega]
              done)
           | (exfalso; omega)
theorem s12g_sWin : s12c_sWin.Good Tryd.prog syG (s12E [] [] [] []) := good_of_walk (Γ := ⟨[s12c_sfits, s12c_swin], syG, [], [], []⟩) (ρ := s12E [] [] [] []) sym sWin_w rfl (fun _ _ _ _ => (ok_cons (Con.Good.env s12g_sfits _ _ _ _) (ok_cons (Con.Good.env s12g_swin _ _ _ _) ok_nil))) (fun k B A b t j l hc hty => sWin_h k B A b t j l hc hty)
end Go.Proofs.YtbjgopehomnpgaaDoor
