import Derived.Test.YtflckmhlobpfiaaDoorSycqa
import Derived.Test.YtflckmhlobpfiaaDoorZ13cqa
/-
  Layer 13 by the second engine: the reference votes.
-/
namespace Go.Proofs.YtflckmhlobpfiaaDoor
open Go.RowKit Go.Extern.Stop Go.Stop Go.Extern Go.Proofs.YtflckmhlobpfiaaDoor.Sy
set_option linter.unusedVariables false
set_option linter.unusedSimpArgs false
/-- the first stretch that begins where most are, among the first k -/
def atS (l : List Value) (N : Nat) : Nat → Bool × Int
  | 0 => (false, 0)
  | k + 1 => if ofN l (Go.RowKit.intOf (l.getD (k * 2) Go.undef)) N = (vo l N N).1 ∧ ((atS l N k).1 = false ∨ Go.RowKit.intOf (l.getD (k * 2) Go.undef) < (atS l N k).2) then (true, Go.RowKit.intOf (l.getD (k * 2) Go.undef)) else atS l N k
theorem atS_yes {l : List Value} {N k : Nat} (h : ofN l (Go.RowKit.intOf (l.getD (k * 2) Go.undef)) N = (vo l N N).1 ∧ ((atS l N k).1 = false ∨ Go.RowKit.intOf (l.getD (k * 2) Go.undef) < (atS l N k).2)) : atS l N (k + 1) = (true, Go.RowKit.intOf (l.getD (k * 2) Go.undef)) := by rw [atS, if_pos h]
theorem atS_no {l : List Value} {N k : Nat} (h : ¬ (ofN l (Go.RowKit.intOf (l.getD (k * 2) Go.undef)) N = (vo l N N).1 ∧ ((atS l N k).1 = false ∨ Go.RowKit.intOf (l.getD (k * 2) Go.undef) < (atS l N k).2))) : atS l N (k + 1) = atS l N k := by rw [atS, if_neg h]
/-- who has a number -/
def hasV13 (l : List Value) (j : Nat) (n : Int) : Prop := Go.RowKit.intOf (l.getD (j * 2) Go.undef) ≤ n ∧ n ≤ Go.RowKit.intOf (l.getD (j * 2 + 1) Go.undef)
theorem ofN_pos {l : List Value} {n : Int} {j : Nat} (hj : hasV13 l j n) : ∀ {k : Nat}, j < k → 0 < ofN l n k
  | 0, h => by omega
  | k + 1, h => by
    rcases Nat.lt_succ_iff_lt_or_eq.1 h with h1 | rfl
    · have := ofN_pos hj h1
      rw [ofN]; omega
    · rw [ofN_yes hj]; omega
theorem ofN_mono {l : List Value} {a b : Int} : ∀ {k : Nat}, (∀ j, j < k → hasV13 l j a → hasV13 l j b) → ofN l a k ≤ ofN l b k
  | 0, _ => Nat.le_refl _
  | k + 1, h => by
    have ih := ofN_mono (k := k) (fun j hj => h j (by omega))
    by_cases ha : hasV13 l k a
    · rw [ofN_yes ha, ofN_yes (h k (by omega) ha)]; omega
    · rw [ofN_no ha]
      have : ofN l b k ≤ ofN l b (k + 1) := by rw [ofN]; omega
      omega
theorem ofN_lt {l : List Value} {a b : Int} {i : Nat} (hb : hasV13 l i b) (ha : ¬ hasV13 l i a) : ∀ {k : Nat}, i < k → (∀ j, j < k → hasV13 l j a → hasV13 l j b) → ofN l a k < ofN l b k
  | 0, h, _ => by omega
  | k + 1, hi, h => by
    rcases Nat.lt_succ_iff_lt_or_eq.1 hi with h1 | rfl
    · have ih := ofN_lt hb ha h1 (fun j hj => h j (by omega))
      by_cases h2 : hasV13 l k a
      · rw [ofN_yes h2, ofN_yes (h k (by omega) h2)]; omega
      · rw [ofN_no h2]
        have : ofN l b k ≤ ofN l b (k + 1) := by rw [ofN]; omega
        omega
    · have ih := ofN_mono (l := l) (a := a) (b := b) (k := i) (fun j hj => h j (by omega))
      rw [ofN_no ha, ofN_yes hb]; omega
theorem arH_le {l : List Value} {n : Int} {j : Nat} (hj : hasV13 l j n) : ∀ {k : Nat}, j < k → arH l n k ≤ Go.RowKit.intOf (l.getD (j * 2 + 1) Go.undef)
  | 0, h => by omega
  | k + 1, h => by
    rcases Nat.lt_succ_iff_lt_or_eq.1 h with h1 | rfl
    · have ih := arH_le hj h1
      have hp := ofN_pos hj h1
      by_cases h2 : hasV13 l k n
      · by_cases h3 : ofN l n k = 0 ∨ Go.RowKit.intOf (l.getD (k * 2 + 1) Go.undef) < arH l n k
        · rw [arH_new h2 h3]; omega
        · rw [arH_old h2 h3]; exact ih
      · rw [arH_no h2]; exact ih
    · by_cases h3 : ofN l n j = 0 ∨ Go.RowKit.intOf (l.getD (j * 2 + 1) Go.undef) < arH l n j
      · rw [arH_new hj h3]; omega
      · rw [arH_old hj h3]; omega
/-- the best so far: whose it is, and that none is better -/
theorem vo_spec {l : List Value} {N : Nat} (hp : preW l N = true) : ∀ {k : Nat}, k ≤ N → 0 < k → (∃ i, i < k ∧ ofN l (Go.RowKit.intOf (l.getD (i * 2) Go.undef)) N = (vo l N k).1 ∧ Go.RowKit.intOf (l.getD (i * 2) Go.undef) = (vo l N k).2.1 ∧ (vo l N k).2.2 = arH l (Go.RowKit.intOf (l.getD (i * 2) Go.undef)) N) ∧ (∀ i, i < k → ofN l (Go.RowKit.intOf (l.getD (i * 2) Go.undef)) N ≤ (vo l N k).1 ∧ (ofN l (Go.RowKit.intOf (l.getD (i * 2) Go.undef)) N = (vo l N k).1 → (vo l N k).2.1 ≤ Go.RowKit.intOf (l.getD (i * 2) Go.undef))) ∧ 0 < (vo l N k).1
  | 0, _, h => by omega
  | k + 1, hk, _ => by
    have hown : 0 < ofN l (Go.RowKit.intOf (l.getD (k * 2) Go.undef)) N := ofN_pos (j := k) ⟨Int.le_refl _, preW_get hp (by omega)⟩ (by omega)
    by_cases h0 : k = 0
    · subst h0
      rw [vo_yes (by left; simpa [vo] using hown)]
      refine ⟨⟨0, by omega, rfl, rfl, rfl⟩, fun i hi => ?_, hown⟩
      obtain rfl : i = 0 := by omega
      exact ⟨Nat.le_refl _, fun _ => Int.le_refl _⟩
    · obtain ⟨⟨i0, e1, e2, e3, e4⟩, ih2, ih3⟩ := vo_spec hp (k := k) (by omega) (by omega)
      by_cases hc : (vo l N k).1 < ofN l (Go.RowKit.intOf (l.getD (k * 2) Go.undef)) N ∨ (ofN l (Go.RowKit.intOf (l.getD (k * 2) Go.undef)) N = (vo l N k).1 ∧ Go.RowKit.intOf (l.getD (k * 2) Go.undef) < (vo l N k).2.1)
      · rw [vo_yes hc]
        refine ⟨⟨k, by omega, rfl, rfl, rfl⟩, fun i hi => ?_, hown⟩
        rcases Nat.lt_succ_iff_lt_or_eq.1 hi with h1 | rfl
        · have := ih2 i h1
          refine ⟨by omega, fun he => ?_⟩
          show Go.RowKit.intOf (l.getD (k * 2) Go.undef) ≤ _
          have he' : ofN l (Go.RowKit.intOf (l.getD (i * 2) Go.undef)) N = ofN l (Go.RowKit.intOf (l.getD (k * 2) Go.undef)) N := he
          rcases hc with hc | hc
          · omega
          · have := this.2 (by omega)
            omega
        · exact ⟨Nat.le_refl _, fun _ => Int.le_refl _⟩
      · rw [vo_no hc]
        refine ⟨⟨i0, by omega, e2, e3, e4⟩, fun i hi => ?_, ih3⟩
        rcases Nat.lt_succ_iff_lt_or_eq.1 hi with h1 | rfl
        · exact ih2 i h1
        · exact ⟨by omega, fun he => by omega⟩
theorem atS_spec {l : List Value} {N : Nat} : ∀ {k : Nat}, ((atS l N k).1 = true → ∃ i, i < k ∧ ofN l (Go.RowKit.intOf (l.getD (i * 2) Go.undef)) N = (vo l N N).1 ∧ Go.RowKit.intOf (l.getD (i * 2) Go.undef) = (atS l N k).2) ∧ ((atS l N k).1 = false → ∀ i, i < k → ofN l (Go.RowKit.intOf (l.getD (i * 2) Go.undef)) N ≠ (vo l N N).1) ∧ ∀ i, i < k → ofN l (Go.RowKit.intOf (l.getD (i * 2) Go.undef)) N = (vo l N N).1 → (atS l N k).2 ≤ Go.RowKit.intOf (l.getD (i * 2) Go.undef)
  | 0 => ⟨fun h => (by cases h), fun _ i hi => (by omega), fun i hi => (by omega)⟩
  | k + 1 => by
    obtain ⟨a1, a2, a3⟩ := atS_spec (l := l) (N := N) (k := k)
    by_cases hc : ofN l (Go.RowKit.intOf (l.getD (k * 2) Go.undef)) N = (vo l N N).1 ∧ ((atS l N k).1 = false ∨ Go.RowKit.intOf (l.getD (k * 2) Go.undef) < (atS l N k).2)
    · rw [atS_yes hc]
      refine ⟨fun _ => ⟨k, by omega, hc.1, rfl⟩, fun h => (by cases h), fun i hi he => ?_⟩
      rcases Nat.lt_succ_iff_lt_or_eq.1 hi with h1 | rfl
      · show Go.RowKit.intOf (l.getD (k * 2) Go.undef) ≤ _
        rcases hc.2 with h2 | h2
        · exact absurd he (a2 h2 i h1)
        · have := a3 i h1 he; omega
      · exact Int.le_refl _
    · rw [atS_no hc]
      refine ⟨fun h => ?_, fun h i hi => ?_, fun i hi he => ?_⟩
      · obtain ⟨i, h1, h2⟩ := a1 h; exact ⟨i, by omega, h2⟩
      · rcases Nat.lt_succ_iff_lt_or_eq.1 hi with h1 | rfl
        · exact a2 h i h1
        · exact fun he => hc ⟨he, .inl h⟩
      · rcases Nat.lt_succ_iff_lt_or_eq.1 hi with h1 | rfl
        · exact a3 i h1 he
        · have : ¬ Go.RowKit.intOf (l.getD (i * 2) Go.undef) < (atS l N i).2 := fun h => hc ⟨he, .inr h⟩
          omega
/-- both begin at the same -/
theorem at_vo {l : List Value} {N : Nat} (hp : preW l N = true) (h0 : 0 < N) : (atS l N N).1 = true ∧ (atS l N N).2 = (vo l N N).2.1 ∧ (vo l N N).2.2 = arH l (vo l N N).2.1 N ∧ ofN l (vo l N N).2.1 N = (vo l N N).1 ∧ 0 < (vo l N N).1 := by
  obtain ⟨⟨i, e1, e2, e3, e4⟩, v2, v3⟩ := vo_spec hp (Nat.le_refl N) h0
  obtain ⟨a1, a2, a3⟩ := atS_spec (l := l) (N := N) (k := N)
  have ht : (atS l N N).1 = true := by
    cases h : (atS l N N).1 with
    | true => rfl
    | false => exact absurd e2 (a2 h i e1)
  obtain ⟨j, j1, j2, j3⟩ := a1 ht
  have h1 := a3 i e1 e2
  have h2 := (v2 j j1).2 j2
  refine ⟨ht, by omega, by rw [← e3]; exact e4, by rw [← e3]; exact e2, v3⟩
/-- behind where it begins nobody begins ahead of where it ends -/
theorem no_later {l : List Value} {N i : Nat} (hp : preW l N = true) (h0 : 0 < N) (hi : i < N) (h1 : (vo l N N).2.1 < Go.RowKit.intOf (l.getD (i * 2) Go.undef)) (h2 : Go.RowKit.intOf (l.getD (i * 2) Go.undef) ≤ (vo l N N).2.2) : False := by
  obtain ⟨_, _, g3, g4, _⟩ := at_vo hp h0
  have hb := (vo_spec hp (Nat.le_refl N) h0).2.1 i hi
  have := ofN_lt (l := l) (a := (vo l N N).2.1) (b := Go.RowKit.intOf (l.getD (i * 2) Go.undef)) (i := i) ⟨Int.le_refl _, preW_get hp hi⟩ (fun h => by have := h.1; omega) hi (fun j hj h => ⟨by have := h.1; omega, by have := arH_le h hj; omega⟩)
  omega
theorem fin_to {l : List Value} {N : Nat} {t : Int} {c : Bool} (hp : preW l N = true) (h0 : 0 < N) (g3 : c = true ↔ (0 : Int) < ((ofN l (atS l N N).2 N : Nat) : Int)) (g5 : ¬ c = true ∨ t = arH l (atS l N N).2 N) : t = (vo l N N).2.2 := by
  obtain ⟨v1, v2, v3, v4, v5⟩ := at_vo hp h0
  rw [v2] at g3 g5
  rw [v4] at g3
  rw [v3]
  rcases g5 with g5 | g5
  · exact absurd (g3.2 (by omega)) g5
  · exact g5
theorem vo_max (l : List Value) (N k : Nat) : (vo l N (k + 1)).1 = if (vo l N k).1 < ofN l (Go.RowKit.intOf (l.getD (k * 2) Go.undef)) N then ofN l (Go.RowKit.intOf (l.getD (k * 2) Go.undef)) N else (vo l N k).1 := by
  rw [vo]
  split
  · rename_i h
    rcases h with h | h
    · rw [if_pos h]
    · rw [if_neg (by omega)]; exact h.1
  · rename_i h
    rw [if_neg (fun h' => h (.inl h'))]
def wdI : Nat → List Value → Int
  | 11, [l, .int _ k] => (atS (rows l) ((rows l).length / 2) k.toNat).2
  | i, l => wcI i l
def wdB : Nat → List Value → Bool
  | 2, [l, .int _ k] => (atS (rows l) ((rows l).length / 2) k.toNat).1
  | i, l => wcB i l
def wdV : Nat → List Value → Value
  | i, l => wcV i l
abbrev wdE (iv : List Int) (bv : List Bool) (vv : List Value) (sv : List ByteArray) : Env := { iv := iv, bv := bv, vv := vv, sv := sv, fi := wdI, fb := wdB, fv := wdV, et := 141 }
theorem wdup : Agree 11 2 0 (wcE [] [] [] []) (wdE [] [] [] []) := ⟨rfl, (by
    intro f hf
    funext l
    show wdI f l = wcI f l
    unfold wdI
    split <;> first | rfl | omega), (by
    intro f hf
    funext l
    show wdB f l = wcB f l
    unfold wdB
    split <;> first | rfl | omega), (by
    intro f hf
    funext l
    show wdV f l = wcV f l
    unfold wdV
    split <;> first | rfl | omega)⟩
theorem wdi_of (l : Value) (k1 : IntKind) (n : Int) (k2 : IntKind) (k : Int) : wdI 0 [l, .int k1 n, .int k2 k] = ((ofN (rows l) n k.toNat : Nat) : Int) := rfl
theorem wdi_arh (l : Value) (k1 : IntKind) (n : Int) (k2 : IntKind) (k : Int) : wdI 1 [l, .int k1 n, .int k2 k] = arH (rows l) n k.toNat := rfl
theorem wdi_fb (l : Value) (k1 : IntKind) (k : Int) : wdI 2 [l, .int k1 k] = fbW (rows l) k.toNat := rfl
theorem wdi_se (k1 : IntKind) (a : Int) (k2 : IntKind) (b : Int) : wdI 3 [.int k1 a, .int k2 b] = spE a b := rfl
theorem wdi_vm (l : Value) (k1 : IntKind) (k : Int) : wdI 4 [l, .int k1 k] = (((vo (rows l) ((rows l).length / 2) k.toNat).1 : Nat) : Int) := rfl
theorem wdi_vl (l : Value) (k1 : IntKind) (k : Int) : wdI 5 [l, .int k1 k] = (vo (rows l) ((rows l).length / 2) k.toNat).2.1 := rfl
theorem wdi_vh (l : Value) (k1 : IntKind) (k : Int) : wdI 6 [l, .int k1 k] = (vo (rows l) ((rows l).length / 2) k.toNat).2.2 := rfl
theorem wdi_vE (l : Value) : wdI 7 [l] = voE (rows l) := rfl
theorem wdi_vM (l : Value) : wdI 8 [l] = (((voR (rows l)).1 : Nat) : Int) := rfl
theorem wdi_vL (l : Value) : wdI 9 [l] = (voR (rows l)).2.1 := rfl
theorem wdi_vH (l : Value) : wdI 10 [l] = (voR (rows l)).2.2 := rfl
theorem wdi_aa (l : Value) (k1 : IntKind) (k : Int) : wdI 11 [l, .int k1 k] = (atS (rows l) ((rows l).length / 2) k.toNat).2 := rfl
theorem wdb_pre (l : Value) (k1 : IntKind) (k : Int) : wdB 0 [l, .int k1 k] = preW (rows l) k.toNat := rfl
theorem wdb_sm (l : Value) (k1 : IntKind) (a : Int) (k2 : IntKind) (b : Int) (k3 : IntKind) (k : Int) : wdB 1 [l, .int k1 a, .int k2 b, .int k3 k] = smB (rows l) a b k.toNat := rfl
theorem wdb_ai (l : Value) (k1 : IntKind) (k : Int) : wdB 2 [l, .int k1 k] = (atS (rows l) ((rows l).length / 2) k.toNat).1 := rfl
def rvote_tree : Tree :=
 (.loop ⟨1, 0, 0, 0⟩ (.b2 .and (.b2 .le (.lit (0)) (.lit (0))) (.b2 .and (.b2 .le (.lit (0)) (.ofI (.vop (.len 2) (.cons (.opq 0) .nil)))) (.bapp 0 (.cons (.opq 0) (.cons (.int .i64 (.lit (0))) .nil))))) (.b2 .and (.b2 .le (.lit (0)) (.var 0)) (.b2 .and (.b2 .le (.var 0) (.ofI (.vop (.len 2) (.cons (.opq 0) .nil)))) (.bapp 0 (.cons (.opq 0) (.cons (.int .i64 (.var 0)) .nil)))))
 (.br (.b2 .lt (.var 0) (.ofI (.vop (.len 2) (.cons (.opq 0) .nil))))
 (.need (.b2 .and (.b2 .le (.lit (0)) (.var 0)) (.b2 .lt (.var 0) (.ofI (.vop (.len 2) (.cons (.opq 0) .nil)))))
 (.need (.b2 .and (.b2 .le (.lit (0)) (.var 0)) (.b2 .lt (.var 0) (.ofI (.vop (.len 2) (.cons (.opq 0) .nil)))))
 (.br (.b2 .lt (.ofI (.vop (.sel 2 1) (.cons (.opq 0) (.cons (.int .i64 (.var 0)) .nil)))) (.ofI (.vop (.sel 2 0) (.cons (.opq 0) (.cons (.int .i64 (.var 0)) .nil)))))
 (.ret (.tup (.cons (.agg (.cons (.int .i64 (.lit (0))) (.cons (.int .i64 (.lit (0))) .nil))) (.cons (.int .i64 (.lit (0))) (.cons (.int .i64 (.lit (1))) .nil)))))
 (.back (.b2 .and (.b2 .le (.lit (0)) (.wrap .i64 (.i2 .add (.var 0) (.lit (1))))) (.b2 .and (.b2 .le (.wrap .i64 (.i2 .add (.var 0) (.lit (1)))) (.ofI (.vop (.len 2) (.cons (.opq 0) .nil)))) (.bapp 0 (.cons (.opq 0) (.cons (.int .i64 (.wrap .i64 (.i2 .add (.var 0) (.lit (1))))) .nil))))) (.i2 .sub (.ofI (.vop (.len 2) (.cons (.opq 0) .nil))) (.wrap .i64 (.i2 .add (.var 0) (.lit (1))))) (.i2 .sub (.ofI (.vop (.len 2) (.cons (.opq 0) .nil))) (.var 0))))))
 (.br (.b2 .lt (.lit (16)) (.ofI (.vop (.len 2) (.cons (.opq 0) .nil))))
 (.ret (.tup (.cons (.agg (.cons (.int .i64 (.lit (0))) (.cons (.int .i64 (.lit (0))) .nil))) (.cons (.int .i64 (.lit (0))) (.cons (.int .i64 (.lit (1))) .nil)))))
 (.br (.b2 .eq (.ofI (.vop (.len 2) (.cons (.opq 0) .nil))) (.lit (0)))
 (.ret (.tup (.cons (.agg (.cons (.int .i64 (.lit (0))) (.cons (.int .i64 (.lit (0))) .nil))) (.cons (.int .i64 (.lit (0))) (.cons (.int .i64 (.lit (6))) .nil)))))
 (.loop ⟨2, 0, 0, 0⟩ (.b2 .and (.b2 .le (.lit (0)) (.lit (0))) (.b2 .and (.b2 .le (.lit (0)) (.ofI (.vop (.len 2) (.cons (.opq 0) .nil)))) (.b2 .eq (.lit (0)) (.iapp 4 (.cons (.opq 0) (.cons (.int .i64 (.lit (0))) .nil)))))) (.b2 .and (.b2 .le (.lit (0)) (.var 2)) (.b2 .and (.b2 .le (.var 2) (.ofI (.vop (.len 2) (.cons (.opq 0) .nil)))) (.b2 .eq (.var 1) (.iapp 4 (.cons (.opq 0) (.cons (.int .i64 (.var 2)) .nil))))))
 (.br (.b2 .lt (.var 2) (.ofI (.vop (.len 2) (.cons (.opq 0) .nil))))
 (.need (.b2 .and (.b2 .le (.lit (0)) (.var 2)) (.b2 .lt (.var 2) (.ofI (.vop (.len 2) (.cons (.opq 0) .nil)))))
 (.back (.b2 .and (.b2 .le (.lit (0)) (.wrap .i64 (.i2 .add (.var 2) (.lit (1))))) (.b2 .and (.b2 .le (.wrap .i64 (.i2 .add (.var 2) (.lit (1)))) (.ofI (.vop (.len 2) (.cons (.opq 0) .nil)))) (.b2 .eq (.i2 .max (.var 1) (.iapp 0 (.cons (.opq 0) (.cons (.int .i64 (.ofI (.vop (.sel 2 0) (.cons (.opq 0) (.cons (.int .i64 (.var 2)) .nil))))) (.cons (.int .i64 (.ofI (.vop (.len 2) (.cons (.opq 0) .nil)))) .nil))))) (.iapp 4 (.cons (.opq 0) (.cons (.int .i64 (.wrap .i64 (.i2 .add (.var 2) (.lit (1))))) .nil)))))) (.i2 .sub (.ofI (.vop (.len 2) (.cons (.opq 0) .nil))) (.wrap .i64 (.i2 .add (.var 2) (.lit (1))))) (.i2 .sub (.ofI (.vop (.len 2) (.cons (.opq 0) .nil))) (.var 2))))
 (.loop ⟨2, 1, 0, 0⟩ (.b2 .and (.b2 .le (.lit (0)) (.lit (0))) (.b2 .and (.b2 .le (.lit (0)) (.ofI (.vop (.len 2) (.cons (.opq 0) .nil)))) (.b2 .and (.b2 .beq (.tt false) (.bapp 2 (.cons (.opq 0) (.cons (.int .i64 (.lit (0))) .nil)))) (.b2 .eq (.lit (0)) (.iapp 11 (.cons (.opq 0) (.cons (.int .i64 (.lit (0))) .nil))))))) (.b2 .and (.b2 .le (.lit (0)) (.var 4)) (.b2 .and (.b2 .le (.var 4) (.ofI (.vop (.len 2) (.cons (.opq 0) .nil)))) (.b2 .and (.b2 .beq (.bvar 0) (.bapp 2 (.cons (.opq 0) (.cons (.int .i64 (.var 4)) .nil)))) (.b2 .eq (.var 3) (.iapp 11 (.cons (.opq 0) (.cons (.int .i64 (.var 4)) .nil)))))))
 (.br (.b2 .lt (.var 4) (.ofI (.vop (.len 2) (.cons (.opq 0) .nil))))
 (.need (.b2 .and (.b2 .le (.lit (0)) (.var 4)) (.b2 .lt (.var 4) (.ofI (.vop (.len 2) (.cons (.opq 0) .nil)))))
 (.br (.b2 .eq (.iapp 0 (.cons (.opq 0) (.cons (.int .i64 (.ofI (.vop (.sel 2 0) (.cons (.opq 0) (.cons (.int .i64 (.var 4)) .nil))))) (.cons (.int .i64 (.ofI (.vop (.len 2) (.cons (.opq 0) .nil)))) .nil)))) (.var 1))
 (.br (.not (.bvar 0))
 (.need (.b2 .and (.b2 .le (.lit (0)) (.var 4)) (.b2 .lt (.var 4) (.ofI (.vop (.len 2) (.cons (.opq 0) .nil)))))
 (.back (.b2 .and (.b2 .le (.lit (0)) (.wrap .i64 (.i2 .add (.var 4) (.lit (1))))) (.b2 .and (.b2 .le (.wrap .i64 (.i2 .add (.var 4) (.lit (1)))) (.ofI (.vop (.len 2) (.cons (.opq 0) .nil)))) (.b2 .and (.b2 .beq (.tt true) (.bapp 2 (.cons (.opq 0) (.cons (.int .i64 (.wrap .i64 (.i2 .add (.var 4) (.lit (1))))) .nil)))) (.b2 .eq (.ofI (.vop (.sel 2 0) (.cons (.opq 0) (.cons (.int .i64 (.var 4)) .nil)))) (.iapp 11 (.cons (.opq 0) (.cons (.int .i64 (.wrap .i64 (.i2 .add (.var 4) (.lit (1))))) .nil))))))) (.i2 .sub (.ofI (.vop (.len 2) (.cons (.opq 0) .nil))) (.wrap .i64 (.i2 .add (.var 4) (.lit (1))))) (.i2 .sub (.ofI (.vop (.len 2) (.cons (.opq 0) .nil))) (.var 4))))
 (.need (.b2 .and (.b2 .le (.lit (0)) (.var 4)) (.b2 .lt (.var 4) (.ofI (.vop (.len 2) (.cons (.opq 0) .nil)))))
 (.br (.b2 .lt (.ofI (.vop (.sel 2 0) (.cons (.opq 0) (.cons (.int .i64 (.var 4)) .nil)))) (.var 3))
 (.need (.b2 .and (.b2 .le (.lit (0)) (.var 4)) (.b2 .lt (.var 4) (.ofI (.vop (.len 2) (.cons (.opq 0) .nil)))))
 (.back (.b2 .and (.b2 .le (.lit (0)) (.wrap .i64 (.i2 .add (.var 4) (.lit (1))))) (.b2 .and (.b2 .le (.wrap .i64 (.i2 .add (.var 4) (.lit (1)))) (.ofI (.vop (.len 2) (.cons (.opq 0) .nil)))) (.b2 .and (.b2 .beq (.tt true) (.bapp 2 (.cons (.opq 0) (.cons (.int .i64 (.wrap .i64 (.i2 .add (.var 4) (.lit (1))))) .nil)))) (.b2 .eq (.ofI (.vop (.sel 2 0) (.cons (.opq 0) (.cons (.int .i64 (.var 4)) .nil)))) (.iapp 11 (.cons (.opq 0) (.cons (.int .i64 (.wrap .i64 (.i2 .add (.var 4) (.lit (1))))) .nil))))))) (.i2 .sub (.ofI (.vop (.len 2) (.cons (.opq 0) .nil))) (.wrap .i64 (.i2 .add (.var 4) (.lit (1))))) (.i2 .sub (.ofI (.vop (.len 2) (.cons (.opq 0) .nil))) (.var 4))))
 (.back (.b2 .and (.b2 .le (.lit (0)) (.wrap .i64 (.i2 .add (.var 4) (.lit (1))))) (.b2 .and (.b2 .le (.wrap .i64 (.i2 .add (.var 4) (.lit (1)))) (.ofI (.vop (.len 2) (.cons (.opq 0) .nil)))) (.b2 .and (.b2 .beq (.bvar 0) (.bapp 2 (.cons (.opq 0) (.cons (.int .i64 (.wrap .i64 (.i2 .add (.var 4) (.lit (1))))) .nil)))) (.b2 .eq (.var 3) (.iapp 11 (.cons (.opq 0) (.cons (.int .i64 (.wrap .i64 (.i2 .add (.var 4) (.lit (1))))) .nil))))))) (.i2 .sub (.ofI (.vop (.len 2) (.cons (.opq 0) .nil))) (.wrap .i64 (.i2 .add (.var 4) (.lit (1))))) (.i2 .sub (.ofI (.vop (.len 2) (.cons (.opq 0) .nil))) (.var 4))))))
 (.back (.b2 .and (.b2 .le (.lit (0)) (.wrap .i64 (.i2 .add (.var 4) (.lit (1))))) (.b2 .and (.b2 .le (.wrap .i64 (.i2 .add (.var 4) (.lit (1)))) (.ofI (.vop (.len 2) (.cons (.opq 0) .nil)))) (.b2 .and (.b2 .beq (.bvar 0) (.bapp 2 (.cons (.opq 0) (.cons (.int .i64 (.wrap .i64 (.i2 .add (.var 4) (.lit (1))))) .nil)))) (.b2 .eq (.var 3) (.iapp 11 (.cons (.opq 0) (.cons (.int .i64 (.wrap .i64 (.i2 .add (.var 4) (.lit (1))))) .nil))))))) (.i2 .sub (.ofI (.vop (.len 2) (.cons (.opq 0) .nil))) (.wrap .i64 (.i2 .add (.var 4) (.lit (1))))) (.i2 .sub (.ofI (.vop (.len 2) (.cons (.opq 0) .nil))) (.var 4)))))
 (.loop ⟨2, 1, 0, 0⟩ (.b2 .and (.b2 .le (.lit (0)) (.lit (0))) (.b2 .and (.b2 .le (.lit (0)) (.ofI (.vop (.len 2) (.cons (.opq 0) .nil)))) (.b2 .and (.b2 .beq (.tt false) (.b2 .lt (.lit (0)) (.iapp 0 (.cons (.opq 0) (.cons (.int .i64 (.iapp 11 (.cons (.opq 0) (.cons (.int .i64 (.ofI (.vop (.len 2) (.cons (.opq 0) .nil)))) .nil)))) (.cons (.int .i64 (.lit (0))) .nil)))))) (.b2 .and (.b2 .or (.tt false) (.b2 .eq (.lit (0)) (.lit (0)))) (.b2 .or (.not (.tt false)) (.b2 .eq (.lit (0)) (.iapp 1 (.cons (.opq 0) (.cons (.int .i64 (.iapp 11 (.cons (.opq 0) (.cons (.int .i64 (.ofI (.vop (.len 2) (.cons (.opq 0) .nil)))) .nil)))) (.cons (.int .i64 (.lit (0))) .nil)))))))))) (.b2 .and (.b2 .le (.lit (0)) (.var 6)) (.b2 .and (.b2 .le (.var 6) (.ofI (.vop (.len 2) (.cons (.opq 0) .nil)))) (.b2 .and (.b2 .beq (.bvar 1) (.b2 .lt (.lit (0)) (.iapp 0 (.cons (.opq 0) (.cons (.int .i64 (.iapp 11 (.cons (.opq 0) (.cons (.int .i64 (.ofI (.vop (.len 2) (.cons (.opq 0) .nil)))) .nil)))) (.cons (.int .i64 (.var 6)) .nil)))))) (.b2 .and (.b2 .or (.bvar 1) (.b2 .eq (.var 5) (.lit (0)))) (.b2 .or (.not (.bvar 1)) (.b2 .eq (.var 5) (.iapp 1 (.cons (.opq 0) (.cons (.int .i64 (.iapp 11 (.cons (.opq 0) (.cons (.int .i64 (.ofI (.vop (.len 2) (.cons (.opq 0) .nil)))) .nil)))) (.cons (.int .i64 (.var 6)) .nil))))))))))
 (.br (.b2 .lt (.var 6) (.ofI (.vop (.len 2) (.cons (.opq 0) .nil))))
 (.need (.b2 .and (.b2 .le (.lit (0)) (.var 6)) (.b2 .lt (.var 6) (.ofI (.vop (.len 2) (.cons (.opq 0) .nil)))))
 (.br (.b2 .le (.var 3) (.ofI (.vop (.sel 2 1) (.cons (.opq 0) (.cons (.int .i64 (.var 6)) .nil)))))
 (.need (.b2 .and (.b2 .le (.lit (0)) (.var 6)) (.b2 .lt (.var 6) (.ofI (.vop (.len 2) (.cons (.opq 0) .nil)))))
 (.br (.b2 .le (.ofI (.vop (.sel 2 0) (.cons (.opq 0) (.cons (.int .i64 (.var 6)) .nil)))) (.var 3))
 (.br (.not (.bvar 1))
 (.need (.b2 .and (.b2 .le (.lit (0)) (.var 6)) (.b2 .lt (.var 6) (.ofI (.vop (.len 2) (.cons (.opq 0) .nil)))))
 (.back (.b2 .and (.b2 .le (.lit (0)) (.wrap .i64 (.i2 .add (.var 6) (.lit (1))))) (.b2 .and (.b2 .le (.wrap .i64 (.i2 .add (.var 6) (.lit (1)))) (.ofI (.vop (.len 2) (.cons (.opq 0) .nil)))) (.b2 .and (.b2 .beq (.tt true) (.b2 .lt (.lit (0)) (.iapp 0 (.cons (.opq 0) (.cons (.int .i64 (.iapp 11 (.cons (.opq 0) (.cons (.int .i64 (.ofI (.vop (.len 2) (.cons (.opq 0) .nil)))) .nil)))) (.cons (.int .i64 (.wrap .i64 (.i2 .add (.var 6) (.lit (1))))) .nil)))))) (.b2 .and (.b2 .or (.tt true) (.b2 .eq (.ofI (.vop (.sel 2 1) (.cons (.opq 0) (.cons (.int .i64 (.var 6)) .nil)))) (.lit (0)))) (.b2 .or (.not (.tt true)) (.b2 .eq (.ofI (.vop (.sel 2 1) (.cons (.opq 0) (.cons (.int .i64 (.var 6)) .nil)))) (.iapp 1 (.cons (.opq 0) (.cons (.int .i64 (.iapp 11 (.cons (.opq 0) (.cons (.int .i64 (.ofI (.vop (.len 2) (.cons (.opq 0) .nil)))) .nil)))) (.cons (.int .i64 (.wrap .i64 (.i2 .add (.var 6) (.lit (1))))) .nil)))))))))) (.i2 .sub (.ofI (.vop (.len 2) (.cons (.opq 0) .nil))) (.wrap .i64 (.i2 .add (.var 6) (.lit (1))))) (.i2 .sub (.ofI (.vop (.len 2) (.cons (.opq 0) .nil))) (.var 6))))
 (.need (.b2 .and (.b2 .le (.lit (0)) (.var 6)) (.b2 .lt (.var 6) (.ofI (.vop (.len 2) (.cons (.opq 0) .nil)))))
 (.br (.b2 .lt (.ofI (.vop (.sel 2 1) (.cons (.opq 0) (.cons (.int .i64 (.var 6)) .nil)))) (.var 5))
 (.need (.b2 .and (.b2 .le (.lit (0)) (.var 6)) (.b2 .lt (.var 6) (.ofI (.vop (.len 2) (.cons (.opq 0) .nil)))))
 (.back (.b2 .and (.b2 .le (.lit (0)) (.wrap .i64 (.i2 .add (.var 6) (.lit (1))))) (.b2 .and (.b2 .le (.wrap .i64 (.i2 .add (.var 6) (.lit (1)))) (.ofI (.vop (.len 2) (.cons (.opq 0) .nil)))) (.b2 .and (.b2 .beq (.tt true) (.b2 .lt (.lit (0)) (.iapp 0 (.cons (.opq 0) (.cons (.int .i64 (.iapp 11 (.cons (.opq 0) (.cons (.int .i64 (.ofI (.vop (.len 2) (.cons (.opq 0) .nil)))) .nil)))) (.cons (.int .i64 (.wrap .i64 (.i2 .add (.var 6) (.lit (1))))) .nil)))))) (.b2 .and (.b2 .or (.tt true) (.b2 .eq (.ofI (.vop (.sel 2 1) (.cons (.opq 0) (.cons (.int .i64 (.var 6)) .nil)))) (.lit (0)))) (.b2 .or (.not (.tt true)) (.b2 .eq (.ofI (.vop (.sel 2 1) (.cons (.opq 0) (.cons (.int .i64 (.var 6)) .nil)))) (.iapp 1 (.cons (.opq 0) (.cons (.int .i64 (.iapp 11 (.cons (.opq 0) (.cons (.int .i64 (.ofI (.vop (.len 2) (.cons (.opq 0) .nil)))) .nil)))) (.cons (.int .i64 (.wrap .i64 (.i2 .add (.var 6) (.lit (1))))) .nil)))))))))) (.i2 .sub (.ofI (.vop (.len 2) (.cons (.opq 0) .nil))) (.wrap .i64 (.i2 .add (.var 6) (.lit (1))))) (.i2 .sub (.ofI (.vop (.len 2) (.cons (.opq 0) .nil))) (.var 6))))
 (.back (.b2 .and (.b2 .le (.lit (0)) (.wrap .i64 (.i2 .add (.var 6) (.lit (1))))) (.b2 .and (.b2 .le (.wrap .i64 (.i2 .add (.var 6) (.lit (1)))) (.ofI (.vop (.len 2) (.cons (.opq 0) .nil)))) (.b2 .and (.b2 .beq (.bvar 1) (.b2 .lt (.lit (0)) (.iapp 0 (.cons (.opq 0) (.cons (.int .i64 (.iapp 11 (.cons (.opq 0) (.cons (.int .i64 (.ofI (.vop (.len 2) (.cons (.opq 0) .nil)))) .nil)))) (.cons (.int .i64 (.wrap .i64 (.i2 .add (.var 6) (.lit (1))))) .nil)))))) (.b2 .and (.b2 .or (.bvar 1) (.b2 .eq (.var 5) (.lit (0)))) (.b2 .or (.not (.bvar 1)) (.b2 .eq (.var 5) (.iapp 1 (.cons (.opq 0) (.cons (.int .i64 (.iapp 11 (.cons (.opq 0) (.cons (.int .i64 (.ofI (.vop (.len 2) (.cons (.opq 0) .nil)))) .nil)))) (.cons (.int .i64 (.wrap .i64 (.i2 .add (.var 6) (.lit (1))))) .nil)))))))))) (.i2 .sub (.ofI (.vop (.len 2) (.cons (.opq 0) .nil))) (.wrap .i64 (.i2 .add (.var 6) (.lit (1))))) (.i2 .sub (.ofI (.vop (.len 2) (.cons (.opq 0) .nil))) (.var 6))))))
 (.back (.b2 .and (.b2 .le (.lit (0)) (.wrap .i64 (.i2 .add (.var 6) (.lit (1))))) (.b2 .and (.b2 .le (.wrap .i64 (.i2 .add (.var 6) (.lit (1)))) (.ofI (.vop (.len 2) (.cons (.opq 0) .nil)))) (.b2 .and (.b2 .beq (.bvar 1) (.b2 .lt (.lit (0)) (.iapp 0 (.cons (.opq 0) (.cons (.int .i64 (.iapp 11 (.cons (.opq 0) (.cons (.int .i64 (.ofI (.vop (.len 2) (.cons (.opq 0) .nil)))) .nil)))) (.cons (.int .i64 (.wrap .i64 (.i2 .add (.var 6) (.lit (1))))) .nil)))))) (.b2 .and (.b2 .or (.bvar 1) (.b2 .eq (.var 5) (.lit (0)))) (.b2 .or (.not (.bvar 1)) (.b2 .eq (.var 5) (.iapp 1 (.cons (.opq 0) (.cons (.int .i64 (.iapp 11 (.cons (.opq 0) (.cons (.int .i64 (.ofI (.vop (.len 2) (.cons (.opq 0) .nil)))) .nil)))) (.cons (.int .i64 (.wrap .i64 (.i2 .add (.var 6) (.lit (1))))) .nil)))))))))) (.i2 .sub (.ofI (.vop (.len 2) (.cons (.opq 0) .nil))) (.wrap .i64 (.i2 .add (.var 6) (.lit (1))))) (.i2 .sub (.ofI (.vop (.len 2) (.cons (.opq 0) .nil))) (.var 6)))))
 (.back (.b2 .and (.b2 .le (.lit (0)) (.wrap .i64 (.i2 .add (.var 6) (.lit (1))))) (.b2 .and (.b2 .le (.wrap .i64 (.i2 .add (.var 6) (.lit (1)))) (.ofI (.vop (.len 2) (.cons (.opq 0) .nil)))) (.b2 .and (.b2 .beq (.bvar 1) (.b2 .lt (.lit (0)) (.iapp 0 (.cons (.opq 0) (.cons (.int .i64 (.iapp 11 (.cons (.opq 0) (.cons (.int .i64 (.ofI (.vop (.len 2) (.cons (.opq 0) .nil)))) .nil)))) (.cons (.int .i64 (.wrap .i64 (.i2 .add (.var 6) (.lit (1))))) .nil)))))) (.b2 .and (.b2 .or (.bvar 1) (.b2 .eq (.var 5) (.lit (0)))) (.b2 .or (.not (.bvar 1)) (.b2 .eq (.var 5) (.iapp 1 (.cons (.opq 0) (.cons (.int .i64 (.iapp 11 (.cons (.opq 0) (.cons (.int .i64 (.ofI (.vop (.len 2) (.cons (.opq 0) .nil)))) .nil)))) (.cons (.int .i64 (.wrap .i64 (.i2 .add (.var 6) (.lit (1))))) .nil)))))))))) (.i2 .sub (.ofI (.vop (.len 2) (.cons (.opq 0) .nil))) (.wrap .i64 (.i2 .add (.var 6) (.lit (1))))) (.i2 .sub (.ofI (.vop (.len 2) (.cons (.opq 0) .nil))) (.var 6)))))
 (.loop ⟨2, 0, 0, 0⟩ (.b2 .and (.b2 .le (.lit (0)) (.lit (0))) (.b2 .and (.b2 .le (.lit (0)) (.ofI (.vop (.len 2) (.cons (.opq 0) .nil)))) (.b2 .eq (.var 5) (.var 5)))) (.b2 .and (.b2 .le (.lit (0)) (.var 7)) (.b2 .and (.b2 .le (.var 7) (.ofI (.vop (.len 2) (.cons (.opq 0) .nil)))) (.b2 .eq (.var 8) (.var 5))))
 (.br (.b2 .lt (.var 7) (.ofI (.vop (.len 2) (.cons (.opq 0) .nil))))
 (.need (.b2 .and (.b2 .le (.lit (0)) (.var 7)) (.b2 .lt (.var 7) (.ofI (.vop (.len 2) (.cons (.opq 0) .nil)))))
 (.br (.b2 .lt (.var 3) (.ofI (.vop (.sel 2 0) (.cons (.opq 0) (.cons (.int .i64 (.var 7)) .nil)))))
 (.need (.b2 .and (.b2 .le (.lit (0)) (.var 7)) (.b2 .lt (.var 7) (.ofI (.vop (.len 2) (.cons (.opq 0) .nil)))))
 (.br (.b2 .le (.ofI (.vop (.sel 2 0) (.cons (.opq 0) (.cons (.int .i64 (.var 7)) .nil)))) (.var 8))
 (.need (.b2 .and (.b2 .le (.lit (0)) (.var 7)) (.b2 .lt (.var 7) (.ofI (.vop (.len 2) (.cons (.opq 0) .nil)))))
 (.br (.not (.bapp 1 (.cons (.opq 0) (.cons (.int .i64 (.var 3)) (.cons (.int .i64 (.ofI (.vop (.sel 2 0) (.cons (.opq 0) (.cons (.int .i64 (.var 7)) .nil))))) (.cons (.int .i64 (.ofI (.vop (.len 2) (.cons (.opq 0) .nil)))) .nil))))))
 (.need (.b2 .and (.b2 .le (.lit (0)) (.var 7)) (.b2 .lt (.var 7) (.ofI (.vop (.len 2) (.cons (.opq 0) .nil)))))
 (.back (.b2 .and (.b2 .le (.lit (0)) (.wrap .i64 (.i2 .add (.var 7) (.lit (1))))) (.b2 .and (.b2 .le (.wrap .i64 (.i2 .add (.var 7) (.lit (1)))) (.ofI (.vop (.len 2) (.cons (.opq 0) .nil)))) (.b2 .eq (.wrap .i64 (.i2 .sub (.ofI (.vop (.sel 2 0) (.cons (.opq 0) (.cons (.int .i64 (.var 7)) .nil)))) (.lit (1)))) (.var 5)))) (.i2 .sub (.ofI (.vop (.len 2) (.cons (.opq 0) .nil))) (.wrap .i64 (.i2 .add (.var 7) (.lit (1))))) (.i2 .sub (.ofI (.vop (.len 2) (.cons (.opq 0) .nil))) (.var 7))))
 (.back (.b2 .and (.b2 .le (.lit (0)) (.wrap .i64 (.i2 .add (.var 7) (.lit (1))))) (.b2 .and (.b2 .le (.wrap .i64 (.i2 .add (.var 7) (.lit (1)))) (.ofI (.vop (.len 2) (.cons (.opq 0) .nil)))) (.b2 .eq (.var 8) (.var 5)))) (.i2 .sub (.ofI (.vop (.len 2) (.cons (.opq 0) .nil))) (.wrap .i64 (.i2 .add (.var 7) (.lit (1))))) (.i2 .sub (.ofI (.vop (.len 2) (.cons (.opq 0) .nil))) (.var 7)))))
 (.back (.b2 .and (.b2 .le (.lit (0)) (.wrap .i64 (.i2 .add (.var 7) (.lit (1))))) (.b2 .and (.b2 .le (.wrap .i64 (.i2 .add (.var 7) (.lit (1)))) (.ofI (.vop (.len 2) (.cons (.opq 0) .nil)))) (.b2 .eq (.var 8) (.var 5)))) (.i2 .sub (.ofI (.vop (.len 2) (.cons (.opq 0) .nil))) (.wrap .i64 (.i2 .add (.var 7) (.lit (1))))) (.i2 .sub (.ofI (.vop (.len 2) (.cons (.opq 0) .nil))) (.var 7)))))
 (.back (.b2 .and (.b2 .le (.lit (0)) (.wrap .i64 (.i2 .add (.var 7) (.lit (1))))) (.b2 .and (.b2 .le (.wrap .i64 (.i2 .add (.var 7) (.lit (1)))) (.ofI (.vop (.len 2) (.cons (.opq 0) .nil)))) (.b2 .eq (.var 8) (.var 5)))) (.i2 .sub (.ofI (.vop (.len 2) (.cons (.opq 0) .nil))) (.wrap .i64 (.i2 .add (.var 7) (.lit (1))))) (.i2 .sub (.ofI (.vop (.len 2) (.cons (.opq 0) .nil))) (.var 7)))))
 (.ret (.tup (.cons (.agg (.cons (.int .i64 (.var 3)) (.cons (.int .i64 (.var 8)) .nil))) (.cons (.int .i64 (.var 1)) (.cons (.int .i64 (.lit (0))) .nil)))))))))))))))))
abbrev wdc_rvote : Con := ⟨57, [(.hs .no (.cons (.int .i64) (.cons (.int .i64) .nil)) (.opq 0))], (.tt true), (.tup (.cons (.agg (.cons (.int .i64 (.iapp 9 (.cons (.opq 0) .nil))) (.cons (.int .i64 (.iapp 10 (.cons (.opq 0) .nil))) .nil))) (.cons (.int .i64 (.iapp 8 (.cons (.opq 0) .nil))) (.cons (.int .i64 (.iapp 7 (.cons (.opq 0) .nil))) .nil)))), ⟨0, 0, 1, 0⟩, none⟩
theorem rvote_w : walk Tryd.prog 141 ⟨[wc_rof, wcc_same], syG, [], [], []⟩ [⟨0, ⟨1, 0, 0, 0⟩, [(5, (.int .i64 (.var 0)))], none, (.b2 .and (.b2 .le (.lit (0)) (.var 0)) (.b2 .and (.b2 .le (.var 0) (.ofI (.vop (.len 2) (.cons (.opq 0) .nil)))) (.bapp 0 (.cons (.opq 0) (.cons (.int .i64 (.var 0)) .nil))))), (.i2 .sub (.ofI (.vop (.len 2) (.cons (.opq 0) .nil))) (.var 0)), 0, []⟩, ⟨2, ⟨2, 0, 0, 0⟩, [(6, (.int .i64 (.var 1))), (7, (.int .i64 (.var 2)))], none, (.b2 .and (.b2 .le (.lit (0)) (.var 2)) (.b2 .and (.b2 .le (.var 2) (.ofI (.vop (.len 2) (.cons (.opq 0) .nil)))) (.b2 .eq (.var 1) (.iapp 4 (.cons (.opq 0) (.cons (.int .i64 (.var 2)) .nil)))))), (.i2 .sub (.ofI (.vop (.len 2) (.cons (.opq 0) .nil))) (.var 2)), 0, []⟩, ⟨4, ⟨2, 1, 0, 0⟩, [(8, (.int .i64 (.var 3))), (9, (.bool (.bvar 0))), (10, (.int .i64 (.var 4)))], none, (.b2 .and (.b2 .le (.lit (0)) (.var 4)) (.b2 .and (.b2 .le (.var 4) (.ofI (.vop (.len 2) (.cons (.opq 0) .nil)))) (.b2 .and (.b2 .beq (.bvar 0) (.bapp 2 (.cons (.opq 0) (.cons (.int .i64 (.var 4)) .nil)))) (.b2 .eq (.var 3) (.iapp 11 (.cons (.opq 0) (.cons (.int .i64 (.var 4)) .nil))))))), (.i2 .sub (.ofI (.vop (.len 2) (.cons (.opq 0) .nil))) (.var 4)), 0, []⟩, ⟨6, ⟨2, 1, 0, 0⟩, [(11, (.int .i64 (.var 5))), (12, (.bool (.bvar 1))), (13, (.int .i64 (.var 6)))], none, (.b2 .and (.b2 .le (.lit (0)) (.var 6)) (.b2 .and (.b2 .le (.var 6) (.ofI (.vop (.len 2) (.cons (.opq 0) .nil)))) (.b2 .and (.b2 .beq (.bvar 1) (.b2 .lt (.lit (0)) (.iapp 0 (.cons (.opq 0) (.cons (.int .i64 (.iapp 11 (.cons (.opq 0) (.cons (.int .i64 (.ofI (.vop (.len 2) (.cons (.opq 0) .nil)))) .nil)))) (.cons (.int .i64 (.var 6)) .nil)))))) (.b2 .and (.b2 .or (.bvar 1) (.b2 .eq (.var 5) (.lit (0)))) (.b2 .or (.not (.bvar 1)) (.b2 .eq (.var 5) (.iapp 1 (.cons (.opq 0) (.cons (.int .i64 (.iapp 11 (.cons (.opq 0) (.cons (.int .i64 (.ofI (.vop (.len 2) (.cons (.opq 0) .nil)))) .nil)))) (.cons (.int .i64 (.var 6)) .nil)))))))))), (.i2 .sub (.ofI (.vop (.len 2) (.cons (.opq 0) .nil))) (.var 6)), 0, []⟩, ⟨8, ⟨2, 0, 0, 0⟩, [(14, (.int .i64 (.var 7))), (11, (.int .i64 (.var 8)))], none, (.b2 .and (.b2 .le (.lit (0)) (.var 7)) (.b2 .and (.b2 .le (.var 7) (.ofI (.vop (.len 2) (.cons (.opq 0) .nil)))) (.b2 .eq (.var 8) (.var 5)))), (.i2 .sub (.ofI (.vop (.len 2) (.cons (.opq 0) .nil))) (.var 7)), 0, []⟩] .v wdc_rvote wdc_rvote.n 3000 = some rvote_tree := by kernel_rfl
theorem rvote_h (l : Value) (hc : holds (wdE [] [] [l] []) (.tt true)) (hty : patsTyp (wdE [] [] [l] []) [(.hs .no (.cons (.int .i64) (.cons (.int .i64) .nil)) (.opq 0))]) : rvote_tree.holds (fun v_ => v_ = denV (wdE [] [] [l] []) b0 (.tup (.cons (.agg (.cons (.int .i64 (.iapp 9 (.cons (.opq 0) .nil))) (.cons (.int .i64 (.iapp 10 (.cons (.opq 0) .nil))) .nil))) (.cons (.int .i64 (.iapp 8 (.cons (.opq 0) .nil))) (.cons (.int .i64 (.iapp 7 (.cons (.opq 0) .nil))) .nil))))) (wdE [] [] [l] []) := by
  simp only [Tree.holds, Sy.holds, AllN, Env.more, wdE, List.cons_append, List.nil_append, List.append_nil, denV, denI, denB, denL, I2.den, VOp.den, List.getD_cons_zero, List.getD_cons_succ, Cst.den, syso, syse, syio, sybo, wdi_of, wdi_arh, wdi_fb, wdi_se, wdi_vm, wdi_vl, wdi_vh, wdi_vE, wdi_vM, wdi_vL, wdi_vH, wdi_aa, wdb_pre, wdb_sm, wdb_ai, List.map_nil, List.map_cons, B2.ofInts, B2.denI, B2.denB, if_true, Bool.false_eq_true, if_false, Nat.div_one, Nat.mul_one, Nat.add_zero, holds] at hc
  simp only [patsTyp, patTyp, patTypL, wdE, denV, denL, List.getD_cons_zero, List.getD_cons_succ, and_true, true_and] at hty
  have hL_l : typ (.sl (.cons (.int .i64) (.cons (.int .i64) .nil))) l := by first | exact hty | exact hty.1 | exact hty.2 | exact hty.1.1 | exact hty.1.2 | exact hty.2.1 | exact hty.2.2 | exact hty.2.2.1 | exact hty.2.2.2
  have hN_l := typ_len (n := 2) hL_l rfl (by omega)
  unfold rvote_tree
  simp only [Tree.holds, Sy.holds, AllN, Env.more, wdE, List.cons_append, List.nil_append, List.append_nil, denV, denI, denB, denL, I2.den, VOp.den, List.getD_cons_zero, List.getD_cons_succ, Cst.den, syso, syse, syio, sybo, wdi_of, wdi_arh, wdi_fb, wdi_se, wdi_vm, wdi_vl, wdi_vh, wdi_vE, wdi_vM, wdi_vL, wdi_vH, wdi_aa, wdb_pre, wdb_sm, wdb_ai, List.map_nil, List.map_cons, B2.ofInts, B2.denI, B2.denB, if_true, Bool.false_eq_true, if_false, Nat.div_one, Nat.mul_one, Nat.add_zero]
  refine ⟨?_, ?_⟩
  ·
   first
   | exact ⟨by omega, by omega, rfl⟩
   | (refine ⟨by omega, by omega, ?_⟩
      simp [atS, ofN]
      done)
   | exact ⟨by omega, by omega, trivial⟩
  ·
   intro i0a hi0
   refine ⟨fun h0 => ?_, fun h0 => ?_⟩
   ·
    refine ⟨?_, fun h1 => ?_⟩
    ·
     omega
    ·
     refine ⟨?_, fun h2 => ?_⟩
     ·
      omega
     ·
      refine ⟨fun h3 => ?_, fun h3 => ?_⟩
      ·
       have hfb := fb_ge (Sy.rows l) ((Sy.rows l).length / 2)
       first
       | (have hfx := fb_at hi0.2.2 (k := i0a.toNat) (by omega) (N := (Sy.rows l).length / 2) (by omega)
          have hE : voE (Sy.rows l) = 1 := by unfold voE; rw [if_pos (by omega)]
          simp only [voR, hE]
          rfl)
       | (have hE : voE (Sy.rows l) = 1 := by unfold voE; rw [if_pos (by omega)]
          simp only [voR, hE]
          rfl)
       | (have hpz := fb_pre hi0.2.2
          rw [show i0a.toNat = (Sy.rows l).length / 2 by omega] at hpz
          have hE : voE (Sy.rows l) = 6 := by unfold voE; rw [if_neg (by omega), if_pos (by omega)]
          simp only [voR, hE]
          rfl)
       | (have hpz := fb_pre hi0.2.2
          rw [show i0a.toNat = (Sy.rows l).length / 2 by omega] at hpz
          have hE : voE (Sy.rows l) = 0 := by unfold voE; rw [if_neg (by omega), if_neg (by omega)]
          simp only [Int.toNat_natCast] at *
          have q0 : i0a.toNat = (Sy.rows l).length / 2 := by clear hi1 hi2 hi3; omega
          have q2 : i2b.toNat = (Sy.rows l).length / 2 := by clear hi0 hi1 hi3; omega
          have q3 : i3b.toNat = (Sy.rows l).length / 2 := by clear hi0 hi1 hi2; omega
          have hN : 0 < (Sy.rows l).length / 2 := by clear hi0 hi1 hi2 hi3; omega
          have hp := hi0.2.2
          rw [q0] at hp
          rw [q3] at hi3
          rw [q2] at hi2
          have hto := fin_to hp hN hi3.2.2.1 hi3.2.2.2.2
          have hat := hi2.2.2.2.trans (at_vo hp hN).2.1
          simp only [voR, hE, if_true]
          have q1 : i1b.toNat = (Sy.rows l).length / 2 := by clear hi0 hi2 hi3; omega
          have hm := hi1.2.2
          rw [q1] at hm
          rw [hi4.2.2, hto, hat, hm])
      ·
       have wf0 := wr_i64 (i0a + 1)
       refine ⟨?_, ?_⟩
       ·
        obtain ⟨g1, g2, g3⟩ := hi0
        have e : IntKind.wrap .i64 (i0a + 1) = i0a + 1 := by omega
        rw [e, show (i0a + 1).toNat = i0a.toNat + 1 by omega]
        refine ⟨by omega, by omega, ?_⟩
        simp only [preW, g3, Bool.true_and, decide_eq_true_eq]
        omega
       ·
        omega
   ·
    refine ⟨fun h4 => ?_, fun h4 => ?_⟩
    ·
     have hfb := fb_ge (Sy.rows l) ((Sy.rows l).length / 2)
     first
     | (have hfx := fb_at hi0.2.2 (k := i0a.toNat) (by omega) (N := (Sy.rows l).length / 2) (by omega)
        have hE : voE (Sy.rows l) = 1 := by unfold voE; rw [if_pos (by omega)]
        simp only [voR, hE]
        rfl)
     | (have hE : voE (Sy.rows l) = 1 := by unfold voE; rw [if_pos (by omega)]
        simp only [voR, hE]
        rfl)
     | (have hpz := fb_pre hi0.2.2
        rw [show i0a.toNat = (Sy.rows l).length / 2 by omega] at hpz
        have hE : voE (Sy.rows l) = 6 := by unfold voE; rw [if_neg (by omega), if_pos (by omega)]
        simp only [voR, hE]
        rfl)
     | (have hpz := fb_pre hi0.2.2
        rw [show i0a.toNat = (Sy.rows l).length / 2 by omega] at hpz
        have hE : voE (Sy.rows l) = 0 := by unfold voE; rw [if_neg (by omega), if_neg (by omega)]
        simp only [Int.toNat_natCast] at *
        have q0 : i0a.toNat = (Sy.rows l).length / 2 := by clear hi1 hi2 hi3; omega
        have q2 : i2b.toNat = (Sy.rows l).length / 2 := by clear hi0 hi1 hi3; omega
        have q3 : i3b.toNat = (Sy.rows l).length / 2 := by clear hi0 hi1 hi2; omega
        have hN : 0 < (Sy.rows l).length / 2 := by clear hi0 hi1 hi2 hi3; omega
        have hp := hi0.2.2
        rw [q0] at hp
        rw [q3] at hi3
        rw [q2] at hi2
        have hto := fin_to hp hN hi3.2.2.1 hi3.2.2.2.2
        have hat := hi2.2.2.2.trans (at_vo hp hN).2.1
        simp only [voR, hE, if_true]
        have q1 : i1b.toNat = (Sy.rows l).length / 2 := by clear hi0 hi2 hi3; omega
        have hm := hi1.2.2
        rw [q1] at hm
        rw [hi4.2.2, hto, hat, hm])
    ·
     refine ⟨fun h5 => ?_, fun h5 => ?_⟩
     ·
      have hfb := fb_ge (Sy.rows l) ((Sy.rows l).length / 2)
      first
      | (have hfx := fb_at hi0.2.2 (k := i0a.toNat) (by omega) (N := (Sy.rows l).length / 2) (by omega)
         have hE : voE (Sy.rows l) = 1 := by unfold voE; rw [if_pos (by omega)]
         simp only [voR, hE]
         rfl)
      | (have hE : voE (Sy.rows l) = 1 := by unfold voE; rw [if_pos (by omega)]
         simp only [voR, hE]
         rfl)
      | (have hpz := fb_pre hi0.2.2
         rw [show i0a.toNat = (Sy.rows l).length / 2 by omega] at hpz
         have hE : voE (Sy.rows l) = 6 := by unfold voE; rw [if_neg (by omega), if_pos (by omega)]
         simp only [voR, hE]
         rfl)
      | (have hpz := fb_pre hi0.2.2
         rw [show i0a.toNat = (Sy.rows l).length / 2 by omega] at hpz
         have hE : voE (Sy.rows l) = 0 := by unfold voE; rw [if_neg (by omega), if_neg (by omega)]
         simp only [Int.toNat_natCast] at *
         have q0 : i0a.toNat = (Sy.rows l).length / 2 := by clear hi1 hi2 hi3; omega
         have q2 : i2b.toNat = (Sy.rows l).length / 2 := by clear hi0 hi1 hi3; omega
         have q3 : i3b.toNat = (Sy.rows l).length / 2 := by clear hi0 hi1 hi2; omega
         have hN : 0 < (Sy.rows l).length / 2 := by clear hi0 hi1 hi2 hi3; omega
         have hp := hi0.2.2
         rw [q0] at hp
         rw [q3] at hi3
         rw [q2] at hi2
         have hto := fin_to hp hN hi3.2.2.1 hi3.2.2.2.2
         have hat := hi2.2.2.2.trans (at_vo hp hN).2.1
         simp only [voR, hE, if_true]
         have q1 : i1b.toNat = (Sy.rows l).length / 2 := by clear hi0 hi2 hi3; omega
         have hm := hi1.2.2
         rw [q1] at hm
         rw [hi4.2.2, hto, hat, hm])
     ·
      refine ⟨?_, ?_⟩
      ·
       first
       | exact ⟨by omega, by omega, rfl⟩
       | (refine ⟨by omega, by omega, ?_⟩
          simp [atS, ofN]
          done)
       | exact ⟨by omega, by omega, trivial⟩
      ·
       intro i1a i1b hi1
       refine ⟨fun h6 => ?_, fun h6 => ?_⟩
       ·
        refine ⟨?_, fun h7 => ?_⟩
        ·
         omega
        ·
         have wf1 := wr_i64 (i1b + 1)
         refine ⟨?_, ?_⟩
         ·
          simp only [Int.toNat_natCast] at *
          obtain ⟨g1, g2, g3⟩ := hi1
          have e : IntKind.wrap .i64 (i1b + 1) = i1b + 1 := by omega
          rw [e, show (i1b + 1).toNat = i1b.toNat + 1 by omega]
          have hm := vo_max (Sy.rows l) ((Sy.rows l).length / 2) i1b.toNat
          refine ⟨by omega, by omega, ?_⟩
          rw [hm]
          (repeat' split) <;> omega
         ·
          omega
       ·
        refine ⟨?_, ?_⟩
        ·
         first
         | exact ⟨by omega, by omega, rfl⟩
         | (refine ⟨by omega, by omega, ?_⟩
            simp [atS, ofN]
            done)
         | exact ⟨by omega, by omega, trivial⟩
        ·
         intro i2a i2b i2c hi2
         refine ⟨fun h8 => ?_, fun h8 => ?_⟩
         ·
          refine ⟨?_, fun h9 => ?_⟩
          ·
           omega
          ·
           refine ⟨fun h10 => ?_, fun h10 => ?_⟩
           ·
            refine ⟨fun h11 => ?_, fun h11 => ?_⟩
            ·
             refine ⟨?_, fun h12 => ?_⟩
             ·
              omega
             ·
              have wf2 := wr_i64 (i2b + 1)
              refine ⟨?_, ?_⟩
              ·
               simp only [Int.toNat_natCast] at *
               have hb : i1b.toNat = (Sy.rows l).length / 2 := by omega
               rw [hb] at hi1
               obtain ⟨g1, g2, g3, g4⟩ := hi2
               have e : IntKind.wrap .i64 (i2b + 1) = i2b + 1 := by omega
               rw [e, show (i2b + 1).toNat = i2b.toNat + 1 by omega]
               obtain rfl := Bool.eq_iff_iff.2 g3
               clear g3
               generalize hz : atS (Sy.rows l) ((Sy.rows l).length / 2) i2b.toNat = z at *
               obtain ⟨z1, z2⟩ := z
               dsimp only at *
               by_cases hc : ofN (Sy.rows l) (Go.RowKit.intOf ((Sy.rows l).getD (i2b.toNat * 2) Go.undef)) ((Sy.rows l).length / 2) = (vo (Sy.rows l) ((Sy.rows l).length / 2) ((Sy.rows l).length / 2)).1 ∧ (z1 = false ∨ Go.RowKit.intOf ((Sy.rows l).getD (i2b.toNat * 2) Go.undef) < z2)
               · rw [atS_yes (by rw [hz]; exact hc)]
                 clear hz hL_l hty
                 grind
               · rw [atS_no (by rw [hz]; exact hc), hz]
                 clear hz hL_l hty
                 grind
              ·
               omega
            ·
             refine ⟨?_, fun h13 => ?_⟩
             ·
              omega
             ·
              refine ⟨fun h14 => ?_, fun h14 => ?_⟩
              ·
               refine ⟨?_, fun h15 => ?_⟩
               ·
                omega
               ·
                have wf3 := wr_i64 (i2b + 1)
                refine ⟨?_, ?_⟩
                ·
                 simp only [Int.toNat_natCast] at *
                 have hb : i1b.toNat = (Sy.rows l).length / 2 := by omega
                 rw [hb] at hi1
                 obtain ⟨g1, g2, g3, g4⟩ := hi2
                 have e : IntKind.wrap .i64 (i2b + 1) = i2b + 1 := by omega
                 rw [e, show (i2b + 1).toNat = i2b.toNat + 1 by omega]
                 obtain rfl := Bool.eq_iff_iff.2 g3
                 clear g3
                 generalize hz : atS (Sy.rows l) ((Sy.rows l).length / 2) i2b.toNat = z at *
                 obtain ⟨z1, z2⟩ := z
                 dsimp only at *
                 by_cases hc : ofN (Sy.rows l) (Go.RowKit.intOf ((Sy.rows l).getD (i2b.toNat * 2) Go.undef)) ((Sy.rows l).length / 2) = (vo (Sy.rows l) ((Sy.rows l).length / 2) ((Sy.rows l).length / 2)).1 ∧ (z1 = false ∨ Go.RowKit.intOf ((Sy.rows l).getD (i2b.toNat * 2) Go.undef) < z2)
                 · rw [atS_yes (by rw [hz]; exact hc)]
                   clear hz hL_l hty
                   grind
                 · rw [atS_no (by rw [hz]; exact hc), hz]
                   clear hz hL_l hty
                   grind
                ·
                 omega
              ·
               have wf4 := wr_i64 (i2b + 1)
               refine ⟨?_, ?_⟩
               ·
                simp only [Int.toNat_natCast] at *
                have hb : i1b.toNat = (Sy.rows l).length / 2 := by omega
                rw [hb] at hi1
                obtain ⟨g1, g2, g3, g4⟩ := hi2
                have e : IntKind.wrap .i64 (i2b + 1) = i2b + 1 := by omega
                rw [e, show (i2b + 1).toNat = i2b.toNat + 1 by omega]
                obtain rfl := Bool.eq_iff_iff.2 g3
                clear g3
                generalize hz : atS (Sy.rows l) ((Sy.rows l).length / 2) i2b.toNat = z at *
                obtain ⟨z1, z2⟩ := z
                dsimp only at *
                by_cases hc : ofN (Sy.rows l) (Go.RowKit.intOf ((Sy.rows l).getD (i2b.toNat * 2) Go.undef)) ((Sy.rows l).length / 2) = (vo (Sy.rows l) ((Sy.rows l).length / 2) ((Sy.rows l).length / 2)).1 ∧ (z1 = false ∨ Go.RowKit.intOf ((Sy.rows l).getD (i2b.toNat * 2) Go.undef) < z2)
                · rw [atS_yes (by rw [hz]; exact hc)]
                  clear hz hL_l hty
                  grind
                · rw [atS_no (by rw [hz]; exact hc), hz]
                  clear hz hL_l hty
                  grind
               ·
                omega
           ·
            have wf5 := wr_i64 (i2b + 1)
            refine ⟨?_, ?_⟩
            ·
             simp only [Int.toNat_natCast] at *
             have hb : i1b.toNat = (Sy.rows l).length / 2 := by omega
             rw [hb] at hi1
             obtain ⟨g1, g2, g3, g4⟩ := hi2
             have e : IntKind.wrap .i64 (i2b + 1) = i2b + 1 := by omega
             rw [e, show (i2b + 1).toNat = i2b.toNat + 1 by omega]
             obtain rfl := Bool.eq_iff_iff.2 g3
             clear g3
             generalize hz : atS (Sy.rows l) ((Sy.rows l).length / 2) i2b.toNat = z at *
             obtain ⟨z1, z2⟩ := z
             dsimp only at *
             by_cases hc : ofN (Sy.rows l) (Go.RowKit.intOf ((Sy.rows l).getD (i2b.toNat * 2) Go.undef)) ((Sy.rows l).length / 2) = (vo (Sy.rows l) ((Sy.rows l).length / 2) ((Sy.rows l).length / 2)).1 ∧ (z1 = false ∨ Go.RowKit.intOf ((Sy.rows l).getD (i2b.toNat * 2) Go.undef) < z2)
             · rw [atS_yes (by rw [hz]; exact hc)]
               clear hz hL_l hty
               grind
             · rw [atS_no (by rw [hz]; exact hc), hz]
               clear hz hL_l hty
               grind
            ·
             omega
         ·
          refine ⟨?_, ?_⟩
          ·
           first
           | exact ⟨by omega, by omega, rfl⟩
           | (refine ⟨by omega, by omega, ?_⟩
              simp [atS, ofN]
              done)
           | exact ⟨by omega, by omega, trivial⟩
          ·
           intro i3a i3b i3c hi3
           refine ⟨fun h16 => ?_, fun h16 => ?_⟩
           ·
            refine ⟨?_, fun h17 => ?_⟩
            ·
             omega
            ·
             refine ⟨fun h18 => ?_, fun h18 => ?_⟩
             ·
              refine ⟨?_, fun h19 => ?_⟩
              ·
               omega
              ·
               refine ⟨fun h20 => ?_, fun h20 => ?_⟩
               ·
                refine ⟨fun h21 => ?_, fun h21 => ?_⟩
                ·
                 refine ⟨?_, fun h22 => ?_⟩
                 ·
                  omega
                 ·
                  have wf6 := wr_i64 (i3b + 1)
                  refine ⟨?_, ?_⟩
                  ·
                   simp only [Int.toNat_natCast] at *
                   obtain ⟨g1, g2, g3, g4, g5⟩ := hi3
                   have e : IntKind.wrap .i64 (i3b + 1) = i3b + 1 := by omega
                   rw [e, show (i3b + 1).toNat = i3b.toNat + 1 by omega]
                   have q2 : i2b.toNat = (Sy.rows l).length / 2 := by clear hi0 hi1 g3 g4 g5; omega
                   rw [q2] at hi2
                   have hA := hi2.2.2.2
                   clear hi2 hi0 hi1
                   generalize (atS (Sy.rows l) ((Sy.rows l).length / 2) ((Sy.rows l).length / 2)).2 = A at *
                   clear hL_l hty
                   by_cases hin : Go.RowKit.intOf ((Sy.rows l).getD (i3b.toNat * 2) Go.undef) ≤ A ∧ A ≤ Go.RowKit.intOf ((Sy.rows l).getD (i3b.toNat * 2 + 1) Go.undef)
                   · by_cases hn : ofN (Sy.rows l) A i3b.toNat = 0 ∨ Go.RowKit.intOf ((Sy.rows l).getD (i3b.toNat * 2 + 1) Go.undef) < arH (Sy.rows l) A i3b.toNat
                     · rw [ofN_yes hin, arH_new hin hn]
                       grind
                     · rw [ofN_yes hin, arH_old hin hn]
                       grind
                   · rw [ofN_no hin, arH_no hin]
                     grind
                  ·
                   omega
                ·
                 refine ⟨?_, fun h23 => ?_⟩
                 ·
                  omega
                 ·
                  refine ⟨fun h24 => ?_, fun h24 => ?_⟩
                  ·
                   refine ⟨?_, fun h25 => ?_⟩
                   ·
                    omega
                   ·
                    have wf7 := wr_i64 (i3b + 1)
                    refine ⟨?_, ?_⟩
                    ·
                     simp only [Int.toNat_natCast] at *
                     obtain ⟨g1, g2, g3, g4, g5⟩ := hi3
                     have e : IntKind.wrap .i64 (i3b + 1) = i3b + 1 := by omega
                     rw [e, show (i3b + 1).toNat = i3b.toNat + 1 by omega]
                     have q2 : i2b.toNat = (Sy.rows l).length / 2 := by clear hi0 hi1 g3 g4 g5; omega
                     rw [q2] at hi2
                     have hA := hi2.2.2.2
                     clear hi2 hi0 hi1
                     generalize (atS (Sy.rows l) ((Sy.rows l).length / 2) ((Sy.rows l).length / 2)).2 = A at *
                     clear hL_l hty
                     by_cases hin : Go.RowKit.intOf ((Sy.rows l).getD (i3b.toNat * 2) Go.undef) ≤ A ∧ A ≤ Go.RowKit.intOf ((Sy.rows l).getD (i3b.toNat * 2 + 1) Go.undef)
                     · by_cases hn : ofN (Sy.rows l) A i3b.toNat = 0 ∨ Go.RowKit.intOf ((Sy.rows l).getD (i3b.toNat * 2 + 1) Go.undef) < arH (Sy.rows l) A i3b.toNat
                       · rw [ofN_yes hin, arH_new hin hn]
                         grind
                       · rw [ofN_yes hin, arH_old hin hn]
                         grind
                     · rw [ofN_no hin, arH_no hin]
                       grind
                    ·
                     omega
                  ·
                   have wf8 := wr_i64 (i3b + 1)
                   refine ⟨?_, ?_⟩
                   ·
                    simp only [Int.toNat_natCast] at *
                    obtain ⟨g1, g2, g3, g4, g5⟩ := hi3
                    have e : IntKind.wrap .i64 (i3b + 1) = i3b + 1 := by omega
                    rw [e, show (i3b + 1).toNat = i3b.toNat + 1 by omega]
                    have q2 : i2b.toNat = (Sy.rows l).length / 2 := by clear hi0 hi1 g3 g4 g5; omega
                    rw [q2] at hi2
                    have hA := hi2.2.2.2
                    clear hi2 hi0 hi1
                    generalize (atS (Sy.rows l) ((Sy.rows l).length / 2) ((Sy.rows l).length / 2)).2 = A at *
                    clear hL_l hty
                    by_cases hin : Go.RowKit.intOf ((Sy.rows l).getD (i3b.toNat * 2) Go.undef) ≤ A ∧ A ≤ Go.RowKit.intOf ((Sy.rows l).getD (i3b.toNat * 2 + 1) Go.undef)
                    · by_cases hn : ofN (Sy.rows l) A i3b.toNat = 0 ∨ Go.RowKit.intOf ((Sy.rows l).getD (i3b.toNat * 2 + 1) Go.undef) < arH (Sy.rows l) A i3b.toNat
                      · rw [ofN_yes hin, arH_new hin hn]
                        grind
                      · rw [ofN_yes hin, arH_old hin hn]
                        grind
                    · rw [ofN_no hin, arH_no hin]
                      grind
                   ·
                    omega
               ·
                have wf9 := wr_i64 (i3b + 1)
                refine ⟨?_, ?_⟩
                ·
                 simp only [Int.toNat_natCast] at *
                 obtain ⟨g1, g2, g3, g4, g5⟩ := hi3
                 have e : IntKind.wrap .i64 (i3b + 1) = i3b + 1 := by omega
                 rw [e, show (i3b + 1).toNat = i3b.toNat + 1 by omega]
                 have q2 : i2b.toNat = (Sy.rows l).length / 2 := by clear hi0 hi1 g3 g4 g5; omega
                 rw [q2] at hi2
                 have hA := hi2.2.2.2
                 clear hi2 hi0 hi1
                 generalize (atS (Sy.rows l) ((Sy.rows l).length / 2) ((Sy.rows l).length / 2)).2 = A at *
                 clear hL_l hty
                 by_cases hin : Go.RowKit.intOf ((Sy.rows l).getD (i3b.toNat * 2) Go.undef) ≤ A ∧ A ≤ Go.RowKit.intOf ((Sy.rows l).getD (i3b.toNat * 2 + 1) Go.undef)
                 · by_cases hn : ofN (Sy.rows l) A i3b.toNat = 0 ∨ Go.RowKit.intOf ((Sy.rows l).getD (i3b.toNat * 2 + 1) Go.undef) < arH (Sy.rows l) A i3b.toNat
                   · rw [ofN_yes hin, arH_new hin hn]
                     grind
                   · rw [ofN_yes hin, arH_old hin hn]
                     grind
                 · rw [ofN_no hin, arH_no hin]
                   grind
                ·
                 omega
             ·
              have wf10 := wr_i64 (i3b + 1)
              refine ⟨?_, ?_⟩
              ·
               simp only [Int.toNat_natCast] at *
               obtain ⟨g1, g2, g3, g4, g5⟩ := hi3
               have e : IntKind.wrap .i64 (i3b + 1) = i3b + 1 := by omega
               rw [e, show (i3b + 1).toNat = i3b.toNat + 1 by omega]
               have q2 : i2b.toNat = (Sy.rows l).length / 2 := by clear hi0 hi1 g3 g4 g5; omega
               rw [q2] at hi2
               have hA := hi2.2.2.2
               clear hi2 hi0 hi1
               generalize (atS (Sy.rows l) ((Sy.rows l).length / 2) ((Sy.rows l).length / 2)).2 = A at *
               clear hL_l hty
               by_cases hin : Go.RowKit.intOf ((Sy.rows l).getD (i3b.toNat * 2) Go.undef) ≤ A ∧ A ≤ Go.RowKit.intOf ((Sy.rows l).getD (i3b.toNat * 2 + 1) Go.undef)
               · by_cases hn : ofN (Sy.rows l) A i3b.toNat = 0 ∨ Go.RowKit.intOf ((Sy.rows l).getD (i3b.toNat * 2 + 1) Go.undef) < arH (Sy.rows l) A i3b.toNat
                 · rw [ofN_yes hin, arH_new hin hn]
                   grind
                 · rw [ofN_yes hin, arH_old hin hn]
                   grind
               · rw [ofN_no hin, arH_no hin]
                 grind
              ·
               omega
           ·
            refine ⟨?_, ?_⟩
            ·
             first
             | exact ⟨by omega, by omega, rfl⟩
             | (refine ⟨by omega, by omega, ?_⟩
                simp [atS, ofN]
                done)
             | exact ⟨by omega, by omega, trivial⟩
            ·
             intro i4a i4b hi4
             refine ⟨fun h26 => ?_, fun h26 => ?_⟩
             ·
              refine ⟨?_, fun h27 => ?_⟩
              ·
               omega
              ·
               refine ⟨fun h28 => ?_, fun h28 => ?_⟩
               ·
                refine ⟨?_, fun h29 => ?_⟩
                ·
                 omega
                ·
                 refine ⟨fun h30 => ?_, fun h30 => ?_⟩
                 ·
                  refine ⟨?_, fun h31 => ?_⟩
                  ·
                   omega
                  ·
                   refine ⟨fun h32 => ?_, fun h32 => ?_⟩
                   ·
                    refine ⟨?_, fun h33 => ?_⟩
                    ·
                     omega
                    ·
                     have wf11 := wr_i64 (i4a + 1)
                     have wf12 := wr_i64 ((Go.RowKit.intOf ((rows l).getD (Int.toNat i4a * 2) Go.undef)) - 1)
                     refine ⟨?_, ?_⟩
                     ·
                      simp only [Int.toNat_natCast] at *
                      have q0 : i0a.toNat = (Sy.rows l).length / 2 := by clear hi1 hi2 hi3; omega
                      have q2 : i2b.toNat = (Sy.rows l).length / 2 := by clear hi0 hi1 hi3; omega
                      have q3 : i3b.toNat = (Sy.rows l).length / 2 := by clear hi0 hi1 hi2; omega
                      have hN : 0 < (Sy.rows l).length / 2 := by clear hi0 hi1 hi2 hi3; omega
                      have hp := hi0.2.2
                      rw [q0] at hp
                      rw [q3] at hi3
                      rw [q2] at hi2
                      have hto := fin_to hp hN hi3.2.2.1 hi3.2.2.2.2
                      have hat := hi2.2.2.2.trans (at_vo hp hN).2.1
                      obtain ⟨k1, k2, k3⟩ := hi4
                      clear hi0 hi1 hi2 hi3 hL_l hty
                      have e : IntKind.wrap .i64 (i4a + 1) = i4a + 1 := by omega
                      rw [e]
                      first
                      | exact ⟨by omega, by omega, by omega⟩
                      | (exfalso
                         exact no_later hp hN (i := i4a.toNat) (by omega) (by omega) (by omega))
                     ·
                      omega
                   ·
                    have wf13 := wr_i64 (i4a + 1)
                    refine ⟨?_, ?_⟩
                    ·
                     simp only [Int.toNat_natCast] at *
                     have q0 : i0a.toNat = (Sy.rows l).length / 2 := by clear hi1 hi2 hi3; omega
                     have q2 : i2b.toNat = (Sy.rows l).length / 2 := by clear hi0 hi1 hi3; omega
                     have q3 : i3b.toNat = (Sy.rows l).length / 2 := by clear hi0 hi1 hi2; omega
                     have hN : 0 < (Sy.rows l).length / 2 := by clear hi0 hi1 hi2 hi3; omega
                     have hp := hi0.2.2
                     rw [q0] at hp
                     rw [q3] at hi3
                     rw [q2] at hi2
                     have hto := fin_to hp hN hi3.2.2.1 hi3.2.2.2.2
                     have hat := hi2.2.2.2.trans (at_vo hp hN).2.1
                     obtain ⟨k1, k2, k3⟩ := hi4
                     clear hi0 hi1 hi2 hi3 hL_l hty
                     have e : IntKind.wrap .i64 (i4a + 1) = i4a + 1 := by omega
                     rw [e]
                     first
                     | exact ⟨by omega, by omega, by omega⟩
                     | (exfalso
                        exact no_later hp hN (i := i4a.toNat) (by omega) (by omega) (by omega))
                    ·
                     omega
                 ·
                  have wf14 := wr_i64 (i4a + 1)
                  refine ⟨?_, ?_⟩
                  ·
                   simp only [Int.toNat_natCast] at *
                   have q0 : i0a.toNat = (Sy.rows l).length / 2 := by clear hi1 hi2 hi3; omega
                   have q2 : i2b.toNat = (Sy.rows l).length / 2 := by clear hi0 hi1 hi3; omega
                   have q3 : i3b.toNat = (Sy.rows l).length / 2 := by clear hi0 hi1 hi2; omega
                   have hN : 0 < (Sy.rows l).length / 2 := by clear hi0 hi1 hi2 hi3; omega
                   have hp := hi0.2.2
                   rw [q0] at hp
                   rw [q3] at hi3
                   rw [q2] at hi2
                   have hto := fin_to hp hN hi3.2.2.1 hi3.2.2.2.2
                   have hat := hi2.2.2.2.trans (at_vo hp hN).2.1
                   obtain ⟨k1, k2, k3⟩ := hi4
                   clear hi0 hi1 hi2 hi3 hL_l hty
                   have e : IntKind.wrap .i64 (i4a + 1) = i4a + 1 := by omega
                   rw [e]
                   first
                   | exact ⟨by omega, by omega, by omega⟩
                   | (exfalso
                      exact no_later hp hN (i := i4a.toNat) (by omega) (by omega) (by omega))
                  ·
                   omega
               ·
                have wf15 := wr_i64 (i4a + 1)
                refine ⟨?_, ?_⟩
                ·
                 simp only [Int.toNat_natCast] at *
                 have q0 : i0a.toNat = (Sy.rows l).length / 2 := by clear hi1 hi2 hi3; omega
                 have q2 : i2b.toNat = (Sy.rows l).length / 2 := by clear hi0 hi1 hi3; omega
                 have q3 : i3b.toNat = (Sy.rows l).length / 2 := by clear hi0 hi1 hi2; omega
                 have hN : 0 < (Sy.rows l).length / 2 := by clear hi0 hi1 hi2 hi3; omega
                 have hp := hi0.2.2
                 rw [q0] at hp
                 rw [q3] at hi3
                 rw [q2] at hi2
                 have hto := fin_to hp hN hi3.2.2.1 hi3.2.2.2.2
                 have hat := hi2.2.2.2.trans (at_vo hp hN).2.1
                 obtain ⟨k1, k2, k3⟩ := hi4
                 clear hi0 hi1 hi2 hi3 hL_l hty
                 have e : IntKind.wrap .i64 (i4a + 1) = i4a + 1 := by omega
                 rw [e]
                 first
                 | exact ⟨by omega, by omega, by omega⟩
                 | (exfalso
                    exact no_later hp hN (i := i4a.toNat) (by omega) (by omega) (by omega))
                ·
                 omega
             ·
              have hfb := fb_ge (Sy.rows l) ((Sy.rows l).length / 2)
              first
              | (have hfx := fb_at hi0.2.2 (k := i0a.toNat) (by omega) (N := (Sy.rows l).length / 2) (by omega)
                 have hE : voE (Sy.rows l) = 1 := by unfold voE; rw [if_pos (by omega)]
                 simp only [voR, hE]
                 rfl)
              | (have hE : voE (Sy.rows l) = 1 := by unfold voE; rw [if_pos (by omega)]
                 simp only [voR, hE]
                 rfl)
              | (have hpz := fb_pre hi0.2.2
                 rw [show i0a.toNat = (Sy.rows l).length / 2 by omega] at hpz
                 have hE : voE (Sy.rows l) = 6 := by unfold voE; rw [if_neg (by omega), if_pos (by omega)]
                 simp only [voR, hE]
                 rfl)
              | (have hpz := fb_pre hi0.2.2
                 rw [show i0a.toNat = (Sy.rows l).length / 2 by omega] at hpz
                 have hE : voE (Sy.rows l) = 0 := by unfold voE; rw [if_neg (by omega), if_neg (by omega)]
                 simp only [Int.toNat_natCast] at *
                 have q0 : i0a.toNat = (Sy.rows l).length / 2 := by clear hi1 hi2 hi3; omega
                 have q2 : i2b.toNat = (Sy.rows l).length / 2 := by clear hi0 hi1 hi3; omega
                 have q3 : i3b.toNat = (Sy.rows l).length / 2 := by clear hi0 hi1 hi2; omega
                 have hN : 0 < (Sy.rows l).length / 2 := by clear hi0 hi1 hi2 hi3; omega
                 have hp := hi0.2.2
                 rw [q0] at hp
                 rw [q3] at hi3
                 rw [q2] at hi2
                 have hto := fin_to hp hN hi3.2.2.1 hi3.2.2.2.2
                 have hat := hi2.2.2.2.trans (at_vo hp hN).2.1
                 simp only [voR, hE, if_true]
                 have q1 : i1b.toNat = (Sy.rows l).length / 2 := by clear hi0 hi2 hi3; omega
                 have hm := hi1.2.2
                 rw [q1] at hm
                 rw [hi4.2.2, hto, hat, hm])
theorem wdg_rvote : wdc_rvote.Good Tryd.prog syG (wdE [] [] [] []) := good_of_walk (Γ := ⟨[wc_rof, wcc_same], syG, [], [], []⟩) (ρ := wdE [] [] [] []) sym rvote_w rfl (fun _ _ _ _ => (ok_cons (Con.Good.env (Con.Good.up (Con.Good.up (Con.Good.up wg_rof wbup rfl) wcup rfl) wdup rfl) _ _ _ _) (ok_cons (Con.Good.env (Con.Good.up wcg_same wdup rfl) _ _ _ _) ok_nil))) (fun l hc hty => rvote_h l hc hty)
end Go.Proofs.YtflckmhlobpfiaaDoor
