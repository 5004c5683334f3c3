/-
  Layer 13 by the second engine: SpanMost.
-/
import Derived.Test.YtflckmhlobpfiaaDoorSyc
import Derived.Test.YtflckmhlobpfiaaDoorZ13e
import Derived.Test.YtflckmhlobpfiaaDoorSyo
namespace Go.Proofs.YtflckmhlobpfiaaDoor
open Go.RowKit Go.Extern.Stop Go.Stop Go.Extern Go.Proofs.YtflckmhlobpfiaaDoor.Sy
set_option linter.unusedVariables false
set_option linter.unusedSimpArgs false
noncomputable def okR (l : List Value) : Bool := @decide (∀ x ∈ l, inK x) (Classical.propDecidable _)
theorem okR_iff {l : List Value} : okR l = true ↔ ∀ x ∈ l, inK x := @decide_eq_true_iff _ (Classical.propDecidable _)
theorem okR_at {l : List Value} (h : okR l = true) {k : Nat} (hk : k < l.length) (ht : l.getD k Go.undef = .int .i64 (Go.RowKit.intOf (l.getD k Go.undef))) : -9223372036854775808 ≤ Go.RowKit.intOf (l.getD k Go.undef) ∧ Go.RowKit.intOf (l.getD k Go.undef) ≤ 9223372036854775807 := by
  have hm : l.getD k Go.undef ∈ l := by rw [List.getD_eq_getElem?_getD, List.getElem?_eq_getElem hk]; exact List.getElem_mem hk
  exact bounds_i64 (okR_iff.1 h _ hm _ _ ht)
theorem wrap_le {x : Int} (h : 0 ≤ x) : IntKind.wrap .i64 x ≤ x := by rw [IntKind.wrap_i64]; omega
theorem arH_ge (l : List Value) (n : Int) : ∀ k, n ≤ arH l n k
  | 0 => Int.le_refl _
  | k + 1 => by
    have ih := arH_ge l n k
    rw [arH]
    split
    · rename_i h
      split <;> omega
    · exact ih
/-- whoever has a number, the last that begins does -/
theorem last_has {l : List Value} {n : Int} : ∀ {k : Nat}, 0 < ofN l n k → ∃ i, i < k ∧ hasB l i n ∧ ∀ j, j < k → hasB l j n → Go.RowKit.intOf (l.getD (j * 2) Go.undef) ≤ Go.RowKit.intOf (l.getD (i * 2) Go.undef)
  | 0, h => by simp [ofN] at h
  | k + 1, h => by
    by_cases hk : hasB l k n
    · by_cases h0 : 0 < ofN l n k
      · obtain ⟨i, i1, i2, i3⟩ := last_has h0
        by_cases hc : Go.RowKit.intOf (l.getD (i * 2) Go.undef) ≤ Go.RowKit.intOf (l.getD (k * 2) Go.undef)
        · exact ⟨k, by omega, hk, fun j hj hh => by
            rcases Nat.lt_succ_iff_lt_or_eq.1 hj with h1 | rfl
            · have := i3 j h1 hh; omega
            · omega⟩
        · exact ⟨i, by omega, i2, fun j hj hh => by
            rcases Nat.lt_succ_iff_lt_or_eq.1 hj with h1 | rfl
            · exact i3 j h1 hh
            · omega⟩
      · refine ⟨k, by omega, hk, fun j hj hh => ?_⟩
        rcases Nat.lt_succ_iff_lt_or_eq.1 hj with h1 | rfl
        · have := ofN_pos hh h1; omega
        · omega
    · rw [ofN_no hk] at h
      obtain ⟨i, i1, i2, i3⟩ := last_has h
      exact ⟨i, by omega, i2, fun j hj hh => by
        rcases Nat.lt_succ_iff_lt_or_eq.1 hj with h1 | rfl
        · exact i3 j h1 hh
        · exact absurd hh hk⟩
/-- nobody is in more -/
theorem best_any {l : List Value} {N : Nat} (hp : preW l N = true) (h0 : 0 < N) (n : Int) : ofN l n N ≤ (vo l N N).1 ∧ (ofN l n N = (vo l N N).1 → (vo l N N).2.1 ≤ n) := by
  obtain ⟨_, v2, v3⟩ := vo_spec hp (Nat.le_refl N) h0
  by_cases hz : 0 < ofN l n N
  · obtain ⟨i, i1, i2, i3⟩ := last_has hz
    have h1 := ofN_mono (l := l) (a := n) (b := Go.RowKit.intOf (l.getD (i * 2) Go.undef)) (k := N) (fun j hj hh => ⟨i3 j hj hh, by have h2 := hh.2; have h3 := i2.1; omega⟩)
    have h2 := v2 i i1
    have h3 := i2.1
    exact ⟨by omega, fun he => by have := h2.2 (by omega); omega⟩
  · exact ⟨by omega, fun he => by omega⟩
/-- all along it is in the same -/
theorem same_all {l : List Value} {N : Nat} (hp : preW l N = true) (h0 : 0 < N) {x : Int} (h1 : (vo l N N).2.1 ≤ x) (h2 : x ≤ (vo l N N).2.2) : ∀ j, j < N → (hasB l j (vo l N N).2.1 ↔ hasB l j x) := by
  obtain ⟨_, _, g3, _, _⟩ := at_vo hp h0
  intro j hj
  constructor
  · intro h
    have := arH_le h hj
    exact ⟨by have := h.1; omega, by omega⟩
  · intro h
    by_cases hc : Go.RowKit.intOf (l.getD (j * 2) Go.undef) ≤ (vo l N N).2.1
    · exact ⟨hc, by have := h.2; omega⟩
    · exact (no_later hp h0 hj (by omega) (by have := h.1; omega)).elim
theorem same_of {l : List Value} {N : Nat} (hp : preW l N = true) (h0 : 0 < N) {x : Int} (h1 : (vo l N N).2.1 ≤ x) (h2 : x ≤ (vo l N N).2.2) : ofN l x N = (vo l N N).1 := by
  have hs := same_all hp h0 h1 h2
  have e1 := ofN_mono (l := l) (a := (vo l N N).2.1) (b := x) (k := N) (fun j hj h => (hs j hj).1 h)
  have e2 := ofN_mono (l := l) (a := x) (b := (vo l N N).2.1) (k := N) (fun j hj h => (hs j hj).2 h)
  have := (at_vo hp h0).2.2.2.1
  omega
theorem fb_pre' {l : List Value} : ∀ {k : Nat}, fbW l k = -1 → preW l k = true
  | 0, _ => rfl
  | k + 1, h => by
    rw [fbW] at h
    by_cases h1 : fbW l k = -1
    · rw [if_pos h1] at h
      by_cases h2 : Go.RowKit.intOf (l.getD (k * 2 + 1) Go.undef) < Go.RowKit.intOf (l.getD (k * 2) Go.undef)
      · rw [if_pos h2] at h; omega
      · simp only [preW, fb_pre' h1, Bool.true_and, decide_eq_true_eq]; omega
    · rw [if_neg h1] at h; exact absurd h h1
theorem voE_spec (l : List Value) : (voE l = 0 ∧ preW l (l.length / 2) = true ∧ 0 < l.length / 2 ∧ l.length / 2 ≤ 16 ∧ voR l = vo l (l.length / 2) (l.length / 2)) ∨ (voE l = 1) ∨ (voE l = 6) := by
  by_cases h : fbW l (l.length / 2) ≠ -1 ∨ 16 < l.length / 2
  · right; left; unfold voE; rw [if_pos h]
  · by_cases h2 : l.length / 2 = 0
    · right; right; unfold voE; rw [if_neg h, if_pos h2]
    · left
      have hE : voE l = 0 := by unfold voE; rw [if_neg h, if_neg h2]
      refine ⟨hE, fb_pre' (by omega), by omega, by omega, ?_⟩
      unfold voR
      rw [if_pos hE]
theorem voE_3 (l : List Value) : voE l = 0 ∨ voE l = 1 ∨ voE l = 6 := by
  rcases voE_spec l with h | h | h
  · exact .inl h.1
  · exact .inr (.inl h)
  · exact .inr (.inr h)
theorem most_spec {l : List Value} (h : voE l = 0) : (∀ x, (voR l).2.1 ≤ x → x ≤ (voR l).2.2 → ofN l x (l.length / 2) = (voR l).1 ∧ ∀ j, j < l.length / 2 → (hasB l j (voR l).2.1 ↔ hasB l j x)) ∧ (∀ n, ofN l n (l.length / 2) ≤ (voR l).1 ∧ (ofN l n (l.length / 2) = (voR l).1 → (voR l).2.1 ≤ n)) ∧ (voR l).2.1 ≤ (voR l).2.2 ∧ l.length / 2 ≤ 16 := by
  rcases voE_spec l with ⟨_, hp, hN, h16, hv⟩ | h' | h'
  · rw [hv]
    refine ⟨fun x h1 h2 => ⟨same_of hp hN h1 h2, same_all hp hN h1 h2⟩, best_any hp hN, ?_, h16⟩
    obtain ⟨_, _, g3, _, _⟩ := at_vo hp hN
    rw [g3]
    exact arH_ge _ _ _
  · omega
  · omega
theorem arH_in {l : List Value} {n : Int} (hn : -9223372036854775808 ≤ n ∧ n ≤ 9223372036854775807) : ∀ {k : Nat}, (∀ j, j < k → -9223372036854775808 ≤ Go.RowKit.intOf (l.getD (j * 2 + 1) Go.undef) ∧ Go.RowKit.intOf (l.getD (j * 2 + 1) Go.undef) ≤ 9223372036854775807) → -9223372036854775808 ≤ arH l n k ∧ arH l n k ≤ 9223372036854775807
  | 0, _ => hn
  | k + 1, h => by
    have ih := arH_in hn (k := k) (fun j hj => h j (by omega))
    have hk := h k (by omega)
    rw [arH]
    split
    · split
      · exact hk
      · exact ih
    · exact ih
theorem most_in {l : Value} (h : voE (Sy.rows l) = 0) (hr : okR (Sy.rows l) = true) (ht : typ (.sl KP) l) (hlen : (Sy.rows l).length = (Sy.rows l).length / 2 * 2) : (-9223372036854775808 ≤ (voR (Sy.rows l)).2.1 ∧ (voR (Sy.rows l)).2.1 ≤ 9223372036854775807) ∧ -9223372036854775808 ≤ (voR (Sy.rows l)).2.2 ∧ (voR (Sy.rows l)).2.2 ≤ 9223372036854775807 := by
  rcases voE_spec (Sy.rows l) with ⟨_, hp, hN, h16, hv⟩ | h' | h'
  · rw [hv]
    obtain ⟨⟨i, i1, i2, i3, i4⟩, _, _⟩ := vo_spec hp (Nat.le_refl _) hN
    have hlo : -9223372036854775808 ≤ Go.RowKit.intOf ((Sy.rows l).getD (i * 2) Go.undef) ∧ Go.RowKit.intOf ((Sy.rows l).getD (i * 2) Go.undef) ≤ 9223372036854775807 := okR_at hr (by omega) (typ_row ht i1).1
    rw [i3] at hlo
    refine ⟨hlo, ?_⟩
    rw [i4, i3]
    exact arH_in hlo fun j hj => okR_at hr (by omega) (typ_row ht hj).2
  · omega
  · omega
noncomputable def wfI : Nat → List Value → Int
  | i, l => weI i l
noncomputable def wfB : Nat → List Value → Bool
  | 4, [l] => okR (rows l)
  | i, l => weB i l
noncomputable def wfV : Nat → List Value → Value
  | i, l => weV i l
noncomputable abbrev wfE (iv : List Int) (bv : List Bool) (vv : List Value) (sv : List ByteArray) : Env := { iv := iv, bv := bv, vv := vv, sv := sv, fi := wfI, fb := wfB, fv := wfV, et := 141 }
theorem wfup : Agree 14 4 0 (weE [] [] [] []) (wfE [] [] [] []) := ⟨rfl, (by
    intro f hf
    funext l
    show wfI f l = weI f l
    unfold wfI
    split <;> first | rfl | omega), (by
    intro f hf
    funext l
    show wfB f l = weB f l
    unfold wfB
    split <;> first | rfl | omega), (by
    intro f hf
    funext l
    show wfV f l = weV f l
    unfold wfV
    split <;> first | rfl | omega)⟩
theorem wfi_of (l : Value) (k1 : IntKind) (n : Int) (k2 : IntKind) (k : Int) : wfI 0 [l, .int k1 n, .int k2 k] = ((ofN (rows l) n k.toNat : Nat) : Int) := rfl
theorem wfi_arh (l : Value) (k1 : IntKind) (n : Int) (k2 : IntKind) (k : Int) : wfI 1 [l, .int k1 n, .int k2 k] = arH (rows l) n k.toNat := rfl
theorem wfi_fb (l : Value) (k1 : IntKind) (k : Int) : wfI 2 [l, .int k1 k] = fbW (rows l) k.toNat := rfl
theorem wfi_se (k1 : IntKind) (a : Int) (k2 : IntKind) (b : Int) : wfI 3 [.int k1 a, .int k2 b] = spE a b := rfl
theorem wfi_vm (l : Value) (k1 : IntKind) (k : Int) : wfI 4 [l, .int k1 k] = (((vo (rows l) ((rows l).length / 2) k.toNat).1 : Nat) : Int) := rfl
theorem wfi_vl (l : Value) (k1 : IntKind) (k : Int) : wfI 5 [l, .int k1 k] = (vo (rows l) ((rows l).length / 2) k.toNat).2.1 := rfl
theorem wfi_vh (l : Value) (k1 : IntKind) (k : Int) : wfI 6 [l, .int k1 k] = (vo (rows l) ((rows l).length / 2) k.toNat).2.2 := rfl
theorem wfi_vE (l : Value) : wfI 7 [l] = voE (rows l) := rfl
theorem wfi_vM (l : Value) : wfI 8 [l] = (((voR (rows l)).1 : Nat) : Int) := rfl
theorem wfi_vL (l : Value) : wfI 9 [l] = (voR (rows l)).2.1 := rfl
theorem wfi_vH (l : Value) : wfI 10 [l] = (voR (rows l)).2.2 := rfl
theorem wfi_aa (l : Value) (k1 : IntKind) (k : Int) : wfI 11 [l, .int k1 k] = (atS (rows l) ((rows l).length / 2) k.toNat).2 := rfl
theorem wfi_mi (k1 : IntKind) (a : Int) (k2 : IntKind) (b : Int) : wfI 12 [.int k1 a, .int k2 b] = midM a b := rfl
theorem wfi_sa (k1 : IntKind) (a : Int) : wfI 13 [.int k1 a] = satE a := rfl
theorem wfb_pre (l : Value) (k1 : IntKind) (k : Int) : wfB 0 [l, .int k1 k] = preW (rows l) k.toNat := rfl
theorem wfb_sm (l : Value) (k1 : IntKind) (a : Int) (k2 : IntKind) (b : Int) (k3 : IntKind) (k : Int) : wfB 1 [l, .int k1 a, .int k2 b, .int k3 k] = smB (rows l) a b k.toNat := rfl
theorem wfb_ai (l : Value) (k1 : IntKind) (k : Int) : wfB 2 [l, .int k1 k] = (atS (rows l) ((rows l).length / 2) k.toNat).1 := rfl
theorem wfb_tk (x : Value) (y : Value) (k1 : IntKind) (n : Int) : wfB 3 [x, y, .int k1 n] = eqV x (tkV y n.toNat) := rfl
theorem wfb_okr (l : Value) : wfB 4 [l] = okR (rows l) := rfl
def wMost_tree : Tree :=
 (.need (.b2 .le (.ofI (.vop (.len 2) (.cons (.opq 0) .nil))) (.lit (8796093022208)))
 (.br (.b2 .lt (.lit (16)) (.ofI (.vop (.len 2) (.cons (.opq 0) .nil))))
 (.ret (.bool (.tt true)))
 (.br (.not (.b2 .eq (.iapp 7 (.cons (.opq 0) .nil)) (.lit (0))))
 (.br (.b2 .eq (.iapp 7 (.cons (.opq 0) .nil)) (.lit (1)))
 (.ret (.bool (.tt true)))
 (.br (.b2 .eq (.iapp 7 (.cons (.opq 0) .nil)) (.lit (6)))
 (.ret (.bool (.tt true)))
 (.ret (.bool (.tt false)))))
 (.br (.b2 .le (.wrap .i64 (.var 1)) (.wrap .i64 (.i2 .sub (.iapp 10 (.cons (.opq 0) .nil)) (.iapp 9 (.cons (.opq 0) .nil)))))
 (.br (.b2 .lt (.lit (0)) (.wrap .i64 (.i2 .sub (.iapp 10 (.cons (.opq 0) .nil)) (.iapp 9 (.cons (.opq 0) .nil)))))
 (.loop ⟨4, 0, 0, 0⟩ (.b2 .and (.b2 .le (.lit (0)) (.lit (0))) (.b2 .and (.b2 .le (.lit (0)) (.ofI (.vop (.len 2) (.cons (.opq 0) .nil)))) (.b2 .and (.b2 .eq (.lit (0)) (.iapp 0 (.cons (.opq 0) (.cons (.int .i64 (.wrap .i64 (.i2 .add (.iapp 9 (.cons (.opq 0) .nil)) (.wrap .i64 (.var 1))))) (.cons (.int .i64 (.lit (0))) .nil))))) (.b2 .and (.b2 .eq (.lit (0)) (.iapp 0 (.cons (.opq 0) (.cons (.int .i64 (.var 0)) (.cons (.int .i64 (.lit (0))) .nil))))) (.b2 .and (.b2 .le (.iapp 9 (.cons (.opq 0) .nil)) (.wrap .i64 (.i2 .add (.iapp 9 (.cons (.opq 0) .nil)) (.wrap .i64 (.var 1))))) (.b2 .le (.wrap .i64 (.i2 .add (.iapp 9 (.cons (.opq 0) .nil)) (.wrap .i64 (.var 1)))) (.iapp 10 (.cons (.opq 0) .nil)))))))) (.b2 .and (.b2 .le (.lit (0)) (.var 4)) (.b2 .and (.b2 .le (.var 4) (.ofI (.vop (.len 2) (.cons (.opq 0) .nil)))) (.b2 .and (.b2 .eq (.var 2) (.iapp 0 (.cons (.opq 0) (.cons (.int .i64 (.var 5)) (.cons (.int .i64 (.var 4)) .nil))))) (.b2 .and (.b2 .eq (.var 3) (.iapp 0 (.cons (.opq 0) (.cons (.int .i64 (.var 0)) (.cons (.int .i64 (.var 4)) .nil))))) (.b2 .and (.b2 .le (.iapp 9 (.cons (.opq 0) .nil)) (.var 5)) (.b2 .le (.var 5) (.iapp 10 (.cons (.opq 0) .nil))))))))
 (.br (.b2 .lt (.var 4) (.ofI (.vop (.len 2) (.cons (.opq 0) .nil))))
 (.need (.b2 .and (.b2 .le (.lit (0)) (.var 4)) (.b2 .lt (.var 4) (.ofI (.vop (.len 2) (.cons (.opq 0) .nil)))))
 (.need (.b2 .and (.b2 .le (.lit (0)) (.var 4)) (.b2 .lt (.var 4) (.ofI (.vop (.len 2) (.cons (.opq 0) .nil)))))
 (.br (.not (.b2 .beq (.b2 .and (.b2 .le (.ofI (.vop (.sel 2 0) (.cons (.opq 0) (.cons (.int .i64 (.var 4)) .nil)))) (.iapp 9 (.cons (.opq 0) .nil))) (.b2 .le (.iapp 9 (.cons (.opq 0) .nil)) (.ofI (.vop (.sel 2 1) (.cons (.opq 0) (.cons (.int .i64 (.var 4)) .nil)))))) (.b2 .and (.b2 .le (.ofI (.vop (.sel 2 0) (.cons (.opq 0) (.cons (.int .i64 (.var 4)) .nil)))) (.var 5)) (.b2 .le (.var 5) (.ofI (.vop (.sel 2 1) (.cons (.opq 0) (.cons (.int .i64 (.var 4)) .nil))))))))
 (.ret (.bool (.tt false)))
 (.need (.b2 .and (.b2 .le (.lit (0)) (.var 4)) (.b2 .lt (.var 4) (.ofI (.vop (.len 2) (.cons (.opq 0) .nil)))))
 (.need (.b2 .and (.b2 .le (.lit (0)) (.var 4)) (.b2 .lt (.var 4) (.ofI (.vop (.len 2) (.cons (.opq 0) .nil)))))
 (.br (.not (.b2 .beq (.b2 .and (.b2 .le (.ofI (.vop (.sel 2 0) (.cons (.opq 0) (.cons (.int .i64 (.var 4)) .nil)))) (.iapp 9 (.cons (.opq 0) .nil))) (.b2 .le (.iapp 9 (.cons (.opq 0) .nil)) (.ofI (.vop (.sel 2 1) (.cons (.opq 0) (.cons (.int .i64 (.var 4)) .nil)))))) (.b2 .and (.b2 .le (.ofI (.vop (.sel 2 0) (.cons (.opq 0) (.cons (.int .i64 (.var 4)) .nil)))) (.iapp 10 (.cons (.opq 0) .nil))) (.b2 .le (.iapp 10 (.cons (.opq 0) .nil)) (.ofI (.vop (.sel 2 1) (.cons (.opq 0) (.cons (.int .i64 (.var 4)) .nil))))))))
 (.ret (.bool (.tt false)))
 (.need (.b2 .and (.b2 .le (.lit (0)) (.var 4)) (.b2 .lt (.var 4) (.ofI (.vop (.len 2) (.cons (.opq 0) .nil)))))
 (.br (.b2 .and (.b2 .le (.ofI (.vop (.sel 2 0) (.cons (.opq 0) (.cons (.int .i64 (.var 4)) .nil)))) (.var 5)) (.b2 .le (.var 5) (.ofI (.vop (.sel 2 1) (.cons (.opq 0) (.cons (.int .i64 (.var 4)) .nil))))))
 (.need (.b2 .and (.b2 .le (.lit (0)) (.var 4)) (.b2 .lt (.var 4) (.ofI (.vop (.len 2) (.cons (.opq 0) .nil)))))
 (.br (.b2 .and (.b2 .le (.ofI (.vop (.sel 2 0) (.cons (.opq 0) (.cons (.int .i64 (.var 4)) .nil)))) (.var 0)) (.b2 .le (.var 0) (.ofI (.vop (.sel 2 1) (.cons (.opq 0) (.cons (.int .i64 (.var 4)) .nil))))))
 (.back (.b2 .and (.b2 .le (.lit (0)) (.wrap .i64 (.i2 .add (.var 4) (.lit (1))))) (.b2 .and (.b2 .le (.wrap .i64 (.i2 .add (.var 4) (.lit (1)))) (.ofI (.vop (.len 2) (.cons (.opq 0) .nil)))) (.b2 .and (.b2 .eq (.wrap .i64 (.i2 .add (.var 2) (.lit (1)))) (.iapp 0 (.cons (.opq 0) (.cons (.int .i64 (.var 5)) (.cons (.int .i64 (.wrap .i64 (.i2 .add (.var 4) (.lit (1))))) .nil))))) (.b2 .and (.b2 .eq (.wrap .i64 (.i2 .add (.var 3) (.lit (1)))) (.iapp 0 (.cons (.opq 0) (.cons (.int .i64 (.var 0)) (.cons (.int .i64 (.wrap .i64 (.i2 .add (.var 4) (.lit (1))))) .nil))))) (.b2 .and (.b2 .le (.iapp 9 (.cons (.opq 0) .nil)) (.var 5)) (.b2 .le (.var 5) (.iapp 10 (.cons (.opq 0) .nil)))))))) (.i2 .sub (.ofI (.vop (.len 2) (.cons (.opq 0) .nil))) (.wrap .i64 (.i2 .add (.var 4) (.lit (1))))) (.i2 .sub (.ofI (.vop (.len 2) (.cons (.opq 0) .nil))) (.var 4)))
 (.back (.b2 .and (.b2 .le (.lit (0)) (.wrap .i64 (.i2 .add (.var 4) (.lit (1))))) (.b2 .and (.b2 .le (.wrap .i64 (.i2 .add (.var 4) (.lit (1)))) (.ofI (.vop (.len 2) (.cons (.opq 0) .nil)))) (.b2 .and (.b2 .eq (.wrap .i64 (.i2 .add (.var 2) (.lit (1)))) (.iapp 0 (.cons (.opq 0) (.cons (.int .i64 (.var 5)) (.cons (.int .i64 (.wrap .i64 (.i2 .add (.var 4) (.lit (1))))) .nil))))) (.b2 .and (.b2 .eq (.var 3) (.iapp 0 (.cons (.opq 0) (.cons (.int .i64 (.var 0)) (.cons (.int .i64 (.wrap .i64 (.i2 .add (.var 4) (.lit (1))))) .nil))))) (.b2 .and (.b2 .le (.iapp 9 (.cons (.opq 0) .nil)) (.var 5)) (.b2 .le (.var 5) (.iapp 10 (.cons (.opq 0) .nil)))))))) (.i2 .sub (.ofI (.vop (.len 2) (.cons (.opq 0) .nil))) (.wrap .i64 (.i2 .add (.var 4) (.lit (1))))) (.i2 .sub (.ofI (.vop (.len 2) (.cons (.opq 0) .nil))) (.var 4)))))
 (.need (.b2 .and (.b2 .le (.lit (0)) (.var 4)) (.b2 .lt (.var 4) (.ofI (.vop (.len 2) (.cons (.opq 0) .nil)))))
 (.br (.b2 .and (.b2 .le (.ofI (.vop (.sel 2 0) (.cons (.opq 0) (.cons (.int .i64 (.var 4)) .nil)))) (.var 0)) (.b2 .le (.var 0) (.ofI (.vop (.sel 2 1) (.cons (.opq 0) (.cons (.int .i64 (.var 4)) .nil))))))
 (.back (.b2 .and (.b2 .le (.lit (0)) (.wrap .i64 (.i2 .add (.var 4) (.lit (1))))) (.b2 .and (.b2 .le (.wrap .i64 (.i2 .add (.var 4) (.lit (1)))) (.ofI (.vop (.len 2) (.cons (.opq 0) .nil)))) (.b2 .and (.b2 .eq (.var 2) (.iapp 0 (.cons (.opq 0) (.cons (.int .i64 (.var 5)) (.cons (.int .i64 (.wrap .i64 (.i2 .add (.var 4) (.lit (1))))) .nil))))) (.b2 .and (.b2 .eq (.wrap .i64 (.i2 .add (.var 3) (.lit (1)))) (.iapp 0 (.cons (.opq 0) (.cons (.int .i64 (.var 0)) (.cons (.int .i64 (.wrap .i64 (.i2 .add (.var 4) (.lit (1))))) .nil))))) (.b2 .and (.b2 .le (.iapp 9 (.cons (.opq 0) .nil)) (.var 5)) (.b2 .le (.var 5) (.iapp 10 (.cons (.opq 0) .nil)))))))) (.i2 .sub (.ofI (.vop (.len 2) (.cons (.opq 0) .nil))) (.wrap .i64 (.i2 .add (.var 4) (.lit (1))))) (.i2 .sub (.ofI (.vop (.len 2) (.cons (.opq 0) .nil))) (.var 4)))
 (.back (.b2 .and (.b2 .le (.lit (0)) (.wrap .i64 (.i2 .add (.var 4) (.lit (1))))) (.b2 .and (.b2 .le (.wrap .i64 (.i2 .add (.var 4) (.lit (1)))) (.ofI (.vop (.len 2) (.cons (.opq 0) .nil)))) (.b2 .and (.b2 .eq (.var 2) (.iapp 0 (.cons (.opq 0) (.cons (.int .i64 (.var 5)) (.cons (.int .i64 (.wrap .i64 (.i2 .add (.var 4) (.lit (1))))) .nil))))) (.b2 .and (.b2 .eq (.var 3) (.iapp 0 (.cons (.opq 0) (.cons (.int .i64 (.var 0)) (.cons (.int .i64 (.wrap .i64 (.i2 .add (.var 4) (.lit (1))))) .nil))))) (.b2 .and (.b2 .le (.iapp 9 (.cons (.opq 0) .nil)) (.var 5)) (.b2 .le (.var 5) (.iapp 10 (.cons (.opq 0) .nil)))))))) (.i2 .sub (.ofI (.vop (.len 2) (.cons (.opq 0) .nil))) (.wrap .i64 (.i2 .add (.var 4) (.lit (1))))) (.i2 .sub (.ofI (.vop (.len 2) (.cons (.opq 0) .nil))) (.var 4)))))))))))))
 (.br (.b2 .le (.iapp 9 (.cons (.opq 0) .nil)) (.iapp 10 (.cons (.opq 0) .nil)))
 (.br (.b2 .eq (.var 2) (.iapp 8 (.cons (.opq 0) .nil)))
 (.br (.b2 .le (.var 3) (.iapp 8 (.cons (.opq 0) .nil)))
 (.br (.not (.b2 .eq (.var 3) (.iapp 8 (.cons (.opq 0) .nil))))
 (.ret (.bool (.tt true)))
 (.br (.b2 .le (.iapp 9 (.cons (.opq 0) .nil)) (.var 0))
 (.ret (.bool (.tt true)))
 (.ret (.bool (.tt false)))))
 (.ret (.bool (.tt false))))
 (.ret (.bool (.tt false))))
 (.ret (.bool (.tt false))))))
 (.loop ⟨4, 0, 0, 0⟩ (.b2 .and (.b2 .le (.lit (0)) (.lit (0))) (.b2 .and (.b2 .le (.lit (0)) (.ofI (.vop (.len 2) (.cons (.opq 0) .nil)))) (.b2 .and (.b2 .eq (.lit (0)) (.iapp 0 (.cons (.opq 0) (.cons (.int .i64 (.iapp 9 (.cons (.opq 0) .nil))) (.cons (.int .i64 (.lit (0))) .nil))))) (.b2 .and (.b2 .eq (.lit (0)) (.iapp 0 (.cons (.opq 0) (.cons (.int .i64 (.var 0)) (.cons (.int .i64 (.lit (0))) .nil))))) (.b2 .and (.b2 .le (.iapp 9 (.cons (.opq 0) .nil)) (.iapp 9 (.cons (.opq 0) .nil))) (.b2 .le (.iapp 9 (.cons (.opq 0) .nil)) (.iapp 10 (.cons (.opq 0) .nil)))))))) (.b2 .and (.b2 .le (.lit (0)) (.var 4)) (.b2 .and (.b2 .le (.var 4) (.ofI (.vop (.len 2) (.cons (.opq 0) .nil)))) (.b2 .and (.b2 .eq (.var 2) (.iapp 0 (.cons (.opq 0) (.cons (.int .i64 (.var 5)) (.cons (.int .i64 (.var 4)) .nil))))) (.b2 .and (.b2 .eq (.var 3) (.iapp 0 (.cons (.opq 0) (.cons (.int .i64 (.var 0)) (.cons (.int .i64 (.var 4)) .nil))))) (.b2 .and (.b2 .le (.iapp 9 (.cons (.opq 0) .nil)) (.var 5)) (.b2 .le (.var 5) (.iapp 10 (.cons (.opq 0) .nil))))))))
 (.br (.b2 .lt (.var 4) (.ofI (.vop (.len 2) (.cons (.opq 0) .nil))))
 (.need (.b2 .and (.b2 .le (.lit (0)) (.var 4)) (.b2 .lt (.var 4) (.ofI (.vop (.len 2) (.cons (.opq 0) .nil)))))
 (.need (.b2 .and (.b2 .le (.lit (0)) (.var 4)) (.b2 .lt (.var 4) (.ofI (.vop (.len 2) (.cons (.opq 0) .nil)))))
 (.br (.not (.b2 .beq (.b2 .and (.b2 .le (.ofI (.vop (.sel 2 0) (.cons (.opq 0) (.cons (.int .i64 (.var 4)) .nil)))) (.iapp 9 (.cons (.opq 0) .nil))) (.b2 .le (.iapp 9 (.cons (.opq 0) .nil)) (.ofI (.vop (.sel 2 1) (.cons (.opq 0) (.cons (.int .i64 (.var 4)) .nil)))))) (.b2 .and (.b2 .le (.ofI (.vop (.sel 2 0) (.cons (.opq 0) (.cons (.int .i64 (.var 4)) .nil)))) (.var 5)) (.b2 .le (.var 5) (.ofI (.vop (.sel 2 1) (.cons (.opq 0) (.cons (.int .i64 (.var 4)) .nil))))))))
 (.ret (.bool (.tt false)))
 (.need (.b2 .and (.b2 .le (.lit (0)) (.var 4)) (.b2 .lt (.var 4) (.ofI (.vop (.len 2) (.cons (.opq 0) .nil)))))
 (.need (.b2 .and (.b2 .le (.lit (0)) (.var 4)) (.b2 .lt (.var 4) (.ofI (.vop (.len 2) (.cons (.opq 0) .nil)))))
 (.br (.not (.b2 .beq (.b2 .and (.b2 .le (.ofI (.vop (.sel 2 0) (.cons (.opq 0) (.cons (.int .i64 (.var 4)) .nil)))) (.iapp 9 (.cons (.opq 0) .nil))) (.b2 .le (.iapp 9 (.cons (.opq 0) .nil)) (.ofI (.vop (.sel 2 1) (.cons (.opq 0) (.cons (.int .i64 (.var 4)) .nil)))))) (.b2 .and (.b2 .le (.ofI (.vop (.sel 2 0) (.cons (.opq 0) (.cons (.int .i64 (.var 4)) .nil)))) (.iapp 10 (.cons (.opq 0) .nil))) (.b2 .le (.iapp 10 (.cons (.opq 0) .nil)) (.ofI (.vop (.sel 2 1) (.cons (.opq 0) (.cons (.int .i64 (.var 4)) .nil))))))))
 (.ret (.bool (.tt false)))
 (.need (.b2 .and (.b2 .le (.lit (0)) (.var 4)) (.b2 .lt (.var 4) (.ofI (.vop (.len 2) (.cons (.opq 0) .nil)))))
 (.br (.b2 .and (.b2 .le (.ofI (.vop (.sel 2 0) (.cons (.opq 0) (.cons (.int .i64 (.var 4)) .nil)))) (.var 5)) (.b2 .le (.var 5) (.ofI (.vop (.sel 2 1) (.cons (.opq 0) (.cons (.int .i64 (.var 4)) .nil))))))
 (.need (.b2 .and (.b2 .le (.lit (0)) (.var 4)) (.b2 .lt (.var 4) (.ofI (.vop (.len 2) (.cons (.opq 0) .nil)))))
 (.br (.b2 .and (.b2 .le (.ofI (.vop (.sel 2 0) (.cons (.opq 0) (.cons (.int .i64 (.var 4)) .nil)))) (.var 0)) (.b2 .le (.var 0) (.ofI (.vop (.sel 2 1) (.cons (.opq 0) (.cons (.int .i64 (.var 4)) .nil))))))
 (.back (.b2 .and (.b2 .le (.lit (0)) (.wrap .i64 (.i2 .add (.var 4) (.lit (1))))) (.b2 .and (.b2 .le (.wrap .i64 (.i2 .add (.var 4) (.lit (1)))) (.ofI (.vop (.len 2) (.cons (.opq 0) .nil)))) (.b2 .and (.b2 .eq (.wrap .i64 (.i2 .add (.var 2) (.lit (1)))) (.iapp 0 (.cons (.opq 0) (.cons (.int .i64 (.var 5)) (.cons (.int .i64 (.wrap .i64 (.i2 .add (.var 4) (.lit (1))))) .nil))))) (.b2 .and (.b2 .eq (.wrap .i64 (.i2 .add (.var 3) (.lit (1)))) (.iapp 0 (.cons (.opq 0) (.cons (.int .i64 (.var 0)) (.cons (.int .i64 (.wrap .i64 (.i2 .add (.var 4) (.lit (1))))) .nil))))) (.b2 .and (.b2 .le (.iapp 9 (.cons (.opq 0) .nil)) (.var 5)) (.b2 .le (.var 5) (.iapp 10 (.cons (.opq 0) .nil)))))))) (.i2 .sub (.ofI (.vop (.len 2) (.cons (.opq 0) .nil))) (.wrap .i64 (.i2 .add (.var 4) (.lit (1))))) (.i2 .sub (.ofI (.vop (.len 2) (.cons (.opq 0) .nil))) (.var 4)))
 (.back (.b2 .and (.b2 .le (.lit (0)) (.wrap .i64 (.i2 .add (.var 4) (.lit (1))))) (.b2 .and (.b2 .le (.wrap .i64 (.i2 .add (.var 4) (.lit (1)))) (.ofI (.vop (.len 2) (.cons (.opq 0) .nil)))) (.b2 .and (.b2 .eq (.wrap .i64 (.i2 .add (.var 2) (.lit (1)))) (.iapp 0 (.cons (.opq 0) (.cons (.int .i64 (.var 5)) (.cons (.int .i64 (.wrap .i64 (.i2 .add (.var 4) (.lit (1))))) .nil))))) (.b2 .and (.b2 .eq (.var 3) (.iapp 0 (.cons (.opq 0) (.cons (.int .i64 (.var 0)) (.cons (.int .i64 (.wrap .i64 (.i2 .add (.var 4) (.lit (1))))) .nil))))) (.b2 .and (.b2 .le (.iapp 9 (.cons (.opq 0) .nil)) (.var 5)) (.b2 .le (.var 5) (.iapp 10 (.cons (.opq 0) .nil)))))))) (.i2 .sub (.ofI (.vop (.len 2) (.cons (.opq 0) .nil))) (.wrap .i64 (.i2 .add (.var 4) (.lit (1))))) (.i2 .sub (.ofI (.vop (.len 2) (.cons (.opq 0) .nil))) (.var 4)))))
 (.need (.b2 .and (.b2 .le (.lit (0)) (.var 4)) (.b2 .lt (.var 4) (.ofI (.vop (.len 2) (.cons (.opq 0) .nil)))))
 (.br (.b2 .and (.b2 .le (.ofI (.vop (.sel 2 0) (.cons (.opq 0) (.cons (.int .i64 (.var 4)) .nil)))) (.var 0)) (.b2 .le (.var 0) (.ofI (.vop (.sel 2 1) (.cons (.opq 0) (.cons (.int .i64 (.var 4)) .nil))))))
 (.back (.b2 .and (.b2 .le (.lit (0)) (.wrap .i64 (.i2 .add (.var 4) (.lit (1))))) (.b2 .and (.b2 .le (.wrap .i64 (.i2 .add (.var 4) (.lit (1)))) (.ofI (.vop (.len 2) (.cons (.opq 0) .nil)))) (.b2 .and (.b2 .eq (.var 2) (.iapp 0 (.cons (.opq 0) (.cons (.int .i64 (.var 5)) (.cons (.int .i64 (.wrap .i64 (.i2 .add (.var 4) (.lit (1))))) .nil))))) (.b2 .and (.b2 .eq (.wrap .i64 (.i2 .add (.var 3) (.lit (1)))) (.iapp 0 (.cons (.opq 0) (.cons (.int .i64 (.var 0)) (.cons (.int .i64 (.wrap .i64 (.i2 .add (.var 4) (.lit (1))))) .nil))))) (.b2 .and (.b2 .le (.iapp 9 (.cons (.opq 0) .nil)) (.var 5)) (.b2 .le (.var 5) (.iapp 10 (.cons (.opq 0) .nil)))))))) (.i2 .sub (.ofI (.vop (.len 2) (.cons (.opq 0) .nil))) (.wrap .i64 (.i2 .add (.var 4) (.lit (1))))) (.i2 .sub (.ofI (.vop (.len 2) (.cons (.opq 0) .nil))) (.var 4)))
 (.back (.b2 .and (.b2 .le (.lit (0)) (.wrap .i64 (.i2 .add (.var 4) (.lit (1))))) (.b2 .and (.b2 .le (.wrap .i64 (.i2 .add (.var 4) (.lit (1)))) (.ofI (.vop (.len 2) (.cons (.opq 0) .nil)))) (.b2 .and (.b2 .eq (.var 2) (.iapp 0 (.cons (.opq 0) (.cons (.int .i64 (.var 5)) (.cons (.int .i64 (.wrap .i64 (.i2 .add (.var 4) (.lit (1))))) .nil))))) (.b2 .and (.b2 .eq (.var 3) (.iapp 0 (.cons (.opq 0) (.cons (.int .i64 (.var 0)) (.cons (.int .i64 (.wrap .i64 (.i2 .add (.var 4) (.lit (1))))) .nil))))) (.b2 .and (.b2 .le (.iapp 9 (.cons (.opq 0) .nil)) (.var 5)) (.b2 .le (.var 5) (.iapp 10 (.cons (.opq 0) .nil)))))))) (.i2 .sub (.ofI (.vop (.len 2) (.cons (.opq 0) .nil))) (.wrap .i64 (.i2 .add (.var 4) (.lit (1))))) (.i2 .sub (.ofI (.vop (.len 2) (.cons (.opq 0) .nil))) (.var 4)))))))))))))
 (.br (.b2 .le (.iapp 9 (.cons (.opq 0) .nil)) (.iapp 10 (.cons (.opq 0) .nil)))
 (.br (.b2 .eq (.var 2) (.iapp 8 (.cons (.opq 0) .nil)))
 (.br (.b2 .le (.var 3) (.iapp 8 (.cons (.opq 0) .nil)))
 (.br (.not (.b2 .eq (.var 3) (.iapp 8 (.cons (.opq 0) .nil))))
 (.ret (.bool (.tt true)))
 (.br (.b2 .le (.iapp 9 (.cons (.opq 0) .nil)) (.var 0))
 (.ret (.bool (.tt true)))
 (.ret (.bool (.tt false)))))
 (.ret (.bool (.tt false))))
 (.ret (.bool (.tt false))))
 (.ret (.bool (.tt false)))))))
 (.loop ⟨4, 0, 0, 0⟩ (.b2 .and (.b2 .le (.lit (0)) (.lit (0))) (.b2 .and (.b2 .le (.lit (0)) (.ofI (.vop (.len 2) (.cons (.opq 0) .nil)))) (.b2 .and (.b2 .eq (.lit (0)) (.iapp 0 (.cons (.opq 0) (.cons (.int .i64 (.iapp 9 (.cons (.opq 0) .nil))) (.cons (.int .i64 (.lit (0))) .nil))))) (.b2 .and (.b2 .eq (.lit (0)) (.iapp 0 (.cons (.opq 0) (.cons (.int .i64 (.var 0)) (.cons (.int .i64 (.lit (0))) .nil))))) (.b2 .and (.b2 .le (.iapp 9 (.cons (.opq 0) .nil)) (.iapp 9 (.cons (.opq 0) .nil))) (.b2 .le (.iapp 9 (.cons (.opq 0) .nil)) (.iapp 10 (.cons (.opq 0) .nil)))))))) (.b2 .and (.b2 .le (.lit (0)) (.var 4)) (.b2 .and (.b2 .le (.var 4) (.ofI (.vop (.len 2) (.cons (.opq 0) .nil)))) (.b2 .and (.b2 .eq (.var 2) (.iapp 0 (.cons (.opq 0) (.cons (.int .i64 (.var 5)) (.cons (.int .i64 (.var 4)) .nil))))) (.b2 .and (.b2 .eq (.var 3) (.iapp 0 (.cons (.opq 0) (.cons (.int .i64 (.var 0)) (.cons (.int .i64 (.var 4)) .nil))))) (.b2 .and (.b2 .le (.iapp 9 (.cons (.opq 0) .nil)) (.var 5)) (.b2 .le (.var 5) (.iapp 10 (.cons (.opq 0) .nil))))))))
 (.br (.b2 .lt (.var 4) (.ofI (.vop (.len 2) (.cons (.opq 0) .nil))))
 (.need (.b2 .and (.b2 .le (.lit (0)) (.var 4)) (.b2 .lt (.var 4) (.ofI (.vop (.len 2) (.cons (.opq 0) .nil)))))
 (.need (.b2 .and (.b2 .le (.lit (0)) (.var 4)) (.b2 .lt (.var 4) (.ofI (.vop (.len 2) (.cons (.opq 0) .nil)))))
 (.br (.not (.b2 .beq (.b2 .and (.b2 .le (.ofI (.vop (.sel 2 0) (.cons (.opq 0) (.cons (.int .i64 (.var 4)) .nil)))) (.iapp 9 (.cons (.opq 0) .nil))) (.b2 .le (.iapp 9 (.cons (.opq 0) .nil)) (.ofI (.vop (.sel 2 1) (.cons (.opq 0) (.cons (.int .i64 (.var 4)) .nil)))))) (.b2 .and (.b2 .le (.ofI (.vop (.sel 2 0) (.cons (.opq 0) (.cons (.int .i64 (.var 4)) .nil)))) (.var 5)) (.b2 .le (.var 5) (.ofI (.vop (.sel 2 1) (.cons (.opq 0) (.cons (.int .i64 (.var 4)) .nil))))))))
 (.ret (.bool (.tt false)))
 (.need (.b2 .and (.b2 .le (.lit (0)) (.var 4)) (.b2 .lt (.var 4) (.ofI (.vop (.len 2) (.cons (.opq 0) .nil)))))
 (.need (.b2 .and (.b2 .le (.lit (0)) (.var 4)) (.b2 .lt (.var 4) (.ofI (.vop (.len 2) (.cons (.opq 0) .nil)))))
 (.br (.not (.b2 .beq (.b2 .and (.b2 .le (.ofI (.vop (.sel 2 0) (.cons (.opq 0) (.cons (.int .i64 (.var 4)) .nil)))) (.iapp 9 (.cons (.opq 0) .nil))) (.b2 .le (.iapp 9 (.cons (.opq 0) .nil)) (.ofI (.vop (.sel 2 1) (.cons (.opq 0) (.cons (.int .i64 (.var 4)) .nil)))))) (.b2 .and (.b2 .le (.ofI (.vop (.sel 2 0) (.cons (.opq 0) (.cons (.int .i64 (.var 4)) .nil)))) (.iapp 10 (.cons (.opq 0) .nil))) (.b2 .le (.iapp 10 (.cons (.opq 0) .nil)) (.ofI (.vop (.sel 2 1) (.cons (.opq 0) (.cons (.int .i64 (.var 4)) .nil))))))))
 (.ret (.bool (.tt false)))
 (.need (.b2 .and (.b2 .le (.lit (0)) (.var 4)) (.b2 .lt (.var 4) (.ofI (.vop (.len 2) (.cons (.opq 0) .nil)))))
 (.br (.b2 .and (.b2 .le (.ofI (.vop (.sel 2 0) (.cons (.opq 0) (.cons (.int .i64 (.var 4)) .nil)))) (.var 5)) (.b2 .le (.var 5) (.ofI (.vop (.sel 2 1) (.cons (.opq 0) (.cons (.int .i64 (.var 4)) .nil))))))
 (.need (.b2 .and (.b2 .le (.lit (0)) (.var 4)) (.b2 .lt (.var 4) (.ofI (.vop (.len 2) (.cons (.opq 0) .nil)))))
 (.br (.b2 .and (.b2 .le (.ofI (.vop (.sel 2 0) (.cons (.opq 0) (.cons (.int .i64 (.var 4)) .nil)))) (.var 0)) (.b2 .le (.var 0) (.ofI (.vop (.sel 2 1) (.cons (.opq 0) (.cons (.int .i64 (.var 4)) .nil))))))
 (.back (.b2 .and (.b2 .le (.lit (0)) (.wrap .i64 (.i2 .add (.var 4) (.lit (1))))) (.b2 .and (.b2 .le (.wrap .i64 (.i2 .add (.var 4) (.lit (1)))) (.ofI (.vop (.len 2) (.cons (.opq 0) .nil)))) (.b2 .and (.b2 .eq (.wrap .i64 (.i2 .add (.var 2) (.lit (1)))) (.iapp 0 (.cons (.opq 0) (.cons (.int .i64 (.var 5)) (.cons (.int .i64 (.wrap .i64 (.i2 .add (.var 4) (.lit (1))))) .nil))))) (.b2 .and (.b2 .eq (.wrap .i64 (.i2 .add (.var 3) (.lit (1)))) (.iapp 0 (.cons (.opq 0) (.cons (.int .i64 (.var 0)) (.cons (.int .i64 (.wrap .i64 (.i2 .add (.var 4) (.lit (1))))) .nil))))) (.b2 .and (.b2 .le (.iapp 9 (.cons (.opq 0) .nil)) (.var 5)) (.b2 .le (.var 5) (.iapp 10 (.cons (.opq 0) .nil)))))))) (.i2 .sub (.ofI (.vop (.len 2) (.cons (.opq 0) .nil))) (.wrap .i64 (.i2 .add (.var 4) (.lit (1))))) (.i2 .sub (.ofI (.vop (.len 2) (.cons (.opq 0) .nil))) (.var 4)))
 (.back (.b2 .and (.b2 .le (.lit (0)) (.wrap .i64 (.i2 .add (.var 4) (.lit (1))))) (.b2 .and (.b2 .le (.wrap .i64 (.i2 .add (.var 4) (.lit (1)))) (.ofI (.vop (.len 2) (.cons (.opq 0) .nil)))) (.b2 .and (.b2 .eq (.wrap .i64 (.i2 .add (.var 2) (.lit (1)))) (.iapp 0 (.cons (.opq 0) (.cons (.int .i64 (.var 5)) (.cons (.int .i64 (.wrap .i64 (.i2 .add (.var 4) (.lit (1))))) .nil))))) (.b2 .and (.b2 .eq (.var 3) (.iapp 0 (.cons (.opq 0) (.cons (.int .i64 (.var 0)) (.cons (.int .i64 (.wrap .i64 (.i2 .add (.var 4) (.lit (1))))) .nil))))) (.b2 .and (.b2 .le (.iapp 9 (.cons (.opq 0) .nil)) (.var 5)) (.b2 .le (.var 5) (.iapp 10 (.cons (.opq 0) .nil)))))))) (.i2 .sub (.ofI (.vop (.len 2) (.cons (.opq 0) .nil))) (.wrap .i64 (.i2 .add (.var 4) (.lit (1))))) (.i2 .sub (.ofI (.vop (.len 2) (.cons (.opq 0) .nil))) (.var 4)))))
 (.need (.b2 .and (.b2 .le (.lit (0)) (.var 4)) (.b2 .lt (.var 4) (.ofI (.vop (.len 2) (.cons (.opq 0) .nil)))))
 (.br (.b2 .and (.b2 .le (.ofI (.vop (.sel 2 0) (.cons (.opq 0) (.cons (.int .i64 (.var 4)) .nil)))) (.var 0)) (.b2 .le (.var 0) (.ofI (.vop (.sel 2 1) (.cons (.opq 0) (.cons (.int .i64 (.var 4)) .nil))))))
 (.back (.b2 .and (.b2 .le (.lit (0)) (.wrap .i64 (.i2 .add (.var 4) (.lit (1))))) (.b2 .and (.b2 .le (.wrap .i64 (.i2 .add (.var 4) (.lit (1)))) (.ofI (.vop (.len 2) (.cons (.opq 0) .nil)))) (.b2 .and (.b2 .eq (.var 2) (.iapp 0 (.cons (.opq 0) (.cons (.int .i64 (.var 5)) (.cons (.int .i64 (.wrap .i64 (.i2 .add (.var 4) (.lit (1))))) .nil))))) (.b2 .and (.b2 .eq (.wrap .i64 (.i2 .add (.var 3) (.lit (1)))) (.iapp 0 (.cons (.opq 0) (.cons (.int .i64 (.var 0)) (.cons (.int .i64 (.wrap .i64 (.i2 .add (.var 4) (.lit (1))))) .nil))))) (.b2 .and (.b2 .le (.iapp 9 (.cons (.opq 0) .nil)) (.var 5)) (.b2 .le (.var 5) (.iapp 10 (.cons (.opq 0) .nil)))))))) (.i2 .sub (.ofI (.vop (.len 2) (.cons (.opq 0) .nil))) (.wrap .i64 (.i2 .add (.var 4) (.lit (1))))) (.i2 .sub (.ofI (.vop (.len 2) (.cons (.opq 0) .nil))) (.var 4)))
 (.back (.b2 .and (.b2 .le (.lit (0)) (.wrap .i64 (.i2 .add (.var 4) (.lit (1))))) (.b2 .and (.b2 .le (.wrap .i64 (.i2 .add (.var 4) (.lit (1)))) (.ofI (.vop (.len 2) (.cons (.opq 0) .nil)))) (.b2 .and (.b2 .eq (.var 2) (.iapp 0 (.cons (.opq 0) (.cons (.int .i64 (.var 5)) (.cons (.int .i64 (.wrap .i64 (.i2 .add (.var 4) (.lit (1))))) .nil))))) (.b2 .and (.b2 .eq (.var 3) (.iapp 0 (.cons (.opq 0) (.cons (.int .i64 (.var 0)) (.cons (.int .i64 (.wrap .i64 (.i2 .add (.var 4) (.lit (1))))) .nil))))) (.b2 .and (.b2 .le (.iapp 9 (.cons (.opq 0) .nil)) (.var 5)) (.b2 .le (.var 5) (.iapp 10 (.cons (.opq 0) .nil)))))))) (.i2 .sub (.ofI (.vop (.len 2) (.cons (.opq 0) .nil))) (.wrap .i64 (.i2 .add (.var 4) (.lit (1))))) (.i2 .sub (.ofI (.vop (.len 2) (.cons (.opq 0) .nil))) (.var 4)))))))))))))
 (.br (.b2 .le (.iapp 9 (.cons (.opq 0) .nil)) (.iapp 10 (.cons (.opq 0) .nil)))
 (.br (.b2 .eq (.var 2) (.iapp 8 (.cons (.opq 0) .nil)))
 (.br (.b2 .le (.var 3) (.iapp 8 (.cons (.opq 0) .nil)))
 (.br (.not (.b2 .eq (.var 3) (.iapp 8 (.cons (.opq 0) .nil))))
 (.ret (.bool (.tt true)))
 (.br (.b2 .le (.iapp 9 (.cons (.opq 0) .nil)) (.var 0))
 (.ret (.bool (.tt true)))
 (.ret (.bool (.tt false)))))
 (.ret (.bool (.tt false))))
 (.ret (.bool (.tt false))))
 (.ret (.bool (.tt false))))))))))
abbrev wfc_wMost : Con := ⟨10, [(.hs .no (.cons (.int .i64) (.cons (.int .i64) .nil)) (.opq 0)), (.int .i64 (.var 0)), (.int .u16 (.var 1))], (.b2 .and (.bapp 4 (.cons (.opq 0) .nil)) (.b2 .and (.b2 .le (.lit (0)) (.var 1)) (.b2 .and (.b2 .le (.var 1) (.lit (65535))) (.b2 .le (.ofI (.vop (.len 2) (.cons (.opq 0) .nil))) (.lit (8796093022208)))))), (.bool (.tt true)), ⟨2, 0, 1, 0⟩, none⟩
theorem wMost_w : walk Tryd.prog 141 ⟨[wec_sure13, wec_give, wbc_vote, wc_has, wec_num], syG, [], [], []⟩ [⟨0, ⟨4, 0, 0, 0⟩, [(11, (.int .i64 (.var 2))), (12, (.int .i64 (.var 3))), (14, (.int .i64 (.var 4))), (13, (.int .i64 (.var 5)))], none, (.b2 .and (.b2 .le (.lit (0)) (.var 4)) (.b2 .and (.b2 .le (.var 4) (.ofI (.vop (.len 2) (.cons (.opq 0) .nil)))) (.b2 .and (.b2 .eq (.var 2) (.iapp 0 (.cons (.opq 0) (.cons (.int .i64 (.var 5)) (.cons (.int .i64 (.var 4)) .nil))))) (.b2 .and (.b2 .eq (.var 3) (.iapp 0 (.cons (.opq 0) (.cons (.int .i64 (.var 0)) (.cons (.int .i64 (.var 4)) .nil))))) (.b2 .and (.b2 .le (.iapp 9 (.cons (.opq 0) .nil)) (.var 5)) (.b2 .le (.var 5) (.iapp 10 (.cons (.opq 0) .nil)))))))), (.i2 .sub (.ofI (.vop (.len 2) (.cons (.opq 0) .nil))) (.var 4)), 0, []⟩] .v wfc_wMost wfc_wMost.n 3000 = some wMost_tree := by kernel_rfl
theorem wMost_h (n : Int) (off : Int) (l : Value) (hc : holds (wfE [n, off] [] [l] []) (.b2 .and (.bapp 4 (.cons (.opq 0) .nil)) (.b2 .and (.b2 .le (.lit (0)) (.var 1)) (.b2 .and (.b2 .le (.var 1) (.lit (65535))) (.b2 .le (.ofI (.vop (.len 2) (.cons (.opq 0) .nil))) (.lit (8796093022208))))))) (hty : patsTyp (wfE [n, off] [] [l] []) [(.hs .no (.cons (.int .i64) (.cons (.int .i64) .nil)) (.opq 0)), (.int .i64 (.var 0)), (.int .u16 (.var 1))]) : wMost_tree.holds (fun v_ => v_ = denV (wfE [n, off] [] [l] []) b0 (.bool (.tt true))) (wfE [n, off] [] [l] []) := by
  simp only [Tree.holds, Sy.holds, AllN, Env.more, wfE, List.cons_append, List.nil_append, List.append_nil, denV, denI, denB, denL, I2.den, VOp.den, List.getD_cons_zero, List.getD_cons_succ, Cst.den, syso, syse, syio, sybo, wfi_of, wfi_arh, wfi_fb, wfi_se, wfi_vm, wfi_vl, wfi_vh, wfi_vE, wfi_vM, wfi_vL, wfi_vH, wfi_aa, wfi_mi, wfi_sa, wfb_pre, wfb_sm, wfb_ai, wfb_tk, wfb_okr, List.map_nil, List.map_cons, B2.ofInts, B2.denI, B2.denB, if_true, Bool.false_eq_true, if_false, Nat.div_one, Nat.mul_one, Nat.add_zero, holds] at hc
  simp only [patsTyp, patTyp, patTypL, wfE, denV, denL, List.getD_cons_zero, List.getD_cons_succ, and_true, true_and] at hty
  have hL_l : typ (.sl (.cons (.int .i64) (.cons (.int .i64) .nil))) l := by first | exact hty | exact hty.1 | exact hty.2 | exact hty.1.1 | exact hty.1.2 | exact hty.2.1 | exact hty.2.2 | exact hty.2.2.1 | exact hty.2.2.2
  have hN_l := typ_len (n := 2) hL_l rfl (by omega)
  unfold wMost_tree
  simp only [Tree.holds, Sy.holds, AllN, Env.more, wfE, List.cons_append, List.nil_append, List.append_nil, denV, denI, denB, denL, I2.den, VOp.den, List.getD_cons_zero, List.getD_cons_succ, Cst.den, syso, syse, syio, sybo, wfi_of, wfi_arh, wfi_fb, wfi_se, wfi_vm, wfi_vl, wfi_vh, wfi_vE, wfi_vM, wfi_vL, wfi_vH, wfi_aa, wfi_mi, wfi_sa, wfb_pre, wfb_sm, wfb_ai, wfb_tk, wfb_okr, List.map_nil, List.map_cons, B2.ofInts, B2.denI, B2.denB, if_true, Bool.false_eq_true, if_false, Nat.div_one, Nat.mul_one, Nat.add_zero]
  obtain ⟨hc1, hc2, hc3, hc4⟩ := hc
  have hE := voE_3 (Sy.rows l)
  refine ⟨?_, fun h0 => ?_⟩
  ·
    first | exact True.intro | omega
  ·
    refine ⟨fun h1 => ?_, fun h1 => ?_⟩
    ·
      first
      | exact True.intro
      | rfl
      | (exfalso; omega)
    ·
      refine ⟨fun h2 => ?_, fun h2 => ?_⟩
      ·
        refine ⟨fun h3 => ?_, fun h3 => ?_⟩
        ·
          first
          | exact True.intro
          | rfl
          | (exfalso; omega)
        ·
          refine ⟨fun h4 => ?_, fun h4 => ?_⟩
          ·
            first
            | exact True.intro
            | rfl
            | (exfalso; omega)
          ·
            first
            | exact True.intro
            | rfl
            | (exfalso; omega)
      ·
        have wf0 := wr_i64 off
        have wf1 := wr_i64 (((voR (rows l)).2.2) - ((voR (rows l)).2.1))
        refine ⟨fun h5 => ?_, fun h5 => ?_⟩
        ·
          refine ⟨fun h6 => ?_, fun h6 => ?_⟩
          ·
            have wf2 := wr_i64 (((voR (rows l)).2.1) + (IntKind.wrap .i64 off))
            try simp only [hw0]
            refine ⟨?_, ?_⟩
            ·
              obtain ⟨s1, s2, s3, s4⟩ := most_spec (show voE (Sy.rows l) = 0 by omega)
              have s5 := most_in (show voE (Sy.rows l) = 0 by omega) hc1 hL_l hN_l.2
              have s6 := wrap_le (x := (voR (Sy.rows l)).2.2 - (voR (Sy.rows l)).2.1) (by omega)
              exact ⟨by omega, by omega, rfl, rfl, by omega, by omega⟩
            ·
              intro i0a i0b i0c i0d hi0
              refine ⟨fun h7 => ?_, fun h7 => ?_⟩
              ·
                refine ⟨?_, fun h8 => ?_⟩
                ·
                  first | exact True.intro | omega
                ·
                  refine ⟨?_, fun h9 => ?_⟩
                  ·
                    first | exact True.intro | omega
                  ·
                    refine ⟨fun h10 => ?_, fun h10 => ?_⟩
                    ·
                      first
                      | exact True.intro
                      | rfl
                      | (exfalso
                         obtain ⟨s1, s2, s3, s4⟩ := most_spec (show voE (Sy.rows l) = 0 by omega)
                         obtain ⟨g1, g2, g3, g4, g5, g6⟩ := hi0
                         have t1 := s2 n
                         have t2 := s1 i0d g5 g6
                         by_cases hlt : i0c < ((Sy.rows l).length / 2 : Nat)
                         · have k1 := t2.2 i0c.toNat (by omega)
                           have k2 := (s1 (voR (Sy.rows l)).2.2 s3 (Int.le_refl _)).2 i0c.toNat (by omega)
                           simp only [hasB] at k1 k2
                           omega
                         · have e : i0c.toNat = (Sy.rows l).length / 2 := by omega
                           rw [e] at g3 g4
                           have t3 := t2.1
                           omega)
                    ·
                      refine ⟨?_, fun h11 => ?_⟩
                      ·
                        first | exact True.intro | omega
                      ·
                        refine ⟨?_, fun h12 => ?_⟩
                        ·
                          first | exact True.intro | omega
                        ·
                          refine ⟨fun h13 => ?_, fun h13 => ?_⟩
                          ·
                            first
                            | exact True.intro
                            | rfl
                            | (exfalso
                               obtain ⟨s1, s2, s3, s4⟩ := most_spec (show voE (Sy.rows l) = 0 by omega)
                               obtain ⟨g1, g2, g3, g4, g5, g6⟩ := hi0
                               have t1 := s2 n
                               have t2 := s1 i0d g5 g6
                               by_cases hlt : i0c < ((Sy.rows l).length / 2 : Nat)
                               · have k1 := t2.2 i0c.toNat (by omega)
                                 have k2 := (s1 (voR (Sy.rows l)).2.2 s3 (Int.le_refl _)).2 i0c.toNat (by omega)
                                 simp only [hasB] at k1 k2
                                 omega
                               · have e : i0c.toNat = (Sy.rows l).length / 2 := by omega
                                 rw [e] at g3 g4
                                 have t3 := t2.1
                                 omega)
                          ·
                            refine ⟨?_, fun h14 => ?_⟩
                            ·
                              first | exact True.intro | omega
                            ·
                              refine ⟨fun h15 => ?_, fun h15 => ?_⟩
                              ·
                                refine ⟨?_, fun h16 => ?_⟩
                                ·
                                  first | exact True.intro | omega
                                ·
                                  refine ⟨fun h17 => ?_, fun h17 => ?_⟩
                                  ·
                                    have wf3 := wr_i64 (i0c + 1)
                                    have wf4 := wr_i64 (i0a + 1)
                                    have wf5 := wr_i64 (i0b + 1)
                                    refine ⟨?_, ?_⟩
                                    ·
                                      obtain ⟨g1, g2, g3, g4, g5, g6⟩ := hi0
                                      have e : IntKind.wrap .i64 (i0c + 1) = i0c + 1 := by omega
                                      have a1 := ofN_le (Sy.rows l) i0d i0c.toNat
                                      have a2 := ofN_le (Sy.rows l) n i0c.toNat
                                      rw [e, show (i0c + 1).toNat = i0c.toNat + 1 by omega]
                                      by_cases ca : hasB (Sy.rows l) i0c.toNat i0d <;> by_cases cb : hasB (Sy.rows l) i0c.toNat n <;> simp only [hasB] at ca cb
                                      · first
                                        | (exfalso; omega)
                                        | (rw [ofN_yes ca, ofN_yes cb]
                                           exact ⟨by omega, by omega, by omega, by omega, by omega, by omega⟩)
                                      · first
                                        | (exfalso; omega)
                                        | (rw [ofN_yes ca, ofN_no cb]
                                           exact ⟨by omega, by omega, by omega, by omega, by omega, by omega⟩)
                                      · first
                                        | (exfalso; omega)
                                        | (rw [ofN_no ca, ofN_yes cb]
                                           exact ⟨by omega, by omega, by omega, by omega, by omega, by omega⟩)
                                      · first
                                        | (exfalso; omega)
                                        | (rw [ofN_no ca, ofN_no cb]
                                           exact ⟨by omega, by omega, by omega, by omega, by omega, by omega⟩)
                                    ·
                                      omega
                                  ·
                                    have wf6 := wr_i64 (i0c + 1)
                                    have wf7 := wr_i64 (i0a + 1)
                                    refine ⟨?_, ?_⟩
                                    ·
                                      obtain ⟨g1, g2, g3, g4, g5, g6⟩ := hi0
                                      have e : IntKind.wrap .i64 (i0c + 1) = i0c + 1 := by omega
                                      have a1 := ofN_le (Sy.rows l) i0d i0c.toNat
                                      have a2 := ofN_le (Sy.rows l) n i0c.toNat
                                      rw [e, show (i0c + 1).toNat = i0c.toNat + 1 by omega]
                                      by_cases ca : hasB (Sy.rows l) i0c.toNat i0d <;> by_cases cb : hasB (Sy.rows l) i0c.toNat n <;> simp only [hasB] at ca cb
                                      · first
                                        | (exfalso; omega)
                                        | (rw [ofN_yes ca, ofN_yes cb]
                                           exact ⟨by omega, by omega, by omega, by omega, by omega, by omega⟩)
                                      · first
                                        | (exfalso; omega)
                                        | (rw [ofN_yes ca, ofN_no cb]
                                           exact ⟨by omega, by omega, by omega, by omega, by omega, by omega⟩)
                                      · first
                                        | (exfalso; omega)
                                        | (rw [ofN_no ca, ofN_yes cb]
                                           exact ⟨by omega, by omega, by omega, by omega, by omega, by omega⟩)
                                      · first
                                        | (exfalso; omega)
                                        | (rw [ofN_no ca, ofN_no cb]
                                           exact ⟨by omega, by omega, by omega, by omega, by omega, by omega⟩)
                                    ·
                                      omega
                              ·
                                refine ⟨?_, fun h18 => ?_⟩
                                ·
                                  first | exact True.intro | omega
                                ·
                                  refine ⟨fun h19 => ?_, fun h19 => ?_⟩
                                  ·
                                    have wf8 := wr_i64 (i0c + 1)
                                    have wf9 := wr_i64 (i0b + 1)
                                    refine ⟨?_, ?_⟩
                                    ·
                                      obtain ⟨g1, g2, g3, g4, g5, g6⟩ := hi0
                                      have e : IntKind.wrap .i64 (i0c + 1) = i0c + 1 := by omega
                                      have a1 := ofN_le (Sy.rows l) i0d i0c.toNat
                                      have a2 := ofN_le (Sy.rows l) n i0c.toNat
                                      rw [e, show (i0c + 1).toNat = i0c.toNat + 1 by omega]
                                      by_cases ca : hasB (Sy.rows l) i0c.toNat i0d <;> by_cases cb : hasB (Sy.rows l) i0c.toNat n <;> simp only [hasB] at ca cb
                                      · first
                                        | (exfalso; omega)
                                        | (rw [ofN_yes ca, ofN_yes cb]
                                           exact ⟨by omega, by omega, by omega, by omega, by omega, by omega⟩)
                                      · first
                                        | (exfalso; omega)
                                        | (rw [ofN_yes ca, ofN_no cb]
                                           exact ⟨by omega, by omega, by omega, by omega, by omega, by omega⟩)
                                      · first
                                        | (exfalso; omega)
                                        | (rw [ofN_no ca, ofN_yes cb]
                                           exact ⟨by omega, by omega, by omega, by omega, by omega, by omega⟩)
                                      · first
                                        | (exfalso; omega)
                                        | (rw [ofN_no ca, ofN_no cb]
                                           exact ⟨by omega, by omega, by omega, by omega, by omega, by omega⟩)
                                    ·
                                      omega
                                  ·
                                    have wf10 := wr_i64 (i0c + 1)
                                    refine ⟨?_, ?_⟩
                                    ·
                                      obtain ⟨g1, g2, g3, g4, g5, g6⟩ := hi0
                                      have e : IntKind.wrap .i64 (i0c + 1) = i0c + 1 := by omega
                                      have a1 := ofN_le (Sy.rows l) i0d i0c.toNat
                                      have a2 := ofN_le (Sy.rows l) n i0c.toNat
                                      rw [e, show (i0c + 1).toNat = i0c.toNat + 1 by omega]
                                      by_cases ca : hasB (Sy.rows l) i0c.toNat i0d <;> by_cases cb : hasB (Sy.rows l) i0c.toNat n <;> simp only [hasB] at ca cb
                                      · first
                                        | (exfalso; omega)
                                        | (rw [ofN_yes ca, ofN_yes cb]
                                           exact ⟨by omega, by omega, by omega, by omega, by omega, by omega⟩)
                                      · first
                                        | (exfalso; omega)
                                        | (rw [ofN_yes ca, ofN_no cb]
                                           exact ⟨by omega, by omega, by omega, by omega, by omega, by omega⟩)
                                      · first
                                        | (exfalso; omega)
                                        | (rw [ofN_no ca, ofN_yes cb]
                                           exact ⟨by omega, by omega, by omega, by omega, by omega, by omega⟩)
                                      · first
                                        | (exfalso; omega)
                                        | (rw [ofN_no ca, ofN_no cb]
                                           exact ⟨by omega, by omega, by omega, by omega, by omega, by omega⟩)
                                    ·
                                      omega
              ·
                refine ⟨fun h20 => ?_, fun h20 => ?_⟩
                ·
                  refine ⟨fun h21 => ?_, fun h21 => ?_⟩
                  ·
                    refine ⟨fun h22 => ?_, fun h22 => ?_⟩
                    ·
                      refine ⟨fun h23 => ?_, fun h23 => ?_⟩
                      ·
                        first
                        | exact True.intro
                        | rfl
                        | (exfalso
                           obtain ⟨s1, s2, s3, s4⟩ := most_spec (show voE (Sy.rows l) = 0 by omega)
                           obtain ⟨g1, g2, g3, g4, g5, g6⟩ := hi0
                           have t1 := s2 n
                           have t2 := s1 i0d g5 g6
                           by_cases hlt : i0c < ((Sy.rows l).length / 2 : Nat)
                           · have k1 := t2.2 i0c.toNat (by omega)
                             have k2 := (s1 (voR (Sy.rows l)).2.2 s3 (Int.le_refl _)).2 i0c.toNat (by omega)
                             simp only [hasB] at k1 k2
                             omega
                           · have e : i0c.toNat = (Sy.rows l).length / 2 := by omega
                             rw [e] at g3 g4
                             have t3 := t2.1
                             omega)
                      ·
                        refine ⟨fun h24 => ?_, fun h24 => ?_⟩
                        ·
                          first
                          | exact True.intro
                          | rfl
                          | (exfalso
                             obtain ⟨s1, s2, s3, s4⟩ := most_spec (show voE (Sy.rows l) = 0 by omega)
                             obtain ⟨g1, g2, g3, g4, g5, g6⟩ := hi0
                             have t1 := s2 n
                             have t2 := s1 i0d g5 g6
                             by_cases hlt : i0c < ((Sy.rows l).length / 2 : Nat)
                             · have k1 := t2.2 i0c.toNat (by omega)
                               have k2 := (s1 (voR (Sy.rows l)).2.2 s3 (Int.le_refl _)).2 i0c.toNat (by omega)
                               simp only [hasB] at k1 k2
                               omega
                             · have e : i0c.toNat = (Sy.rows l).length / 2 := by omega
                               rw [e] at g3 g4
                               have t3 := t2.1
                               omega)
                        ·
                          first
                          | exact True.intro
                          | rfl
                          | (exfalso
                             obtain ⟨s1, s2, s3, s4⟩ := most_spec (show voE (Sy.rows l) = 0 by omega)
                             obtain ⟨g1, g2, g3, g4, g5, g6⟩ := hi0
                             have t1 := s2 n
                             have t2 := s1 i0d g5 g6
                             by_cases hlt : i0c < ((Sy.rows l).length / 2 : Nat)
                             · have k1 := t2.2 i0c.toNat (by omega)
                               have k2 := (s1 (voR (Sy.rows l)).2.2 s3 (Int.le_refl _)).2 i0c.toNat (by omega)
                               simp only [hasB] at k1 k2
                               omega
                             · have e : i0c.toNat = (Sy.rows l).length / 2 := by omega
                               rw [e] at g3 g4
                               have t3 := t2.1
                               omega)
                    ·
                      first
                      | exact True.intro
                      | rfl
                      | (exfalso
                         obtain ⟨s1, s2, s3, s4⟩ := most_spec (show voE (Sy.rows l) = 0 by omega)
                         obtain ⟨g1, g2, g3, g4, g5, g6⟩ := hi0
                         have t1 := s2 n
                         have t2 := s1 i0d g5 g6
                         by_cases hlt : i0c < ((Sy.rows l).length / 2 : Nat)
                         · have k1 := t2.2 i0c.toNat (by omega)
                           have k2 := (s1 (voR (Sy.rows l)).2.2 s3 (Int.le_refl _)).2 i0c.toNat (by omega)
                           simp only [hasB] at k1 k2
                           omega
                         · have e : i0c.toNat = (Sy.rows l).length / 2 := by omega
                           rw [e] at g3 g4
                           have t3 := t2.1
                           omega)
                  ·
                    first
                    | exact True.intro
                    | rfl
                    | (exfalso
                       obtain ⟨s1, s2, s3, s4⟩ := most_spec (show voE (Sy.rows l) = 0 by omega)
                       obtain ⟨g1, g2, g3, g4, g5, g6⟩ := hi0
                       have t1 := s2 n
                       have t2 := s1 i0d g5 g6
                       by_cases hlt : i0c < ((Sy.rows l).length / 2 : Nat)
                       · have k1 := t2.2 i0c.toNat (by omega)
                         have k2 := (s1 (voR (Sy.rows l)).2.2 s3 (Int.le_refl _)).2 i0c.toNat (by omega)
                         simp only [hasB] at k1 k2
                         omega
                       · have e : i0c.toNat = (Sy.rows l).length / 2 := by omega
                         rw [e] at g3 g4
                         have t3 := t2.1
                         omega)
                ·
                  first
                  | exact True.intro
                  | rfl
                  | (exfalso
                     obtain ⟨s1, s2, s3, s4⟩ := most_spec (show voE (Sy.rows l) = 0 by omega)
                     obtain ⟨g1, g2, g3, g4, g5, g6⟩ := hi0
                     have t1 := s2 n
                     have t2 := s1 i0d g5 g6
                     by_cases hlt : i0c < ((Sy.rows l).length / 2 : Nat)
                     · have k1 := t2.2 i0c.toNat (by omega)
                       have k2 := (s1 (voR (Sy.rows l)).2.2 s3 (Int.le_refl _)).2 i0c.toNat (by omega)
                       simp only [hasB] at k1 k2
                       omega
                     · have e : i0c.toNat = (Sy.rows l).length / 2 := by omega
                       rw [e] at g3 g4
                       have t3 := t2.1
                       omega)
          ·
            refine ⟨?_, ?_⟩
            ·
              obtain ⟨s1, s2, s3, s4⟩ := most_spec (show voE (Sy.rows l) = 0 by omega)
              have s5 := most_in (show voE (Sy.rows l) = 0 by omega) hc1 hL_l hN_l.2
              have s6 := wrap_le (x := (voR (Sy.rows l)).2.2 - (voR (Sy.rows l)).2.1) (by omega)
              exact ⟨by omega, by omega, rfl, rfl, by omega, by omega⟩
            ·
              intro i1a i1b i1c i1d hi1
              refine ⟨fun h25 => ?_, fun h25 => ?_⟩
              ·
                refine ⟨?_, fun h26 => ?_⟩
                ·
                  first | exact True.intro | omega
                ·
                  refine ⟨?_, fun h27 => ?_⟩
                  ·
                    first | exact True.intro | omega
                  ·
                    refine ⟨fun h28 => ?_, fun h28 => ?_⟩
                    ·
                      first
                      | exact True.intro
                      | rfl
                      | (exfalso
                         obtain ⟨s1, s2, s3, s4⟩ := most_spec (show voE (Sy.rows l) = 0 by omega)
                         obtain ⟨g1, g2, g3, g4, g5, g6⟩ := hi1
                         have t1 := s2 n
                         have t2 := s1 i1d g5 g6
                         by_cases hlt : i1c < ((Sy.rows l).length / 2 : Nat)
                         · have k1 := t2.2 i1c.toNat (by omega)
                           have k2 := (s1 (voR (Sy.rows l)).2.2 s3 (Int.le_refl _)).2 i1c.toNat (by omega)
                           simp only [hasB] at k1 k2
                           omega
                         · have e : i1c.toNat = (Sy.rows l).length / 2 := by omega
                           rw [e] at g3 g4
                           have t3 := t2.1
                           omega)
                    ·
                      refine ⟨?_, fun h29 => ?_⟩
                      ·
                        first | exact True.intro | omega
                      ·
                        refine ⟨?_, fun h30 => ?_⟩
                        ·
                          first | exact True.intro | omega
                        ·
                          refine ⟨fun h31 => ?_, fun h31 => ?_⟩
                          ·
                            first
                            | exact True.intro
                            | rfl
                            | (exfalso
                               obtain ⟨s1, s2, s3, s4⟩ := most_spec (show voE (Sy.rows l) = 0 by omega)
                               obtain ⟨g1, g2, g3, g4, g5, g6⟩ := hi1
                               have t1 := s2 n
                               have t2 := s1 i1d g5 g6
                               by_cases hlt : i1c < ((Sy.rows l).length / 2 : Nat)
                               · have k1 := t2.2 i1c.toNat (by omega)
                                 have k2 := (s1 (voR (Sy.rows l)).2.2 s3 (Int.le_refl _)).2 i1c.toNat (by omega)
                                 simp only [hasB] at k1 k2
                                 omega
                               · have e : i1c.toNat = (Sy.rows l).length / 2 := by omega
                                 rw [e] at g3 g4
                                 have t3 := t2.1
                                 omega)
                          ·
                            refine ⟨?_, fun h32 => ?_⟩
                            ·
                              first | exact True.intro | omega
                            ·
                              refine ⟨fun h33 => ?_, fun h33 => ?_⟩
                              ·
                                refine ⟨?_, fun h34 => ?_⟩
                                ·
                                  first | exact True.intro | omega
                                ·
                                  refine ⟨fun h35 => ?_, fun h35 => ?_⟩
                                  ·
                                    have wf11 := wr_i64 (i1c + 1)
                                    have wf12 := wr_i64 (i1a + 1)
                                    have wf13 := wr_i64 (i1b + 1)
                                    refine ⟨?_, ?_⟩
                                    ·
                                      obtain ⟨g1, g2, g3, g4, g5, g6⟩ := hi1
                                      have e : IntKind.wrap .i64 (i1c + 1) = i1c + 1 := by omega
                                      have a1 := ofN_le (Sy.rows l) i1d i1c.toNat
                                      have a2 := ofN_le (Sy.rows l) n i1c.toNat
                                      rw [e, show (i1c + 1).toNat = i1c.toNat + 1 by omega]
                                      by_cases ca : hasB (Sy.rows l) i1c.toNat i1d <;> by_cases cb : hasB (Sy.rows l) i1c.toNat n <;> simp only [hasB] at ca cb
                                      · first
                                        | (exfalso; omega)
                                        | (rw [ofN_yes ca, ofN_yes cb]
                                           exact ⟨by omega, by omega, by omega, by omega, by omega, by omega⟩)
                                      · first
                                        | (exfalso; omega)
                                        | (rw [ofN_yes ca, ofN_no cb]
                                           exact ⟨by omega, by omega, by omega, by omega, by omega, by omega⟩)
                                      · first
                                        | (exfalso; omega)
                                        | (rw [ofN_no ca, ofN_yes cb]
                                           exact ⟨by omega, by omega, by omega, by omega, by omega, by omega⟩)
                                      · first
                                        | (exfalso; omega)
                                        | (rw [ofN_no ca, ofN_no cb]
                                           exact ⟨by omega, by omega, by omega, by omega, by omega, by omega⟩)
                                    ·
                                      omega
                                  ·
                                    have wf14 := wr_i64 (i1c + 1)
                                    have wf15 := wr_i64 (i1a + 1)
                                    refine ⟨?_, ?_⟩
                                    ·
                                      obtain ⟨g1, g2, g3, g4, g5, g6⟩ := hi1
                                      have e : IntKind.wrap .i64 (i1c + 1) = i1c + 1 := by omega
                                      have a1 := ofN_le (Sy.rows l) i1d i1c.toNat
                                      have a2 := ofN_le (Sy.rows l) n i1c.toNat
                                      rw [e, show (i1c + 1).toNat = i1c.toNat + 1 by omega]
                                      by_cases ca : hasB (Sy.rows l) i1c.toNat i1d <;> by_cases cb : hasB (Sy.rows l) i1c.toNat n <;> simp only [hasB] at ca cb
                                      · first
                                        | (exfalso; omega)
                                        | (rw [ofN_yes ca, ofN_yes cb]
                                           exact ⟨by omega, by omega, by omega, by omega, by omega, by omega⟩)
                                      · first
                                        | (exfalso; omega)
                                        | (rw [ofN_yes ca, ofN_no cb]
                                           exact ⟨by omega, by omega, by omega, by omega, by omega, by omega⟩)
                                      · first
                                        | (exfalso; omega)
                                        | (rw [ofN_no ca, ofN_yes cb]
                                           exact ⟨by omega, by omega, by omega, by omega, by omega, by omega⟩)
                                      · first
                                        | (exfalso; omega)
                                        | (rw [ofN_no ca, ofN_no cb]
                                           exact ⟨by omega, by omega, by omega, by omega, by omega, by omega⟩)
                                    ·
                                      omega
                              ·
                                refine ⟨?_, fun h36 => ?_⟩
                                ·
                                  first | exact True.intro | omega
                                ·
                                  refine ⟨fun h37 => ?_, fun h37 => ?_⟩
                                  ·
                                    have wf16 := wr_i64 (i1c + 1)
                                    have wf17 := wr_i64 (i1b + 1)
                                    refine ⟨?_, ?_⟩
                                    ·
                                      obtain ⟨g1, g2, g3, g4, g5, g6⟩ := hi1
                                      have e : IntKind.wrap .i64 (i1c + 1) = i1c + 1 := by omega
                                      have a1 := ofN_le (Sy.rows l) i1d i1c.toNat
                                      have a2 := ofN_le (Sy.rows l) n i1c.toNat
                                      rw [e, show (i1c + 1).toNat = i1c.toNat + 1 by omega]
                                      by_cases ca : hasB (Sy.rows l) i1c.toNat i1d <;> by_cases cb : hasB (Sy.rows l) i1c.toNat n <;> simp only [hasB] at ca cb
                                      · first
                                        | (exfalso; omega)
                                        | (rw [ofN_yes ca, ofN_yes cb]
                                           exact ⟨by omega, by omega, by omega, by omega, by omega, by omega⟩)
                                      · first
                                        | (exfalso; omega)
                                        | (rw [ofN_yes ca, ofN_no cb]
                                           exact ⟨by omega, by omega, by omega, by omega, by omega, by omega⟩)
                                      · first
                                        | (exfalso; omega)
                                        | (rw [ofN_no ca, ofN_yes cb]
                                           exact ⟨by omega, by omega, by omega, by omega, by omega, by omega⟩)
                                      · first
                                        | (exfalso; omega)
                                        | (rw [ofN_no ca, ofN_no cb]
                                           exact ⟨by omega, by omega, by omega, by omega, by omega, by omega⟩)
                                    ·
                                      omega
                                  ·
                                    have wf18 := wr_i64 (i1c + 1)
                                    refine ⟨?_, ?_⟩
                                    ·
                                      obtain ⟨g1, g2, g3, g4, g5, g6⟩ := hi1
                                      have e : IntKind.wrap .i64 (i1c + 1) = i1c + 1 := by omega
                                      have a1 := ofN_le (Sy.rows l) i1d i1c.toNat
                                      have a2 := ofN_le (Sy.rows l) n i1c.toNat
                                      rw [e, show (i1c + 1).toNat = i1c.toNat + 1 by omega]
                                      by_cases ca : hasB (Sy.rows l) i1c.toNat i1d <;> by_cases cb : hasB (Sy.rows l) i1c.toNat n <;> simp only [hasB] at ca cb
                                      · first
                                        | (exfalso; omega)
                                        | (rw [ofN_yes ca, ofN_yes cb]
                                           exact ⟨by omega, by omega, by omega, by omega, by omega, by omega⟩)
                                      · first
                                        | (exfalso; omega)
                                        | (rw [ofN_yes ca, ofN_no cb]
                                           exact ⟨by omega, by omega, by omega, by omega, by omega, by omega⟩)
                                      · first
                                        | (exfalso; omega)
                                        | (rw [ofN_no ca, ofN_yes cb]
                                           exact ⟨by omega, by omega, by omega, by omega, by omega, by omega⟩)
                                      · first
                                        | (exfalso; omega)
                                        | (rw [ofN_no ca, ofN_no cb]
                                           exact ⟨by omega, by omega, by omega, by omega, by omega, by omega⟩)
                                    ·
                                      omega
              ·
                refine ⟨fun h38 => ?_, fun h38 => ?_⟩
                ·
                  refine ⟨fun h39 => ?_, fun h39 => ?_⟩
                  ·
                    refine ⟨fun h40 => ?_, fun h40 => ?_⟩
                    ·
                      refine ⟨fun h41 => ?_, fun h41 => ?_⟩
                      ·
                        first
                        | exact True.intro
                        | rfl
                        | (exfalso
                           obtain ⟨s1, s2, s3, s4⟩ := most_spec (show voE (Sy.rows l) = 0 by omega)
                           obtain ⟨g1, g2, g3, g4, g5, g6⟩ := hi1
                           have t1 := s2 n
                           have t2 := s1 i1d g5 g6
                           by_cases hlt : i1c < ((Sy.rows l).length / 2 : Nat)
                           · have k1 := t2.2 i1c.toNat (by omega)
                             have k2 := (s1 (voR (Sy.rows l)).2.2 s3 (Int.le_refl _)).2 i1c.toNat (by omega)
                             simp only [hasB] at k1 k2
                             omega
                           · have e : i1c.toNat = (Sy.rows l).length / 2 := by omega
                             rw [e] at g3 g4
                             have t3 := t2.1
                             omega)
                      ·
                        refine ⟨fun h42 => ?_, fun h42 => ?_⟩
                        ·
                          first
                          | exact True.intro
                          | rfl
                          | (exfalso
                             obtain ⟨s1, s2, s3, s4⟩ := most_spec (show voE (Sy.rows l) = 0 by omega)
                             obtain ⟨g1, g2, g3, g4, g5, g6⟩ := hi1
                             have t1 := s2 n
                             have t2 := s1 i1d g5 g6
                             by_cases hlt : i1c < ((Sy.rows l).length / 2 : Nat)
                             · have k1 := t2.2 i1c.toNat (by omega)
                               have k2 := (s1 (voR (Sy.rows l)).2.2 s3 (Int.le_refl _)).2 i1c.toNat (by omega)
                               simp only [hasB] at k1 k2
                               omega
                             · have e : i1c.toNat = (Sy.rows l).length / 2 := by omega
                               rw [e] at g3 g4
                               have t3 := t2.1
                               omega)
                        ·
                          first
                          | exact True.intro
                          | rfl
                          | (exfalso
                             obtain ⟨s1, s2, s3, s4⟩ := most_spec (show voE (Sy.rows l) = 0 by omega)
                             obtain ⟨g1, g2, g3, g4, g5, g6⟩ := hi1
                             have t1 := s2 n
                             have t2 := s1 i1d g5 g6
                             by_cases hlt : i1c < ((Sy.rows l).length / 2 : Nat)
                             · have k1 := t2.2 i1c.toNat (by omega)
                               have k2 := (s1 (voR (Sy.rows l)).2.2 s3 (Int.le_refl _)).2 i1c.toNat (by omega)
                               simp only [hasB] at k1 k2
                               omega
                             · have e : i1c.toNat = (Sy.rows l).length / 2 := by omega
                               rw [e] at g3 g4
                               have t3 := t2.1
                               omega)
                    ·
                      first
                      | exact True.intro
                      | rfl
                      | (exfalso
                         obtain ⟨s1, s2, s3, s4⟩ := most_spec (show voE (Sy.rows l) = 0 by omega)
                         obtain ⟨g1, g2, g3, g4, g5, g6⟩ := hi1
                         have t1 := s2 n
                         have t2 := s1 i1d g5 g6
                         by_cases hlt : i1c < ((Sy.rows l).length / 2 : Nat)
                         · have k1 := t2.2 i1c.toNat (by omega)
                           have k2 := (s1 (voR (Sy.rows l)).2.2 s3 (Int.le_refl _)).2 i1c.toNat (by omega)
                           simp only [hasB] at k1 k2
                           omega
                         · have e : i1c.toNat = (Sy.rows l).length / 2 := by omega
                           rw [e] at g3 g4
                           have t3 := t2.1
                           omega)
                  ·
                    first
                    | exact True.intro
                    | rfl
                    | (exfalso
                       obtain ⟨s1, s2, s3, s4⟩ := most_spec (show voE (Sy.rows l) = 0 by omega)
                       obtain ⟨g1, g2, g3, g4, g5, g6⟩ := hi1
                       have t1 := s2 n
                       have t2 := s1 i1d g5 g6
                       by_cases hlt : i1c < ((Sy.rows l).length / 2 : Nat)
                       · have k1 := t2.2 i1c.toNat (by omega)
                         have k2 := (s1 (voR (Sy.rows l)).2.2 s3 (Int.le_refl _)).2 i1c.toNat (by omega)
                         simp only [hasB] at k1 k2
                         omega
                       · have e : i1c.toNat = (Sy.rows l).length / 2 := by omega
                         rw [e] at g3 g4
                         have t3 := t2.1
                         omega)
                ·
                  first
                  | exact True.intro
                  | rfl
                  | (exfalso
                     obtain ⟨s1, s2, s3, s4⟩ := most_spec (show voE (Sy.rows l) = 0 by omega)
                     obtain ⟨g1, g2, g3, g4, g5, g6⟩ := hi1
                     have t1 := s2 n
                     have t2 := s1 i1d g5 g6
                     by_cases hlt : i1c < ((Sy.rows l).length / 2 : Nat)
                     · have k1 := t2.2 i1c.toNat (by omega)
                       have k2 := (s1 (voR (Sy.rows l)).2.2 s3 (Int.le_refl _)).2 i1c.toNat (by omega)
                       simp only [hasB] at k1 k2
                       omega
                     · have e : i1c.toNat = (Sy.rows l).length / 2 := by omega
                       rw [e] at g3 g4
                       have t3 := t2.1
                       omega)
        ·
          refine ⟨?_, ?_⟩
          ·
            obtain ⟨s1, s2, s3, s4⟩ := most_spec (show voE (Sy.rows l) = 0 by omega)
            have s5 := most_in (show voE (Sy.rows l) = 0 by omega) hc1 hL_l hN_l.2
            have s6 := wrap_le (x := (voR (Sy.rows l)).2.2 - (voR (Sy.rows l)).2.1) (by omega)
            exact ⟨by omega, by omega, rfl, rfl, by omega, by omega⟩
          ·
            intro i2a i2b i2c i2d hi2
            refine ⟨fun h43 => ?_, fun h43 => ?_⟩
            ·
              refine ⟨?_, fun h44 => ?_⟩
              ·
                first | exact True.intro | omega
              ·
                refine ⟨?_, fun h45 => ?_⟩
                ·
                  first | exact True.intro | omega
                ·
                  refine ⟨fun h46 => ?_, fun h46 => ?_⟩
                  ·
                    first
                    | exact True.intro
                    | rfl
                    | (exfalso
                       obtain ⟨s1, s2, s3, s4⟩ := most_spec (show voE (Sy.rows l) = 0 by omega)
                       obtain ⟨g1, g2, g3, g4, g5, g6⟩ := hi2
                       have t1 := s2 n
                       have t2 := s1 i2d g5 g6
                       by_cases hlt : i2c < ((Sy.rows l).length / 2 : Nat)
                       · have k1 := t2.2 i2c.toNat (by omega)
                         have k2 := (s1 (voR (Sy.rows l)).2.2 s3 (Int.le_refl _)).2 i2c.toNat (by omega)
                         simp only [hasB] at k1 k2
                         omega
                       · have e : i2c.toNat = (Sy.rows l).length / 2 := by omega
                         rw [e] at g3 g4
                         have t3 := t2.1
                         omega)
                  ·
                    refine ⟨?_, fun h47 => ?_⟩
                    ·
                      first | exact True.intro | omega
                    ·
                      refine ⟨?_, fun h48 => ?_⟩
                      ·
                        first | exact True.intro | omega
                      ·
                        refine ⟨fun h49 => ?_, fun h49 => ?_⟩
                        ·
                          first
                          | exact True.intro
                          | rfl
                          | (exfalso
                             obtain ⟨s1, s2, s3, s4⟩ := most_spec (show voE (Sy.rows l) = 0 by omega)
                             obtain ⟨g1, g2, g3, g4, g5, g6⟩ := hi2
                             have t1 := s2 n
                             have t2 := s1 i2d g5 g6
                             by_cases hlt : i2c < ((Sy.rows l).length / 2 : Nat)
                             · have k1 := t2.2 i2c.toNat (by omega)
                               have k2 := (s1 (voR (Sy.rows l)).2.2 s3 (Int.le_refl _)).2 i2c.toNat (by omega)
                               simp only [hasB] at k1 k2
                               omega
                             · have e : i2c.toNat = (Sy.rows l).length / 2 := by omega
                               rw [e] at g3 g4
                               have t3 := t2.1
                               omega)
                        ·
                          refine ⟨?_, fun h50 => ?_⟩
                          ·
                            first | exact True.intro | omega
                          ·
                            refine ⟨fun h51 => ?_, fun h51 => ?_⟩
                            ·
                              refine ⟨?_, fun h52 => ?_⟩
                              ·
                                first | exact True.intro | omega
                              ·
                                refine ⟨fun h53 => ?_, fun h53 => ?_⟩
                                ·
                                  have wf19 := wr_i64 (i2c + 1)
                                  have wf20 := wr_i64 (i2a + 1)
                                  have wf21 := wr_i64 (i2b + 1)
                                  refine ⟨?_, ?_⟩
                                  ·
                                    obtain ⟨g1, g2, g3, g4, g5, g6⟩ := hi2
                                    have e : IntKind.wrap .i64 (i2c + 1) = i2c + 1 := by omega
                                    have a1 := ofN_le (Sy.rows l) i2d i2c.toNat
                                    have a2 := ofN_le (Sy.rows l) n i2c.toNat
                                    rw [e, show (i2c + 1).toNat = i2c.toNat + 1 by omega]
                                    by_cases ca : hasB (Sy.rows l) i2c.toNat i2d <;> by_cases cb : hasB (Sy.rows l) i2c.toNat n <;> simp only [hasB] at ca cb
                                    · first
                                      | (exfalso; omega)
                                      | (rw [ofN_yes ca, ofN_yes cb]
                                         exact ⟨by omega, by omega, by omega, by omega, by omega, by omega⟩)
                                    · first
                                      | (exfalso; omega)
                                      | (rw [ofN_yes ca, ofN_no cb]
                                         exact ⟨by omega, by omega, by omega, by omega, by omega, by omega⟩)
                                    · first
                                      | (exfalso; omega)
                                      | (rw [ofN_no ca, ofN_yes cb]
                                         exact ⟨by omega, by omega, by omega, by omega, by omega, by omega⟩)
                                    · first
                                      | (exfalso; omega)
                                      | (rw [ofN_no ca, ofN_no cb]
                                         exact ⟨by omega, by omega, by omega, by omega, by omega, by omega⟩)
                                  ·
                                    omega
                                ·
                                  have wf22 := wr_i64 (i2c + 1)
                                  have wf23 := wr_i64 (i2a + 1)
                                  refine ⟨?_, ?_⟩
                                  ·
                                    obtain ⟨g1, g2, g3, g4, g5, g6⟩ := hi2
                                    have e : IntKind.wrap .i64 (i2c + 1) = i2c + 1 := by omega
                                    have a1 := ofN_le (Sy.rows l) i2d i2c.toNat
                                    have a2 := ofN_le (Sy.rows l) n i2c.toNat
                                    rw [e, show (i2c + 1).toNat = i2c.toNat + 1 by omega]
                                    by_cases ca : hasB (Sy.rows l) i2c.toNat i2d <;> by_cases cb : hasB (Sy.rows l) i2c.toNat n <;> simp only [hasB] at ca cb
                                    · first
                                      | (exfalso; omega)
                                      | (rw [ofN_yes ca, ofN_yes cb]
                                         exact ⟨by omega, by omega, by omega, by omega, by omega, by omega⟩)
                                    · first
                                      | (exfalso; omega)
                                      | (rw [ofN_yes ca, ofN_no cb]
                                         exact ⟨by omega, by omega, by omega, by omega, by omega, by omega⟩)
                                    · first
                                      | (exfalso; omega)
                                      | (rw [ofN_no ca, ofN_yes cb]
                                         exact ⟨by omega, by omega, by omega, by omega, by omega, by omega⟩)
                                    · first
                                      | (exfalso; omega)
                                      | (rw [ofN_no ca, ofN_no cb]
                                         exact ⟨by omega, by omega, by omega, by omega, by omega, by omega⟩)
                                  ·
                                    omega
                            ·
                              refine ⟨?_, fun h54 => ?_⟩
                              ·
                                first | exact True.intro | omega
                              ·
                                refine ⟨fun h55 => ?_, fun h55 => ?_⟩
                                ·
                                  have wf24 := wr_i64 (i2c + 1)
                                  have wf25 := wr_i64 (i2b + 1)
                                  refine ⟨?_, ?_⟩
                                  ·
                                    obtain ⟨g1, g2, g3, g4, g5, g6⟩ := hi2
                                    have e : IntKind.wrap .i64 (i2c + 1) = i2c + 1 := by omega
                                    have a1 := ofN_le (Sy.rows l) i2d i2c.toNat
                                    have a2 := ofN_le (Sy.rows l) n i2c.toNat
                                    rw [e, show (i2c + 1).toNat = i2c.toNat + 1 by omega]
                                    by_cases ca : hasB (Sy.rows l) i2c.toNat i2d <;> by_cases cb : hasB (Sy.rows l) i2c.toNat n <;> simp only [hasB] at ca cb
                                    · first
                                      | (exfalso; omega)
                                      | (rw [ofN_yes ca, ofN_yes cb]
                                         exact ⟨by omega, by omega, by omega, by omega, by omega, by omega⟩)
                                    · first
                                      | (exfalso; omega)
                                      | (rw [ofN_yes ca, ofN_no cb]
                                         exact ⟨by omega, by omega, by omega, by omega, by omega, by omega⟩)
                                    · first
                                      | (exfalso; omega)
                                      | (rw [ofN_no ca, ofN_yes cb]
                                         exact ⟨by omega, by omega, by omega, by omega, by omega, by omega⟩)
                                    · first
                                      | (exfalso; omega)
                                      | (rw [ofN_no ca, ofN_no cb]
                                         exact ⟨by omega, by omega, by omega, by omega, by omega, by omega⟩)
                                  ·
                                    omega
                                ·
                                  have wf26 := wr_i64 (i2c + 1)
                                  refine ⟨?_, ?_⟩
                                  ·
                                    obtain ⟨g1, g2, g3, g4, g5, g6⟩ := hi2
                                    have e : IntKind.wrap .i64 (i2c + 1) = i2c + 1 := by omega
                                    have a1 := ofN_le (Sy.rows l) i2d i2c.toNat
                                    have a2 := ofN_le (Sy.rows l) n i2c.toNat
                                    rw [e, show (i2c + 1).toNat = i2c.toNat + 1 by omega]
                                    by_cases ca : hasB (Sy.rows l) i2c.toNat i2d <;> by_cases cb : hasB (Sy.rows l) i2c.toNat n <;> simp only [hasB] at ca cb
                                    · first
                                      | (exfalso; omega)
                                      | (rw [ofN_yes ca, ofN_yes cb]
                                         exact ⟨by omega, by omega, by omega, by omega, by omega, by omega⟩)
                                    · first
                                      | (exfalso; omega)
                                      | (rw [ofN_yes ca, ofN_no cb]
                                         exact ⟨by omega, by omega, by omega, by omega, by omega, by omega⟩)
                                    · first
                                      | (exfalso; omega)
                                      | (rw [ofN_no ca, ofN_yes cb]
                                         exact ⟨by omega, by omega, by omega, by omega, by omega, by omega⟩)
                                    · first
                                      | (exfalso; omega)
                                      | (rw [ofN_no ca, ofN_no cb]
                                         exact ⟨by omega, by omega, by omega, by omega, by omega, by omega⟩)
                                  ·
                                    omega
            ·
              refine ⟨fun h56 => ?_, fun h56 => ?_⟩
              ·
                refine ⟨fun h57 => ?_, fun h57 => ?_⟩
                ·
                  refine ⟨fun h58 => ?_, fun h58 => ?_⟩
                  ·
                    refine ⟨fun h59 => ?_, fun h59 => ?_⟩
                    ·
                      first
                      | exact True.intro
                      | rfl
                      | (exfalso
                         obtain ⟨s1, s2, s3, s4⟩ := most_spec (show voE (Sy.rows l) = 0 by omega)
                         obtain ⟨g1, g2, g3, g4, g5, g6⟩ := hi2
                         have t1 := s2 n
                         have t2 := s1 i2d g5 g6
                         by_cases hlt : i2c < ((Sy.rows l).length / 2 : Nat)
                         · have k1 := t2.2 i2c.toNat (by omega)
                           have k2 := (s1 (voR (Sy.rows l)).2.2 s3 (Int.le_refl _)).2 i2c.toNat (by omega)
                           simp only [hasB] at k1 k2
                           omega
                         · have e : i2c.toNat = (Sy.rows l).length / 2 := by omega
                           rw [e] at g3 g4
                           have t3 := t2.1
                           omega)
                    ·
                      refine ⟨fun h60 => ?_, fun h60 => ?_⟩
                      ·
                        first
                        | exact True.intro
                        | rfl
                        | (exfalso
                           obtain ⟨s1, s2, s3, s4⟩ := most_spec (show voE (Sy.rows l) = 0 by omega)
                           obtain ⟨g1, g2, g3, g4, g5, g6⟩ := hi2
                           have t1 := s2 n
                           have t2 := s1 i2d g5 g6
                           by_cases hlt : i2c < ((Sy.rows l).length / 2 : Nat)
                           · have k1 := t2.2 i2c.toNat (by omega)
                             have k2 := (s1 (voR (Sy.rows l)).2.2 s3 (Int.le_refl _)).2 i2c.toNat (by omega)
                             simp only [hasB] at k1 k2
                             omega
                           · have e : i2c.toNat = (Sy.rows l).length / 2 := by omega
                             rw [e] at g3 g4
                             have t3 := t2.1
                             omega)
                      ·
                        first
                        | exact True.intro
                        | rfl
                        | (exfalso
                           obtain ⟨s1, s2, s3, s4⟩ := most_spec (show voE (Sy.rows l) = 0 by omega)
                           obtain ⟨g1, g2, g3, g4, g5, g6⟩ := hi2
                           have t1 := s2 n
                           have t2 := s1 i2d g5 g6
                           by_cases hlt : i2c < ((Sy.rows l).length / 2 : Nat)
                           · have k1 := t2.2 i2c.toNat (by omega)
                             have k2 := (s1 (voR (Sy.rows l)).2.2 s3 (Int.le_refl _)).2 i2c.toNat (by omega)
                             simp only [hasB] at k1 k2
                             omega
                           · have e : i2c.toNat = (Sy.rows l).length / 2 := by omega
                             rw [e] at g3 g4
                             have t3 := t2.1
                             omega)
                  ·
                    first
                    | exact True.intro
                    | rfl
                    | (exfalso
                       obtain ⟨s1, s2, s3, s4⟩ := most_spec (show voE (Sy.rows l) = 0 by omega)
                       obtain ⟨g1, g2, g3, g4, g5, g6⟩ := hi2
                       have t1 := s2 n
                       have t2 := s1 i2d g5 g6
                       by_cases hlt : i2c < ((Sy.rows l).length / 2 : Nat)
                       · have k1 := t2.2 i2c.toNat (by omega)
                         have k2 := (s1 (voR (Sy.rows l)).2.2 s3 (Int.le_refl _)).2 i2c.toNat (by omega)
                         simp only [hasB] at k1 k2
                         omega
                       · have e : i2c.toNat = (Sy.rows l).length / 2 := by omega
                         rw [e] at g3 g4
                         have t3 := t2.1
                         omega)
                ·
                  first
                  | exact True.intro
                  | rfl
                  | (exfalso
                     obtain ⟨s1, s2, s3, s4⟩ := most_spec (show voE (Sy.rows l) = 0 by omega)
                     obtain ⟨g1, g2, g3, g4, g5, g6⟩ := hi2
                     have t1 := s2 n
                     have t2 := s1 i2d g5 g6
                     by_cases hlt : i2c < ((Sy.rows l).length / 2 : Nat)
                     · have k1 := t2.2 i2c.toNat (by omega)
                       have k2 := (s1 (voR (Sy.rows l)).2.2 s3 (Int.le_refl _)).2 i2c.toNat (by omega)
                       simp only [hasB] at k1 k2
                       omega
                     · have e : i2c.toNat = (Sy.rows l).length / 2 := by omega
                       rw [e] at g3 g4
                       have t3 := t2.1
                       omega)
              ·
                first
                | exact True.intro
                | rfl
                | (exfalso
                   obtain ⟨s1, s2, s3, s4⟩ := most_spec (show voE (Sy.rows l) = 0 by omega)
                   obtain ⟨g1, g2, g3, g4, g5, g6⟩ := hi2
                   have t1 := s2 n
                   have t2 := s1 i2d g5 g6
                   by_cases hlt : i2c < ((Sy.rows l).length / 2 : Nat)
                   · have k1 := t2.2 i2c.toNat (by omega)
                     have k2 := (s1 (voR (Sy.rows l)).2.2 s3 (Int.le_refl _)).2 i2c.toNat (by omega)
                     simp only [hasB] at k1 k2
                     omega
                   · have e : i2c.toNat = (Sy.rows l).length / 2 := by omega
                     rw [e] at g3 g4
                     have t3 := t2.1
                     omega)
theorem wfg_wMost : wfc_wMost.Good Tryd.prog syG (wfE [] [] [] []) := good_of_walk (Γ := ⟨[wec_sure13, wec_give, wbc_vote, wc_has, wec_num], syG, [], [], []⟩) (ρ := wfE [] [] [] []) sym wMost_w rfl (fun _ _ _ _ => (ok_cons (Con.Good.env (Con.Good.up weg_sure13 wfup rfl) _ _ _ _) (ok_cons (Con.Good.env (Con.Good.up weg_give wfup rfl) _ _ _ _) (ok_cons (Con.Good.env (Con.Good.up (Con.Good.up (Con.Good.up (Con.Good.up wbg_vote wcup rfl) wdup rfl) weup rfl) wfup rfl) _ _ _ _) (ok_cons (Con.Good.env (Con.Good.up (Con.Good.up (Con.Good.up (Con.Good.up (Con.Good.up wg_has wbup rfl) wcup rfl) wdup rfl) weup rfl) wfup rfl) _ _ _ _) (ok_cons (Con.Good.env (Con.Good.up weg_num wfup rfl) _ _ _ _) ok_nil)))))) (fun n off l hc hty => wMost_h n off l hc hty)
end Go.Proofs.YtflckmhlobpfiaaDoor
