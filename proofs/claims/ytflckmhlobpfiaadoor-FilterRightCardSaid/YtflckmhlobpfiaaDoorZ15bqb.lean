import Derived.Test.YtflckmhlobpfiaaDoorSycqb
import Derived.Test.YtflckmhlobpfiaaDoorZ15qb
/-
  Layer 15 by the second engine: the reference puts an entry.
-/
namespace Go.Proofs.YtflckmhlobpfiaaDoor
open Go.RowKit Go.Extern.Stop Go.Stop Go.Extern Go.Proofs.YtflckmhlobpfiaaDoor.Sy
set_option linter.unusedVariables false
set_option linter.unusedSimpArgs false
abbrev rowF (l : List Value) (k : Nat) : List Value := [l.getD (k * 4) Go.undef, l.getD (k * 4 + 1) Go.undef, l.getD (k * 4 + 2) Go.undef, l.getD (k * 4 + 3) Go.undef]
theorem take4 {l : List Value} {n : Nat} (h : n * 4 + 3 < l.length) : l.take ((n + 1) * 4) = l.take (n * 4) ++ rowF l n := by
  have e : ∀ k, k < l.length → l.take (k + 1) = l.take k ++ [l.getD k Go.undef] := fun k hk => by
    rw [List.take_add_one, List.getD_eq_getElem?_getD, List.getElem?_eq_getElem hk]; rfl
  rw [show (n + 1) * 4 = n * 4 + 1 + 1 + 1 + 1 by omega, e _ (by omega), e _ (by omega), e _ (by omega), e _ (by omega)]
  simp only [List.append_assoc, List.cons_append, List.nil_append]
theorem rowF_int {l : Value} (h : typ (.sl KE) l) {k : Nat} (hk : k < (Sy.rows l).length / 4) : [Value.int .i64 (Go.RowKit.intOf ((Sy.rows l).getD (k * 4) Go.undef)), Value.int .i64 (Go.RowKit.intOf ((Sy.rows l).getD (k * 4 + 1) Go.undef)), Value.int .i64 (Go.RowKit.intOf ((Sy.rows l).getD (k * 4 + 2) Go.undef)), Value.int .i64 (Go.RowKit.intOf ((Sy.rows l).getD (k * 4 + 3) Go.undef))] = rowF (Sy.rows l) k := by
  obtain ⟨h1, h2, h3, h4⟩ := typ_row4 h hk
  rw [← h1, ← h2, ← h3, ← h4]
theorem src_mono {l : List Value} {N : Nat} (ho : okF l N = true) : ∀ {i j : Nat}, j < i → i < N → Go.RowKit.intOf (l.getD (j * 4) Go.undef) < Go.RowKit.intOf (l.getD (i * 4) Go.undef)
  | 0, _, h, _ => by omega
  | i + 1, j, h, hi => by
    have h1 := (fineE_iff.1 (okF_get ho hi)).1
    have e : leastS l (i + 1) = Go.RowKit.intOf (l.getD (i * 4) Go.undef) + 1 := rfl
    rcases Nat.lt_succ_iff_lt_or_eq.1 h with h2 | rfl
    · have := src_mono ho h2 (show i < N by omega)
      omega
    · omega
theorem inF_spec (l : List Value) (s : Int) : inF l s ≤ l.length / 4 ∧ (∀ j, j < inF l s → Go.RowKit.intOf (l.getD (j * 4) Go.undef) < s) ∧ (inF l s < l.length / 4 → s ≤ Go.RowKit.intOf (l.getD (inF l s * 4) Go.undef)) := by
  unfold inF
  rcases ixF_spec l s (l.length / 4) with ⟨h1, h2⟩ | ⟨k, h1, h2, h3, h4⟩
  · rw [if_pos (by omega)]
    exact ⟨Nat.le_refl _, h2, fun h => absurd h (Nat.lt_irrefl _)⟩
  · rw [if_neg (by omega), h2]
    simp only [Int.toNat_natCast]
    exact ⟨by omega, h4, fun _ => h3⟩
theorem eqF_spec (l : List Value) (s : Int) : (eqF l s = 1 ∧ inF l s < l.length / 4 ∧ Go.RowKit.intOf (l.getD (inF l s * 4) Go.undef) = s) ∨ (eqF l s = 0 ∧ ¬ (inF l s < l.length / 4 ∧ Go.RowKit.intOf (l.getD (inF l s * 4) Go.undef) = s)) := by
  unfold eqF
  by_cases h : inF l s < l.length / 4 ∧ Go.RowKit.intOf (l.getD (inF l s * 4) Go.undef) = s
  · rw [if_pos h]; exact .inl ⟨rfl, h⟩
  · rw [if_neg h]; exact .inr ⟨rfl, h⟩
/-- what is put so far -/
def rpL (l : List Value) (a b c d : Int) (k : Nat) : List Value := if inF l a < k then l.take (inF l a * 4) ++ ent a b c d ++ (l.take (k * 4)).drop ((inF l a + eqF l a) * 4) else l.take (k * 4)
noncomputable def rpB (v : Value) (l : List Value) (a b c d : Int) (k : Nat) : Bool := eqV v (.tuple (rpL l a b c d k).toArray)
noncomputable def fbI : Nat → List Value → Int
  | i, l => faI i l
noncomputable def fbB : Nat → List Value → Bool
  | 6, [v, l, .int _ a, .int _ b, .int _ c, .int _ d, .int _ k] => rpB v (rows l) a b c d k.toNat
  | 7, [l, .int _ a, .int _ k] => decide (inF (rows l) a < k.toNat)
  | i, l => faB i l
noncomputable def fbV : Nat → List Value → Value
  | i, l => faV i l
noncomputable abbrev fbE (iv : List Int) (bv : List Bool) (vv : List Value) (sv : List ByteArray) : Env := { iv := iv, bv := bv, vv := vv, sv := sv, fi := fbI, fb := fbB, fv := fbV, et := 141 }
theorem fbup : Agree 21 6 1 (faE [] [] [] []) (fbE [] [] [] []) := ⟨rfl, (by
    intro f hf
    funext l
    show fbI f l = faI f l
    unfold fbI
    split <;> first | rfl | omega), (by
    intro f hf
    funext l
    show fbB f l = faB f l
    unfold fbB
    split <;> first | rfl | omega), (by
    intro f hf
    funext l
    show fbV f l = faV f l
    unfold fbV
    split <;> first | rfl | omega)⟩
end Go.Proofs.YtflckmhlobpfiaaDoor
