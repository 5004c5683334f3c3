/-
  A slice among a law's arguments, opened: where it lies, and what its cells hold.
-/
import Derived.Test.YtflckmhlobpfiaaDoorSx
import Derived.Deep.Slices
import Derived.Deep.Fields
import Derived.ChangeSame
import Derived.OpenShut
namespace Go.Proofs.YtflckmhlobpfiaaDoor
open Go Go.ChangeShapes Go.WideShapes Go.RowKit Go.Deep Go.Proofs.YtflckmhlobpfiaaDoor.Sx
set_option linter.unusedVariables false
theorem add_cell {w : World} {a : Addr} {m : Nat} {v : Value} (h : w.cell? (a.add m) = some v) : w.cell? ⟨a.block, a.off + m, none⟩ = some v := by
  by_cases h0 : m = 0
  · subst h0
    have ha : a.add 0 = a := rfl
    rw [ha] at h
    obtain ⟨b, o, sp⟩ := a
    cases sp with
    | none => exact h
    | some x =>
      exfalso
      unfold World.cell? at h
      simp at h
      split at h <;> simp at h
  · have ha : a.add m = ⟨a.block, a.off + m, none⟩ := by unfold Addr.add; rw [if_neg h0]
    rw [← ha]
    exact h
section
variable {H : Type} {enc : TypeId × Value → H} {P : Program} {w : World} {base : Nat} {spare : Nat → Bool} {held : Bool}
theorem slc_open {ks : List CK} {t e : TypeId} {fuel : Nat} {v : Value} {x : DataW H × List MemPlace} (ht : P.underlying t = some (.slice e)) (hC : P.cellsOf e = ks.length) (hpos : 0 < ks.length)
    (hq : ∀ (n : Nat) (cs' : List Value) (y : DataW H × List MemPlace), cs'.length = ks.length → DataW.trod enc P w base spare held n e cs' = some y → ∀ (j : Nat) k, ks[j]? = some k → k.fits (cs'.getD j Go.undef))
    (h : DataW.trod enc P w base spare held fuel t [v] = some x) :
    ∃ s : Slc, v = s.val ∧ SlOk w s ks ∧ s.len ≤ 9223372036854775807 ∧ (∀ i, i < s.len → ∃ (n : Nat) (y : DataW H × List MemPlace) (cs' : List Value), DataW.trod enc P w base spare held n e cs' = some y ∧ cs'.length = ks.length ∧ ∀ j, s.cont i j = cs'.getD j Go.undef) ∧ (∀ i, ¬ i < s.len → ∀ j, s.cont i j = Go.undef) := by
  rcases open_slice ht h with ⟨h0, _⟩ | ⟨a, len, cap, m, n, D, Pl, hcs, hb, hl, hm, hmm, hx, hi⟩
  · obtain rfl := (List.cons.inj h0).1
    exact ⟨⟨0, 0, true, 0, 0, ks.length, fun _ _ => Go.undef, ⟨0, 0, none⟩⟩, rfl, ⟨rfl, fun i hi => absurd hi (Nat.not_lt_zero i)⟩, by simp, fun i hi => absurd hi (Nat.not_lt_zero i), fun _ _ _ => rfl⟩
  · obtain rfl := (List.cons.inj hcs).1
    have hlm : len ≤ m := by rw [hmm]; split <;> omega
    have hch : ∀ i, i < len → ∃ cs' : List Value, w.cells? base (a.add (i * P.cellsOf e)) (P.cellsOf e) = some cs' ∧ DataW.trod enc P w base spare held n e cs' = some (D i, Pl i) := fun i h => hi i (by omega)
    obtain ⟨f, hf⟩ := choose_lt hch
    have hlen : ∀ i, i < len → (f i).length = ks.length := fun i h => by
      obtain ⟨_, hcl, _⟩ := World.cells?_some (hf i h).1
      rw [hcl, hC]
    refine ⟨⟨a.block, a.off, false, len, cap, ks.length, fun i j => if i < len then (f i).getD j Go.undef else Go.undef, a⟩, ?_, ⟨rfl, ?_⟩, ?_, ?_, ?_⟩
    · by_cases h0 : len = 0
      · simp [Slc.val, h0]
      · obtain ⟨_, hcl, hat⟩ := World.cells?_some (hf 0 (by omega)).1
        have h1 := hat 0 (by omega)
        have hsp : a.spot = none := by
          have h2 : (f 0)[0]? = some ((f 0)[0]'(by rw [hlen 0 (by omega)]; omega)) := List.getElem?_eq_getElem _
          rw [h2] at h1
          have h3 : (a.add (0 * P.cellsOf e)).add 0 = a := by simp [Addr.add]
          rw [h3] at h1
          obtain ⟨b, o, sp⟩ := a
          cases sp with
          | none => rfl
          | some x =>
            exfalso
            unfold World.cell? at h1
            simp at h1
            split at h1 <;> simp at h1
        obtain ⟨b, o, sp⟩ := a
        simp only at hsp
        subst hsp
        simp [Slc.val, h0]
    · intro i hi'
      refine ⟨rfl, fun j k hk => ?_⟩
      have hj : j < ks.length := by
        rcases Nat.lt_or_ge j ks.length with h | h
        · exact h
        · rw [List.getElem?_eq_none h] at hk; cases hk
      have hi2 : i < len := hi'
      obtain ⟨_, hcl, hat⟩ := World.cells?_some (hf i hi2).1
      have h1 := hat j (by rw [hC]; exact hj)
      have hv : (f i)[j]? = some ((f i)[j]'(by rw [hlen i hi2]; exact hj)) := List.getElem?_eq_getElem _
      rw [hv, Go.Deep.add_add] at h1
      have hg : (f i).getD j Go.undef = (f i)[j]'(by rw [hlen i hi2]; exact hj) := by rw [List.getD_eq_getElem?_getD, hv]; rfl
      have h2 := add_cell h1
      refine ⟨?_, ?_, ?_⟩
      · have h5 := World.block_lt_of_cell? w ⟨a.block, a.off + (i * P.cellsOf e + j), none⟩ h2
        exact h5
      · show w.cell? ⟨a.block, a.off + i * ks.length + j, none⟩ = some (if i < len then (f i).getD j Go.undef else Go.undef)
        rw [if_pos hi2, hg]
        have e1 : a.off + i * ks.length + j = a.off + (i * P.cellsOf e + j) := by rw [hC]; omega
        rw [e1]
        exact h2
      · show k.fits (if i < len then (f i).getD j Go.undef else Go.undef)
        rw [if_pos hi2]
        exact hq _ _ _ (hlen i hi2) (hf i hi2).2 j k hk
    · simp only [maxLen] at hm; show len ≤ _; omega
    · intro i hi'
      have hi2 : i < len := hi'
      exact ⟨n, _, f i, (hf i hi2).2, hlen i hi2, fun j => if_pos hi2⟩
    · intro i hi' j
      exact if_neg hi'
theorem slc_open_int {q : IntKind} {t e : TypeId} {fuel : Nat} {v : Value} {x : DataW H × List MemPlace} (ht : P.underlying t = some (.slice e)) (he : P.underlying e = some (.int q)) (hC : P.cellsOf e = 1)
    (h : DataW.trod enc P w base spare held fuel t [v] = some x) :
    ∃ s : Slc, v = s.val ∧ SlOk w s [.int q] ∧ s.len ≤ 9223372036854775807 ∧ ∀ i, (Lit.int q (intOf (s.cont i 0))).wf = true := by
  have one : ∀ (n : Nat) (cs' : List Value) (y : DataW H × List MemPlace), cs'.length = 1 → DataW.trod enc P w base spare held n e cs' = some y → ∃ z, cs'.getD 0 Go.undef = .int q z ∧ (Lit.int q z).wf = true := fun n cs' y hl h => by
    match cs', hl with
    | [c], _ =>
      obtain ⟨z, hc, _, hz⟩ := Go.DataW.trod_int he h
      obtain rfl := (List.cons.inj hc).1
      exact ⟨z, rfl, hz⟩
  obtain ⟨s, h1, h2, h3, h4, h5⟩ := slc_open (ks := [.int q]) ht hC (Nat.zero_lt_one) (fun n cs' y hl h j k hk => by
    obtain ⟨z, hz, _⟩ := one n cs' y hl h
    match j, hk with
    | 0, hk => obtain rfl := Option.some.inj hk; rw [hz]; rfl) h
  refine ⟨s, h1, h2, h3, fun i => ?_⟩
  by_cases hi : i < s.len
  · obtain ⟨n, y, cs', g1, g2, g3⟩ := h4 i hi
    obtain ⟨z, hz, hw⟩ := one n cs' y g2 g1
    rw [g3 0, hz]
    exact hw
  · rw [h5 i hi 0]
    cases q <;> rfl
theorem slc_open_str {t e : TypeId} {fuel : Nat} {v : Value} {x : DataW H × List MemPlace} (ht : P.underlying t = some (.slice e)) (he : P.underlying e = some .string) (hC : P.cellsOf e = 1)
    (h : DataW.trod enc P w base spare held fuel t [v] = some x) :
    ∃ s : Slc, v = s.val ∧ SlOk w s [.str] ∧ s.len ≤ 9223372036854775807 := by
  obtain ⟨s, h1, h2, h3, h4, h5⟩ := slc_open (ks := [.str]) ht hC (Nat.zero_lt_one) (fun n cs' y hl h j k hk => by
    match cs', hl with
    | [c], _ =>
      match j, hk with
      | 0, hk =>
        obtain rfl := Option.some.inj hk
        obtain ⟨z, hc, _, _⟩ := Go.DataW.trod_string he h
        obtain rfl := (List.cons.inj hc).1
        rfl) h
  exact ⟨s, h1, h2, h3⟩
end
end Go.Proofs.YtflckmhlobpfiaaDoor
