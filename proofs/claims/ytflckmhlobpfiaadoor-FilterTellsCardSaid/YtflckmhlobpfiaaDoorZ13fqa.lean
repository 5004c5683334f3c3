import Derived.Test.YtflckmhlobpfiaaDoorSycqa
import Derived.Test.YtflckmhlobpfiaaDoorZ13eqa
import Derived.Test.YtflckmhlobpfiaaDoorSyoqa
/-
  Layer 13 by the second engine: SpanMost.
-/
namespace Go.Proofs.YtflckmhlobpfiaaDoor
open Go.RowKit Go.Extern.Stop Go.Stop Go.Extern Go.Proofs.YtflckmhlobpfiaaDoor.Sy
set_option linter.unusedVariables false
set_option linter.unusedSimpArgs false
noncomputable def okR (l : List Value) : Bool := @decide (∀ x ∈ l, inK x) (Classical.propDecidable _)
theorem okR_iff {l : List Value} : okR l = true ↔ ∀ x ∈ l, inK x := @decide_eq_true_iff _ (Classical.propDecidable _)
theorem okR_at {l : List Value} (h : okR l = true) {k : Nat} (hk : k < l.length) (ht : l.getD k Go.undef = .int .i64 (Go.RowKit.intOf (l.getD k Go.undef))) : -9223372036854775808 ≤ Go.RowKit.intOf (l.getD k Go.undef) ∧ Go.RowKit.intOf (l.getD k Go.undef) ≤ 9223372036854775807 := by
  have hm : l.getD k Go.undef ∈ l := by rw [List.getD_eq_getElem?_getD, List.getElem?_eq_getElem hk]; exact List.getElem_mem hk
  exact bounds_i64 (okR_iff.1 h _ hm _ _ ht)
noncomputable def wfI : Nat → List Value → Int
  | i, l => weI i l
noncomputable def wfB : Nat → List Value → Bool
  | 4, [l] => okR (rows l)
  | i, l => weB i l
noncomputable def wfV : Nat → List Value → Value
  | i, l => weV i l
noncomputable abbrev wfE (iv : List Int) (bv : List Bool) (vv : List Value) (sv : List ByteArray) : Env := { iv := iv, bv := bv, vv := vv, sv := sv, fi := wfI, fb := wfB, fv := wfV, et := 141 }
theorem wfup : Agree 16 4 0 (weE [] [] [] []) (wfE [] [] [] []) := ⟨rfl, (by
    intro f hf
    funext l
    show wfI f l = weI f l
    unfold wfI
    split <;> first | rfl | omega), (by
    intro f hf
    funext l
    show wfB f l = weB f l
    unfold wfB
    split <;> first | rfl | omega), (by
    intro f hf
    funext l
    show wfV f l = weV f l
    unfold wfV
    split <;> first | rfl | omega)⟩
end Go.Proofs.YtflckmhlobpfiaaDoor
