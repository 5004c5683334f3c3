/-
 Layer 10 behind the blobs: what the laws hand over.
-/
import Derived.Test.YtikfgnmljpjnbaaDoorSycpob
import Derived.Test.YtikfgnmljpjnbaaDoorZzcpob
import Derived.Test.YtikfgnmljpjnbaaDoorNumpob
namespace Go.Proofs.YtikfgnmljpjnbaaDoor
open Go.RowKit Go.Extern.Stop Go.Stop Go.Extern Go.Proofs.YtikfgnmljpjnbaaDoor.Sy
set_option linter.unusedVariables false
set_option linter.unusedSimpArgs false
noncomputable def eqV (a b : Value) : Bool := @decide (a = b) (Classical.propDecidable _)
theorem eqV_iff {a b : Value} : eqV a b = true ↔ a = b := @decide_eq_true_iff _ (Classical.propDecidable _)
theorem zrows_tup (a : Array Value) : Sy.rows (.tuple a) = a.toList := rfl
def tkV (l : Value) (n : Nat) : Value := .tuple ((Sy.rows l).take (n * 3)).toArray
theorem typ_all {l : Value} (h : typ (.sl KR) l) {n : Nat} (hn : (Sy.rows l).length = n * 3) : tkV l n = l := by
 unfold tkV
 rw [← hn, List.take_length]
 exact h.1.symm
theorem typ_row {l : Value} (h : typ (.sl KR) l) {k : Nat} (hk : k < (Sy.rows l).length / 3) : (Sy.rows l).getD (k * 3) Go.undef = .int .i64 (Go.RowKit.intOf ((Sy.rows l).getD (k * 3) Go.undef)) ∧ (Sy.rows l).getD (k * 3 + 1) Go.undef = .int .i64 (Go.RowKit.intOf ((Sy.rows l).getD (k * 3 + 1) Go.undef)) ∧ (Sy.rows l).getD (k * 3 + 2) Go.undef = .string (strOf ((Sy.rows l).getD (k * 3 + 2) Go.undef)) := by
 obtain ⟨_, n, h1, h2, h3⟩ := h
 have : n = (Sy.rows l).length / 3 := by rw [h2]; exact (Nat.mul_div_cancel n (by decide)).symm
 obtain ⟨g1, g2, g3, _⟩ := h3 k (by omega)
 exact ⟨g1, g2, g3⟩
theorem take3 {l : List Value} {n : Nat} (h : n * 3 + 2 < l.length) : l.take ((n + 1) * 3) = l.take (n * 3) ++ [l.getD (n * 3) Go.undef, l.getD (n * 3 + 1) Go.undef, l.getD (n * 3 + 2) Go.undef] := by
 have e : ∀ k, k < l.length → l.take (k + 1) = l.take k ++ [l.getD k Go.undef] := fun k hk => by
   rw [List.take_add_one, List.getD_eq_getElem?_getD, List.getElem?_eq_getElem hk]; rfl
 rw [show (n + 1) * 3 = n * 3 + 1 + 1 + 1 by omega, e _ (by omega), e _ (by omega), e _ (by omega)]
 simp only [List.append_assoc, List.cons_append, List.nil_append]
noncomputable def zzdI : Nat → List Value → Int
 | i, l => zzcI i l
noncomputable def zzdB : Nat → List Value → Bool
 | 12, [x, y] => eqV x y
 | 13, [x, y, .int _ n] => eqV x (tkV y n.toNat)
 | i, l => zzcB i l
noncomputable def zzdV : Nat → List Value → Value
 | i, l => zzcV i l
noncomputable abbrev zzdE (iv : List Int) (bv : List Bool) (vv : List Value) (sv : List ByteArray) : Env := { iv := iv, bv := bv, vv := vv, sv := sv, fi := zzdI, fb := zzdB, fv := zzdV, et := 101 }
set_option maxHeartbeats 8000000 in
theorem zzdup : Agree 19 12 14 (zzcE [] [] [] []) (zzdE [] [] [] []) := ⟨rfl, (by
   intro f hf
   funext l
   show zzdI f l = zzcI f l
   unfold zzdI
   split <;> first | rfl | omega), (by
   intro f hf
   funext l
   show zzdB f l = zzcB f l
   unfold zzdB
   split <;> first | rfl | omega), (by
   intro f hf
   funext l
   show zzdV f l = zzcV f l
   unfold zzdV
   split <;> first | rfl | omega)⟩
end Go.Proofs.YtikfgnmljpjnbaaDoor
