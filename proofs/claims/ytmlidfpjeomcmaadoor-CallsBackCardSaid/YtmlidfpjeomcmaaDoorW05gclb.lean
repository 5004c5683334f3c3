/-
 Layer 5: the contracts, once more, in the forms that the statements meet.
-/
import Derived.Test.YtmlidfpjeomcmaaDoorW05fclb
namespace Go.Proofs.YtmlidfpjeomcmaaDoor
open Go.RowKit Go.Extern.Stop Go.Stop Go.Extern
set_option linter.unusedVariables false
set_option linter.unusedSimpArgs false
theorem get_put (v n : Nat) (r : List UInt8) (sh : Bool) : getV (leB v n ++ r) n = v % 256 ^ n ∧ getL (leB v n ++ r) n = r ∧ getS (leB v n ++ r) sh n = sh := by
 have hl : n ≤ (leB v n ++ r).length := by simp [leB_length]
 unfold getV getL getS
 simp only [if_pos hl]
 exact ⟨by rw [List.take_left' (leB_length v n), leV_leB], List.drop_left' (leB_length v n), trivial⟩
theorem get_txt (s : ByteArray) (r : List UInt8) (sh : Bool) (hs : s.size ≤ 255) : getT (txt s ++ r) = sB s ∧ getTL (txt s ++ r) = r ∧ getTS (txt s ++ r) sh = sh := by
 have e : txt s ++ r = leB s.size 1 ++ (sB s ++ r) := by simp [txt]
 obtain ⟨h1, h2, h3⟩ := get_put s.size 1 (sB s ++ r) sh
 have hm : s.size % 256 ^ 1 = s.size := Nat.mod_eq_of_lt (by have : 256 ^ 1 = 256 := by decide
                                                             omega)
 rw [hm] at h1
 have hle : s.size ≤ (sB s ++ r).length := by simp [sB_length]
 unfold getT getTL getTS
 rw [e, h1, h2, h3]
 unfold getL getS
 simp only [if_pos hle]
 exact ⟨List.take_left' (sB_length s), List.drop_left' (sB_length s), trivial⟩
end Go.Proofs.YtmlidfpjeomcmaaDoor
