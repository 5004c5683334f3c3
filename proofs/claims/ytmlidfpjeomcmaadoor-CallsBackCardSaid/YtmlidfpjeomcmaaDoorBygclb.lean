/-
 Sums of bytes among the second engine's contracts; what bytes are.
-/
import Derived.Test.YtmlidfpjeomcmaaDoorRdnclb
import Derived.Test.YtmlidfpjeomcmaaDoorBytclb
import Derived.Test.YtmlidfpjeomcmaaDoorCrcmclb
import Derived.Test.YtmlidfpjeomcmaaDoorW01clb
import Derived.LoopTactic
import Derived.Laws.BitsAllLaws
import Derived.Deep.RegionWith
import Derived.RegionTactic
namespace Go.Proofs.YtmlidfpjeomcmaaDoor
open Go.RowKit Go.Extern.Stop Go.Stop Go.Extern
set_option linter.unusedVariables false
set_option linter.unusedSimpArgs false
def isB (l : List Value) : Prop := ∀ x ∈ l, ∃ n : Int, x = .int .u8 n ∧ 0 ≤ n ∧ n ≤ 255
theorem isB_of {c : Value} (ht : Sy.typ (.sl KB) c) (hk : ∀ x ∈ Sy.rows c, inK x) : isB (Sy.rows c) := by
 obtain ⟨_, n, _, h2, h3⟩ := ht
 intro x hx
 obtain ⟨i, hi, rfl⟩ := List.mem_iff_getElem.1 hx
 have hn : (Sy.rows c).length = n := by rw [h2]; exact Nat.mul_one n
 obtain ⟨g4, _⟩ := h3 i (by omega)
 have e1 : i * KB.wd = i := Nat.mul_one i
 rw [e1] at g4
 have hget : (Sy.rows c).getD i Go.undef = (Sy.rows c)[i] := by rw [List.getD_eq_getElem?_getD, List.getElem?_eq_getElem hi]; rfl
 rw [hget] at g4
 exact ⟨_, g4, bounds_u8 (hk _ (List.getElem_mem hi) _ _ g4)⟩
theorem isB_inK {l : List Value} (h : isB l) : ∀ x ∈ l, inK x := by
 intro x hx k n e
 obtain ⟨m, rfl, h0, h1⟩ := h x hx
 cases e
 simp [Lit.wf, IntKind.min, IntKind.max, IntKind.signed, IntKind.bits]
 omega
theorem isB.app {a b : List Value} (h : isB a) (k : isB b) : isB (a ++ b) := fun x hx => (List.mem_append.1 hx).elim (h x) (k x)
theorem isB.nil : isB [] := fun x hx => by cases hx
theorem isB.cons {n : Int} {l : List Value} (h0 : 0 ≤ n) (h1 : n ≤ 255) (h : isB l) : isB (.int .u8 n :: l) := fun x hx => by
 rcases List.mem_cons.1 hx with rfl | hx
 · exact ⟨n, rfl, h0, h1⟩
 · exact h x hx
theorem isB.take {l : List Value} (h : isB l) (n : Nat) : isB (l.take n) := fun x hx => h x (List.mem_of_mem_take hx)
theorem isB.drop {l : List Value} (h : isB l) (n : Nat) : isB (l.drop n) := fun x hx => h x (List.mem_of_mem_drop hx)
theorem isB.by {l : List Value} (h : isB l) : (byL l).map bV = l := bV_byL h
theorem isB_bV (l : List UInt8) : isB (l.map bV) := fun x hx => by
 obtain ⟨y, _, rfl⟩ := List.mem_map.1 hx
 have := y.toNat_lt
 exact ⟨_, rfl, by omega, by omega⟩
theorem isB.get {l : List Value} (h : isB l) {i : Nat} (hi : i < l.length) : l.getD i Go.undef = .int .u8 (Go.RowKit.intOf (l.getD i Go.undef)) ∧ 0 ≤ Go.RowKit.intOf (l.getD i Go.undef) ∧ Go.RowKit.intOf (l.getD i Go.undef) ≤ 255 := by
 have hget : l.getD i Go.undef = l[i] := by rw [List.getD_eq_getElem?_getD, List.getElem?_eq_getElem hi]; rfl
 rw [hget]
 obtain ⟨n, e, h0, h1⟩ := h _ (List.getElem_mem hi)
 rw [e]
 exact ⟨rfl, h0, h1⟩
theorem byL_app (a b : List Value) : byL (a ++ b) = byL a ++ byL b := List.map_append ..
theorem byL_drop (l : List Value) (n : Nat) : byL (l.drop n) = (byL l).drop n := List.map_drop ..
def numB (v : Int) : Nat → List Value
 | 0 => []
 | n + 1 => .int .u8 (v % 256) :: numB (v / 256) n
theorem isB_numB : ∀ (n : Nat) (v : Int), isB (numB v n)
 | 0, _ => isB.nil
 | n + 1, v => isB.cons (by omega) (by omega) (isB_numB n _)
theorem numB_len : ∀ (n : Nat) (v : Int), (numB v n).length = n
 | 0, _ => rfl
 | n + 1, v => by simp [numB, numB_len n]
end Go.Proofs.YtmlidfpjeomcmaaDoor
