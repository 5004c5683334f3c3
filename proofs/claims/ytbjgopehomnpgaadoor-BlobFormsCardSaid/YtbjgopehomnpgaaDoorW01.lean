/-
  Layer 1: walks of num and of its statements.
-/
import Derived.Test.YtbjgopehomnpgaaDoorNum
import Derived.Test.YtbjgopehomnpgaaDoorMath
import Derived.ProofKit
import Derived.OpenShut
import Derived.WalkLawsBesides
import Derived.Outline
import Derived.Lib.Hide
import Derived.Deep.QuietTactic
import Derived.BigQuiet
namespace Go.Proofs.YtbjgopehomnpgaaDoor
open Go.RowKit Go.Extern.Stop Go.Stop Go.Extern
set_option linter.unusedVariables false
abbrev errV (n : Int) : Value := .iface 182 (.int .i64 n)
def addP (a b : Int) (w : World) (e : Ending) (w' : World) : Prop := (InR (a + b) ∧ e = .returned (.tuple #[.int .i64 (a + b), .nilIface]) ∧ w = w') ∨ (¬ InR (a + b) ∧ e = .returned (.tuple #[.int .i64 0, errV 2]) ∧ w = w')
def subP (a b : Int) (w : World) (e : Ending) (w' : World) : Prop := (InR (a - b) ∧ e = .returned (.tuple #[.int .i64 (a - b), .nilIface]) ∧ w = w') ∨ (¬ InR (a - b) ∧ e = .returned (.tuple #[.int .i64 0, errV 2]) ∧ w = w')
theorem sub_c (a b : Int) (w : World) (ha : InR a) (hb : InR b) : Calls Tryd.prog 167 #[.int .i64 a, .int .i64 b] w (subP a b w) := by
  by_cases h : InR (a - b)
  all_goals
    go_enter Tryd.func167, Tryd.ntmps167
    go_wp2
    all_goals first | (go_ret2; first | exact Or.inl ⟨h, rfl, rfl⟩ | exact Or.inr ⟨h, rfl, rfl⟩) | (exfalso; omega)

def mulP (a b : Int) (w : World) (e : Ending) (w' : World) : Prop := (InR (a * b) ∧ e = .returned (.tuple #[.int .i64 (a * b), .nilIface]) ∧ w = w') ∨ (¬ InR (a * b) ∧ e = .returned (.tuple #[.int .i64 0, errV 2]) ∧ w = w')
theorem ret2i {a b : Int} {v : Value} (h : a = b) : Ending.returned (.tuple #[.int .i64 a, v]) = Ending.returned (.tuple #[.int .i64 b, v]) := by rw [h]
theorem retT2 {u0 u1 v0 v1 : Value} (h0 : u0 = v0) (h1 : u1 = v1) : Ending.returned (.tuple #[u0, u1]) = Ending.returned (.tuple #[v0, v1]) := by rw [h0, h1]
theorem boolV {p q : Prop} [Decidable p] [Decidable q] (h : p ↔ q) : Value.bool (decide p) = Value.bool (decide q) := by rw [decide_eq_decide.2 h]
def timesP (a b : Int) (w : World) (e : Ending) (w' : World) : Prop := ∃ z n, (InR (a * b) → z = a * b) ∧ e = .returned (.tuple #[.int .i64 z, .bool (decide (InR (a * b)))]) ∧ w' = w.drewN n
def timesQ (a b : Int) (w : World) (e : Ending) (w' : World) : Prop := ∃ z, (InR (a * b) → z = a * b) ∧ e = .returned (.tuple #[.int .i64 z, .bool (decide (InR (a * b)))]) ∧ Below w.heap.size w w'
theorem retT3 {u0 u1 u2 v0 v1 v2 : Value} (h0 : u0 = v0) (h1 : u1 = v1) (h2 : u2 = v2) : Ending.returned (.tuple #[u0, u1, u2]) = Ending.returned (.tuple #[v0, v1, v2]) := by rw [h0, h1, h2]
theorem intV {k : IntKind} {a b : Int} (h : a = b) : Value.int k a = Value.int k b := by rw [h]
def divP (a b : Int) (w : World) (e : Ending) (w' : World) : Prop := e = .returned (.tuple #[.int .i64 (a / b), .int .i64 (a % b), .nilIface]) ∧ Below w.heap.size w w'
theorem div_no (a b : Int) (w : World) (h : b < 1) : Calls Tryd.prog 161 #[.int .i64 a, .int .i64 b] w fun e w' => e = .returned (.tuple #[.int .i64 0, .int .i64 0, errV 1]) ∧ w = w' := by
  go_enter Tryd.func161, Tryd.ntmps161
  go_wp2
  go_ret3
  exact ⟨rfl, rfl⟩
theorem div_ok (a b : Int) (w : World) (ha : InR a) (hb : InR b) (h : 1 ≤ b) : Calls Tryd.prog 161 #[.int .i64 a, .int .i64 b] w (divP a b w) := by
  have hq := tdiv_rng a b ha h
  have hl := div_low a b ha h
  have hh := div_high a b h
  have HL := Lib.hid hl
  have HH := Lib.hid hh
  clear hl hh
  go_enter Tryd.func161, Tryd.ntmps161
  go_wp2
  go_quiet (fail)
  go_wp2
  all_goals try (go_quiet (fail); go_wp2)
  all_goals go_ret3
  · rename_i hr
    exact ⟨retT3 (intV ((IntWalk.wrap64_in _ (HL.out hr).2.2).trans (HL.out hr).1)) (intV (HL.out hr).2.1) rfl, below_drewN (Below.refl _ _) _⟩
  · rename_i hr
    exact ⟨retT3 (intV (HH.out hr).1) (intV (HH.out hr).2) rfl, below_drewN (Below.refl _ _) _⟩
def rsumP (a b : Int) (w : World) (e : Ending) (w' : World) : Prop := (InR (a + b) ∧ e = .returned (.tuple #[.int .i64 (a + b), .int .i64 0]) ∧ w = w') ∨ (9223372036854775807 < a + b ∧ e = .returned (.tuple #[.int .i64 0, .int .i64 1]) ∧ w = w') ∨ (a + b < -9223372036854775808 ∧ e = .returned (.tuple #[.int .i64 0, .int .i64 (-1)]) ∧ w = w')
def rlessP (a b : Int) (w : World) (e : Ending) (w' : World) : Prop := (InR (a - b) ∧ e = .returned (.tuple #[.int .i64 (a - b), .int .i64 0]) ∧ w = w') ∨ (9223372036854775807 < a - b ∧ e = .returned (.tuple #[.int .i64 0, .int .i64 1]) ∧ w = w') ∨ (a - b < -9223372036854775808 ∧ e = .returned (.tuple #[.int .i64 0, .int .i64 (-1)]) ∧ w = w')
theorem rless_c (a b : Int) (w : World) (ha : InR a) (hb : InR b) : Calls Tryd.prog 168 #[.int .i64 a, .int .i64 b] w (rlessP a b w) := by
  have h : InR (a - b) ∨ 9223372036854775807 < a - b ∨ a - b < -9223372036854775808 := by omega
  rcases h with h | h | h
  all_goals
    go_enter Tryd.func168, Tryd.ntmps168
    go_wp2
    all_goals first | (go_ret2; first | exact Or.inl ⟨h, rfl, rfl⟩ | exact Or.inr (Or.inl ⟨h, rfl, rfl⟩) | exact Or.inr (Or.inr ⟨h, rfl, rfl⟩)) | (exfalso; omega)
def addsatP (a b : Int) (w : World) (e : Ending) (w' : World) : Prop := (InR (a + b) ∧ e = .returned (.int .i64 (a + b)) ∧ w = w') ∨ (9223372036854775807 < a + b ∧ e = .returned (.int .i64 9223372036854775807) ∧ w = w') ∨ (a + b < -9223372036854775808 ∧ e = .returned (.int .i64 (-9223372036854775808)) ∧ w = w')
def subsatP (a b : Int) (w : World) (e : Ending) (w' : World) : Prop := (InR (a - b) ∧ e = .returned (.int .i64 (a - b)) ∧ w = w') ∨ (9223372036854775807 < a - b ∧ e = .returned (.int .i64 9223372036854775807) ∧ w = w') ∨ (a - b < -9223372036854775808 ∧ e = .returned (.int .i64 (-9223372036854775808)) ∧ w = w')
theorem subsat_c (a b : Int) (w : World) (ha : InR a) (hb : InR b) : Calls Tryd.prog 198 #[.int .i64 a, .int .i64 b] w (subsatP a b w) := by
  have h : InR (a - b) ∨ 9223372036854775807 < a - b ∨ a - b < -9223372036854775808 := by omega
  rcases h with h | h | h
  all_goals
    go_enter Tryd.func198, Tryd.ntmps198
    go_wp2
    all_goals first | (go_ret; first | exact Or.inl ⟨h, rfl, rfl⟩ | exact Or.inr (Or.inl ⟨h, rfl, rfl⟩) | exact Or.inr (Or.inr ⟨h, rfl, rfl⟩)) | (exfalso; omega)
end Go.Proofs.YtbjgopehomnpgaaDoor
