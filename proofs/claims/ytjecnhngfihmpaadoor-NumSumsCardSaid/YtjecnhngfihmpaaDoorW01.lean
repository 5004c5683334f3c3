/-
  Layer 1: walks of num and of its statements.
-/
import Derived.Test.YtjecnhngfihmpaaDoorNum
import Derived.Test.YtjecnhngfihmpaaDoorMath
import Derived.ProofKit
import Derived.OpenShut
import Derived.WalkLawsBesides
import Derived.Outline
import Derived.Lib.Hide
import Derived.Deep.QuietTactic
import Derived.BigQuiet
namespace Go.Proofs.YtjecnhngfihmpaaDoor
open Go.RowKit Go.Extern.Stop Go.Stop Go.Extern
set_option linter.unusedVariables false
abbrev errV (n : Int) : Value := .iface 110 (.int .i64 n)
def addP (a b : Int) (w : World) (e : Ending) (w' : World) : Prop := (InR (a + b) ∧ e = .returned (.tuple #[.int .i64 (a + b), .nilIface]) ∧ w = w') ∨ (¬ InR (a + b) ∧ e = .returned (.tuple #[.int .i64 0, errV 2]) ∧ w = w')
theorem add_c (a b : Int) (w : World) (ha : InR a) (hb : InR b) : Calls Tryd.prog 15 #[.int .i64 a, .int .i64 b] w (addP a b w) := by
  by_cases h : InR (a + b)
  all_goals
    go_enter Tryd.func15, Tryd.ntmps15
    go_wp2
    all_goals first | (go_ret2; first | exact Or.inl ⟨h, rfl, rfl⟩ | exact Or.inr ⟨h, rfl, rfl⟩) | (exfalso; omega)
def subP (a b : Int) (w : World) (e : Ending) (w' : World) : Prop := (InR (a - b) ∧ e = .returned (.tuple #[.int .i64 (a - b), .nilIface]) ∧ w = w') ∨ (¬ InR (a - b) ∧ e = .returned (.tuple #[.int .i64 0, errV 2]) ∧ w = w')
theorem sub_c (a b : Int) (w : World) (ha : InR a) (hb : InR b) : Calls Tryd.prog 16 #[.int .i64 a, .int .i64 b] w (subP a b w) := by
  by_cases h : InR (a - b)
  all_goals
    go_enter Tryd.func16, Tryd.ntmps16
    go_wp2
    all_goals first | (go_ret2; first | exact Or.inl ⟨h, rfl, rfl⟩ | exact Or.inr ⟨h, rfl, rfl⟩) | (exfalso; omega)

def mulP (a b : Int) (w : World) (e : Ending) (w' : World) : Prop := (InR (a * b) ∧ e = .returned (.tuple #[.int .i64 (a * b), .nilIface]) ∧ w = w') ∨ (¬ InR (a * b) ∧ e = .returned (.tuple #[.int .i64 0, errV 2]) ∧ w = w')
theorem ret2i {a b : Int} {v : Value} (h : a = b) : Ending.returned (.tuple #[.int .i64 a, v]) = Ending.returned (.tuple #[.int .i64 b, v]) := by rw [h]
set_option maxHeartbeats 1000000 in
theorem mul_c (a b : Int) (w : World) (ha : InR a) (hb : InR b) : Calls Tryd.prog 17 #[.int .i64 a, .int .i64 b] w (mulP a b w) := by
  by_cases b0 : b = 0
  · subst b0
    have h : InR (a * 0) := by omega
    go_enter Tryd.func17, Tryd.ntmps17
    go_wp2
    all_goals first | (go_ret2; first | exact Or.inl ⟨h, rfl, rfl⟩ | exact Or.inr ⟨h, rfl, rfl⟩ | exact Or.inl ⟨h, ret2i (by omega), rfl⟩) | (exfalso; omega)
  by_cases b1 : b = -1
  · subst b1
    by_cases am : a = -9223372036854775808
    · subst am
      have h : ¬ InR (-9223372036854775808 * -1) := by omega
      go_enter Tryd.func17, Tryd.ntmps17
      go_wp2
      all_goals first | (go_ret2; first | exact Or.inl ⟨h, rfl, rfl⟩ | exact Or.inr ⟨h, rfl, rfl⟩ | exact Or.inl ⟨h, ret2i (by omega), rfl⟩) | (exfalso; omega)
    · have h : InR (a * -1) := by omega
      have hm : -9223372036854775807 ≤ a := by omega
      go_enter Tryd.func17, Tryd.ntmps17
      go_wp2
      all_goals first | (go_ret2; first | exact Or.inl ⟨h, rfl, rfl⟩ | exact Or.inr ⟨h, rfl, rfl⟩ | exact Or.inl ⟨h, ret2i (by omega), rfl⟩) | (exfalso; omega)
  by_cases a1 : a = -1
  · subst a1
    by_cases bm : b = -9223372036854775808
    · subst bm
      have h : ¬ InR (-1 * -9223372036854775808) := by omega
      go_enter Tryd.func17, Tryd.ntmps17
      go_wp2
      all_goals first | (go_ret2; first | exact Or.inl ⟨h, rfl, rfl⟩ | exact Or.inr ⟨h, rfl, rfl⟩ | exact Or.inl ⟨h, ret2i (by omega), rfl⟩) | (exfalso; omega)
    · have h : InR (-1 * b) := by omega
      have hm : -9223372036854775807 ≤ b := by omega
      go_enter Tryd.func17, Tryd.ntmps17
      go_wp2
      all_goals first | (go_ret2; first | exact Or.inl ⟨h, rfl, rfl⟩ | exact Or.inr ⟨h, rfl, rfl⟩ | exact Or.inl ⟨h, ret2i (by omega), rfl⟩) | (exfalso; omega)
  by_cases h : InR (a * b)
  · go_enter Tryd.func17, Tryd.ntmps17
    go_wp2
    all_goals first | (go_ret2; first | exact Or.inl ⟨h, rfl, rfl⟩ | exact Or.inr ⟨h, rfl, rfl⟩ | exact Or.inl ⟨h, ret2i (by omega), rfl⟩) | (exfalso; omega)
  · have hm := mul_over a b ha hb h
    go_enter Tryd.func17, Tryd.ntmps17
    go_wp2
    all_goals first | (go_ret2; first | exact Or.inl ⟨h, rfl, rfl⟩ | exact Or.inr ⟨h, rfl, rfl⟩ | exact Or.inl ⟨h, ret2i (by omega), rfl⟩) | (exfalso; omega)
theorem retT2 {u0 u1 v0 v1 : Value} (h0 : u0 = v0) (h1 : u1 = v1) : Ending.returned (.tuple #[u0, u1]) = Ending.returned (.tuple #[v0, v1]) := by rw [h0, h1]
theorem boolV {p q : Prop} [Decidable p] [Decidable q] (h : p ↔ q) : Value.bool (decide p) = Value.bool (decide q) := by rw [decide_eq_decide.2 h]
def timesP (a b : Int) (w : World) (e : Ending) (w' : World) : Prop := ∃ z n, (InR (a * b) → z = a * b) ∧ e = .returned (.tuple #[.int .i64 z, .bool (decide (InR (a * b)))]) ∧ w' = w.drewN n
theorem times_c (a b : Int) (w : World) (ha : InR a) (hb : InR b) : Calls Tryd.prog 20 #[.int .i64 a, .int .i64 b] w (timesP a b w) := by
  have hz := fun h : InR (a * b) => IntWalk.wrap64_in (a * b) h
  have HZ := Lib.hid hz
  clear hz
  by_cases b0 : b = 0
  · subst b0
    go_enter Tryd.func20, Tryd.ntmps20
    go_wp2
    all_goals (go_ret2; exact ⟨0, 0, by omega, by simp, rfl⟩)
  by_cases a0 : a = 0
  · subst a0
    go_enter Tryd.func20, Tryd.ntmps20
    go_wp2
    all_goals (go_ret2; exact ⟨0, 0, by omega, by simp, rfl⟩)
  have b0' := beq_false_of_ne b0
  have a0' := beq_false_of_ne a0
  by_cases bp : 0 < b
  all_goals by_cases ap : 0 < a
  all_goals
    go_enter Tryd.func20, Tryd.ntmps20
    go_wp2
    go_quiet (fail)
    go_wp2
    go_ret2
    refine ⟨wrap64 (a * b), nq, HZ.out, ?_, rfl⟩
    refine retT2 rfl ?_
    first | exact boolV (times_pp a b (by omega) (by omega)) | exact boolV (times_np a b (by omega) (by omega)) | exact boolV (times_pn a b (by omega) (by omega)) | exact boolV (times_nn a b (by omega) (by omega))

def timesQ (a b : Int) (w : World) (e : Ending) (w' : World) : Prop := ∃ z, (InR (a * b) → z = a * b) ∧ e = .returned (.tuple #[.int .i64 z, .bool (decide (InR (a * b)))]) ∧ Below w.heap.size w w'
theorem times_q (a b : Int) (w : World) (ha : InR a) (hb : InR b) : Calls Tryd.prog 20 #[.int .i64 a, .int .i64 b] w (timesQ a b w) :=
  (times_c a b w ha hb).mono fun _ _ ⟨z, n, h1, h2, h3⟩ => ⟨z, h1, h2, by rw [h3]; exact below_drewN (Below.refl _ _) n⟩

theorem retT3 {u0 u1 u2 v0 v1 v2 : Value} (h0 : u0 = v0) (h1 : u1 = v1) (h2 : u2 = v2) : Ending.returned (.tuple #[u0, u1, u2]) = Ending.returned (.tuple #[v0, v1, v2]) := by rw [h0, h1, h2]
theorem intV {k : IntKind} {a b : Int} (h : a = b) : Value.int k a = Value.int k b := by rw [h]
def divP (a b : Int) (w : World) (e : Ending) (w' : World) : Prop := e = .returned (.tuple #[.int .i64 (a / b), .int .i64 (a % b), .nilIface]) ∧ Below w.heap.size w w'
theorem div_no (a b : Int) (w : World) (h : b < 1) : Calls Tryd.prog 27 #[.int .i64 a, .int .i64 b] w fun e w' => e = .returned (.tuple #[.int .i64 0, .int .i64 0, errV 1]) ∧ w = w' := by
  go_enter Tryd.func27, Tryd.ntmps27
  go_wp2
  go_ret3
  exact ⟨rfl, rfl⟩
theorem div_ok (a b : Int) (w : World) (ha : InR a) (hb : InR b) (h : 1 ≤ b) : Calls Tryd.prog 27 #[.int .i64 a, .int .i64 b] w (divP a b w) := by
  have hq := tdiv_rng a b ha h
  have hl := div_low a b ha h
  have hh := div_high a b h
  have HL := Lib.hid hl
  have HH := Lib.hid hh
  clear hl hh
  go_enter Tryd.func27, Tryd.ntmps27
  go_wp2
  go_quiet (fail)
  go_wp2
  all_goals try (go_quiet (fail); go_wp2)
  all_goals go_ret3
  · rename_i hr
    exact ⟨retT3 (intV ((IntWalk.wrap64_in _ (HL.out hr).2.2).trans (HL.out hr).1)) (intV (HL.out hr).2.1) rfl, below_drewN (Below.refl _ _) _⟩
  · rename_i hr
    exact ⟨retT3 (intV (HH.out hr).1) (intV (HH.out hr).2) rfl, below_drewN (Below.refl _ _) _⟩
set_option maxHeartbeats 4000000 in
theorem sure01 (w : World) (hg : w.cell? ⟨0, 0, none⟩ = some asHandle) : Calls Tryd.prog 26 #[] w fun e w' => e = .returned (.bool true) ∧ Below w.heap.size w w' := by
  have hB := Below.refl w.heap.size w
  go_enter Tryd.func26, Tryd.ntmps26
  go_wp2_with (first | (go_at_call 21; refine (num01_err _ _ hg).mono ?_; rintro e w' ⟨rfl, hb'⟩; replace hg := handle_below hg hb' (handle_lt hg); replace hB := hB.trans (hb'.mono hB.size); clear hb') | (go_at_call 27; refine (div_ok _ _ _ (by decide) (by decide) (by decide)).mono ?_; rintro e w' ⟨rfl, hb'⟩; replace hg := handle_below hg hb' (handle_lt hg); replace hB := hB.trans (hb'.mono hB.size); clear hb') | go_in)
  go_ret
  exact ⟨rfl, hB⟩
def rsumP (a b : Int) (w : World) (e : Ending) (w' : World) : Prop := (InR (a + b) ∧ e = .returned (.tuple #[.int .i64 (a + b), .int .i64 0]) ∧ w = w') ∨ (9223372036854775807 < a + b ∧ e = .returned (.tuple #[.int .i64 0, .int .i64 1]) ∧ w = w') ∨ (a + b < -9223372036854775808 ∧ e = .returned (.tuple #[.int .i64 0, .int .i64 (-1)]) ∧ w = w')
theorem rsum_c (a b : Int) (w : World) (ha : InR a) (hb : InR b) : Calls Tryd.prog 18 #[.int .i64 a, .int .i64 b] w (rsumP a b w) := by
  have h : InR (a + b) ∨ 9223372036854775807 < a + b ∨ a + b < -9223372036854775808 := by omega
  rcases h with h | h | h
  all_goals
    go_enter Tryd.func18, Tryd.ntmps18
    go_wp2
    all_goals first | (go_ret2; first | exact Or.inl ⟨h, rfl, rfl⟩ | exact Or.inr (Or.inl ⟨h, rfl, rfl⟩) | exact Or.inr (Or.inr ⟨h, rfl, rfl⟩)) | (exfalso; omega)
def rlessP (a b : Int) (w : World) (e : Ending) (w' : World) : Prop := (InR (a - b) ∧ e = .returned (.tuple #[.int .i64 (a - b), .int .i64 0]) ∧ w = w') ∨ (9223372036854775807 < a - b ∧ e = .returned (.tuple #[.int .i64 0, .int .i64 1]) ∧ w = w') ∨ (a - b < -9223372036854775808 ∧ e = .returned (.tuple #[.int .i64 0, .int .i64 (-1)]) ∧ w = w')
theorem rless_c (a b : Int) (w : World) (ha : InR a) (hb : InR b) : Calls Tryd.prog 19 #[.int .i64 a, .int .i64 b] w (rlessP a b w) := by
  have h : InR (a - b) ∨ 9223372036854775807 < a - b ∨ a - b < -9223372036854775808 := by omega
  rcases h with h | h | h
  all_goals
    go_enter Tryd.func19, Tryd.ntmps19
    go_wp2
    all_goals first | (go_ret2; first | exact Or.inl ⟨h, rfl, rfl⟩ | exact Or.inr (Or.inl ⟨h, rfl, rfl⟩) | exact Or.inr (Or.inr ⟨h, rfl, rfl⟩)) | (exfalso; omega)
def addsatP (a b : Int) (w : World) (e : Ending) (w' : World) : Prop := (InR (a + b) ∧ e = .returned (.int .i64 (a + b)) ∧ w = w') ∨ (9223372036854775807 < a + b ∧ e = .returned (.int .i64 9223372036854775807) ∧ w = w') ∨ (a + b < -9223372036854775808 ∧ e = .returned (.int .i64 (-9223372036854775808)) ∧ w = w')
theorem addsat_c (a b : Int) (w : World) (ha : InR a) (hb : InR b) : Calls Tryd.prog 23 #[.int .i64 a, .int .i64 b] w (addsatP a b w) := by
  have h : InR (a + b) ∨ 9223372036854775807 < a + b ∨ a + b < -9223372036854775808 := by omega
  rcases h with h | h | h
  all_goals
    go_enter Tryd.func23, Tryd.ntmps23
    go_wp2
    all_goals first | (go_ret; first | exact Or.inl ⟨h, rfl, rfl⟩ | exact Or.inr (Or.inl ⟨h, rfl, rfl⟩) | exact Or.inr (Or.inr ⟨h, rfl, rfl⟩)) | (exfalso; omega)
def subsatP (a b : Int) (w : World) (e : Ending) (w' : World) : Prop := (InR (a - b) ∧ e = .returned (.int .i64 (a - b)) ∧ w = w') ∨ (9223372036854775807 < a - b ∧ e = .returned (.int .i64 9223372036854775807) ∧ w = w') ∨ (a - b < -9223372036854775808 ∧ e = .returned (.int .i64 (-9223372036854775808)) ∧ w = w')
theorem subsat_c (a b : Int) (w : World) (ha : InR a) (hb : InR b) : Calls Tryd.prog 24 #[.int .i64 a, .int .i64 b] w (subsatP a b w) := by
  have h : InR (a - b) ∨ 9223372036854775807 < a - b ∨ a - b < -9223372036854775808 := by omega
  rcases h with h | h | h
  all_goals
    go_enter Tryd.func24, Tryd.ntmps24
    go_wp2
    all_goals first | (go_ret; first | exact Or.inl ⟨h, rfl, rfl⟩ | exact Or.inr (Or.inl ⟨h, rfl, rfl⟩) | exact Or.inr (Or.inr ⟨h, rfl, rfl⟩)) | (exfalso; omega)
set_option maxRecDepth 100000 in
set_option maxHeartbeats 8000000 in
theorem walkNumSums (a b : Int) (wa : (Lit.int .i64 a).wf = true) (wb : (Lit.int .i64 b).wf = true) (w : World) (hg : w.cell? ⟨0, 0, none⟩ = some asHandle) :
    Calls Tryd.prog 3 #[.int .i64 a, .int .i64 b] w fun e w' => e = .returned (.bool true) ∧ Below w.heap.size w w' := by
  have ha : InR a := bounds_i64 wa
  have hb : InR b := bounds_i64 wb
  clear wa wb
  have hB := Below.refl w.heap.size w
  by_cases h1 : InR (a + b)
  all_goals by_cases h2 : InR (a - b)
  all_goals by_cases h3 : InR (a * b)
  all_goals
    first | have h3' : decide (InR (a * b)) = true := decide_eq_true h3 | have h3' : decide (InR (a * b)) = false := decide_eq_false h3
    go_enter Tryd.func3, Tryd.ntmps3
    go_wp2_with (first | (go_at_call 15; refine (add_c _ _ _ ha hb).mono ?_; rintro e w' (⟨hadd, rfl, rfl⟩ | ⟨hadd, rfl, rfl⟩) <;> try (exfalso; omega)) | (go_at_call 16; refine (sub_c _ _ _ ha hb).mono ?_; rintro e w' (⟨hsub, rfl, rfl⟩ | ⟨hsub, rfl, rfl⟩) <;> try (exfalso; omega)) | (go_at_call 17; refine (mul_c _ _ _ ha hb).mono ?_; rintro e w' (⟨hmul, rfl, rfl⟩ | ⟨hmul, rfl, rfl⟩) <;> try (exfalso; omega)) | (go_at_call 20; refine (times_q _ _ _ ha hb).mono ?_; rintro e w' ⟨z, hz, rfl, hb'⟩; replace hg := handle_below hg hb' (handle_lt hg); replace hB := hB.trans (hb'.mono hB.size); clear hb') | (go_at_call 26; refine (sure01 _ hg).mono ?_; rintro e w' ⟨rfl, hb'⟩; replace hg := handle_below hg hb' (handle_lt hg); replace hB := hB.trans (hb'.mono hB.size); clear hb') | (go_at_call 18; refine (rsum_c _ _ _ (by omega) (by omega)).mono ?_; rintro e w' (⟨hrsum, rfl, rfl⟩ | ⟨hrsum, rfl, rfl⟩ | ⟨hrsum, rfl, rfl⟩) <;> try (exfalso; omega)) | (go_at_call 19; refine (rless_c _ _ _ (by omega) (by omega)).mono ?_; rintro e w' (⟨hrless, rfl, rfl⟩ | ⟨hrless, rfl, rfl⟩ | ⟨hrless, rfl, rfl⟩) <;> try (exfalso; omega)) | (go_at_call 23; refine (addsat_c _ _ _ (by omega) (by omega)).mono ?_; rintro e w' (⟨haddsat, rfl, rfl⟩ | ⟨haddsat, rfl, rfl⟩ | ⟨haddsat, rfl, rfl⟩) <;> try (exfalso; omega)) | (go_at_call 24; refine (subsat_c _ _ _ (by omega) (by omega)).mono ?_; rintro e w' (⟨hsubsat, rfl, rfl⟩ | ⟨hsubsat, rfl, rfl⟩ | ⟨hsubsat, rfl, rfl⟩) <;> try (exfalso; omega)) | (go_at_call 21; refine (num01_err _ _ hg).mono ?_; rintro e w' ⟨rfl, hb'⟩; replace hg := handle_below hg hb' (handle_lt hg); replace hB := hB.trans (hb'.mono hB.size); clear hb') | go_in)
    all_goals go_ret
    all_goals exact ⟨rfl, hB⟩
end Go.Proofs.YtjecnhngfihmpaaDoor
