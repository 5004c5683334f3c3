/-
  Layer 5: the statement FieldsPut.
-/
import Derived.Test.YtffdglhdklmjoaaDoorW05r
import Derived.Test.YtffdglhdklmjoaaDoorV05
import Derived.Test.YtffdglhdklmjoaaDoorOrdx
namespace Go.Proofs.YtffdglhdklmjoaaDoor
open Go.RowKit Go.Extern.Stop Go.Stop Go.Extern
set_option linter.unusedVariables false
set_option linter.unusedSimpArgs false
/-- the error of a number: none of 0 -/
def errOf (n : Int) : Value := if n = 0 then .nilIface else errV n
theorem errOf_zero : errOf 0 = .nilIface := by unfold errOf; rw [if_pos rfl]
theorem errOf_ne {n : Int} (h : ¬ n = 0) : errOf n = errV n := by unfold errOf; rw [if_neg h]
theorem num05_any (n : Int) (w : World) (hg : w.cell? ⟨0, 0, none⟩ = some asHandle) : Calls Tryd.prog 71 #[errOf n] w fun e w' => e = .returned (.int .i64 n) ∧ Below w.heap.size w w' := by
  by_cases h : n = 0
  · subst h; rw [errOf_zero]; exact num05_nil _
  · rw [errOf_ne h]; exact num05_err _ _ hg
/-- a slice of these bytes -/
def Sl (l : List UInt8) (v : Value) (w : World) : Prop := ∃ A c, v = .slice A l.length c ∧ Rd w A l
def SlV (l : List UInt8) (v : Value) : Prop := ∃ A c, v = .slice A l.length c
theorem Sl.below {l : List UInt8} {v : Value} {w w' : World} (h : Sl l v w) (hb : Below w.heap.size w w') : Sl l v w' := by
  obtain ⟨A, c, e, hr⟩ := h
  exact ⟨A, c, e, hr.below hb⟩
def PutP (w : World) (l : List UInt8) (e : Ending) (w' : World) : Prop := ∃ v, e = .returned v ∧ SlV l v ∧ Sl l v w' ∧ Below w.heap.size w w'
theorem put_of {w w' : World} {l : List UInt8} {e : Ending} (h : OwnP w l e w') : PutP w l e w' := by
  obtain ⟨v, he, ho, hb⟩ := h
  obtain ⟨A, c, e1, _, hr, _, _⟩ := own_shape ho
  exact ⟨v, he, ⟨A, c, e1⟩, ⟨A, c, e1, hr⟩, hb⟩
theorem leb_mod (v : Int) (n : Nat) (z : Int) (k : Nat) (hk : k ≤ 8) (hz : z = 256 ^ k) (hn : n = k) : leB (v % z).toNat n = leB (u64of v) n := by
  subst hn hz
  rw [← leB_val (u64of v) n]
  congr 1
  unfold u64of
  have h1 : (0 : Int) < 256 ^ n := Int.pow_pos (by decide)
  have h2 : ((256 ^ n : Nat) : Int) = (256 : Int) ^ n := by simp
  have hd : (256 : Int) ^ n ∣ 18446744073709551616 := by
    refine ⟨256 ^ (8 - n), ?_⟩
    rw [← Int.pow_add, show n + (8 - n) = 8 by omega]; decide
  apply Int.ofNat_inj.1
  rw [Int.toNat_of_nonneg (Int.emod_nonneg _ (by omega)), Int.natCast_emod, h2, Int.toNat_of_nonneg (Int.emod_nonneg _ (by decide)), Int.emod_emod_of_dvd _ hd]
theorem pput2 (A : Option Addr) (c : Nat) (l : List UInt8) (v : Int) (hv : InR v) (m : List UInt8) (hm : m = l ++ leB (u64of v) 2) (w : World) (hrd : Rd w A l) (hcz : A = none → c = 0) (hl : l.length ≤ 140737488355000) : Calls Tryd.prog 79 #[.slice A l.length c, .int .u16 (IntKind.u16.wrap v)] w (PutP w m) := by
  subst hm
  have h := put2_c A c l (v % 65536) w hrd hcz hl (Int.emod_nonneg _ (by decide)) (Int.emod_lt_of_pos _ (by decide))
  rw [leb_mod v 2 65536 2 (by decide) (by decide) rfl] at h
  rw [show IntKind.u16.wrap v = v % 65536 from IntKind.wrap_u16 v]
  exact h.mono fun _ _ h => put_of h
theorem pput4 (A : Option Addr) (c : Nat) (l : List UInt8) (v : Int) (hv : InR v) (m : List UInt8) (hm : m = l ++ leB (u64of v) 4) (w : World) (hrd : Rd w A l) (hcz : A = none → c = 0) (hl : l.length ≤ 140737488355000) : Calls Tryd.prog 81 #[.slice A l.length c, .int .u32 (IntKind.u32.wrap v)] w (PutP w m) := by
  subst hm
  have h := put4_c A c l (v % 4294967296) w hrd hcz hl (Int.emod_nonneg _ (by decide)) (Int.emod_lt_of_pos _ (by decide))
  rw [leb_mod v 4 4294967296 4 (by decide) (by decide) rfl] at h
  rw [show IntKind.u32.wrap v = v % 4294967296 from IntKind.wrap_u32 v]
  exact h.mono fun _ _ h => put_of h
theorem pput8 (A : Option Addr) (c : Nat) (l : List UInt8) (v : Int) (hv : InR v) (m : List UInt8) (hm : m = l ++ leB (u64of v) 8) (w : World) (hrd : Rd w A l) (hcz : A = none → c = 0) (hl : l.length ≤ 140737488355000) : Calls Tryd.prog 82 #[.slice A l.length c, .int .i64 v] w (PutP w m) := by
  subst hm
  exact (put8_c A c l v w hrd hcz hl hv).mono fun _ _ h => put_of h
theorem rput2 (A : Option Addr) (c : Nat) (l : List UInt8) (v : Int) (hv : InR v) (m : List UInt8) (hm : m = l ++ leB (u64of v) 2) (w : World) (hrd : Rd w A l) (hcz : A = none → c = 0) (hl : l.length ≤ 140737488355000) : Calls Tryd.prog 80 #[.slice A l.length c, .int .u64 (IntKind.u64.wrap v), .int .i64 2] w (PutP w m) := by
  subst hm
  exact (rput_n A c l _ 2 (u64of v) 2 w hrd hcz hl (u64of_wrap v) (u64of_lt v) (by decide) rfl).mono fun _ _ h => put_of h
theorem rput4 (A : Option Addr) (c : Nat) (l : List UInt8) (v : Int) (hv : InR v) (m : List UInt8) (hm : m = l ++ leB (u64of v) 4) (w : World) (hrd : Rd w A l) (hcz : A = none → c = 0) (hl : l.length ≤ 140737488355000) : Calls Tryd.prog 80 #[.slice A l.length c, .int .u64 (IntKind.u64.wrap v), .int .i64 4] w (PutP w m) := by
  subst hm
  exact (rput_n A c l _ 4 (u64of v) 4 w hrd hcz hl (u64of_wrap v) (u64of_lt v) (by decide) rfl).mono fun _ _ h => put_of h
theorem rput8 (A : Option Addr) (c : Nat) (l : List UInt8) (v : Int) (hv : InR v) (m : List UInt8) (hm : m = l ++ leB (u64of v) 8) (w : World) (hrd : Rd w A l) (hcz : A = none → c = 0) (hl : l.length ≤ 140737488355000) : Calls Tryd.prog 80 #[.slice A l.length c, .int .u64 (IntKind.u64.wrap v), .int .i64 8] w (PutP w m) := by
  subst hm
  exact (rput_n A c l _ 8 (u64of v) 8 w hrd hcz hl (u64of_wrap v) (u64of_lt v) (by decide) rfl).mono fun _ _ h => put_of h
/-- the slices that the region makes -/
def VF (l2 l4 l8 : List UInt8) (d : Tmp) (v : Value) (w : World) : Prop :=
  match d with
  | 35 => Sl l2 v w
  | 40 => Sl l2 v w
  | 47 => Sl l4 v w
  | 52 => Sl l4 v w
  | 59 => Sl l8 v w
  | 64 => Sl l8 v w
  | _ => True
def CF (l2 l4 l8 : List UInt8) (i : Nat) (v : Value) : Prop :=
  match i with
  | 3 => SlV l2 v
  | 8 => SlV l2 v
  | 15 => SlV l4 v
  | 20 => SlV l4 v
  | 27 => SlV l8 v
  | 32 => SlV l8 v
  | _ => True
theorem VF.step {l2 l4 l8 : List UInt8} (d : Tmp) (v : Value) (w w' : World) (hb : Below w.heap.size w w') (h : VF l2 l4 l8 d v w) : VF l2 l4 l8 d v w' := by
  unfold VF at *
  split <;> first | exact Sl.below h hb | trivial
theorem VF.other {l2 l4 l8 : List UInt8} (d : Tmp) (hd : d ∉ [35, 40, 47, 52, 59, 64]) (v : Value) (w : World) : VF l2 l4 l8 d v w := by
  unfold VF
  split <;> first | trivial | (exfalso; simp at hd)
def SF (w : World) (B : Option Addr) (lb : List UInt8) (T : Option Addr) (lt : List UInt8) (U : Option Addr) (lu : List UInt8) (wx : World) : Prop := Held w wx ∧ Rd wx B lb ∧ Rd wx T lt ∧ Rd wx U lu
theorem SF.step {w : World} {B : Option Addr} {lb : List UInt8} {T : Option Addr} {lt : List UInt8} {U : Option Addr} {lu : List UInt8} {wx w' : World} (h : SF w B lb T lt U lu wx) (hb : Below wx.heap.size wx w') : SF w B lb T lt U lu w' := ⟨h.1.step hb, h.2.1.below hb, h.2.2.1.below hb, h.2.2.2.below hb⟩
end Go.Proofs.YtffdglhdklmjoaaDoor
