/-
  Layer 4: the statement CrcSums.
-/
import Derived.Test.YtffdglhdklmjoaaDoorW04r
import Derived.Test.YtffdglhdklmjoaaDoorV04
import Derived.Test.YtffdglhdklmjoaaDoorOrdx
namespace Go.Proofs.YtffdglhdklmjoaaDoor
open Go.RowKit Go.Extern.Stop Go.Stop Go.Extern
set_option linter.unusedVariables false
set_option linter.unusedSimpArgs false
/-- a slice of these bytes -/
def Sl4 (l : List UInt8) (v : Value) (w : World) : Prop := ∃ A c, v = .slice A l.length c ∧ Rd w A l
def Sl4V (l : List UInt8) (v : Value) : Prop := ∃ A c, v = .slice A l.length c
theorem Sl4.below {l : List UInt8} {v : Value} {w w' : World} (h : Sl4 l v w) (hb : Below w.heap.size w w') : Sl4 l v w' := by
  obtain ⟨A, c, e, hr⟩ := h
  exact ⟨A, c, e, hr.below hb⟩
def PutQ (w : World) (l : List UInt8) (e : Ending) (w' : World) : Prop := ∃ v, e = .returned v ∧ Sl4V l v ∧ Sl4 l v w' ∧ Below w.heap.size w w'
theorem pseal (A : Option Addr) (c : Nat) (l q : List UInt8) (hq : q = sealOf l) (w : World) (hrd : Rd w A l) (hcz : A = none → c = 0) (hl : l.length ≤ 140737488355000) : Calls Tryd.prog 61 #[.slice A l.length c] w (PutQ w q) := by
  subst hq
  refine (sealed_n A c _ l w hrd rfl hcz hl).mono ?_
  rintro e w' ⟨g, cap, rfl, ho, hb⟩
  have hl2 : (sealOf l).length = l.length + 4 := seal_length l
  have hr := (Rd.of_own ho).1
  exact ⟨_, rfl, ⟨_, cap, by rw [hl2]⟩, ⟨_, cap, by rw [hl2], hr⟩, hb⟩
theorem rseal (A : Option Addr) (c : Nat) (l q : List UInt8) (hq : q = sealOf l) (w : World) (hrd : Rd w A l) (hcz : A = none → c = 0) (hl : l.length ≤ 140737488355000) : Calls Tryd.prog 62 #[.slice A l.length c] w (PutQ w q) := by
  subst hq
  refine (rsealed_n A c _ l w hrd rfl hcz hl).mono ?_
  rintro e w' ⟨v, rfl, ho, hb⟩
  obtain ⟨A1, c1, e1, _, hr, _⟩ := own_shape ho
  exact ⟨v, rfl, ⟨A1, c1, e1⟩, ⟨A1, c1, e1, hr⟩, hb⟩
def VC (q : List UInt8) (d : Tmp) (v : Value) (w : World) : Prop :=
  match d with
  | 48 => Sl4 q v w
  | 51 => Sl4 q v w
  | _ => True
def CC (q : List UInt8) (i : Nat) (v : Value) : Prop :=
  match i with
  | 16 => Sl4V q v
  | 19 => Sl4V q v
  | _ => True
theorem VC.step {q : List UInt8} (d : Tmp) (v : Value) (w w' : World) (hb : Below w.heap.size w w') (h : VC q d v w) : VC q d v w' := by
  unfold VC at *
  split <;> first | exact Sl4.below h hb | trivial
theorem VC.other {q : List UInt8} (d : Tmp) (hd : d ∉ [48, 51]) (v : Value) (w : World) : VC q d v w := by
  unfold VC
  split <;> first | trivial | (exfalso; simp at hd)
def SC (w : World) (A : Option Addr) (la : List UInt8) (B : Option Addr) (lb : List UInt8) (C : Option Addr) (lc : List UInt8) (O : Option Addr) (lo : List UInt8) (Q : Option Addr) (wx : World) : Prop := Held w wx ∧ Rd wx A la ∧ Rd wx B lb ∧ Rd wx C lc ∧ Rd wx O lo ∧ Rd wx Q lo
theorem SC.step {w : World} {A : Option Addr} {la : List UInt8} {B : Option Addr} {lb : List UInt8} {C : Option Addr} {lc : List UInt8} {O : Option Addr} {lo : List UInt8} {Q : Option Addr} {wx w' : World} (h : SC w A la B lb C lc O lo Q wx) (hb : Below wx.heap.size wx w') : SC w A la B lb C lc O lo Q w' := ⟨h.1.step hb, h.2.1.below hb, h.2.2.1.below hb, h.2.2.2.1.below hb, h.2.2.2.2.1.below hb, h.2.2.2.2.2.below hb⟩
theorem ropen_no (A : Option Addr) (c : Nat) (l : List UInt8) (w : World) (hrd : Rd w A l) (hcz : A = none → c = 0) (hl : l.length ≤ 140737488350000) (hcap : l.length ≤ c) (h : opensB l = false) : Calls Tryd.prog 57 #[.slice A l.length c] w fun e w' => e = .returned (.tuple #[.slice none 0 0, .int .i64 4]) ∧ Below w.heap.size w w' := by
  by_cases h4 : 4 ≤ l.length
  · exact (rop_all A c l w hrd hcz hl hcap h4).2 h
  · exact rop_short A c l w (by omega)
theorem popen_no (A : Option Addr) (c : Nat) (l : List UInt8) (w : World) (hrd : Rd w A l) (hl : l.length ≤ 140737488355328) (hcap : l.length ≤ c) (h : opensB l = false) : Calls Tryd.prog 56 #[.slice A l.length c] w fun e w' => e = .returned (.tuple #[.slice none 0 0, errV 4]) ∧ Below w.heap.size w w' := by
  refine (opened_n A c _ l w hrd rfl hcap hl).mono ?_
  rintro e w' (⟨h1, _⟩ | ⟨_, h2⟩)
  · rw [h] at h1; cases h1
  · exact h2
theorem popen_yes (A : Option Addr) (c : Nat) (l : List UInt8) (w : World) (hrd : Rd w A l) (hl : l.length ≤ 140737488355328) (hcap : l.length ≤ c) (h : opensB l = true) : Calls Tryd.prog 56 #[.slice A l.length c] w (OkP w (l.take (l.length - 4))) := by
  refine (opened_n A c _ l w hrd rfl hcap hl).mono ?_
  rintro e w' (⟨_, h1⟩ | ⟨h1, _⟩)
  · exact h1
  · rw [h] at h1; cases h1
theorem own_app {w : World} {base : Nat} {v : Value} {n : Nat} {a b : List UInt8} (h : w.ownsRow base 5 1 v n (bv a ++ bv b)) : w.ownsRow base 5 1 v n (bv (a ++ b)) := by rw [bv_append]; exact h
end Go.Proofs.YtffdglhdklmjoaaDoor
