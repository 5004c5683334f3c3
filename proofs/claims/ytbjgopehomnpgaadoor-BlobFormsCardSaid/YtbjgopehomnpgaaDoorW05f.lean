/-
  Layer 5: fields out of a reader.
-/
import Derived.Test.YtbjgopehomnpgaaDoorW05e
namespace Go.Proofs.YtbjgopehomnpgaaDoor
open Go.RowKit Go.Extern.Stop Go.Stop Go.Extern
set_option linter.unusedVariables false
set_option linter.unusedSimpArgs false
/-- a number of k bytes out of what is left: it, what is left then, whether there was too little -/
def getV (l : List UInt8) (k : Nat) : Nat := if k ≤ l.length then leV (l.take k) else 0
def getL (l : List UInt8) (k : Nat) : List UInt8 := if k ≤ l.length then l.drop k else []
def getS (l : List UInt8) (sh : Bool) (k : Nat) : Bool := if k ≤ l.length then sh else true
theorem getL_le (l : List UInt8) (k : Nat) : (getL l k).length ≤ l.length := by unfold getL; split <;> simp
theorem getV_lt (l : List UInt8) (k : Nat) : getV l k < 256 ^ k := by
  unfold getV
  split
  · have := leV_lt (l.take k)
    have e : (l.take k).length = k := by simp; omega
    rwa [e] at this
  · exact Nat.pow_pos (by decide)
theorem value_c (w : World) (z : Int) (g k : Nat) (l : List UInt8) (sh : Bool) (h : Rdr w g l sh) (hk8 : k ≤ 8) (hz : z = (k : Int)) (hl : l.length ≤ 140737488355328) :
    Calls Tryd.prog 191 #[.pointer (some ⟨g, 0, none⟩), .int .i64 z] w (ValP w g (getV l k) (getL l k) (getS l sh k)) := by
  unfold getV getL getS
  by_cases hk : k ≤ l.length
  · simp only [if_pos hk]; exact value_ok w z g k l sh h hk hk8 hz hl
  · simp only [if_neg hk]; exact value_short w z g k l sh h (by omega) hk8 hz
def NumP (w : World) (g : Nat) (v : Value) (l : List UInt8) (sh : Bool) (e : Ending) (w' : World) : Prop := e = .returned v ∧ Rdr w' g l sh ∧ w.grownBy w' (some g)
theorem get1_c (w : World) (g : Nat) (l : List UInt8) (sh : Bool) (h : Rdr w g l sh) (hl : l.length ≤ 140737488355328) :
    Calls Tryd.prog 128 #[.pointer (some ⟨g, 0, none⟩)] w (NumP w g (.int .u8 (getV l 1 : Nat)) (getL l 1) (getS l sh 1)) := by
  have hv : getV l 1 < 256 := by have := getV_lt l 1; have e : 256 ^ 1 = 256 := (by decide); omega
  go_enter Tryd.func128, Tryd.ntmps128
  go_wp2_with (go_at_call 191; (with_reducible refine (value_c _ _ _ 1 _ _ h (by decide) (by simp) hl).mono ?_); rintro e w1 ⟨rfl, h1, h2⟩)
  go_ret
  exact ⟨rfl, h1, h2⟩
theorem get1_pt (w : World) : Calls Tryd.prog 128 #[.pointer none] w fun e w' => e = .returned (.int .u8 0) ∧ Below w.heap.size w w' := by
  go_enter Tryd.func128, Tryd.ntmps128
  go_wp2_with (go_at_call 191; (with_reducible refine (value_pt _ _).mono ?_); rintro e w1 ⟨rfl, h1⟩)
  go_ret
  exact ⟨rfl, h1⟩
theorem get2_c (w : World) (g : Nat) (l : List UInt8) (sh : Bool) (h : Rdr w g l sh) (hl : l.length ≤ 140737488355328) :
    Calls Tryd.prog 129 #[.pointer (some ⟨g, 0, none⟩)] w (NumP w g (.int .u16 (getV l 2 : Nat)) (getL l 2) (getS l sh 2)) := by
  have hv : getV l 2 < 65536 := by have := getV_lt l 2; have e : 256 ^ 2 = 65536 := (by decide); omega
  go_enter Tryd.func129, Tryd.ntmps129
  go_wp2_with (go_at_call 191; (with_reducible refine (value_c _ _ _ 2 _ _ h (by decide) (by simp) hl).mono ?_); rintro e w1 ⟨rfl, h1, h2⟩)
  go_ret
  exact ⟨rfl, h1, h2⟩
theorem get2_pt (w : World) : Calls Tryd.prog 129 #[.pointer none] w fun e w' => e = .returned (.int .u16 0) ∧ Below w.heap.size w w' := by
  go_enter Tryd.func129, Tryd.ntmps129
  go_wp2_with (go_at_call 191; (with_reducible refine (value_pt _ _).mono ?_); rintro e w1 ⟨rfl, h1⟩)
  go_ret
  exact ⟨rfl, h1⟩
theorem get8_c (w : World) (g : Nat) (l : List UInt8) (sh : Bool) (h : Rdr w g l sh) (hl : l.length ≤ 140737488355328) :
    Calls Tryd.prog 138 #[.pointer (some ⟨g, 0, none⟩)] w (NumP w g (.int .i64 (wrap64 (getV l 8 : Nat))) (getL l 8) (getS l sh 8)) := by
  go_enter Tryd.func138, Tryd.ntmps138
  go_wp2_with (go_at_call 191; (with_reducible refine (value_c _ _ _ 8 _ _ h (by decide) (by simp) hl).mono ?_); rintro e w1 ⟨rfl, h1, h2⟩)
  go_ret
  exact ⟨rfl, h1, h2⟩
theorem get8_pt (w : World) : Calls Tryd.prog 138 #[.pointer none] w fun e w' => e = .returned (.int .i64 0) ∧ Below w.heap.size w w' := by
  go_enter Tryd.func138, Tryd.ntmps138
  go_wp2_with (go_at_call 191; (with_reducible refine (value_pt _ _).mono ?_); rintro e w1 ⟨rfl, h1⟩)
  go_ret
  exact ⟨rfl, h1⟩
/-- a text out of what is left -/
def getT (l : List UInt8) : List UInt8 := if getV l 1 ≤ (getL l 1).length then (getL l 1).take (getV l 1) else []
def getTL (l : List UInt8) : List UInt8 := getL (getL l 1) (getV l 1)
def getTS (l : List UInt8) (sh : Bool) : Bool := getS (getL l 1) (getS l sh 1) (getV l 1)
theorem getT_len (l : List UInt8) : (getT l).length ≤ 255 := by
  have hv : getV l 1 < 256 := by have := getV_lt l 1; simpa using this
  unfold getT
  split
  · simp; omega
  · simp
set_option maxRecDepth 100000 in
set_option maxHeartbeats 1000000 in
theorem getT_c (w : World) (g : Nat) (l : List UInt8) (sh : Bool) (h : Rdr w g l sh) (hl : l.length ≤ 140737488355328) :
    Calls Tryd.prog 147 #[.pointer (some ⟨g, 0, none⟩)] w (NumP w g (.string ⟨(getT l).toArray⟩) (getTL l) (getTS l sh)) := by
  have hv : getV l 1 < 256 := by have := getV_lt l 1; simpa using this
  have hl1 := getL_le l 1
  by_cases hk : getV l 1 ≤ (getL l 1).length
  · have HT := Lib.hid (show getT l = (getL l 1).take (getV l 1) ∧ getTL l = (getL l 1).drop (getV l 1) ∧ getTS l sh = getS l sh 1 by
      unfold getT getTL getTS getL getS at *
      refine ⟨if_pos hk, if_pos hk, if_pos hk⟩)
    go_enter Tryd.func147, Tryd.ntmps147
    go_wp2_with (go_at_call 128; (with_reducible refine (get1_c _ _ _ _ h hl).mono ?_); rintro e w1 ⟨rfl, h1, h2⟩)
    (with_reducible refine (take_ok _ _ _ _ _ h1 hk (by omega)).mono ?_)
    rintro e w2 ⟨A, c, rfl, hR, hA, hc, ha, h4, h5⟩
    have hlen : getV l 1 = ((getL l 1).take (getV l 1)).length := by simp; omega
    have kt := run_text (P := Tryd.prog) w2 59 9 5 A c _ hR Tryd.underlying59 Tryd.underlying5 Tryd.underlying9
    rw [← hlen] at kt
    clear hlen
    go_wp2_with (fail)
    go_ret
    obtain ⟨e1, e2, e3⟩ := HT.out
    rw [e1, e2, e3]
    exact ⟨rfl, h4, gb_trans h2 h5⟩
  · have HT := Lib.hid (show getT l = [] ∧ getTL l = [] ∧ getTS l sh = true by
      unfold getT getTL getTS getL getS at *
      refine ⟨if_neg hk, if_neg hk, if_neg hk⟩)
    go_enter Tryd.func147, Tryd.ntmps147
    go_wp2_with (go_at_call 128; (with_reducible refine (get1_c _ _ _ _ h hl).mono ?_); rintro e w1 ⟨rfl, h1, h2⟩)
    (with_reducible refine (take_short _ _ _ _ _ h1 (by omega) (by omega)).mono ?_)
    rintro e w2 ⟨rfl, h4, h5⟩
    have kt := run_text (P := Tryd.prog) w2 59 9 5 none 0 [] (Rd.nil _ _) Tryd.underlying59 Tryd.underlying5 Tryd.underlying9
    rw [show ([] : List UInt8).length = 0 from rfl] at kt
    go_wp2_with (fail)
    go_ret
    obtain ⟨e1, e2, e3⟩ := HT.out
    rw [e1, e2, e3]
    exact ⟨rfl, h4, gb_trans h2 h5⟩
theorem getT_pt (w : World) : Calls Tryd.prog 147 #[.pointer none] w fun e w' => e = .returned (.string ⟨#[]⟩) ∧ Below w.heap.size w w' := by
  go_enter Tryd.func147, Tryd.ntmps147
  go_wp2_with (first | (go_at_call 128; (with_reducible refine (get1_pt _).mono ?_); rintro e w1 ⟨rfl, h1⟩) | (go_at_call 197; (with_reducible refine (take_pt _ _).mono ?_); rintro e w2 ⟨rfl, rfl⟩; have kt := run_text (P := Tryd.prog) w1 59 9 5 none 0 [] (Rd.nil _ _) Tryd.underlying59 Tryd.underlying5 Tryd.underlying9; rw [show ([] : List UInt8).length = 0 from rfl] at kt))
  go_ret
  exact ⟨rfl, h1⟩
end Go.Proofs.YtbjgopehomnpgaaDoor
