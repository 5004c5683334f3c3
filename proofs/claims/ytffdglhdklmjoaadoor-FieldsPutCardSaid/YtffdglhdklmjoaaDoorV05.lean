/-
  Layer 5: the statement FieldsBack.
-/
import Derived.Test.YtffdglhdklmjoaaDoorW05g
import Derived.Lib.SlBytesConst
import Derived.WalkSpells
namespace Go.Proofs.YtffdglhdklmjoaaDoor
open Go.RowKit Go.Extern.Stop Go.Stop Go.Extern
set_option linter.unusedVariables false
set_option linter.unusedSimpArgs false
def z256 : ByteArray := ⟨(List.replicate 256 (0 : UInt8)).toArray⟩
theorem z256_size : z256.size = 256 := by
  show (List.replicate 256 (0 : UInt8)).toArray.size = 256
  rw [List.size_toArray, List.length_replicate]
theorem z256_bv : List.replicate 256 (Value.int .u8 0) = bv (List.replicate 256 (0 : UInt8)) := by
  unfold bv; rw [List.map_replicate]; rfl
theorem z256_conv (w : World) (base : Nat) (A : Option Addr) (c : Nat) (h : w.ownsRow base 5 1 (.slice A 256 c) 256 (madeCells (Value.int .u8 0).cells (256 * 1)).toList) :
    (convert 87 9 (.slice A 256 c)).run Tryd.prog w = .ok (.string z256) w := by
  have e : (madeCells (Value.int .u8 0).cells (256 * 1)).toList = bv (List.replicate 256 (0 : UInt8)) := by
    rw [← z256_bv]
    exact toList_madeCells_one _ _
  rw [e] at h
  have hr := (Rd.of_own h).1
  have := run_text (P := Tryd.prog) w 87 9 5 A c _ hr Tryd.underlying87 Tryd.underlying5 Tryd.underlying9
  rw [List.length_replicate] at this
  exact this
set_option maxRecDepth 100000 in
set_option maxHeartbeats 8000000 in
theorem sure05 (w : World) (hg : w.cell? ⟨0, 0, none⟩ = some asHandle) : Calls Tryd.prog 64 #[] w fun e w' => e = .returned (.bool true) ∧ Below w.heap.size w w' := by
  have hH := Held.start hg
  have kc := fun (w : World) (C : Array Value) (n c : Nat) => Lib.run_convert_bytes_const (P := Tryd.prog) w 87 5 C n c Tryd.underlying87 Tryd.underlying5
  obtain ⟨i0, hi, hz0', hz1', hz2'⟩ := info_parts infoU8
  go_enter Tryd.func64, Tryd.ntmps64
  go_wp2_with (fail)
  (with_reducible refine (put2_n _ _ _ [] [2, 1] _ _ (Rd.nil _ _) (by simp) (by simp) (by simp) (by decide) (by decide) (by decide)).mono ?_)
  rintro e w1 ⟨v1, rfl, hown1, hb1⟩
  obtain ⟨A1, c1, rfl, hz1, hr1, _, hc1⟩ := own_shape hown1
  go_wp2_with (fail)
  (with_reducible refine (new_n _ _ _ [2, 1] _ (by exact hr1) (by exact hz1) (by simp) (by simp)).mono ?_)
  rintro e w2 ⟨g, rfl, hR, hgs, HB2⟩
  have hb2 : Below w.heap.size w w2 := hb1.trans (HB2.mono hb1.size)
  have hgw : w.heap.size ≤ g := Nat.le_trans hb1.size hgs
  go_wp2_with (fail)
  (with_reducible refine (get2_n _ _ 258 _ [] _ false (by exact hR) (by simp) (by decide) (by decide) (by decide)).mono ?_)
  rintro e w3 ⟨rfl, hR3, hg3⟩
  have hb3 : Below w.heap.size w w3 := hb2.grown hg3 hb2.size (fun k e => by cases e; exact hgw)
  go_wp2_with (fail)
  (with_reducible refine (done_ok _ _ (by exact hR3)).mono ?_)
  rintro e w4 ⟨rfl, rfl⟩
  go_wp2_with (fail)
  (with_reducible refine (get1_n _ _ 0 _ [] _ true (by exact hR3) (by simp) (by decide) (by decide) (by decide)).mono ?_)
  rintro e w4 ⟨rfl, hR4, hg4⟩
  have hb4 : Below w.heap.size w w4 := hb3.grown hg4 hb3.size (fun k e => by cases e; exact hgw)
  go_wp2_with (fail)
  (with_reducible refine (done_short _ _ _ (by exact hR4)).mono ?_)
  rintro e w5 ⟨rfl, rfl⟩
  go_wp2_with (at_make; refine wpList_make_full _ rfl _ _ 87 rfl w.heap.size 5 i0 (.int .u8 0) 1 Tryd.underlying87 hi hz0' hz1' .i64 .i64 256 256 256 rfl rfl (by decide) (by decide) (by rw [hz2']; decide) (by unfold maxLen; decide) hb4.size ?_; intro w5 hown5 hg5; have kt := z256_conv w5 _ _ _ hown5; have hb5 := hb4.grown hg5 hb4.size (fun k e => by cases e); clear hown5)
  (with_reducible refine (text_long _ _ _ (by rw [z256_size]; decide) (by rw [z256_size]; decide)).mono ?_)
  rintro e w6 ⟨rfl, HB6⟩
  have hb6 : Below w.heap.size w w6 := hb5.trans (HB6.mono hb5.size)
  have hH6 : Held w w6 := ⟨handle_below hg hb6 (handle_lt hg), hb6⟩
  clear kt HB6
  go_wp2_with (first | (go_at_call 71; (with_reducible refine (num05_nil _).mono ?_); rintro e w' ⟨rfl, hb'⟩; obtain ⟨hc, hf⟩ := bcell hb'; have hz := hb'.size; (try (simp at hz)); have hH' := Held.step (w0 := w) (by repeat (first | assumption | refine Held.alloc ?_ _ | refine Held.drew ?_)) hb'; clear hb') | (go_at_call 71; (with_reducible refine (num05_err _ _ (Held.handle (w0 := w) (by repeat (first | assumption | refine Held.alloc ?_ _ | refine Held.drew ?_)))).mono ?_); rintro e w' ⟨rfl, hb'⟩; obtain ⟨hc, hf⟩ := bcell hb'; have hz := hb'.size; (try (simp at hz)); have hH' := Held.step (w0 := w) (by repeat (first | assumption | refine Held.alloc ?_ _ | refine Held.drew ?_)) hb'; clear hb'))
  (with_reducible refine (put4_n _ _ _ [97] [97, 1, 0, 0, 0] _ _ (by exact Rd.lit _ _ _ _ _ rfl) (by simp) (by simp) (by simp) (by decide) (by decide) (by decide)).mono ?_)
  rintro e w7 ⟨v7, rfl, hown7, HB7⟩
  obtain ⟨A7, c7, rfl, hz7, hr7, _, hc7⟩ := own_shape hown7
  have hH7 : Held w w7 := Held.step (w0 := w) (by repeat (first | assumption | refine Held.alloc ?_ _ | refine Held.drew ?_)) HB7
  have kt := run_text (P := Tryd.prog) w7 87 9 5 A7 c7 _ hr7 Tryd.underlying87 Tryd.underlying5 Tryd.underlying9
  rw [show ([97, 1, 0, 0, 0] : List UInt8).length = 5 from rfl] at kt
  clear hown7 HB7 hc hf hz
  go_wp2_with (fail)
  go_ret
  exact ⟨rfl, Held.below (w0 := w) (by assumption)⟩
end Go.Proofs.YtffdglhdklmjoaaDoor
