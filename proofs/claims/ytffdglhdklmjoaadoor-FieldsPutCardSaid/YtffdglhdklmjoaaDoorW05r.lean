/-
  Layer 5: the reference's Put and Text.
-/
import Derived.Test.YtffdglhdklmjoaaDoorW05b
import Derived.LoopTactic
import Derived.Lib.ConvBytes
namespace Go.Proofs.YtffdglhdklmjoaaDoor
open Go.RowKit Go.Extern.Stop Go.Stop Go.Extern
set_option linter.unusedVariables false
set_option linter.unusedSimpArgs false
theorem u8m (y : Nat) : Value.int .u8 ((y : Int) % 256) = bV (UInt8.ofNat y) := by
  rw [← u8of y]; congr 1
set_option maxRecDepth 100000 in
set_option maxHeartbeats 4000000 in
theorem rput_n (A : Option Addr) (c : Nat) (l : List UInt8) (x z : Int) (v size : Nat) (w : World) (hrd : Rd w A l) (hcz : A = none → c = 0) (hl : l.length ≤ 140737488355000) (hx : x = (v : Int)) (hv : v < 18446744073709551616) (hsz : size ≤ 8) (hz : z = (size : Int)) :
    Calls Tryd.prog 80 #[.slice A l.length c, .int .u64 x, .int .i64 z] w (OwnP w (l ++ leB v size)) := by
  subst hx hz
  obtain ⟨i0, hi, hz0, hz1, hz2⟩ := info_parts infoU8
  go_enter Tryd.func80, Tryd.ntmps80
  go_wp2_with (at_builtin; refine wpList_append_b rfl (.tmp 9) (.tmp 10) 87 rfl w.heap.size 5 i0 (.int .u8 0) Tryd.underlying87 hi hz0 hz1 hz2 rfl (.slice none 0 0) 0 [] rfl (World.ownsRow_nil _ _ _ _) A c l rfl hrd hcz (by omega) (Nat.le_refl _) ?_; intro v1 w1 hown1 hg1 hat1; have hb1 := (Below.refl w.heap.size w).grown hg1 (Nat.le_refl _) (fun k hk => by cases hk))
  simp only [Nat.zero_add, List.nil_append] at hown1
  go_loopw [1, 7, 8] (fun y t i wr => ∃ k : Nat, k ≤ size ∧ i = .int .i64 k ∧ y = .int .u64 ((v / 256 ^ k : Nat) : Int) ∧ wr.ownsRow w.heap.size 5 1 t (l.length + k) (bv (l ++ leB v k)) ∧ Below w.heap.size w wr) (fun _ _ i _ => size - (intOf i).toNat)
  case atStart => exact ⟨0, by omega, rfl, by simp, by simpa [leB] using hown1, hb1⟩
  case round =>
    obtain ⟨k, hk, rfl, rfl, hown, hbw⟩ := hrel
    by_cases hlt : k < size
    · have HX := Lib.hid (show v / 256 ^ (k + 1) = v / 256 ^ k / 256 by rw [Nat.pow_succ, Nat.div_div_eq_div_mul])
      have HL := Lib.hid (show leB v (k + 1) = leB v k ++ [UInt8.ofNat (v / 256 ^ k)] from rfl)
      have hy : v / 256 ^ k < 18446744073709551616 := Nat.lt_of_le_of_lt (Nat.div_le_self _ _) hv
      generalize v / 256 ^ k = y at *
      go_wp2_with (at_builtin; refine wpList_append_b rfl (.tmp 17) (.tmp 21) 87 rfl w.heap.size 5 i0 (.int .u8 0) Tryd.underlying87 hi hz0 hz1 hz2 rfl _ (l.length + k) _ rfl (hown.alloc _) (some ⟨wr.heap.size, 0, none⟩) 1 [UInt8.ofNat y] rfl ?hr1 (fun e => by cases e) (by simp; omega) (by have := hbw.size; simp; omega) ?_; (case hr1 => exact Rd.one _ _ _ (u8m y)); intro v2 w2 hown2 hg2 hat2)
      have hb2 : Below w.heap.size w w2 := (hbw.alloc hbw.size _).grown hg2 (by have := hbw.size; simp; omega) (fun k hk => (hown.lt k hk).1)
      go_roundw
      case rel => exact ⟨k + 1, by omega, by go_num, by rw [HX.out]; simp, by rw [HL.out]; simpa [bv_append, Nat.add_assoc, List.append_assoc] using hown2, hb2⟩
      case measure => simp [intOf]; omega
    · obtain rfl : k = size := by omega
      go_wp2_with (fail)
      go_ret
      exact ⟨_, rfl, by simpa [leB_length] using hown, hbw⟩
def RTextP (w : World) (l : List UInt8) (e : Ending) (w' : World) : Prop := ∃ v, e = .returned (.tuple #[v, .int .i64 0]) ∧ w'.ownsRow w.heap.size 5 1 v l.length (bv l) ∧ Below w.heap.size w w'
theorem rtext_long (v : Value) (s : ByteArray) (w : World) (hs : 255 < s.size) (hs2 : s.size ≤ 9223372036854775807) :
    Calls Tryd.prog 78 #[v, .string s] w fun e w' => e = .returned (.tuple #[.slice none 0 0, .int .i64 5]) ∧ Below w.heap.size w w' := by
  go_enter Tryd.func78, Tryd.ntmps78
  go_wp2_with (fail)
  go_ret2
  exact ⟨rfl, Below.refl _ _⟩
theorem bytes_below (w : World) (e : TypeId) (s : ByteArray) : Below w.heap.size w (Lib.bytesWorld w e s) := by
  refine ⟨?_, ?_, ?_, by rw [Lib.bytesWorld_size]; omega, fun k hk => Lib.bytesWorld_at_old w e s k hk⟩ <;> (unfold Lib.bytesWorld World.freeze; split <;> rfl)
theorem bytes_rd (w : World) (e : TypeId) (s : ByteArray) : Rd (Lib.bytesWorld w e s) (some ⟨w.heap.size, 0, none⟩) (sB s) := by
  refine ⟨fun h => (by cases h), fun i hi => ⟨_, rfl, ?_, ?_⟩⟩
  · rw [add_block, Lib.bytesWorld_size]; exact Nat.lt_succ_self _
  · have hi2 : i < s.size := by rw [← sB_length]; exact hi
    have ha : (⟨w.heap.size, 0, none⟩ : Addr).add i = ⟨w.heap.size, i, none⟩ := by
      by_cases h0 : i = 0
      · subst h0; exact add0 _
      · rw [add_lit _ _ h0]; simp
    rw [ha, Lib.bytesWorld_cell w e s i hi2]
    have h3 : i < s.data.size := hi2
    have : s.data.toList.getD i 0 = (sB s)[i] := by simp [List.getD, sB, Array.getElem?_eq_getElem h3]
    rw [this]
    rfl
set_option maxRecDepth 100000 in
set_option maxHeartbeats 4000000 in
theorem rtext_ok (A : Option Addr) (c : Nat) (l : List UInt8) (s : ByteArray) (w : World) (hrd : Rd w A l) (hcz : A = none → c = 0) (hl : l.length ≤ 140737488350000) (hs : s.size ≤ 255) :
    Calls Tryd.prog 78 #[.slice A l.length c, .string s] w (RTextP w (l ++ txt s)) := by
  obtain ⟨i0, hi, hz0, hz1, hz2⟩ := info_parts infoU8
  go_enter Tryd.func78, Tryd.ntmps78
  go_wp2_with (first | (go_at_call 80; (with_reducible refine (rput_n _ _ _ _ _ s.size 1 _ hrd hcz (by omega) (by simp) (by omega) (by decide) (by omega)).mono ?_); rintro e w1 ⟨v1, rfl, hown, hb⟩))
  rw [Lib.run_convert_string_bytes w1 _ _ 5 s Tryd.underlying9 Tryd.underlying87 Tryd.underlying5]
  have hb2 := hb.trans (Below.mono (bytes_below w1 5 s) hb.size)
  have hrd2 := bytes_rd w1 5 s
  have hown2 := own_below hown (bytes_below w1 5 s)
  generalize Lib.bytesWorld w1 5 s = w9 at *
  generalize grownCap w1 s.size 0 5 = cp at *
  go_wp2_with (at_builtin; refine wpList_append_b rfl (.tmp 13) (.tmp 15) 87 rfl w.heap.size 5 i0 (.int .u8 0) Tryd.underlying87 hi hz0 hz1 hz2 rfl v1 _ _ rfl hown2 (some ⟨w1.heap.size, 0, none⟩) cp (sB s) rfl hrd2 (fun e => by cases e) (by rw [sB_length]; simp [leB_length]; omega) hb2.size ?_; intro v3 w3 hown3 hg3 hat3)
  go_ret2
  refine ⟨v3, rfl, ?_, hb2.grown hg3 hb2.size (fun k hk => (hown2.lt k hk).1)⟩
  simpa [txt, bv_append, leB_length, sB_length, Nat.add_assoc, List.append_assoc] using hown3
end Go.Proofs.YtffdglhdklmjoaaDoor
