/-
 Layer 5: bytes with numbers and texts behind.
-/
import Derived.Test.YtikfgnmljpjnbaaDoorBytpob
import Derived.Test.YtikfgnmljpjnbaaDoorW01pob
import Derived.LoopTactic
import Derived.RangeFuncBox
import Derived.Lib.AppendStr
namespace Go.Proofs.YtikfgnmljpjnbaaDoor
open Go.RowKit Go.Extern.Stop Go.Stop Go.Extern
set_option linter.unusedVariables false
set_option linter.unusedSimpArgs false
theorem infoU8 : (Tryd.prog.info? 5).map (fun i => (i.zero, i.size, i.bytes)) = some (some (.int .u8 0), 1, 1) := by kernel_rfl
theorem Rd.one (w : World) (x : UInt8) (v : Value) (hv : v = bV x) : Rd (w.alloc (.cells #[v] 5)) (some ⟨w.heap.size, 0, none⟩) [x] := by
 subst hv
 refine ⟨(fun e => by cases e), fun i hi => ⟨_, rfl, ?_, ?_⟩⟩
 · rw [add_block]; simp
 · obtain rfl : i = 0 := by simpa using hi
   simp [Addr.add]
theorem own_shape {w : World} {base n : Nat} {v : Value} {l : List UInt8} (h : w.ownsRow base 5 1 v n (bv l)) : ∃ A c, v = .slice A l.length c ∧ (A = none → c = 0) ∧ Rd w A l ∧ n = l.length ∧ l.length ≤ c := by
 have hl : n = l.length := by have := h.1; rw [bv_length] at this; omega
 subst hl
 rcases h.2 with ⟨rfl, h0⟩ | ⟨g, cap, cur, rfl, _, _, hc, _⟩
 · refine ⟨none, 0, by rw [h0], fun _ => rfl, ?_, rfl, by omega⟩
   rw [List.eq_nil_of_length_eq_zero h0]; exact Rd.nil _ _
 · exact ⟨_, _, rfl, (fun e => by cases e), (Rd.of_own h).1, rfl, hc⟩
theorem own_below {w w' : World} {base n : Nat} {v : Value} {xs : List Value} (h : w.ownsRow base 5 1 v n xs) (hb : Below w.heap.size w w') : w'.ownsRow base 5 1 v n xs :=
 h.kept (row := none) ⟨hb.os, hb.tape, hb.output, hb.size, fun k hk _ => hb.block k hk⟩ (by cases hv : v.ownBlock <;> simp)
def leB (v : Nat) : Nat → List UInt8
 | 0 => []
 | n + 1 => leB v n ++ [UInt8.ofNat (v / 256 ^ n)]
theorem leB_length (v n : Nat) : (leB v n).length = n := by induction n with | zero => rfl | succ n ih => simp [leB, ih]
def OwnP (w : World) (l : List UInt8) (e : Ending) (w' : World) : Prop := ∃ v, e = .returned v ∧ w'.ownsRow w.heap.size 5 1 v l.length (bv l) ∧ Below w.heap.size w w'
theorem u8of (x : Nat) : Value.int .u8 (IntKind.u8.wrap (x : Int)) = bV (UInt8.ofNat x) := by
 unfold bV
 rw [IntKind.wrap_u8', UInt8.toNat_ofNat']
 congr 1
set_option maxRecDepth 100000 in
set_option maxHeartbeats 4000000 in
theorem number_c (A : Option Addr) (c : Nat) (l : List UInt8) (x : Int) (v size : Nat) (w : World) (hrd : Rd w A l) (hcz : A = none → c = 0) (hl : l.length ≤ 140737488355000) (hx : x = (v : Int)) (hv : v < 18446744073709551616) (hsz : size ≤ 8) :
   Calls Tryd.prog 84 #[.slice A l.length c, .int .u64 x, .int .i64 size] w (OwnP w (l ++ leB v size)) := by
 subst hx
 obtain ⟨i0, hi, hz0, hz1, hz2⟩ := info_parts infoU8
 go_enter Tryd.func84, Tryd.ntmps84
 go_wp2_with (first | (at_make; refine wpList_make_own _ rfl _ _ 22 rfl w.heap.size 5 i0 (.int .u8 0) 1 Tryd.underlying22 hi hz0 hz1 .i64 .i64 _ (l.length + size) rfl rfl (by simp) (by rw [hz2]; omega) (by unfold maxLen; omega) (Nat.le_refl _) ?_; intro w0 hown0 hg0; have hb0 := (Below.refl w.heap.size w).grown hg0 (Nat.le_refl _) (by intro k e; cases e)) | (at_builtin; refine wpList_append_b rfl (.tmp 13) (.tmp 14) 22 rfl w.heap.size 5 i0 (.int .u8 0) Tryd.underlying22 hi hz0 hz1 hz2 rfl _ 0 [] rfl hown0 A c l rfl (hrd.below hb0) hcz (by omega) hb0.size ?_; intro v1 w1 hown1 hg1 hat1))
 have hb1 : Below w.heap.size w w1 := hb0.grown hg1 hb0.size (fun k hk => (hown0.lt k hk).1)
 simp only [Nat.zero_add, List.nil_append] at hown1
 clear hown0 hg0 hg1 hat1 hb0
 go_loopw [1, 7, 17] (fun y t i wr => ∃ k : Nat, k ≤ size ∧ i = .int .i64 k ∧ y = .int .u64 ((v / 256 ^ k : Nat) : Int) ∧ wr.ownsRow w.heap.size 5 1 t (l.length + k) (bv (l ++ leB v k)) ∧ Below w.heap.size w wr) (fun _ _ i _ => size - (intOf i).toNat)
 case atStart => exact ⟨0, by omega, rfl, by simp, by simpa [leB] using hown1, hb1⟩
 case round =>
   obtain ⟨k, hk, rfl, rfl, hown, hbw⟩ := hrel
   by_cases hlt : k < size
   · have HX := Lib.hid (show v / 256 ^ (k + 1) = v / 256 ^ k / 256 by rw [Nat.pow_succ, Nat.div_div_eq_div_mul])
     have HL := Lib.hid (show leB v (k + 1) = leB v k ++ [UInt8.ofNat (v / 256 ^ k)] from rfl)
     have hy : v / 256 ^ k < 18446744073709551616 := Nat.lt_of_le_of_lt (Nat.div_le_self _ _) hv
     generalize v / 256 ^ k = y at *
     go_wp2_with (at_builtin; refine wpList_append_b rfl (.tmp 19) (.tmp 22) 22 rfl w.heap.size 5 i0 (.int .u8 0) Tryd.underlying22 hi hz0 hz1 hz2 rfl _ (l.length + k) _ rfl (hown.alloc _) (some ⟨wr.heap.size, 0, none⟩) 1 [UInt8.ofNat y] rfl ?hr1 (fun e => by cases e) (by simp; omega) (by have := hbw.size; simp; omega) ?_; (case hr1 => exact Rd.one _ _ _ (u8of y)); intro v2 w2 hown2 hg2 hat2)
     have hb2 : Below w.heap.size w w2 := (hbw.alloc hbw.size _).grown hg2 (by have := hbw.size; simp; omega) (fun k hk => (hown.lt k hk).1)
     go_roundw
     case rel => exact ⟨k + 1, by omega, by go_num, by rw [HX.out]; simp, by rw [HL.out]; simpa [bv_append, Nat.add_assoc, List.append_assoc] using hown2, hb2⟩
     case measure => simp [intOf]; omega
   · obtain rfl : k = size := by omega
     go_wp2_with (fail)
     go_ret
     exact ⟨_, rfl, by simpa [leB_length] using hown, hbw⟩
end Go.Proofs.YtikfgnmljpjnbaaDoor
