/-
 crc.Sealed.
-/
import Derived.Test.YtikfgnmljpjnbaaDoorW04pob
import Derived.RangeFuncBox
namespace Go.Proofs.YtikfgnmljpjnbaaDoor
open Go.RowKit Go.Extern.Stop Go.Stop Go.Extern
set_option linter.unusedVariables false
set_option linter.unusedSimpArgs false
theorem infoU84 : (Tryd.prog.info? 5).map (fun i => (i.zero, i.size, i.bytes)) = some (some (.int .u8 0), 1, 1) := by kernel_rfl
theorem Rd.one4 (w : World) (x : UInt8) (v : Value) (hv : v = bV x) : Rd (w.alloc (.cells #[v] 5)) (some ⟨w.heap.size, 0, none⟩) [x] := by
 subst hv
 refine ⟨(fun e => by cases e), fun i hi => ⟨_, rfl, ?_, ?_⟩⟩
 · rw [add_block]; simp
 · obtain rfl : i = 0 := by simpa using hi
   simp [Addr.add]
def SealP (w : World) (l : List UInt8) (e : Ending) (w' : World) : Prop := ∃ g cap, e = .returned (.slice (some ⟨g, 0, none⟩) (l.length + 4) cap) ∧ w'.ownsRow w.heap.size 5 1 (.slice (some ⟨g, 0, none⟩) (l.length + 4) cap) (l.length + 4) (bv (sealOf l)) ∧ Below w.heap.size w w'
theorem u8b (s i : Nat) (d : Int) (h : d = (s : Int) / 2 ^ (8 * i)) : Value.int .u8 (IntKind.u8.wrap d) = bV (sumByte s i) := by
 subst h
 unfold bV
 rw [IntKind.wrap_u8', sumByte_toNat]
 congr 1
theorem u8b3 (s : Nat) (hs : s < 2 ^ 32) : Value.int .u8 ((s : Int) / 16777216) = bV (sumByte s 3) := by
 unfold bV
 rw [sumByte_toNat]
 congr 1
 have : s / 2 ^ (8 * 3) % 256 = s / 16777216 := by
   have : (2 : Nat) ^ (8 * 3) = 16777216 := by decide
   rw [this]; omega
 rw [this]; simp
set_option maxRecDepth 100000 in
set_option maxHeartbeats 4000000 in
theorem sealed_c (A : Option Addr) (c : Nat) (l : List UInt8) (w : World) (hrd : Rd w A l) (hcz : A = none → c = 0) (hl : l.length ≤ 140737488355000) :
   Calls Tryd.prog 38 #[.slice A l.length c] w (SealP w l) := by
 obtain ⟨i0, hi, hz0, hz1, hz2⟩ := info_parts infoU84
 have hs := crcMore_lt 0 l
 go_enter Tryd.func38, Tryd.ntmps38
 go_wp2_with (first | (go_at_call 85; (with_reducible refine (sum_c _ _ _ _ hrd (by omega)).mono ?_); rintro e w' ⟨rfl, rfl⟩) | (at_make; refine wpList_make_own _ rfl _ _ 22 rfl w.heap.size 5 i0 (.int .u8 0) 1 Tryd.underlying22 hi hz0 hz1 .i64 .i64 _ (l.length + 4) rfl rfl (rfl) (by rw [hz2]; omega) (by unfold maxLen; omega) (Nat.le_refl _) ?_; intro w0 hown0 hg0; have hb0 := (Below.refl w.heap.size w).grown hg0 (Nat.le_refl _) (by intro k e; cases e)) | (at_builtin; refine wpList_append_b rfl (.tmp 12) (.tmp 13) 22 rfl w.heap.size 5 i0 (.int .u8 0) Tryd.underlying22 hi hz0 hz1 hz2 rfl _ 0 [] rfl hown0 A c l rfl (hrd.below hb0) hcz (by omega) hb0.size ?_; intro v1 w1 hown1 hg1 hat1))
 have hb1 : Below w.heap.size w w1 := hb0.grown hg1 hb0.size (fun k hk => (hown0.lt k hk).1)
 simp only [Nat.zero_add, List.nil_append] at hown1
 clear hown0 hg0 hg1 hat1 hb0
 go_loopw [4, 15] (fun v i wr => ∃ k : Nat, k ≤ 4 ∧ i = .int .i64 k ∧ wr.ownsRow w.heap.size 5 1 v (l.length + k) (bv (l ++ (sumBytes (crcMore 0 l)).take k)) ∧ Below w.heap.size w wr) (fun _ i _ => 4 - (intOf i).toNat)
 case atStart => exact ⟨0, by omega, rfl, by simpa using hown1, hb1⟩
 case round =>
   obtain ⟨k, hk, rfl, hown, hbw⟩ := hrel
   obtain rfl | rfl | rfl | rfl | rfl : k = 0 ∨ k = 1 ∨ k = 2 ∨ k = 3 ∨ k = 4 := by omega
   · go_wp2_with (at_builtin; refine wpList_append_b rfl (.tmp 18) (.tmp 24) 22 rfl w.heap.size 5 i0 (.int .u8 0) Tryd.underlying22 hi hz0 hz1 hz2 rfl _ (l.length + 0) _ rfl (hown.alloc _) (some ⟨wr.heap.size, 0, none⟩) 1 [sumByte (crcMore 0 l) 0] rfl ?hr0 (fun e => by cases e) (by simp; omega) (by have := hbw.size; simp; omega) ?_; (case hr0 => (first | (refine Rd.one4 _ _ _ (u8b _ _ _ ?_); simp; done) | exact Rd.one4 _ _ _ (u8b3 _ hs))); intro v2 w2 hown2 hg2 hat2)
     have hb2 : Below w.heap.size w w2 := (hbw.alloc hbw.size _).grown hg2 (by have := hbw.size; simp; omega) (fun k hk => (hown.lt k hk).1)
     go_roundw
     case rel => exact ⟨1, by omega, rfl, by simpa [bv, sumBytes, Nat.add_assoc, List.map_append, List.append_assoc] using hown2, hb2⟩
     case measure => simp [intOf]
   · go_wp2_with (at_builtin; refine wpList_append_b rfl (.tmp 18) (.tmp 24) 22 rfl w.heap.size 5 i0 (.int .u8 0) Tryd.underlying22 hi hz0 hz1 hz2 rfl _ (l.length + 1) _ rfl (hown.alloc _) (some ⟨wr.heap.size, 0, none⟩) 1 [sumByte (crcMore 0 l) 1] rfl ?hr1 (fun e => by cases e) (by simp; omega) (by have := hbw.size; simp; omega) ?_; (case hr1 => (first | (refine Rd.one4 _ _ _ (u8b _ _ _ ?_); simp; done) | exact Rd.one4 _ _ _ (u8b3 _ hs))); intro v2 w2 hown2 hg2 hat2)
     have hb2 : Below w.heap.size w w2 := (hbw.alloc hbw.size _).grown hg2 (by have := hbw.size; simp; omega) (fun k hk => (hown.lt k hk).1)
     go_roundw
     case rel => exact ⟨2, by omega, rfl, by simpa [bv, sumBytes, Nat.add_assoc, List.map_append, List.append_assoc] using hown2, hb2⟩
     case measure => simp [intOf]
   · go_wp2_with (at_builtin; refine wpList_append_b rfl (.tmp 18) (.tmp 24) 22 rfl w.heap.size 5 i0 (.int .u8 0) Tryd.underlying22 hi hz0 hz1 hz2 rfl _ (l.length + 2) _ rfl (hown.alloc _) (some ⟨wr.heap.size, 0, none⟩) 1 [sumByte (crcMore 0 l) 2] rfl ?hr2 (fun e => by cases e) (by simp; omega) (by have := hbw.size; simp; omega) ?_; (case hr2 => (first | (refine Rd.one4 _ _ _ (u8b _ _ _ ?_); simp; done) | exact Rd.one4 _ _ _ (u8b3 _ hs))); intro v2 w2 hown2 hg2 hat2)
     have hb2 : Below w.heap.size w w2 := (hbw.alloc hbw.size _).grown hg2 (by have := hbw.size; simp; omega) (fun k hk => (hown.lt k hk).1)
     go_roundw
     case rel => exact ⟨3, by omega, rfl, by simpa [bv, sumBytes, Nat.add_assoc, List.map_append, List.append_assoc] using hown2, hb2⟩
     case measure => simp [intOf]
   · go_wp2_with (at_builtin; refine wpList_append_b rfl (.tmp 18) (.tmp 24) 22 rfl w.heap.size 5 i0 (.int .u8 0) Tryd.underlying22 hi hz0 hz1 hz2 rfl _ (l.length + 3) _ rfl (hown.alloc _) (some ⟨wr.heap.size, 0, none⟩) 1 [sumByte (crcMore 0 l) 3] rfl ?hr3 (fun e => by cases e) (by simp; omega) (by have := hbw.size; simp; omega) ?_; (case hr3 => (first | (refine Rd.one4 _ _ _ (u8b _ _ _ ?_); simp; done) | exact Rd.one4 _ _ _ (u8b3 _ hs))); intro v2 w2 hown2 hg2 hat2)
     have hb2 : Below w.heap.size w w2 := (hbw.alloc hbw.size _).grown hg2 (by have := hbw.size; simp; omega) (fun k hk => (hown.lt k hk).1)
     go_roundw
     case rel => exact ⟨4, by omega, rfl, by simpa [bv, sumBytes, Nat.add_assoc, List.map_append, List.append_assoc] using hown2, hb2⟩
     case measure => simp [intOf]
   · go_wp2_with (fail)
     obtain ⟨g, cap, rfl⟩ := ownsRow_succ (k := l.length + 3) hown
     go_ret
     exact ⟨g, cap, rfl, by simpa [sealOf, sumBytes] using hown, hbw⟩
end Go.Proofs.YtikfgnmljpjnbaaDoor
