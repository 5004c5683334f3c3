/-
 crc.More, crc.Sum.
-/
import Derived.Test.YtikfgnmljpjnbaaDoorBytpob
import Derived.Test.YtikfgnmljpjnbaaDoorCrcmpob
import Derived.Test.YtikfgnmljpjnbaaDoorW01pob
import Derived.LoopTactic
import Derived.Laws.BitsAllLaws
namespace Go.Proofs.YtikfgnmljpjnbaaDoor
open Go.RowKit Go.Extern.Stop Go.Stop Go.Extern
set_option linter.unusedVariables false
set_option linter.unusedSimpArgs false
theorem u32x (a b : Nat) (ha : a < 2 ^ 32) (hb : b < 2 ^ 32) : bits BinOp.xor IntKind.u32 (a : Int) (b : Int) = ((a ^^^ b : Nat) : Int) := by
 have := u32_xor (a : Int) (b : Int) (by omega) (by omega) (by omega) (by omega)
 simpa using this
theorem u32xp (a : Nat) (ha : a < 2 ^ 32) : bits BinOp.xor IntKind.u32 (a : Int) 3988292384 = ((a ^^^ polyC : Nat) : Int) := by
 have := u32x a 3988292384 ha (by omega)
 simpa [polyC] using this
theorem u32a (a : Nat) (ha : a < 2 ^ 32) : bits BinOp.and IntKind.u32 (a : Int) 1 = ((a % 2 : Nat) : Int) := by
 have := u32_and (a : Int) 1 (by omega) (by omega) (by omega) (by omega)
 rw [this]
 simp [Nat.and_one_is_mod]
theorem not_ones (a : Nat) (ha : a < 2 ^ 32) : 4294967295 ^^^ a = 4294967295 - a := by
 have : BitVec.ofNat 32 (4294967295 ^^^ a) = ~~~ BitVec.ofNat 32 a := by
   apply BitVec.eq_of_getLsbD_eq
   intro i hi
   have h1 : (4294967295 : Nat).testBit i = true := by
     have : (4294967295 : Nat) = 2 ^ 32 - 1 := by decide
     rw [this, Nat.testBit_two_pow_sub_one]; simpa using hi
   simp only [BitVec.getLsbD_ofNat, BitVec.getLsbD_not, Nat.testBit_xor, h1, hi, decide_true, Bool.true_and, Bool.true_xor]
 have h2 := congrArg BitVec.toNat this
 simp only [BitVec.toNat_ofNat, BitVec.toNat_not] at h2
 have h3 : 4294967295 ^^^ a < 2 ^ 32 := Nat.xor_lt_two_pow (by decide) ha
 omega
theorem u32n (a : Nat) (ha : a < 2 ^ 32) : bits BinOp.xor IntKind.u32 IntKind.u32.max (a : Int) = ((4294967295 - a : Nat) : Int) := by
 have hm : IntKind.u32.max = ((4294967295 : Nat) : Int) := by decide
 rw [hm, u32x _ _ (by decide) ha, not_ones a ha]
set_option maxRecDepth 100000 in
set_option maxHeartbeats 4000000 in
theorem more_c (s : Nat) (hs : s < 2 ^ 32) (A : Option Addr) (c : Nat) (l : List UInt8) (w : World) (hrd : Rd w A l) (hl : l.length ≤ 140737488355328) :
   Calls Tryd.prog 109 #[.int .u32 s, .slice A l.length c] w fun e w' => e = .returned (.int .u32 (crcMore s l : Nat)) ∧ w = w' := by
 have hn := u32n s hs
 go_enter Tryd.func109, Tryd.ntmps109
 go_wp2_with (fail)
 clear hn
 go_loop [5, 13] (fun r i => ∃ k : Nat, k ≤ l.length ∧ i = .int .i64 k ∧ r = .int .u32 (crcReg (4294967295 - s) (l.take k) : Nat)) (fun _ i => l.length - (intOf i).toNat)
 case atStart => exact ⟨0, by omega, rfl, by simp [crcReg]⟩
 case round =>
   obtain ⟨k, hk, rfl, rfl⟩ := hrel
   have hr := crcReg_lt (l.take k) (r := 4294967295 - s) (by omega)
   by_cases hlt : k < l.length
   · obtain ⟨ad, rfl, hbk, hcell⟩ := hrd.at_ hlt
     have hx := byte_lt l[k]
     have HS := Lib.hid (show crcReg (4294967295 - s) (l.take (k + 1)) = crcBits 8 (crcReg (4294967295 - s) (l.take k) ^^^ l[k].toNat) by
       rw [List.take_succ_eq_append_getElem hlt, crcReg_snoc]; rfl)
     generalize crcReg (4294967295 - s) (l.take k) = r at *
     have hX := u32x r l[k].toNat hr hx
     have hv := Nat.xor_lt_two_pow hr hx
     go_wp2_with (fail)
     clear hX
     generalize r ^^^ l[k].toNat = v0 at *
     go_loop [5, 21] (fun t j => ∃ q : Nat, q ≤ 8 ∧ j = .int .i64 q ∧ t = .int .u32 (crcBits q v0 : Nat)) (fun _ j => 8 - (intOf j).toNat)
     case atStart => exact ⟨0, by omega, rfl, rfl⟩
     case round =>
       obtain ⟨q, hq, rfl, rfl⟩ := hrel
       by_cases hq8 : q < 8
       · have hv' := crcBits_lt q hv
         have HQ := Lib.hid (show crcBits (q + 1) v0 = crcBit (crcBits q v0) from rfl)
         generalize crcBits q v0 = v at *
         by_cases hpar : v % 2 = 1
         · have hA : bits BinOp.and IntKind.u32 (v : Int) 1 = 1 := by rw [u32a v hv', hpar]; rfl
           have hP : bits BinOp.xor IntKind.u32 ((v : Int) / 2) 3988292384 = ((v / 2 ^^^ polyC : Nat) : Int) := by
             have := u32xp (v / 2) (by omega); simpa using this
           have HV := Lib.hid (show crcBit v = v / 2 ^^^ polyC by unfold crcBit; rw [if_pos hpar])
           clear hpar
           go_wp2_with (fail)
           go_round
           case rel => exact ⟨q + 1, by omega, by go_num, by rw [HQ.out, HV.out]⟩
           case measure => simp [intOf]; omega
         · have hA : bits BinOp.and IntKind.u32 (v : Int) 1 = 0 := by rw [u32a v hv', show v % 2 = 0 by omega]; rfl
           have HV := Lib.hid (show crcBit v = v / 2 by unfold crcBit; rw [if_neg hpar])
           clear hpar
           go_wp2_with (fail)
           go_round
           case rel => exact ⟨q + 1, by omega, by go_num, by rw [HQ.out, HV.out]; simp⟩
           case measure => simp [intOf]; omega
       · obtain rfl : q = 8 := by omega
         go_wp2_with (fail)
         go_round
         case rel => exact ⟨k + 1, by omega, by go_num, by rw [HS.out]⟩
         case measure => simp [intOf]; omega
   · obtain rfl : k = l.length := by omega
     have hn := u32n (crcReg (4294967295 - s) (l.take l.length)) hr
     rw [List.take_length] at hn ⊢
     go_wp2_with (fail)
     go_ret
     exact ⟨by unfold crcMore; rfl, rfl⟩
theorem more_c0 (A : Option Addr) (c : Nat) (l : List UInt8) (w : World) (hrd : Rd w A l) (hl : l.length ≤ 140737488355328) :
   Calls Tryd.prog 109 #[.int .u32 0, .slice A l.length c] w fun e w' => e = .returned (.int .u32 (crcMore 0 l : Nat)) ∧ w = w' := more_c 0 (by omega) A c l w hrd hl
theorem sum_c (A : Option Addr) (c : Nat) (l : List UInt8) (w : World) (hrd : Rd w A l) (hl : l.length ≤ 140737488355328) :
   Calls Tryd.prog 85 #[.slice A l.length c] w fun e w' => e = .returned (.int .u32 (crcMore 0 l : Nat)) ∧ w = w' := by
 go_enter Tryd.func85, Tryd.ntmps85
 go_wp2_with (go_at_call 109; (with_reducible refine (more_c0 _ _ _ _ hrd hl).mono ?_); rintro e w' ⟨rfl, rfl⟩)
 go_ret
 exact ⟨rfl, rfl⟩
end Go.Proofs.YtikfgnmljpjnbaaDoor
