/-
 Layer 4: the reference's Sum, alone.
-/
import Derived.Test.YtgondiedehjkhaaGreatDoorW04pgw
import Derived.LoopTactic
import Derived.Deep.RegionWith
import Derived.RegionTactic
namespace Go.Proofs.YtgondiedehjkhaaGreatDoor
open Go.RowKit Go.Extern.Stop Go.Stop Go.Extern
set_option linter.unusedVariables false
set_option linter.unusedSimpArgs false
theorem bit_xor (u v c : Nat) (h : u = v ^^^ c) : u % 2 = (v + c) % 2 ∧ crcBit u = (if (v + c) % 2 = 1 then v / 2 ^^^ polyC else v / 2) ^^^ (c / 2) := by
 subst h
 have h1 : (v ^^^ c) % 2 = (v + c) % 2 := by
   have h0 := @Nat.xor_mod_two_eq_one v c
   omega
 refine ⟨h1, ?_⟩
 unfold crcBit
 rw [h1, Nat.xor_div_two]
 split
 · rw [Nat.xor_assoc, Nat.xor_comm (c / 2), ← Nat.xor_assoc]
 · rfl
set_option maxRecDepth 100000 in
set_option maxHeartbeats 4000000 in
theorem rsum_n (A : Option Addr) (c n : Nat) (l : List UInt8) (w : World) (hrd : Rd w A l) (hn : n = l.length) (hl : l.length ≤ 140737488355328) :
   Calls Tryz.prog 47 #[.slice A n c] w fun e w' => e = .returned (.int .u32 (crcMore 0 l : Nat)) ∧ w = w' := by
 subst hn
 go_enter Tryz.func47, Tryz.ntmps47
 go_wp2_with (fail)
 go_loop [3, 4] (fun r i => ∃ k : Nat, k ≤ l.length ∧ i = .int .i64 k ∧ r = .int .u32 (crcReg 4294967295 (l.take k) : Nat)) (fun _ i => l.length - (intOf i).toNat)
 case atStart => exact ⟨0, by omega, rfl, by simp [crcReg]⟩
 case round =>
   obtain ⟨k, hk, rfl, rfl⟩ := hrel
   have hr := crcReg_lt (l.take k) (r := 4294967295) (by omega)
   by_cases hlt : k < l.length
   · obtain ⟨ad, rfl, hbk, hcell⟩ := hrd.at_ hlt
     have hx := l[k].toNat_lt
     have HS := Lib.hid (show crcReg 4294967295 (l.take (k + 1)) = crcBits 8 (crcReg 4294967295 (l.take k) ^^^ l[k].toNat) by
       rw [List.take_succ_eq_append_getElem hlt, crcReg_snoc]; rfl)
     generalize crcReg 4294967295 (l.take k) = r at *
     go_wp2_with (fail)
     generalize l[k].toNat = x at *
     go_loop [3, 5, 6] (fun t cc j => ∃ q v : Nat, q ≤ 8 ∧ v < 4294967296 ∧ j = .int .i64 q ∧ t = .int .u32 (v : Nat) ∧ cc = .int .u32 ((x / 2 ^ q : Nat) : Int) ∧ crcBits q (r ^^^ x) = v ^^^ (x / 2 ^ q)) (fun _ _ j => 8 - (intOf j).toNat)
     case atStart => exact ⟨0, r, by omega, by omega, rfl, rfl, by simp, by simp [crcBits]⟩
     case round =>
       obtain ⟨q, v, hq, hv, rfl, rfl, rfl, hu⟩ := hrel
       have hcx : x / 2 ^ q ≤ x := Nat.div_le_self _ _
       by_cases hq8 : q < 8
       · have hb := bit_xor _ _ _ hu
         have HQ := Lib.hid (show crcBits (q + 1) (r ^^^ x) = (if (v + x / 2 ^ q) % 2 = 1 then v / 2 ^^^ polyC else v / 2) ^^^ (x / 2 ^ q / 2) from hb.2)
         have HC := Lib.hid (show x / 2 ^ (q + 1) = x / 2 ^ q / 2 by rw [Nat.pow_succ, Nat.div_div_eq_div_mul])
         clear hu hb
         generalize x / 2 ^ q = y at *
         by_cases hpar : (v + y) % 2 = 1
         · have hA : (((v : Int) + y) % 2 == 1) = true := beq_iff_eq.2 (by omega)
           have hP : bits BinOp.xor IntKind.u32 ((v : Int) / 2) 3988292384 = ((v / 2 ^^^ polyC : Nat) : Int) := by
             have := u32xp (v / 2) (by omega); simpa using this
           have hlt2 : v / 2 ^^^ polyC < 4294967296 := Nat.xor_lt_two_pow (n := 32) (by omega) polyC_lt
           have HV := Lib.hid (show (if (v + y) % 2 = 1 then v / 2 ^^^ polyC else v / 2) = v / 2 ^^^ polyC from if_pos hpar)
           clear hpar
           go_wp2_with (fail)
           go_round
           case rel => exact ⟨q + 1, _, by omega, hlt2, by go_num, rfl, by rw [HC.out]; simp, by rw [HQ.out, HV.out, HC.out]⟩
           case measure => simp [intOf]; omega
         · have hA : (((v : Int) + y) % 2 == 1) = false := beq_false_of_ne (by omega)
           have HV := Lib.hid (show (if (v + y) % 2 = 1 then v / 2 ^^^ polyC else v / 2) = v / 2 from if_neg hpar)
           clear hpar
           go_wp2_with (fail)
           go_round
           case rel => exact ⟨q + 1, v / 2, by omega, by omega, by go_num, by simp, by rw [HC.out]; simp, by rw [HQ.out, HV.out, HC.out]⟩
           case measure => simp [intOf]; omega
       · obtain rfl : q = 8 := by omega
         have hx0 : x / 2 ^ 8 = 0 := Nat.div_eq_of_lt hx
         rw [hx0, Nat.xor_zero] at hu
         have HU := Lib.hid hu
         clear hu hx0
         go_wp2_with (fail)
         go_round
         case rel => exact ⟨k + 1, by omega, by go_num, by rw [HS.out, HU.out]⟩
         case measure => simp [intOf]; omega
   · obtain rfl : k = l.length := by omega
     rw [List.take_length]
     rw [List.take_length] at hr
     have hsub : (4294967295 : Int) - ((crcReg 4294967295 l : Nat) : Int) = ((crcMore 0 l : Nat) : Int) := by
       unfold crcMore; rw [Nat.sub_zero]; omega
     have HSB := Lib.hid hsub
     clear hsub
     generalize crcReg 4294967295 l = r at *
     go_wp2_with (fail)
     go_ret
     exact ⟨congrArg (fun z => Ending.returned (.int .u32 z)) HSB.out, rfl⟩
end Go.Proofs.YtgondiedehjkhaaGreatDoor
