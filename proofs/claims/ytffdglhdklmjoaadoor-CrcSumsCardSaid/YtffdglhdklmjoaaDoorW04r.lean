/-
  Layer 4: the reference's Sum, Sealed, Opened.
-/
import Derived.Test.YtffdglhdklmjoaaDoorW04c
import Derived.LoopTactic
import Derived.Deep.RegionWith
import Derived.RegionTactic
namespace Go.Proofs.YtffdglhdklmjoaaDoor
open Go.RowKit Go.Extern.Stop Go.Stop Go.Extern
set_option linter.unusedVariables false
set_option linter.unusedSimpArgs false
theorem bit_xor (u v c : Nat) (h : u = v ^^^ c) : u % 2 = (v + c) % 2 ∧ crcBit u = (if (v + c) % 2 = 1 then v / 2 ^^^ polyC else v / 2) ^^^ (c / 2) := by
  subst h
  have h1 : (v ^^^ c) % 2 = (v + c) % 2 := by
    have h0 := @Nat.xor_mod_two_eq_one v c
    omega
  refine ⟨h1, ?_⟩
  unfold crcBit
  rw [h1, Nat.xor_div_two]
  split
  · rw [Nat.xor_assoc, Nat.xor_comm (c / 2), ← Nat.xor_assoc]
  · rfl
set_option maxRecDepth 100000 in
set_option maxHeartbeats 4000000 in
theorem rsum_n (A : Option Addr) (c n : Nat) (l : List UInt8) (w : World) (hrd : Rd w A l) (hn : n = l.length) (hl : l.length ≤ 140737488355328) :
    Calls Tryd.prog 59 #[.slice A n c] w fun e w' => e = .returned (.int .u32 (crcMore 0 l : Nat)) ∧ w = w' := by
  subst hn
  go_enter Tryd.func59, Tryd.ntmps59
  go_wp2_with (fail)
  go_loop [3, 4] (fun r i => ∃ k : Nat, k ≤ l.length ∧ i = .int .i64 k ∧ r = .int .u32 (crcReg 4294967295 (l.take k) : Nat)) (fun _ i => l.length - (intOf i).toNat)
  case atStart => exact ⟨0, by omega, rfl, by simp [crcReg]⟩
  case round =>
    obtain ⟨k, hk, rfl, rfl⟩ := hrel
    have hr := crcReg_lt (l.take k) (r := 4294967295) (by omega)
    by_cases hlt : k < l.length
    · obtain ⟨ad, rfl, hbk, hcell⟩ := hrd.at_ hlt
      have hx := l[k].toNat_lt
      have HS := Lib.hid (show crcReg 4294967295 (l.take (k + 1)) = crcBits 8 (crcReg 4294967295 (l.take k) ^^^ l[k].toNat) by
        rw [List.take_succ_eq_append_getElem hlt, crcReg_snoc]; rfl)
      generalize crcReg 4294967295 (l.take k) = r at *
      go_wp2_with (fail)
      generalize l[k].toNat = x at *
      go_loop [3, 5, 6] (fun t cc j => ∃ q v : Nat, q ≤ 8 ∧ v < 4294967296 ∧ j = .int .i64 q ∧ t = .int .u32 (v : Nat) ∧ cc = .int .u32 ((x / 2 ^ q : Nat) : Int) ∧ crcBits q (r ^^^ x) = v ^^^ (x / 2 ^ q)) (fun _ _ j => 8 - (intOf j).toNat)
      case atStart => exact ⟨0, r, by omega, by omega, rfl, rfl, by simp, by simp [crcBits]⟩
      case round =>
        obtain ⟨q, v, hq, hv, rfl, rfl, rfl, hu⟩ := hrel
        have hcx : x / 2 ^ q ≤ x := Nat.div_le_self _ _
        by_cases hq8 : q < 8
        · have hb := bit_xor _ _ _ hu
          have HQ := Lib.hid (show crcBits (q + 1) (r ^^^ x) = (if (v + x / 2 ^ q) % 2 = 1 then v / 2 ^^^ polyC else v / 2) ^^^ (x / 2 ^ q / 2) from hb.2)
          have HC := Lib.hid (show x / 2 ^ (q + 1) = x / 2 ^ q / 2 by rw [Nat.pow_succ, Nat.div_div_eq_div_mul])
          clear hu hb
          generalize x / 2 ^ q = y at *
          by_cases hpar : (v + y) % 2 = 1
          · have hA : (((v : Int) + y) % 2 == 1) = true := beq_iff_eq.2 (by omega)
            have hP : bits BinOp.xor IntKind.u32 ((v : Int) / 2) 3988292384 = ((v / 2 ^^^ polyC : Nat) : Int) := by
              have := u32xp (v / 2) (by omega); simpa using this
            have hlt2 : v / 2 ^^^ polyC < 4294967296 := Nat.xor_lt_two_pow (n := 32) (by omega) polyC_lt
            have HV := Lib.hid (show (if (v + y) % 2 = 1 then v / 2 ^^^ polyC else v / 2) = v / 2 ^^^ polyC from if_pos hpar)
            clear hpar
            go_wp2_with (fail)
            go_round
            case rel => exact ⟨q + 1, _, by omega, hlt2, by go_num, rfl, by rw [HC.out]; simp, by rw [HQ.out, HV.out, HC.out]⟩
            case measure => simp [intOf]; omega
          · have hA : (((v : Int) + y) % 2 == 1) = false := beq_false_of_ne (by omega)
            have HV := Lib.hid (show (if (v + y) % 2 = 1 then v / 2 ^^^ polyC else v / 2) = v / 2 from if_neg hpar)
            clear hpar
            go_wp2_with (fail)
            go_round
            case rel => exact ⟨q + 1, v / 2, by omega, by omega, by go_num, by simp, by rw [HC.out]; simp, by rw [HQ.out, HV.out, HC.out]⟩
            case measure => simp [intOf]; omega
        · obtain rfl : q = 8 := by omega
          have hx0 : x / 2 ^ 8 = 0 := Nat.div_eq_of_lt hx
          rw [hx0, Nat.xor_zero] at hu
          have HU := Lib.hid hu
          clear hu hx0
          go_wp2_with (fail)
          go_round
          case rel => exact ⟨k + 1, by omega, by go_num, by rw [HS.out, HU.out]⟩
          case measure => simp [intOf]; omega
    · obtain rfl : k = l.length := by omega
      rw [List.take_length]
      rw [List.take_length] at hr
      have hsub : (4294967295 : Int) - ((crcReg 4294967295 l : Nat) : Int) = ((crcMore 0 l : Nat) : Int) := by
        unfold crcMore; rw [Nat.sub_zero]; omega
      have HSB := Lib.hid hsub
      clear hsub
      generalize crcReg 4294967295 l = r at *
      go_wp2_with (fail)
      go_ret
      exact ⟨congrArg (fun z => Ending.returned (.int .u32 z)) HSB.out, rfl⟩
theorem u8m4 (y : Nat) : Value.int .u8 ((y : Int) % 256) = bV (UInt8.ofNat y) := by
  unfold bV
  rw [UInt8.toNat_ofNat']
  congr 1
def OwnQ (w : World) (l : List UInt8) (e : Ending) (w' : World) : Prop := ∃ v, e = .returned v ∧ w'.ownsRow w.heap.size 5 1 v l.length (bv l) ∧ Below w.heap.size w w'
/-- the first bytes of a sum -/
def sumsTo (s : Nat) (k : Nat) : List UInt8 := (List.range k).map (sumByte s)
theorem sumsTo_four (s : Nat) : sumsTo s 4 = sumBytes s := rfl
theorem sumsTo_succ (s k : Nat) : sumsTo s (k + 1) = sumsTo s k ++ [sumByte s k] := by unfold sumsTo; rw [List.range_succ, List.map_append]; rfl
theorem sumsTo_length (s k : Nat) : (sumsTo s k).length = k := by simp [sumsTo]
theorem seal_eq (l : List UInt8) : sealOf l = l ++ sumsTo (crcMore 0 l) 4 := rfl
set_option maxRecDepth 100000 in
set_option maxHeartbeats 4000000 in
theorem rsealed_n (A : Option Addr) (c n : Nat) (l : List UInt8) (w : World) (hrd : Rd w A l) (hn : n = l.length) (hcz : A = none → c = 0) (hl : l.length ≤ 140737488355000) :
    Calls Tryd.prog 62 #[.slice A n c] w (OwnQ w (sealOf l)) := by
  subst hn
  obtain ⟨S, hS⟩ : ∃ S, crcMore 0 l = S := ⟨_, rfl⟩
  have hSl : S < 4294967296 := by rw [← hS]; exact crcMore_lt 0 l
  have hsum : ∀ w : World, Rd w A l → Calls Tryd.prog 59 #[.slice A l.length c] w fun e w' => e = .returned (.int .u32 (S : Nat)) ∧ w = w' := fun w h => by rw [← hS]; exact rsum_n A c _ l w h rfl (by omega)
  have HSUM := Lib.hid hsum
  have HSE := Lib.hid (show sealOf l = l ++ sumsTo S 4 by rw [seal_eq, hS])
  clear hsum hS
  obtain ⟨i0, hi, hz0, hz1, hz2⟩ := info_parts infoU8
  go_enter Tryd.func62, Tryd.ntmps62
  go_wp2_with (first | (go_at_call 59; (with_reducible refine (HSUM.out _ hrd).mono ?_); rintro e w' ⟨rfl, rfl⟩) | (at_builtin; refine wpList_append_b rfl (.tmp 8) (.tmp 9) 87 rfl w.heap.size 5 i0 (.int .u8 0) Tryd.underlying87 hi hz0 hz1 hz2 rfl (.slice none 0 0) 0 [] rfl (World.ownsRow_nil _ _ _ _) A c l rfl hrd hcz (by omega) (Nat.le_refl _) ?_; intro v1 w1 hown1 hg1 hat1; have hb1 := (Below.refl w.heap.size w).grown hg1 (Nat.le_refl _) (fun k hk => by cases hk)))
  simp only [Nat.zero_add, List.nil_append] at hown1
  go_loopw [3, 4, 5] (fun y t i wr => ∃ k : Nat, k ≤ 4 ∧ i = .int .i64 k ∧ y = .int .u32 ((S / 256 ^ k : Nat) : Int) ∧ wr.ownsRow w.heap.size 5 1 t (l.length + k) (bv (l ++ sumsTo S k)) ∧ Below w.heap.size w wr) (fun _ _ i _ => 4 - (intOf i).toNat)
  case atStart => exact ⟨0, by omega, rfl, by simp, by simpa [sumsTo] using hown1, hb1⟩
  case round =>
    obtain ⟨k, hk, rfl, rfl, hown, hbw⟩ := hrel
    by_cases hlt : k < 4
    · have HX := Lib.hid (show S / 256 ^ (k + 1) = S / 256 ^ k / 256 by rw [Nat.pow_succ, Nat.div_div_eq_div_mul])
      have HL := Lib.hid (show sumsTo S (k + 1) = sumsTo S k ++ [UInt8.ofNat (S / 256 ^ k)] by rw [sumsTo_succ]; unfold sumByte; rw [Nat.pow_mul])
      have hy : S / 256 ^ k < 4294967296 := Nat.lt_of_le_of_lt (Nat.div_le_self _ _) hSl
      generalize S / 256 ^ k = y at *
      go_wp2_with (at_builtin; refine wpList_append_b rfl (.tmp 15) (.tmp 19) 87 rfl w.heap.size 5 i0 (.int .u8 0) Tryd.underlying87 hi hz0 hz1 hz2 rfl _ (l.length + k) _ rfl (hown.alloc _) (some ⟨wr.heap.size, 0, none⟩) 1 [UInt8.ofNat y] rfl ?hr1 (fun e => by cases e) (by simp; omega) (by have := hbw.size; simp; omega) ?_; (case hr1 => exact Rd.one _ _ _ (u8m4 y)); intro v2 w2 hown2 hg2 hat2)
      have hb2 : Below w.heap.size w w2 := (hbw.alloc hbw.size _).grown hg2 (by have := hbw.size; simp; omega) (fun k hk => (hown.lt k hk).1)
      go_roundw
      case rel => exact ⟨k + 1, by omega, by go_num, by rw [HX.out]; simp, by rw [HL.out]; simpa [bv_append, Nat.add_assoc, List.append_assoc] using hown2, hb2⟩
      case measure => simp [intOf]; omega
    · obtain rfl : k = 4 := by omega
      go_wp2_with (fail)
      go_ret
      exact ⟨_, rfl, by rw [HSE.out]; simpa [sumsTo_length] using hown, hbw⟩
theorem rop_short (A : Option Addr) (c : Nat) (l : List UInt8) (w : World) (h4 : l.length < 4) : Calls Tryd.prog 57 #[.slice A l.length c] w fun e w' => e = .returned (.tuple #[.slice none 0 0, .int .i64 4]) ∧ Below w.heap.size w w' := by
  have hd : decide ((l.length : Int) - 4 < 0) = true := decide_eq_true (by omega)
  go_enter Tryd.func57, Tryd.ntmps57
  go_wp2_with (fail)
  go_region
  all_goals
    go_wp2_with (fail)
    go_ret2
    exact ⟨rfl, (Below.refl _ _).drew⟩
set_option maxRecDepth 100000 in
set_option maxHeartbeats 4000000 in
theorem rop_yes (A : Option Addr) (c : Nat) (p : List UInt8) (w : World) (hrd : Rd w A (sealOf p)) (hcz : A = none → c = 0) (hl : p.length ≤ 140737488350000) (hcap : p.length + 4 ≤ c) : Calls Tryd.prog 57 #[.slice A (p.length + 4) c] w fun e w' => e = .returned (.tuple #[.slice A p.length c, .int .i64 0]) ∧ Below w.heap.size w w' := by
  have hp : Rd w A p := by
    have h := hrd.take p.length
    have e : (sealOf p).take p.length = p := by unfold sealOf; simp
    rw [e] at h; exact h
  obtain ⟨q, hq⟩ : ∃ q, q = sealOf p := ⟨_, rfl⟩
  have hql : q.length = p.length + 4 := by rw [hq]; exact seal_length p
  rw [← hq] at hrd
  have HQ := Lib.hid hq
  have htb : (convert 87 9 (.slice A (p.length + 4) c)).run Tryd.prog w.drew = .ok (.string ⟨q.toArray⟩) w.drew := by rw [← hql]; exact run_text w.drew 87 9 5 A c q (hrd.below (Below.refl _ _).drew) Tryd.underlying87 Tryd.underlying5 Tryd.underlying9
  have HQL := Lib.hid hql
  have HRD := Lib.hid hrd
  have HP := Lib.hid (hp.below (Below.refl _ _).drew)
  have hlen : ((p.length : Int) + 4) - 4 = (p.length : Int) := by omega
  clear hq hql hrd hp
  go_enter Tryd.func57, Tryd.ntmps57
  go_wp2_with (fail)
  go_region_with (go_at_call 62; (with_reducible refine (rsealed_n A c _ p _ HP.out rfl hcz (by omega)).mono ?_); rintro e w1 ⟨v1, rfl, ho, hb1⟩; rw [← HQ.out] at ho; obtain ⟨A1, c1, rfl, _, hr1, _⟩ := own_shape ho; have ht1 := run_text w1 87 9 5 A1 c1 q hr1 Tryd.underlying87 Tryd.underlying5 Tryd.underlying9; have htb1 : (convert 87 9 (.slice A (p.length + 4) c)).run Tryd.prog w1 = .ok (.string ⟨q.toArray⟩) w1 := (by rw [← HQL.out]; exact run_text w1 87 9 5 A c q ((HRD.out.below (Below.refl _ _).drew).below hb1) Tryd.underlying87 Tryd.underlying5 Tryd.underlying9); clear hr1 ho)
  all_goals
    go_wp2_with (fail)
    go_ret2
    exact ⟨rfl, (Below.refl _ _).drew.trans (hb1.mono (Nat.le_refl _))⟩
set_option maxRecDepth 100000 in
set_option maxHeartbeats 4000000 in
theorem rop_no (A : Option Addr) (c : Nat) (p q l : List UInt8) (w : World) (hrd : Rd w A l) (hp : Rd w A p) (hl4 : l.length = p.length + 4) (hq : q = sealOf p) (hne : q ≠ l) (hcz : A = none → c = 0) (hl : p.length ≤ 140737488350000) (hcap : p.length + 4 ≤ c) : Calls Tryd.prog 57 #[.slice A (p.length + 4) c] w fun e w' => e = .returned (.tuple #[.slice none 0 0, .int .i64 4]) ∧ Below w.heap.size w w' := by
  have hqb : (q == l) = false := beq_eq_false_iff_ne.2 hne
  have htb : (convert 87 9 (.slice A (p.length + 4) c)).run Tryd.prog w.drew = .ok (.string ⟨l.toArray⟩) w.drew := by rw [← hl4]; exact run_text w.drew 87 9 5 A c l (hrd.below (Below.refl _ _).drew) Tryd.underlying87 Tryd.underlying5 Tryd.underlying9
  have HQ := Lib.hid hq
  have HQL := Lib.hid hl4
  have HRD := Lib.hid hrd
  have HP := Lib.hid (hp.below (Below.refl _ _).drew)
  clear hq hl4 hrd hp
  go_enter Tryd.func57, Tryd.ntmps57
  go_wp2_with (fail)
  go_region_with (go_at_call 62; (with_reducible refine (rsealed_n A c _ p _ HP.out rfl hcz (by omega)).mono ?_); rintro e w1 ⟨v1, rfl, ho, hb1⟩; rw [← HQ.out] at ho; obtain ⟨A1, c1, rfl, _, hr1, _⟩ := own_shape ho; have ht1 := run_text w1 87 9 5 A1 c1 q hr1 Tryd.underlying87 Tryd.underlying5 Tryd.underlying9; have htb1 : (convert 87 9 (.slice A (p.length + 4) c)).run Tryd.prog w1 = .ok (.string ⟨l.toArray⟩) w1 := (by rw [← HQL.out]; exact run_text w1 87 9 5 A c l ((HRD.out.below (Below.refl _ _).drew).below hb1) Tryd.underlying87 Tryd.underlying5 Tryd.underlying9); clear hr1 ho)
  all_goals
    go_wp2_with (fail)
    go_ret2
    exact ⟨rfl, (Below.refl _ _).drew.trans (hb1.mono (Nat.le_refl _))⟩
theorem rop_all (A : Option Addr) (c : Nat) (l : List UInt8) (w : World) (hrd : Rd w A l) (hcz : A = none → c = 0) (hl : l.length ≤ 140737488350000) (hcap : l.length ≤ c) (h4 : 4 ≤ l.length) :
    (opensB l = true → Calls Tryd.prog 57 #[.slice A l.length c] w fun e w' => e = .returned (.tuple #[.slice A (l.length - 4) c, .int .i64 0]) ∧ Below w.heap.size w w') ∧ (opensB l = false → Calls Tryd.prog 57 #[.slice A l.length c] w fun e w' => e = .returned (.tuple #[.slice none 0 0, .int .i64 4]) ∧ Below w.heap.size w w') := by
  obtain ⟨p, t0, t1, t2, t3, rfl⟩ := split4 l h4
  have hlen : (p ++ [t0, t1, t2, t3]).length = p.length + 4 := by simp
  have hp : Rd w A p := by
    have h := hrd.take p.length
    simpa using h
  have hiff := opens_iff p t0 t1 t2 t3
  rw [hlen]
  rw [hlen] at hl hcap
  constructor
  · intro ho
    obtain ⟨rfl, rfl, rfl, rfl⟩ := hiff.1 ho
    exact rop_yes A c p w hrd hcz (by omega) hcap
  · intro ho
    refine rop_no A c p (sealOf p) _ w hrd hp hlen rfl ?_ hcz (by omega) hcap
    intro e
    have : opensB (p ++ [t0, t1, t2, t3]) = true := by rw [← e]; exact opens_seal p
    rw [ho] at this; cases this
end Go.Proofs.YtffdglhdklmjoaaDoor
