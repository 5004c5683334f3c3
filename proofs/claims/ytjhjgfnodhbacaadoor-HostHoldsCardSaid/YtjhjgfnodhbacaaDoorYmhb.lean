/-
  Layer 18 by the second engine: what a host tells holds.
-/
import Derived.Test.YtjhjgfnodhbacaaDoorSychb
import Derived.Test.YtjhjgfnodhbacaaDoorYkhb
import Derived.Test.YtjhjgfnodhbacaaDoorE00hb
namespace Go.Proofs.YtjhjgfnodhbacaaDoor
open Go.RowKit Go.Extern.Stop Go.Stop Go.Extern Go.Proofs.YtjhjgfnodhbacaaDoor.Sy
set_option linter.unusedVariables false
set_option linter.unusedSimpArgs false
theorem hh_ad {sf : Int} (h0 : -32767 ≤ sf) (h1 : sf ≤ 32767) : adF 2147483648 sf = 2147483648 + 2 * sf ∧ adE 2147483648 31 sf = 0 := by
  have hc := cl_spec sf (-1073741824) 1073741824
  have e0 : clI sf (-1073741824) 1073741824 = sf := by omega
  have e : adF 2147483648 sf = 2147483648 + 2 * sf := by
    unfold adF
    rw [e0]
    omega
  refine ⟨e, ?_⟩
  rcases ad_spec 2147483648 31 sf with ⟨x, _⟩ | ⟨_, _, ⟨_, _, x, _⟩ | ⟨x, _⟩⟩
  · exact absurd ⟨by decide, by decide, by decide⟩ x
  · exact x
  · omega
theorem hh_q {sf g : Int} (h0 : -32767 ≤ sf) (h1 : sf ≤ 32767) : qE (adF 2147483648 sf) 31 g = g + g * sf / 1073741824 := by
  rw [(hh_ad h0 h1).1]
  unfold qE
  have e : (2 : Int) ^ (Int.toNat 31) = 2147483648 := by decide
  rw [e, Int.mul_add]
  have e2 : g * (2 * sf) = 2 * (g * sf) := by rw [Int.mul_left_comm]
  rw [e2]
  generalize g * sf = x
  omega
theorem hh_q1 (g : Int) : qE 2147483648 31 g = g := by
  unfold qE
  have e : (2 : Int) ^ (Int.toNat 31) = 2147483648 := by decide
  rw [e]
  omega
theorem hh_told {hb ht he sf g at_ drift : Int} (g0 : 0 ≤ g) (g1 : g ≤ 1099511627776) (h0 : -32767 ≤ sf) (h1 : sf ≤ 32767) (e0 : 0 ≤ he) (e1 : he ≤ 131072) (t0 : -he ≤ ht - at_) (t1 : ht - at_ ≤ he) (d0 : -(g * 100 / 1073741824) ≤ drift) (d1 : drift ≤ g * 100 / 1073741824) (a0 : -2305843009213693952 ≤ at_) (a1 : at_ ≤ 2305843009213693952) :
    rkE 2147483648 31 hb ht sf (hb + g) = 0 ∧ rkT 2147483648 31 hb ht sf (hb + g) - (at_ + g + drift) ≤ rkO 2147483648 31 100 hb ht he sf (hb + g) ∧ (at_ + g + drift) - rkT 2147483648 31 hb ht sf (hb + g) ≤ rkO 2147483648 31 100 hb ht he sf (hb + g) ∧ 0 ≤ rkO 2147483648 31 100 hb ht he sf (hb + g) ∧ rkO 2147483648 31 100 hb ht he sf (hb + g) ≤ 9007199254740992 ∧ -4611686018427387904 < rkT 2147483648 31 hb ht sf (hb + g) ∧ rkT 2147483648 31 hb ht sf (hb + g) < 4611686018427387904 := by
  have hx : ∃ X : Int, 0 ≤ X ∧ X ≤ 36028797018963968 ∧ g * pabs sf = X ∧ (g * sf = X ∨ g * sf = -X) := by
    have p := pabs_spec sf
    refine ⟨g * pabs sf, Int.mul_nonneg g0 (by omega), ?_, rfl, ?_⟩
    · have := Int.mul_le_mul g1 (show pabs sf ≤ 32767 by omega) (by omega) (by omega)
      omega
    · rcases p with ⟨_, p⟩ | ⟨_, p⟩
      · right; rw [p, Int.mul_neg, Int.neg_neg]
      · left; rw [p]
  obtain ⟨X, x0, x1, x2, x3⟩ := hx
  have q := hh_q (g := g) h0 h1
  rcases rk_spec 2147483648 31 100 hb ht he sf (hb + g) with ⟨y, _⟩ | ⟨⟨_, y⟩, _⟩ | ⟨_, y1, y2, y3⟩
  · omega
  · rw [(hh_ad h0 h1).2, show hb + g - hb = g by omega, q, hh_q1] at y
    rcases x3 with x3 | x3 <;> rw [x3] at y <;> omega
  · rw [y2, y3, show hb + g - hb = g by omega, q]
    have hO : bnO he 2147483648 31 (100 + pabs sf) g = he + upK ((g + 1) * (100 + pabs sf)) + g / 2147483648 + 4 ∧ upK (g * 100 + X) ≤ upK ((g + 1) * (100 + pabs sf)) ∧ upK ((g + 1) * (100 + pabs sf)) ≤ 134217728 := by
      unfold bnO
      rw [hh_q1]
      have e : (2 : Int) ^ (Int.toNat 31) = 2147483648 := by decide
      rw [e]
      have p := pabs_spec sf
      have z : (g + 1) * (100 + pabs sf) = g * 100 + X + (100 + pabs sf) := by rw [Int.add_mul, Int.mul_add, x2, Int.one_mul]
      have s0 := satE_spec (g + 1)
      rw [show satE (g + 1) = g + 1 by omega, z]
      have u : 0 ≤ upK (g * 100 + X + (100 + pabs sf)) ∧ upK (g * 100 + X + (100 + pabs sf)) ≤ 134217728 ∧ upK (g * 100 + X) ≤ upK (g * 100 + X + (100 + pabs sf)) := by unfold upK; omega
      generalize upK (g * 100 + X + (100 + pabs sf)) = U at u
      have s1 := satE_spec (he + U)
      rw [show satE (he + U) = he + U by omega]
      have s2 := satE_spec (he + U + (g / 2147483648 + 2))
      rw [show satE (he + U + (g / 2147483648 + 2)) = he + U + (g / 2147483648 + 2) by omega]
      have s3 := satE_spec (he + U + (g / 2147483648 + 2) + 2)
      rw [show satE (he + U + (g / 2147483648 + 2) + 2) = he + U + (g / 2147483648 + 2) + 2 by omega]
      exact ⟨by omega, u.2.2, u.2.1⟩
    obtain ⟨o1, o2, o3⟩ := hO
    rw [o1]
    generalize upK ((g + 1) * (100 + pabs sf)) = U at o2 o3
    unfold upK at o2
    rcases x3 with x3 | x3 <;> rw [x3] <;> refine ⟨y1, ?_, ?_, ?_, ?_, ?_, ?_⟩ <;> omega
def hhP (gp gi rl : Int) (sy : Bool) (hb ht he sf ss counter since at_ : Int) : Prop :=
  0 ≤ since ∧ (sy = true → hb = counter - since ∧ -he ≤ ht - at_ ∧ ht - at_ ≤ he) ∧ 0 ≤ he ∧ he ≤ 131072 ∧ -rl ≤ sf ∧ sf ≤ rl ∧ -1048576 ≤ ss ∧ ss ≤ 1048576 ∧ 0 ≤ hb ∧ hb ≤ counter ∧ -4611686018427387904 < ht ∧ ht < 4611686018427387904
instance (gp gi rl : Int) (sy : Bool) (hb ht he sf ss counter since at_ : Int) : Decidable (hhP gp gi rl sy hb ht he sf ss counter since at_) := by unfold hhP; infer_instance
theorem hh_ho {gp gi rl hb ht he sf ss counter since at_ : Int} {sy : Bool} (p0 : 0 ≤ gp) (p1 : gp ≤ 1023) (q0 : 0 ≤ gi) (q1 : gi ≤ 1023) (l0 : 0 ≤ rl) (l1 : rl ≤ 32767) (c1 : counter ≤ 1099511627776) (h : hhP gp gi rl sy hb ht he sf ss counter since at_) : hoP 2147483648 31 100 gp gi rl 1099511627776 hb ht he sf ss := by
  obtain ⟨a1, a2, a3, a4, a5, a6, a7, a8, a9, a10, a11, a12⟩ := h
  exact ⟨⟨by decide, by decide, by decide⟩, by decide, by decide, p0, by omega, q0, by omega, l0, by omega, by decide, by decide, a9, by omega, a11, a12, a3, by omega, a5, a6, a7, a8⟩
theorem hh_now {gp gi rl hb ht he sf ss counter since at_ drift : Int} {sy : Bool} (p0 : 0 ≤ gp) (p1 : gp ≤ 1023) (q0 : 0 ≤ gi) (q1 : gi ≤ 1023) (l0 : 0 ≤ rl) (l1 : rl ≤ 32767) (c1 : counter ≤ 1099511627776) (h : hhP gp gi rl sy hb ht he sf ss counter since at_) (s1 : since ≤ counter) (d0 : -(since * 100 / 1073741824) ≤ drift) (d1 : drift ≤ since * 100 / 1073741824) (a0 : -2305843009213693952 ≤ at_) (a1 : at_ ≤ 2305843009213693952) :
    (nwE 2147483648 31 100 gp gi rl 1099511627776 hb ht he sf ss sy counter = 13 ∧ nwO 2147483648 31 100 gp gi rl 1099511627776 hb ht he sf ss sy counter = 0) ∨ (nwE 2147483648 31 100 gp gi rl 1099511627776 hb ht he sf ss sy counter = 0 ∧ nwT 2147483648 31 100 gp gi rl 1099511627776 hb ht he sf ss sy counter - (at_ + since + drift) ≤ nwO 2147483648 31 100 gp gi rl 1099511627776 hb ht he sf ss sy counter ∧ (at_ + since + drift) - nwT 2147483648 31 100 gp gi rl 1099511627776 hb ht he sf ss sy counter ≤ nwO 2147483648 31 100 gp gi rl 1099511627776 hb ht he sf ss sy counter ∧ 0 ≤ nwO 2147483648 31 100 gp gi rl 1099511627776 hb ht he sf ss sy counter ∧ nwO 2147483648 31 100 gp gi rl 1099511627776 hb ht he sf ss sy counter ≤ 9007199254740992 ∧ -4611686018427387904 < nwT 2147483648 31 100 gp gi rl 1099511627776 hb ht he sf ss sy counter ∧ nwT 2147483648 31 100 gp gi rl 1099511627776 hb ht he sf ss sy counter < 4611686018427387904) := by
  have hp := hh_ho p0 p1 q0 q1 l0 l1 c1 h
  obtain ⟨b1, b2, b3, b4, b5, b6, b7, b8, b9, b10, b11, b12⟩ := h
  have key : sy = true → _ := fun hs => by
    obtain ⟨z1, z2, z3⟩ := b2 hs
    have := hh_told (hb := hb) (ht := ht) (he := he) (sf := sf) (g := since) (at_ := at_) (drift := drift) b1 (by omega) (by omega) (by omega) b3 b4 z2 z3 d0 d1 a0 a1
    rw [show hb + since = counter by omega] at this
    exact this
  rcases nw_spec 2147483648 31 100 gp gi rl 1099511627776 hb ht he sf ss sy counter with ⟨⟨x, _⟩, _⟩ | ⟨_, ⟨_, e, _, e2⟩ | ⟨⟨hs, x⟩, _⟩ | ⟨_, e, _, e2⟩ | ⟨⟨hs, _⟩, y1, y2, y3⟩⟩
  · exact absurd hp x
  · exact .inl ⟨e, e2⟩
  · exact absurd (key hs).1 x
  · exact .inl ⟨e, e2⟩
  · obtain ⟨k1, k2, k3, k4, k5, k6, k7⟩ := key hs
    exact .inr ⟨y1, by rw [y2, y3]; exact k2, by rw [y2, y3]; exact k3, by rw [y3]; exact k4, by rw [y3]; exact k5, by rw [y2]; exact k6, by rw [y2]; exact k7⟩
theorem hh_sync {gp gi rl hb ht he sf ss counter since at_ drift a b now : Int} {sy : Bool} (p0 : 0 ≤ gp) (p1 : gp ≤ 1023) (q0 : 0 ≤ gi) (q1 : gi ≤ 1023) (l0 : 0 ≤ rl) (l1 : rl ≤ 32767) (c0 : 0 ≤ counter) (c1 : counter ≤ 1099511627776) (h : hhP gp gi rl sy hb ht he sf ss counter since at_) (s1 : since ≤ counter) (d0 : -(since * 100 / 1073741824) ≤ drift) (d1 : drift ≤ since * 100 / 1073741824) (a0 : -2000000000000000000 ≤ at_) (a1 : at_ ≤ 2000000000000000000)
    (hn : now = at_ + since + drift) (ha : a ≤ now) (hb' : now ≤ b) (hw0 : now - a ≤ 65535) (hw1 : b - now ≤ 65535) :
    syE 2147483648 31 100 gp gi rl 1099511627776 hb ht he sf ss sy counter a b = 0 ∧ hhP gp gi rl true counter (syT 2147483648 31 100 gp gi rl 1099511627776 hb ht he sf ss sy counter a b) (syR 2147483648 31 100 gp gi rl 1099511627776 hb ht he sf ss sy counter a b) (syF 2147483648 31 100 gp gi rl 1099511627776 hb ht he sf ss sy counter a b) (syS 2147483648 31 100 gp gi rl 1099511627776 hb ht he sf ss sy counter a b) counter 0 now := by
  have hp := hh_ho p0 p1 q0 q1 l0 l1 c1 h
  obtain ⟨b1, b2, b3, b4, b5, b6, b7, b8, b9, b10, b11, b12⟩ := h
  have key : sy = true → _ := fun hs => by
    obtain ⟨z1, z2, z3⟩ := b2 hs
    have := hh_told (hb := hb) (ht := ht) (he := he) (sf := sf) (g := since) (at_ := at_) (drift := drift) b1 (by omega) (by omega) (by omega) b3 b4 z2 z3 d0 d1 (by omega) (by omega)
    rw [show hb + since = counter by omega, ← hn] at this
    exact this
  have hE : syE 2147483648 31 100 gp gi rl 1099511627776 hb ht he sf ss sy counter a b = 0 := by
    unfold syE
    rw [if_neg (fun hx => by rcases hx with hx | hx | hx | hx | hx | hx <;> first | exact hx hp | omega), if_neg (fun hx => by omega)]
  refine ⟨hE, ?_⟩
  have hLH : syL 2147483648 31 100 gp gi rl 1099511627776 hb ht he sf ss sy counter a b ≤ now ∧ now ≤ syH 2147483648 31 100 gp gi rl 1099511627776 hb ht he sf ss sy counter a b ∧ a ≤ syL 2147483648 31 100 gp gi rl 1099511627776 hb ht he sf ss sy counter a b ∧ syH 2147483648 31 100 gp gi rl 1099511627776 hb ht he sf ss sy counter a b ≤ b := by
    unfold syL syH
    by_cases hM : syM 2147483648 31 100 gp gi rl 1099511627776 hb ht he sf ss sy counter a b
    · rw [if_pos hM, if_pos hM]
      obtain ⟨k1, k2, k3, k4, k5, k6, k7⟩ := key hM.1
      have u1 := satE_spec (rkT 2147483648 31 hb ht sf counter - rkO 2147483648 31 100 hb ht he sf counter)
      have u2 := satE_spec (rkT 2147483648 31 hb ht sf counter + rkO 2147483648 31 100 hb ht he sf counter)
      split <;> split <;> omega
    · rw [if_neg hM, if_neg hM]
      omega
  obtain ⟨i1, i2, i3, i4⟩ := hLH
  have hT : syT 2147483648 31 100 gp gi rl 1099511627776 hb ht he sf ss sy counter a b = miI (syL 2147483648 31 100 gp gi rl 1099511627776 hb ht he sf ss sy counter a b) (syH 2147483648 31 100 gp gi rl 1099511627776 hb ht he sf ss sy counter a b) := rfl
  have hR : syR 2147483648 31 100 gp gi rl 1099511627776 hb ht he sf ss sy counter a b = satE (syH 2147483648 31 100 gp gi rl 1099511627776 hb ht he sf ss sy counter a b - syT 2147483648 31 100 gp gi rl 1099511627776 hb ht he sf ss sy counter a b) := rfl
  have hm := mi_bd (show syL 2147483648 31 100 gp gi rl 1099511627776 hb ht he sf ss sy counter a b ≤ syH 2147483648 31 100 gp gi rl 1099511627776 hb ht he sf ss sy counter a b by omega)
  rw [← hT] at hm
  generalize syL 2147483648 31 100 gp gi rl 1099511627776 hb ht he sf ss sy counter a b = L at *
  generalize syH 2147483648 31 100 gp gi rl 1099511627776 hb ht he sf ss sy counter a b = H at *
  have hF : -rl ≤ syF 2147483648 31 100 gp gi rl 1099511627776 hb ht he sf ss sy counter a b ∧ syF 2147483648 31 100 gp gi rl 1099511627776 hb ht he sf ss sy counter a b ≤ rl := by
    unfold syF
    split
    · unfold stF
      have := cl_spec ((gp * stO (satE (syT 2147483648 31 100 gp gi rl 1099511627776 hb ht he sf ss sy counter a b - rkT 2147483648 31 hb ht sf counter)) + gi * stS ss (satE (syT 2147483648 31 100 gp gi rl 1099511627776 hb ht he sf ss sy counter a b - rkT 2147483648 31 hb ht sf counter))) / 1024) (-rl) rl
      omega
    · exact ⟨b5, b6⟩
  have hS : -1048576 ≤ syS 2147483648 31 100 gp gi rl 1099511627776 hb ht he sf ss sy counter a b ∧ syS 2147483648 31 100 gp gi rl 1099511627776 hb ht he sf ss sy counter a b ≤ 1048576 := by
    unfold syS
    split
    · exact stS_rng _ _
    · exact ⟨b7, b8⟩
  generalize syF 2147483648 31 100 gp gi rl 1099511627776 hb ht he sf ss sy counter a b = F at *
  generalize syS 2147483648 31 100 gp gi rl 1099511627776 hb ht he sf ss sy counter a b = S at *
  generalize syT 2147483648 31 100 gp gi rl 1099511627776 hb ht he sf ss sy counter a b = T at *
  have u := satE_spec (H - T)
  rw [hR]
  refine ⟨by omega, fun _ => ⟨by omega, by omega, by omega⟩, by omega, by omega, hF.1, hF.2, hS.1, hS.2, c0, by omega, by omega, by omega⟩
def hhQ (gp gi rl : Int) (sy : Bool) (hb ht he sf ss c s a t i : Int) : Prop := hhP gp gi rl sy hb ht he sf ss c s a ∧ 0 ≤ c ∧ c ≤ i * 4294967295 ∧ s ≤ c ∧ t ≤ a ∧ a ≤ t + 2 * (c - s)
instance (gp gi rl : Int) (sy : Bool) (hb ht he sf ss c s a t i : Int) : Decidable (hhQ gp gi rl sy hb ht he sf ss c s a t i) := by unfold hhQ; infer_instance
def hhB (l : List Value) (c s a t i : Int) : Bool := decide (hhQ (ci l 3) (ci l 4) (ci l 5) (Go.Proofs.YtjhjgfnodhbacaaDoor.Sy.boolOf (l.getD 7 Go.undef)) (ci l 8) (ci l 9) (ci l 10) (ci l 11) (ci l 12) c s a t i)
theorem hh_eq (rm rs rr gp gi rl ro hb ht he sf ss : Int) (sy : Bool) (c s a t i : Int) : hhB (Sy.rows (hoT rm rs rr gp gi rl ro hb ht he sf ss sy)) c s a t i = decide (hhQ gp gi rl sy hb ht he sf ss c s a t i) := Eq.trans rfl rfl
theorem and_bd (x : Int) (m : Nat) (hm : m < 9223372036854775808) : 0 ≤ bitsV .and .i64 x (m : Int) ∧ bitsV .and .i64 x (m : Int) ≤ m := by
  unfold bitsV
  simp only
  have h1 : ((BitVec.ofInt (IntKind.bits .i64) x) &&& (BitVec.ofInt (IntKind.bits .i64) (m : Int))).toNat ≤ m := by
    rw [BitVec.toNat_and]
    refine Nat.le_trans Nat.and_le_right ?_
    rw [BitVec.toNat_ofInt]
    have e : IntKind.bits .i64 = 64 := rfl
    rw [e]
    omega
  have := wr_i64 (((BitVec.ofInt (IntKind.bits .i64) x) &&& (BitVec.ofInt (IntKind.bits .i64) (m : Int))).toNat : Int)
  omega
theorem and_1023 (x : Int) : 0 ≤ bitsV .and .i64 x 1023 ∧ bitsV .and .i64 x 1023 ≤ 1023 := and_bd x 1023 (by decide)
theorem and_32767 (x : Int) : 0 ≤ bitsV .and .i64 x 32767 ∧ bitsV .and .i64 x 32767 ≤ 32767 := and_bd x 32767 (by decide)
noncomputable def okR (l : List Value) : Bool := @decide (∀ x ∈ l, inK x) (Classical.propDecidable _)
theorem okR_iff {l : List Value} : okR l = true ↔ ∀ x ∈ l, inK x := @decide_eq_true_iff _ (Classical.propDecidable _)
abbrev KT : SK := .cons (.int .u32) (.cons (.int .i16) (.cons .bool (.cons (.int .u16) (.cons (.int .u16) .nil))))
theorem tick_at {l : Value} (h : typ (.sl KT) l) (hr : okR (Sy.rows l) = true) (k : Nat) : (0 ≤ Go.RowKit.intOf ((Sy.rows l).getD (k * 5) Go.undef) ∧ Go.RowKit.intOf ((Sy.rows l).getD (k * 5) Go.undef) ≤ 4294967295) ∧ (-32768 ≤ Go.RowKit.intOf ((Sy.rows l).getD (k * 5 + 1) Go.undef) ∧ Go.RowKit.intOf ((Sy.rows l).getD (k * 5 + 1) Go.undef) ≤ 32767) ∧ (0 ≤ Go.RowKit.intOf ((Sy.rows l).getD (k * 5 + 3) Go.undef) ∧ Go.RowKit.intOf ((Sy.rows l).getD (k * 5 + 3) Go.undef) ≤ 65535) ∧ (0 ≤ Go.RowKit.intOf ((Sy.rows l).getD (k * 5 + 4) Go.undef) ∧ Go.RowKit.intOf ((Sy.rows l).getD (k * 5 + 4) Go.undef) ≤ 65535) := by
  obtain ⟨_, n, h1, h2, h3⟩ := h
  have hw : SK.wd KT = 5 := rfl
  rw [hw] at h2 h3
  by_cases hk : k < n
  · obtain ⟨t0, t1, t2, t3, t4, _⟩ := h3 k hk
    have hm : ∀ j, j < (Sy.rows l).length → (Sy.rows l).getD j Go.undef ∈ Sy.rows l := fun j hj => by
      rw [List.getD_eq_getElem?_getD, List.getElem?_eq_getElem hj]; exact List.getElem_mem hj
    have r := okR_iff.1 hr
    exact ⟨bounds_u32 (r _ (hm _ (by omega)) _ _ t0), bounds_i16 (r _ (hm _ (by omega)) _ _ t1), bounds_u16 (r _ (hm _ (by omega)) _ _ t3), bounds_u16 (r _ (hm _ (by omega)) _ _ t4)⟩
  · have hu : ∀ j, (Sy.rows l).length ≤ j → Go.RowKit.intOf ((Sy.rows l).getD j Go.undef) = 0 := fun j hj => by
      rw [List.getD_eq_getElem?_getD, List.getElem?_eq_none hj]; rfl
    rw [hu _ (by omega), hu _ (by omega), hu _ (by omega), hu _ (by omega)]
    omega
theorem drift_bd {m p : Int} (m0 : 0 ≤ m) (m1 : m ≤ 1099511627776) (p0 : -32768 ≤ p) (p1 : p ≤ 32767) : (-36028797018963968 ≤ m * p ∧ m * p ≤ 36028797018963968) ∧ -m ≤ (m * p).tdiv 32768 ∧ (m * p).tdiv 32768 ≤ m := by
  have h1 := Int.mul_le_mul_of_nonneg_left p0 m0
  have h2 := Int.mul_le_mul_of_nonneg_left p1 m0
  have h3 := tdiv_spec (m * p) (show (0 : Int) < 32768 by decide)
  generalize m * p = x at *
  omega
theorem hh_go {gp gi rl hb ht he sf ss c s a d : Int} {sy : Bool} (h : hhP gp gi rl sy hb ht he sf ss c s a) (hd : 0 ≤ d) : hhP gp gi rl sy hb ht he sf ss (c + d) (s + d) a := by
  obtain ⟨b1, b2, b3, b4, b5, b6, b7, b8, b9, b10, b11, b12⟩ := h
  refine ⟨by omega, fun hs => ?_, b3, b4, b5, b6, b7, b8, b9, by omega, b11, b12⟩
  obtain ⟨z1, z2, z3⟩ := b2 hs
  exact ⟨by omega, z2, z3⟩
noncomputable def ymI : Nat → List Value → Int
  | i, l => ykI i l
noncomputable def ymB : Nat → List Value → Bool
  | 5, [l] => okR (rows l)
  | 6, [l, .int _ c, .int _ s, .int _ a, .int _ t, .int _ i] => hhB (rows l) c s a t i
  | i, l => ykB i l
noncomputable def ymV : Nat → List Value → Value
  | i, l => ykV i l
noncomputable abbrev ymE (iv : List Int) (bv : List Bool) (vv : List Value) (sv : List ByteArray) : Env := { iv := iv, bv := bv, vv := vv, sv := sv, fi := ymI, fb := ymB, fv := ymV, et := 229 }
set_option maxHeartbeats 8000000 in
theorem ymup : Agree 57 5 2 (ykE [] [] [] []) (ymE [] [] [] []) := ⟨rfl, (by
    intro f hf
    funext l
    show ymI f l = ykI f l
    unfold ymI
    split <;> first | rfl | omega), (by
    intro f hf
    funext l
    show ymB f l = ykB f l
    unfold ymB
    split <;> first | rfl | omega), (by
    intro f hf
    funext l
    show ymV f l = ykV f l
    unfold ymV
    split <;> first | rfl | omega)⟩
theorem ymi_sa (k1 : IntKind) (a : Int) : ymI 1 [.int k1 a] = satE a := rfl
theorem ymi_se (k1 : IntKind) (a : Int) (k2 : IntKind) (b : Int) : ymI 30 [.int k1 a, .int k2 b] = spI a b := rfl
theorem ymi_mi (k1 : IntKind) (a : Int) (k2 : IntKind) (b : Int) : ymI 31 [.int k1 a, .int k2 b] = miI a b := rfl
theorem ymi_sve (k1 : IntKind) (p : Int) (k2 : IntKind) (q : Int) (k3 : IntKind) (l : Int) : ymI 35 [.int k1 p, .int k2 q, .int k3 l] = svK p q l := rfl
theorem ymi_sts (k1 : IntKind) (s : Int) (k2 : IntKind) (o : Int) : ymI 36 [.int k1 s, .int k2 o] = stS s o := rfl
theorem ymi_stf (k1 : IntKind) (p : Int) (k2 : IntKind) (q : Int) (k3 : IntKind) (l : Int) (k4 : IntKind) (s : Int) (k5 : IntKind) (o : Int) : ymI 41 [.int k1 p, .int k2 q, .int k3 l, .int k4 s, .int k5 o] = stF p q l s o := rfl
theorem ymi_hme (l : Value) : ymI 42 [l] = hoL (rows l) := rfl
theorem ymi_rke (l : Value) (k1 : IntKind) (k : Int) : ymI 43 [l, .int k1 k] = rkEl (rows l) k := rfl
theorem ymi_rkt (l : Value) (k1 : IntKind) (k : Int) : ymI 44 [l, .int k1 k] = rkTl (rows l) k := rfl
theorem ymi_rko (l : Value) (k1 : IntKind) (k : Int) : ymI 45 [l, .int k1 k] = rkOl (rows l) k := rfl
theorem ymi_nwe (l : Value) (k1 : IntKind) (k : Int) : ymI 46 [l, .int k1 k] = nwEl (rows l) k := rfl
theorem ymi_nwt (l : Value) (k1 : IntKind) (k : Int) : ymI 47 [l, .int k1 k] = nwTl (rows l) k := rfl
theorem ymi_nwo (l : Value) (k1 : IntKind) (k : Int) : ymI 48 [l, .int k1 k] = nwOl (rows l) k := rfl
theorem ymi_syt (l : Value) (k1 : IntKind) (k : Int) (k2 : IntKind) (a : Int) (k3 : IntKind) (b : Int) : ymI 50 [l, .int k1 k, .int k2 a, .int k3 b] = syTl (rows l) k a b := rfl
theorem ymi_syr (l : Value) (k1 : IntKind) (k : Int) (k2 : IntKind) (a : Int) (k3 : IntKind) (b : Int) : ymI 51 [l, .int k1 k, .int k2 a, .int k3 b] = syRl (rows l) k a b := rfl
theorem ymi_syf (l : Value) (k1 : IntKind) (k : Int) (k2 : IntKind) (a : Int) (k3 : IntKind) (b : Int) : ymI 52 [l, .int k1 k, .int k2 a, .int k3 b] = syFl (rows l) k a b := rfl
theorem ymi_sys (l : Value) (k1 : IntKind) (k : Int) (k2 : IntKind) (a : Int) (k3 : IntKind) (b : Int) : ymI 53 [l, .int k1 k, .int k2 a, .int k3 b] = sySl (rows l) k a b := rfl
theorem ymi_gb (b : Bool) (k1 : IntKind) (x : Int) : ymI 56 [.bool b, .int k1 x] = gbF b x := rfl
theorem ymb_hm (l : Value) : ymB 4 [l] = hoB (rows l) := rfl
theorem ymb_okr (l : Value) : ymB 5 [l] = okR (rows l) := rfl
theorem ymb_hh (l : Value) (k1 : IntKind) (c : Int) (k2 : IntKind) (s : Int) (k3 : IntKind) (a : Int) (k4 : IntKind) (t : Int) (k5 : IntKind) (i : Int) : ymB 6 [l, .int k1 c, .int k2 s, .int k3 a, .int k4 t, .int k5 i] = hhB (rows l) c s a t i := rfl
def newv_tree : Tree :=
 (.need (.b2 .and (.b2 .and (.b2 .le (.lit (0)) (.var 0)) (.b2 .le (.var 0) (.lit (4294967295)))) (.b2 .and (.b2 .and (.b2 .le (.lit (-9223372036854775808)) (.var 1)) (.b2 .le (.var 1) (.lit (9223372036854775807)))) (.b2 .and (.b2 .and (.b2 .le (.lit (-9223372036854775808)) (.var 2)) (.b2 .le (.var 2) (.lit (9223372036854775807)))) (.b2 .and (.b2 .and (.b2 .le (.lit (-9223372036854775808)) (.var 3)) (.b2 .le (.var 3) (.lit (9223372036854775807)))) (.b2 .and (.b2 .and (.b2 .le (.lit (-9223372036854775808)) (.var 4)) (.b2 .le (.var 4) (.lit (9223372036854775807)))) (.b2 .and (.b2 .and (.b2 .le (.lit (-9223372036854775808)) (.var 5)) (.b2 .le (.var 5) (.lit (9223372036854775807)))) (.b2 .and (.b2 .le (.lit (-9223372036854775808)) (.var 6)) (.b2 .le (.var 6) (.lit (9223372036854775807))))))))))
 (.br (.not (.b2 .eq (.iapp 42 (.cons (.tup (.cons (.int .u32 (.var 0)) (.cons (.int .i64 (.var 1)) (.cons (.int .i64 (.var 2)) (.cons (.int .i64 (.var 3)) (.cons (.int .i64 (.var 4)) (.cons (.int .i64 (.var 5)) (.cons (.int .i64 (.var 6)) (.cons (.bool (.tt false)) (.cons (.int .i64 (.lit (0))) (.cons (.int .i64 (.lit (0))) (.cons (.int .i64 (.lit (0))) (.cons (.int .i64 (.lit (0))) (.cons (.int .i64 (.lit (0))) .nil)))))))))))))) .nil)) (.lit (0))))
 (.ret (.tup (.cons (.agg (.cons (.int .u32 (.lit (0))) (.cons (.int .i64 (.lit (0))) (.cons (.int .i64 (.lit (0))) (.cons (.int .i64 (.lit (0))) (.cons (.int .i64 (.lit (0))) (.cons (.int .i64 (.lit (0))) (.cons (.int .i64 (.lit (0))) (.cons (.bool (.tt false)) (.cons (.int .i64 (.lit (0))) (.cons (.int .i64 (.lit (0))) (.cons (.int .i64 (.lit (0))) (.cons (.int .i64 (.lit (0))) (.cons (.int .i64 (.lit (0))) .nil)))))))))))))) (.cons (.err (.iapp 42 (.cons (.tup (.cons (.int .u32 (.var 0)) (.cons (.int .i64 (.var 1)) (.cons (.int .i64 (.var 2)) (.cons (.int .i64 (.var 3)) (.cons (.int .i64 (.var 4)) (.cons (.int .i64 (.var 5)) (.cons (.int .i64 (.var 6)) (.cons (.bool (.tt false)) (.cons (.int .i64 (.lit (0))) (.cons (.int .i64 (.lit (0))) (.cons (.int .i64 (.lit (0))) (.cons (.int .i64 (.lit (0))) (.cons (.int .i64 (.lit (0))) .nil)))))))))))))) .nil))) .nil))))
 (.ret (.tup (.cons (.agg (.cons (.int .u32 (.var 0)) (.cons (.int .i64 (.var 1)) (.cons (.int .i64 (.var 2)) (.cons (.int .i64 (.var 3)) (.cons (.int .i64 (.var 4)) (.cons (.int .i64 (.var 5)) (.cons (.int .i64 (.var 6)) (.cons (.bool (.tt false)) (.cons (.int .i64 (.lit (0))) (.cons (.int .i64 (.lit (0))) (.cons (.int .i64 (.lit (0))) (.cons (.int .i64 (.lit (0))) (.cons (.int .i64 (.lit (0))) .nil)))))))))))))) (.cons (.cst .nilI) .nil))))))
abbrev ymc_newv : Con := ⟨55, [(.agg (.cons (.int .u32 (.var 0)) (.cons (.int .i64 (.var 1)) (.cons (.int .i64 (.var 2)) (.cons (.int .i64 (.var 3)) (.cons (.int .i64 (.var 4)) (.cons (.int .i64 (.var 5)) (.cons (.int .i64 (.var 6)) .nil))))))))], (.b2 .and (.b2 .and (.b2 .and (.b2 .le (.lit (0)) (.var 0)) (.b2 .le (.var 0) (.lit (4294967295)))) (.b2 .and (.b2 .and (.b2 .le (.lit (-9223372036854775808)) (.var 1)) (.b2 .le (.var 1) (.lit (9223372036854775807)))) (.b2 .and (.b2 .and (.b2 .le (.lit (-9223372036854775808)) (.var 2)) (.b2 .le (.var 2) (.lit (9223372036854775807)))) (.b2 .and (.b2 .and (.b2 .le (.lit (-9223372036854775808)) (.var 3)) (.b2 .le (.var 3) (.lit (9223372036854775807)))) (.b2 .and (.b2 .and (.b2 .le (.lit (-9223372036854775808)) (.var 4)) (.b2 .le (.var 4) (.lit (9223372036854775807)))) (.b2 .and (.b2 .and (.b2 .le (.lit (-9223372036854775808)) (.var 5)) (.b2 .le (.var 5) (.lit (9223372036854775807)))) (.b2 .and (.b2 .le (.lit (-9223372036854775808)) (.var 6)) (.b2 .le (.var 6) (.lit (9223372036854775807)))))))))) (.bapp 4 (.cons (.tup (.cons (.int .u32 (.var 0)) (.cons (.int .i64 (.var 1)) (.cons (.int .i64 (.var 2)) (.cons (.int .i64 (.var 3)) (.cons (.int .i64 (.var 4)) (.cons (.int .i64 (.var 5)) (.cons (.int .i64 (.var 6)) (.cons (.bool (.tt false)) (.cons (.int .i64 (.lit (0))) (.cons (.int .i64 (.lit (0))) (.cons (.int .i64 (.lit (0))) (.cons (.int .i64 (.lit (0))) (.cons (.int .i64 (.lit (0))) .nil)))))))))))))) .nil))), (.tup (.cons (.agg (.cons (.int .u32 (.var 0)) (.cons (.int .i64 (.var 1)) (.cons (.int .i64 (.var 2)) (.cons (.int .i64 (.var 3)) (.cons (.int .i64 (.var 4)) (.cons (.int .i64 (.var 5)) (.cons (.int .i64 (.var 6)) (.cons (.bool (.tt false)) (.cons (.int .i64 (.lit (0))) (.cons (.int .i64 (.lit (0))) (.cons (.int .i64 (.lit (0))) (.cons (.int .i64 (.lit (0))) (.cons (.int .i64 (.lit (0))) .nil)))))))))))))) (.cons (.err (.lit (0))) .nil))), ⟨7, 0, 0, 0⟩, none⟩
theorem newv_w : walk Tryd.prog 229 ⟨[yic_ckr], syG, [], [], []⟩ [] .v ymc_newv ymc_newv.n 3000 = some newv_tree := by kernel_rfl
theorem newv_h (rm : Int) (rs : Int) (rr : Int) (gp : Int) (gi : Int) (rl : Int) (ro : Int) (hc : holds (ymE [rm, rs, rr, gp, gi, rl, ro] [] [] []) (.b2 .and (.b2 .and (.b2 .and (.b2 .le (.lit (0)) (.var 0)) (.b2 .le (.var 0) (.lit (4294967295)))) (.b2 .and (.b2 .and (.b2 .le (.lit (-9223372036854775808)) (.var 1)) (.b2 .le (.var 1) (.lit (9223372036854775807)))) (.b2 .and (.b2 .and (.b2 .le (.lit (-9223372036854775808)) (.var 2)) (.b2 .le (.var 2) (.lit (9223372036854775807)))) (.b2 .and (.b2 .and (.b2 .le (.lit (-9223372036854775808)) (.var 3)) (.b2 .le (.var 3) (.lit (9223372036854775807)))) (.b2 .and (.b2 .and (.b2 .le (.lit (-9223372036854775808)) (.var 4)) (.b2 .le (.var 4) (.lit (9223372036854775807)))) (.b2 .and (.b2 .and (.b2 .le (.lit (-9223372036854775808)) (.var 5)) (.b2 .le (.var 5) (.lit (9223372036854775807)))) (.b2 .and (.b2 .le (.lit (-9223372036854775808)) (.var 6)) (.b2 .le (.var 6) (.lit (9223372036854775807)))))))))) (.bapp 4 (.cons (.tup (.cons (.int .u32 (.var 0)) (.cons (.int .i64 (.var 1)) (.cons (.int .i64 (.var 2)) (.cons (.int .i64 (.var 3)) (.cons (.int .i64 (.var 4)) (.cons (.int .i64 (.var 5)) (.cons (.int .i64 (.var 6)) (.cons (.bool (.tt false)) (.cons (.int .i64 (.lit (0))) (.cons (.int .i64 (.lit (0))) (.cons (.int .i64 (.lit (0))) (.cons (.int .i64 (.lit (0))) (.cons (.int .i64 (.lit (0))) .nil)))))))))))))) .nil)))) (hty : patsTyp (ymE [rm, rs, rr, gp, gi, rl, ro] [] [] []) [(.agg (.cons (.int .u32 (.var 0)) (.cons (.int .i64 (.var 1)) (.cons (.int .i64 (.var 2)) (.cons (.int .i64 (.var 3)) (.cons (.int .i64 (.var 4)) (.cons (.int .i64 (.var 5)) (.cons (.int .i64 (.var 6)) .nil))))))))]) : newv_tree.holds (fun v_ => v_ = denV (ymE [rm, rs, rr, gp, gi, rl, ro] [] [] []) b0 (.tup (.cons (.agg (.cons (.int .u32 (.var 0)) (.cons (.int .i64 (.var 1)) (.cons (.int .i64 (.var 2)) (.cons (.int .i64 (.var 3)) (.cons (.int .i64 (.var 4)) (.cons (.int .i64 (.var 5)) (.cons (.int .i64 (.var 6)) (.cons (.bool (.tt false)) (.cons (.int .i64 (.lit (0))) (.cons (.int .i64 (.lit (0))) (.cons (.int .i64 (.lit (0))) (.cons (.int .i64 (.lit (0))) (.cons (.int .i64 (.lit (0))) .nil)))))))))))))) (.cons (.err (.lit (0))) .nil)))) (ymE [rm, rs, rr, gp, gi, rl, ro] [] [] []) := by
  simp only [Tree.holds, Sy.holds, AllN, Env.more, ymE, List.cons_append, List.nil_append, List.append_nil, denV, denI, denB, denL, I2.den, VOp.den, List.getD_cons_zero, List.getD_cons_succ, Cst.den, syso, syse, syio, sybo, ymb_hm, List.map_nil, List.map_cons, B2.ofInts, B2.denI, B2.denB, if_true, Bool.false_eq_true, if_false, Nat.div_one, Nat.mul_one, Nat.add_zero, holds] at hc
  simp only [patsTyp, patTyp, patTypL, ymE, denV, denL, List.getD_cons_zero, List.getD_cons_succ, and_true, true_and] at hty
  unfold newv_tree
  simp only [Tree.holds, Sy.holds, AllN, Env.more, ymE, List.cons_append, List.nil_append, List.append_nil, denV, denI, denB, denL, I2.den, VOp.den, List.getD_cons_zero, List.getD_cons_succ, Cst.den, syso, syse, syio, sybo, ymi_hme, List.map_nil, List.map_cons, B2.ofInts, B2.denI, B2.denB, if_true, Bool.false_eq_true, if_false, Nat.div_one, Nat.mul_one, Nat.add_zero]
  have hE : hoL (Sy.rows (hoT rm rs rr gp gi rl ro 0 0 0 0 0 false)) = 0 := hoE_y (of_decide_eq_true hc.2)
  refine ⟨?_, fun h0 => ?_⟩
  ·
   first
   | exact hc.1
   | omega
  ·
   refine ⟨fun h1 => ?_, fun h1 => ?_⟩
   ·
    first
    | exact absurd hE (by assumption)
    | exact True.intro
    | rfl
   ·
    first
    | exact absurd hE (by assumption)
    | exact True.intro
    | rfl
theorem ymg_newv : ymc_newv.Good Tryd.prog syG (ymE [] [] [] []) := good_of_walk (Γ := ⟨[yic_ckr], syG, [], [], []⟩) (ρ := ymE [] [] [] []) sym newv_w rfl (fun _ _ _ _ => (ok_cons (Con.Good.env (Con.Good.up (Con.Good.up (Con.Good.up yig_ckr yjup rfl) ykup rfl) ymup rfl) _ _ _ _) ok_nil)) (fun rm rs rr gp gi rl ro hc hty => newv_h rm rs rr gp gi rl ro hc hty)
def syncw_x0 : Tm := (.tup (.cons (.int .u32 (.var 0)) (.cons (.int .i64 (.var 1)) (.cons (.int .i64 (.var 2)) (.cons (.int .i64 (.var 3)) (.cons (.int .i64 (.var 4)) (.cons (.int .i64 (.var 5)) (.cons (.int .i64 (.var 6)) (.cons (.bool (.bvar 0)) (.cons (.int .i64 (.var 7)) (.cons (.int .i64 (.var 8)) (.cons (.int .i64 (.var 9)) (.cons (.int .i64 (.var 10)) (.cons (.int .i64 (.var 11)) .nil))))))))))))))
def syncw_x1 : Tm := (.int .i64 (.i2 .add (.iapp 44 (.cons syncw_x0 (.cons (.int .i64 (.var 12)) .nil))) (.iapp 45 (.cons syncw_x0 (.cons (.int .i64 (.var 12)) .nil)))))
def syncw_x2 : Tm := (.int .i64 (.i2 .sub (.iapp 44 (.cons syncw_x0 (.cons (.int .i64 (.var 12)) .nil))) (.iapp 45 (.cons syncw_x0 (.cons (.int .i64 (.var 12)) .nil)))))
def syncw_x3 : Tm := (.agg (.cons (.int .u32 (.lit (0))) (.cons (.int .i64 (.lit (0))) (.cons (.int .i64 (.lit (0))) (.cons (.int .i64 (.lit (0))) (.cons (.int .i64 (.lit (0))) (.cons (.int .i64 (.lit (0))) (.cons (.int .i64 (.lit (0))) (.cons (.bool (.tt false)) (.cons (.int .i64 (.lit (0))) (.cons (.int .i64 (.lit (0))) (.cons (.int .i64 (.lit (0))) (.cons (.int .i64 (.lit (0))) (.cons (.int .i64 (.lit (0))) .nil))))))))))))))
def syncw_x6 : Tm := (.int .i64 (.iapp 56 (.cons (.bool (.b2 .le (.i2 .max (.var 13) (.iapp 1 (.cons syncw_x2 .nil))) (.i2 .min (.var 14) (.iapp 1 (.cons syncw_x1 .nil))))) (.cons (.int .i64 (.i2 .max (.var 13) (.iapp 1 (.cons syncw_x2 .nil)))) .nil))))
def syncw_x5 : Tm := (.int .i64 (.iapp 56 (.cons (.bool (.b2 .le (.i2 .max (.var 13) (.iapp 1 (.cons syncw_x2 .nil))) (.i2 .min (.var 14) (.iapp 1 (.cons syncw_x1 .nil))))) (.cons (.int .i64 (.i2 .min (.var 14) (.iapp 1 (.cons syncw_x1 .nil)))) .nil))))
def syncw_x4 : Tm := (.int .i64 (.i2 .sub (.iapp 31 (.cons syncw_x6 (.cons syncw_x5 .nil))) (.iapp 44 (.cons syncw_x0 (.cons (.int .i64 (.var 12)) .nil)))))
def syncw_x7 : Tm := (.tup (.cons (.agg (.cons (.int .u32 (.var 0)) (.cons (.int .i64 (.var 1)) (.cons (.int .i64 (.var 2)) (.cons (.int .i64 (.var 3)) (.cons (.int .i64 (.var 4)) (.cons (.int .i64 (.var 5)) (.cons (.int .i64 (.var 6)) (.cons (.bool (.tt true)) (.cons (.int .i64 (.var 12)) (.cons (.int .i64 (.iapp 31 (.cons (.int .i64 (.var 13)) (.cons (.int .i64 (.var 14)) .nil)))) (.cons (.int .i64 (.iapp 1 (.cons (.int .i64 (.i2 .sub (.var 14) (.iapp 31 (.cons (.int .i64 (.var 13)) (.cons (.int .i64 (.var 14)) .nil))))) .nil))) (.cons (.int .i64 (.var 10)) (.cons (.int .i64 (.var 11)) .nil)))))))))))))) (.cons (.err (.lit (0))) .nil)))
def syncw_x8 : Tm := (.int .i64 (.i2 .sub (.iapp 31 (.cons (.int .i64 (.var 13)) (.cons (.int .i64 (.var 14)) .nil))) (.iapp 44 (.cons syncw_x0 (.cons (.int .i64 (.var 12)) .nil)))))
def syncw_tree : Tree :=
 (.need (.b2 .and (.b2 .and (.b2 .le (.lit (0)) (.var 0)) (.b2 .le (.var 0) (.lit (4294967295)))) (.b2 .and (.b2 .and (.b2 .le (.lit (-9223372036854775808)) (.var 1)) (.b2 .le (.var 1) (.lit (9223372036854775807)))) (.b2 .and (.b2 .and (.b2 .le (.lit (-9223372036854775808)) (.var 2)) (.b2 .le (.var 2) (.lit (9223372036854775807)))) (.b2 .and (.b2 .and (.b2 .le (.lit (-9223372036854775808)) (.var 3)) (.b2 .le (.var 3) (.lit (9223372036854775807)))) (.b2 .and (.b2 .and (.b2 .le (.lit (-9223372036854775808)) (.var 4)) (.b2 .le (.var 4) (.lit (9223372036854775807)))) (.b2 .and (.b2 .and (.b2 .le (.lit (-9223372036854775808)) (.var 5)) (.b2 .le (.var 5) (.lit (9223372036854775807)))) (.b2 .and (.b2 .and (.b2 .le (.lit (-9223372036854775808)) (.var 6)) (.b2 .le (.var 6) (.lit (9223372036854775807)))) (.b2 .and (.b2 .and (.b2 .le (.lit (-9223372036854775808)) (.var 7)) (.b2 .le (.var 7) (.lit (9223372036854775807)))) (.b2 .and (.b2 .and (.b2 .le (.lit (-9223372036854775808)) (.var 8)) (.b2 .le (.var 8) (.lit (9223372036854775807)))) (.b2 .and (.b2 .and (.b2 .le (.lit (-9223372036854775808)) (.var 9)) (.b2 .le (.var 9) (.lit (9223372036854775807)))) (.b2 .and (.b2 .and (.b2 .le (.lit (-9223372036854775808)) (.var 10)) (.b2 .le (.var 10) (.lit (9223372036854775807)))) (.b2 .and (.b2 .le (.lit (-9223372036854775808)) (.var 11)) (.b2 .le (.var 11) (.lit (9223372036854775807)))))))))))))))
 (.br (.not (.b2 .eq (.iapp 42 (.cons syncw_x0 .nil)) (.lit (0))))
 (.ret (.tup (.cons syncw_x3 (.cons (.iface 229 (.int .i64 (.lit (1)))) .nil))))
 (.br (.b2 .lt (.var 12) (.lit (0)))
 (.ret (.tup (.cons syncw_x3 (.cons (.iface 229 (.int .i64 (.lit (1)))) .nil))))
 (.br (.b2 .lt (.lit (1152921504606846976)) (.var 12))
 (.ret (.tup (.cons syncw_x3 (.cons (.iface 229 (.int .i64 (.lit (1)))) .nil))))
 (.br (.not (.b2 .eq (.iapp 30 (.cons (.int .i64 (.var 13)) (.cons (.int .i64 (.var 14)) .nil))) (.lit (0))))
 (.ret (.tup (.cons syncw_x3 (.cons (.iface 229 (.int .i64 (.lit (1)))) .nil))))
 (.br (.b2 .le (.var 13) (.lit (-2305843009213693952)))
 (.ret (.tup (.cons syncw_x3 (.cons (.iface 229 (.int .i64 (.lit (1)))) .nil))))
 (.br (.b2 .le (.lit (2305843009213693952)) (.var 14))
 (.ret (.tup (.cons syncw_x3 (.cons (.iface 229 (.int .i64 (.lit (1)))) .nil))))
 (.br (.not (.bvar 0))
 (.need (.b2 .and (.b2 .and (.b2 .and (.b2 .le (.lit (0)) (.var 0)) (.b2 .le (.var 0) (.lit (4294967295)))) (.b2 .and (.b2 .and (.b2 .le (.lit (-9223372036854775808)) (.var 1)) (.b2 .le (.var 1) (.lit (9223372036854775807)))) (.b2 .and (.b2 .and (.b2 .le (.lit (-9223372036854775808)) (.var 2)) (.b2 .le (.var 2) (.lit (9223372036854775807)))) (.b2 .and (.b2 .and (.b2 .le (.lit (-9223372036854775808)) (.var 3)) (.b2 .le (.var 3) (.lit (9223372036854775807)))) (.b2 .and (.b2 .and (.b2 .le (.lit (-9223372036854775808)) (.var 4)) (.b2 .le (.var 4) (.lit (9223372036854775807)))) (.b2 .and (.b2 .and (.b2 .le (.lit (-9223372036854775808)) (.var 5)) (.b2 .le (.var 5) (.lit (9223372036854775807)))) (.b2 .and (.b2 .and (.b2 .le (.lit (-9223372036854775808)) (.var 6)) (.b2 .le (.var 6) (.lit (9223372036854775807)))) (.b2 .and (.b2 .and (.b2 .le (.lit (-9223372036854775808)) (.var 7)) (.b2 .le (.var 7) (.lit (9223372036854775807)))) (.b2 .and (.b2 .and (.b2 .le (.lit (-9223372036854775808)) (.var 8)) (.b2 .le (.var 8) (.lit (9223372036854775807)))) (.b2 .and (.b2 .and (.b2 .le (.lit (-9223372036854775808)) (.var 9)) (.b2 .le (.var 9) (.lit (9223372036854775807)))) (.b2 .and (.b2 .and (.b2 .le (.lit (-9223372036854775808)) (.var 10)) (.b2 .le (.var 10) (.lit (9223372036854775807)))) (.b2 .and (.b2 .le (.lit (-9223372036854775808)) (.var 11)) (.b2 .le (.var 11) (.lit (9223372036854775807))))))))))))))) (.b2 .and (.b2 .and (.b2 .le (.lit (-9223372036854775808)) (.var 12)) (.b2 .le (.var 12) (.lit (9223372036854775807)))) (.b2 .and (.b2 .le (.var 13) (.var 14)) (.b2 .and (.b2 .and (.b2 .le (.lit (-9223372036854775808)) (.var 13)) (.b2 .le (.var 13) (.lit (9223372036854775807)))) (.b2 .and (.b2 .le (.lit (-9223372036854775808)) (.var 14)) (.b2 .le (.var 14) (.lit (9223372036854775807))))))))
 (.ret syncw_x7))
 (.need (.b2 .and (.b2 .and (.b2 .and (.b2 .le (.lit (0)) (.var 0)) (.b2 .le (.var 0) (.lit (4294967295)))) (.b2 .and (.b2 .and (.b2 .le (.lit (-9223372036854775808)) (.var 1)) (.b2 .le (.var 1) (.lit (9223372036854775807)))) (.b2 .and (.b2 .and (.b2 .le (.lit (-9223372036854775808)) (.var 2)) (.b2 .le (.var 2) (.lit (9223372036854775807)))) (.b2 .and (.b2 .and (.b2 .le (.lit (-9223372036854775808)) (.var 3)) (.b2 .le (.var 3) (.lit (9223372036854775807)))) (.b2 .and (.b2 .and (.b2 .le (.lit (-9223372036854775808)) (.var 4)) (.b2 .le (.var 4) (.lit (9223372036854775807)))) (.b2 .and (.b2 .and (.b2 .le (.lit (-9223372036854775808)) (.var 5)) (.b2 .le (.var 5) (.lit (9223372036854775807)))) (.b2 .and (.b2 .and (.b2 .le (.lit (-9223372036854775808)) (.var 6)) (.b2 .le (.var 6) (.lit (9223372036854775807)))) (.b2 .and (.b2 .and (.b2 .le (.lit (-9223372036854775808)) (.var 7)) (.b2 .le (.var 7) (.lit (9223372036854775807)))) (.b2 .and (.b2 .and (.b2 .le (.lit (-9223372036854775808)) (.var 8)) (.b2 .le (.var 8) (.lit (9223372036854775807)))) (.b2 .and (.b2 .and (.b2 .le (.lit (-9223372036854775808)) (.var 9)) (.b2 .le (.var 9) (.lit (9223372036854775807)))) (.b2 .and (.b2 .and (.b2 .le (.lit (-9223372036854775808)) (.var 10)) (.b2 .le (.var 10) (.lit (9223372036854775807)))) (.b2 .and (.b2 .le (.lit (-9223372036854775808)) (.var 11)) (.b2 .le (.var 11) (.lit (9223372036854775807))))))))))))))) (.b2 .and (.bapp 4 (.cons syncw_x0 .nil)) (.b2 .and (.b2 .le (.lit (-9223372036854775808)) (.var 12)) (.b2 .le (.var 12) (.lit (9223372036854775807))))))
 (.br (.b2 .eq (.iapp 43 (.cons syncw_x0 (.cons (.int .i64 (.var 12)) .nil))) (.lit (2)))
 (.need (.b2 .and (.b2 .and (.b2 .and (.b2 .le (.lit (0)) (.var 0)) (.b2 .le (.var 0) (.lit (4294967295)))) (.b2 .and (.b2 .and (.b2 .le (.lit (-9223372036854775808)) (.var 1)) (.b2 .le (.var 1) (.lit (9223372036854775807)))) (.b2 .and (.b2 .and (.b2 .le (.lit (-9223372036854775808)) (.var 2)) (.b2 .le (.var 2) (.lit (9223372036854775807)))) (.b2 .and (.b2 .and (.b2 .le (.lit (-9223372036854775808)) (.var 3)) (.b2 .le (.var 3) (.lit (9223372036854775807)))) (.b2 .and (.b2 .and (.b2 .le (.lit (-9223372036854775808)) (.var 4)) (.b2 .le (.var 4) (.lit (9223372036854775807)))) (.b2 .and (.b2 .and (.b2 .le (.lit (-9223372036854775808)) (.var 5)) (.b2 .le (.var 5) (.lit (9223372036854775807)))) (.b2 .and (.b2 .and (.b2 .le (.lit (-9223372036854775808)) (.var 6)) (.b2 .le (.var 6) (.lit (9223372036854775807)))) (.b2 .and (.b2 .and (.b2 .le (.lit (-9223372036854775808)) (.var 7)) (.b2 .le (.var 7) (.lit (9223372036854775807)))) (.b2 .and (.b2 .and (.b2 .le (.lit (-9223372036854775808)) (.var 8)) (.b2 .le (.var 8) (.lit (9223372036854775807)))) (.b2 .and (.b2 .and (.b2 .le (.lit (-9223372036854775808)) (.var 9)) (.b2 .le (.var 9) (.lit (9223372036854775807)))) (.b2 .and (.b2 .and (.b2 .le (.lit (-9223372036854775808)) (.var 10)) (.b2 .le (.var 10) (.lit (9223372036854775807)))) (.b2 .and (.b2 .le (.lit (-9223372036854775808)) (.var 11)) (.b2 .le (.var 11) (.lit (9223372036854775807))))))))))))))) (.b2 .and (.b2 .and (.b2 .le (.lit (-9223372036854775808)) (.var 12)) (.b2 .le (.var 12) (.lit (9223372036854775807)))) (.b2 .and (.b2 .le (.var 13) (.var 14)) (.b2 .and (.b2 .and (.b2 .le (.lit (-9223372036854775808)) (.var 13)) (.b2 .le (.var 13) (.lit (9223372036854775807)))) (.b2 .and (.b2 .le (.lit (-9223372036854775808)) (.var 14)) (.b2 .le (.var 14) (.lit (9223372036854775807))))))))
 (.ret syncw_x7))
 (.br (.not (.b2 .eq (.iapp 43 (.cons syncw_x0 (.cons (.int .i64 (.var 12)) .nil))) (.lit (0))))
 (.ret (.tup (.cons syncw_x3 (.cons (.err (.iapp 43 (.cons syncw_x0 (.cons (.int .i64 (.var 12)) .nil)))) .nil))))
 (.need (.b2 .and (.b2 .le (.lit (0)) (.iapp 45 (.cons syncw_x0 (.cons (.int .i64 (.var 12)) .nil)))) (.b2 .and (.b2 .and (.b2 .le (.lit (-9223372036854775808)) (.iapp 44 (.cons syncw_x0 (.cons (.int .i64 (.var 12)) .nil)))) (.b2 .le (.iapp 44 (.cons syncw_x0 (.cons (.int .i64 (.var 12)) .nil))) (.lit (9223372036854775807)))) (.b2 .and (.b2 .and (.b2 .le (.lit (-9223372036854775808)) (.iapp 44 (.cons syncw_x0 (.cons (.int .i64 (.var 12)) .nil)))) (.b2 .le (.iapp 44 (.cons syncw_x0 (.cons (.int .i64 (.var 12)) .nil))) (.lit (9223372036854775807)))) (.b2 .and (.b2 .le (.lit (-9223372036854775808)) (.iapp 45 (.cons syncw_x0 (.cons (.int .i64 (.var 12)) .nil)))) (.b2 .le (.iapp 45 (.cons syncw_x0 (.cons (.int .i64 (.var 12)) .nil))) (.lit (9223372036854775807)))))))
 (.need (.b2 .and (.b2 .le (.var 13) (.var 14)) (.b2 .le (.iapp 1 (.cons syncw_x2 .nil)) (.iapp 1 (.cons syncw_x1 .nil))))
 (.br (.b2 .le (.i2 .max (.var 13) (.iapp 1 (.cons syncw_x2 .nil))) (.i2 .min (.var 14) (.iapp 1 (.cons syncw_x1 .nil))))
 (.need (.b2 .and (.b2 .and (.b2 .and (.b2 .le (.lit (0)) (.var 0)) (.b2 .le (.var 0) (.lit (4294967295)))) (.b2 .and (.b2 .and (.b2 .le (.lit (-9223372036854775808)) (.var 1)) (.b2 .le (.var 1) (.lit (9223372036854775807)))) (.b2 .and (.b2 .and (.b2 .le (.lit (-9223372036854775808)) (.var 2)) (.b2 .le (.var 2) (.lit (9223372036854775807)))) (.b2 .and (.b2 .and (.b2 .le (.lit (-9223372036854775808)) (.var 3)) (.b2 .le (.var 3) (.lit (9223372036854775807)))) (.b2 .and (.b2 .and (.b2 .le (.lit (-9223372036854775808)) (.var 4)) (.b2 .le (.var 4) (.lit (9223372036854775807)))) (.b2 .and (.b2 .and (.b2 .le (.lit (-9223372036854775808)) (.var 5)) (.b2 .le (.var 5) (.lit (9223372036854775807)))) (.b2 .and (.b2 .and (.b2 .le (.lit (-9223372036854775808)) (.var 6)) (.b2 .le (.var 6) (.lit (9223372036854775807)))) (.b2 .and (.b2 .and (.b2 .le (.lit (-9223372036854775808)) (.var 7)) (.b2 .le (.var 7) (.lit (9223372036854775807)))) (.b2 .and (.b2 .and (.b2 .le (.lit (-9223372036854775808)) (.var 8)) (.b2 .le (.var 8) (.lit (9223372036854775807)))) (.b2 .and (.b2 .and (.b2 .le (.lit (-9223372036854775808)) (.var 9)) (.b2 .le (.var 9) (.lit (9223372036854775807)))) (.b2 .and (.b2 .and (.b2 .le (.lit (-9223372036854775808)) (.var 10)) (.b2 .le (.var 10) (.lit (9223372036854775807)))) (.b2 .and (.b2 .le (.lit (-9223372036854775808)) (.var 11)) (.b2 .le (.var 11) (.lit (9223372036854775807))))))))))))))) (.b2 .and (.b2 .and (.b2 .le (.lit (-9223372036854775808)) (.var 12)) (.b2 .le (.var 12) (.lit (9223372036854775807)))) (.b2 .and (.b2 .le (.iapp 56 (.cons (.bool (.b2 .le (.i2 .max (.var 13) (.iapp 1 (.cons syncw_x2 .nil))) (.i2 .min (.var 14) (.iapp 1 (.cons syncw_x1 .nil))))) (.cons (.int .i64 (.i2 .max (.var 13) (.iapp 1 (.cons syncw_x2 .nil)))) .nil))) (.iapp 56 (.cons (.bool (.b2 .le (.i2 .max (.var 13) (.iapp 1 (.cons syncw_x2 .nil))) (.i2 .min (.var 14) (.iapp 1 (.cons syncw_x1 .nil))))) (.cons (.int .i64 (.i2 .min (.var 14) (.iapp 1 (.cons syncw_x1 .nil)))) .nil)))) (.b2 .and (.b2 .and (.b2 .le (.lit (-9223372036854775808)) (.iapp 56 (.cons (.bool (.b2 .le (.i2 .max (.var 13) (.iapp 1 (.cons syncw_x2 .nil))) (.i2 .min (.var 14) (.iapp 1 (.cons syncw_x1 .nil))))) (.cons (.int .i64 (.i2 .max (.var 13) (.iapp 1 (.cons syncw_x2 .nil)))) .nil)))) (.b2 .le (.iapp 56 (.cons (.bool (.b2 .le (.i2 .max (.var 13) (.iapp 1 (.cons syncw_x2 .nil))) (.i2 .min (.var 14) (.iapp 1 (.cons syncw_x1 .nil))))) (.cons (.int .i64 (.i2 .max (.var 13) (.iapp 1 (.cons syncw_x2 .nil)))) .nil))) (.lit (9223372036854775807)))) (.b2 .and (.b2 .le (.lit (-9223372036854775808)) (.iapp 56 (.cons (.bool (.b2 .le (.i2 .max (.var 13) (.iapp 1 (.cons syncw_x2 .nil))) (.i2 .min (.var 14) (.iapp 1 (.cons syncw_x1 .nil))))) (.cons (.int .i64 (.i2 .min (.var 14) (.iapp 1 (.cons syncw_x1 .nil)))) .nil)))) (.b2 .le (.iapp 56 (.cons (.bool (.b2 .le (.i2 .max (.var 13) (.iapp 1 (.cons syncw_x2 .nil))) (.i2 .min (.var 14) (.iapp 1 (.cons syncw_x1 .nil))))) (.cons (.int .i64 (.i2 .min (.var 14) (.iapp 1 (.cons syncw_x1 .nil)))) .nil))) (.lit (9223372036854775807))))))))
 (.need (.b2 .and (.b2 .and (.b2 .le (.lit (-9223372036854775808)) (.iapp 31 (.cons syncw_x6 (.cons syncw_x5 .nil)))) (.b2 .le (.iapp 31 (.cons syncw_x6 (.cons syncw_x5 .nil))) (.lit (9223372036854775807)))) (.b2 .and (.b2 .le (.lit (-9223372036854775808)) (.iapp 44 (.cons syncw_x0 (.cons (.int .i64 (.var 12)) .nil)))) (.b2 .le (.iapp 44 (.cons syncw_x0 (.cons (.int .i64 (.var 12)) .nil))) (.lit (9223372036854775807)))))
 (.need (.b2 .and (.b2 .eq (.iapp 35 (.cons (.int .i64 (.var 3)) (.cons (.int .i64 (.var 4)) (.cons (.int .i64 (.var 5)) .nil)))) (.lit (0))) (.b2 .and (.b2 .and (.b2 .le (.lit (-9223372036854775808)) (.iapp 1 (.cons syncw_x4 .nil))) (.b2 .le (.iapp 1 (.cons syncw_x4 .nil)) (.lit (9223372036854775807)))) (.b2 .and (.b2 .le (.lit (-9223372036854775808)) (.var 11)) (.b2 .le (.var 11) (.lit (9223372036854775807))))))
 (.ret (.tup (.cons (.agg (.cons (.int .u32 (.var 0)) (.cons (.int .i64 (.var 1)) (.cons (.int .i64 (.var 2)) (.cons (.int .i64 (.var 3)) (.cons (.int .i64 (.var 4)) (.cons (.int .i64 (.var 5)) (.cons (.int .i64 (.var 6)) (.cons (.bool (.tt true)) (.cons (.int .i64 (.var 12)) (.cons (.int .i64 (.iapp 31 (.cons syncw_x6 (.cons syncw_x5 .nil)))) (.cons (.int .i64 (.iapp 1 (.cons (.int .i64 (.i2 .sub (.iapp 56 (.cons (.bool (.b2 .le (.i2 .max (.var 13) (.iapp 1 (.cons syncw_x2 .nil))) (.i2 .min (.var 14) (.iapp 1 (.cons syncw_x1 .nil))))) (.cons (.int .i64 (.i2 .min (.var 14) (.iapp 1 (.cons syncw_x1 .nil)))) .nil))) (.iapp 31 (.cons syncw_x6 (.cons syncw_x5 .nil))))) .nil))) (.cons (.int .i64 (.iapp 41 (.cons (.int .i64 (.var 3)) (.cons (.int .i64 (.var 4)) (.cons (.int .i64 (.var 5)) (.cons (.int .i64 (.var 11)) (.cons (.int .i64 (.iapp 1 (.cons syncw_x4 .nil))) .nil))))))) (.cons (.int .i64 (.iapp 36 (.cons (.int .i64 (.var 11)) (.cons (.int .i64 (.iapp 1 (.cons syncw_x4 .nil))) .nil)))) .nil)))))))))))))) (.cons (.cst .nilI) .nil)))))))
 (.need (.b2 .and (.b2 .and (.b2 .and (.b2 .le (.lit (0)) (.var 0)) (.b2 .le (.var 0) (.lit (4294967295)))) (.b2 .and (.b2 .and (.b2 .le (.lit (-9223372036854775808)) (.var 1)) (.b2 .le (.var 1) (.lit (9223372036854775807)))) (.b2 .and (.b2 .and (.b2 .le (.lit (-9223372036854775808)) (.var 2)) (.b2 .le (.var 2) (.lit (9223372036854775807)))) (.b2 .and (.b2 .and (.b2 .le (.lit (-9223372036854775808)) (.var 3)) (.b2 .le (.var 3) (.lit (9223372036854775807)))) (.b2 .and (.b2 .and (.b2 .le (.lit (-9223372036854775808)) (.var 4)) (.b2 .le (.var 4) (.lit (9223372036854775807)))) (.b2 .and (.b2 .and (.b2 .le (.lit (-9223372036854775808)) (.var 5)) (.b2 .le (.var 5) (.lit (9223372036854775807)))) (.b2 .and (.b2 .and (.b2 .le (.lit (-9223372036854775808)) (.var 6)) (.b2 .le (.var 6) (.lit (9223372036854775807)))) (.b2 .and (.b2 .and (.b2 .le (.lit (-9223372036854775808)) (.var 7)) (.b2 .le (.var 7) (.lit (9223372036854775807)))) (.b2 .and (.b2 .and (.b2 .le (.lit (-9223372036854775808)) (.var 8)) (.b2 .le (.var 8) (.lit (9223372036854775807)))) (.b2 .and (.b2 .and (.b2 .le (.lit (-9223372036854775808)) (.var 9)) (.b2 .le (.var 9) (.lit (9223372036854775807)))) (.b2 .and (.b2 .and (.b2 .le (.lit (-9223372036854775808)) (.var 10)) (.b2 .le (.var 10) (.lit (9223372036854775807)))) (.b2 .and (.b2 .le (.lit (-9223372036854775808)) (.var 11)) (.b2 .le (.var 11) (.lit (9223372036854775807))))))))))))))) (.b2 .and (.b2 .and (.b2 .le (.lit (-9223372036854775808)) (.var 12)) (.b2 .le (.var 12) (.lit (9223372036854775807)))) (.b2 .and (.b2 .le (.var 13) (.var 14)) (.b2 .and (.b2 .and (.b2 .le (.lit (-9223372036854775808)) (.var 13)) (.b2 .le (.var 13) (.lit (9223372036854775807)))) (.b2 .and (.b2 .le (.lit (-9223372036854775808)) (.var 14)) (.b2 .le (.var 14) (.lit (9223372036854775807))))))))
 (.need (.b2 .and (.b2 .and (.b2 .le (.lit (-9223372036854775808)) (.iapp 31 (.cons (.int .i64 (.var 13)) (.cons (.int .i64 (.var 14)) .nil)))) (.b2 .le (.iapp 31 (.cons (.int .i64 (.var 13)) (.cons (.int .i64 (.var 14)) .nil))) (.lit (9223372036854775807)))) (.b2 .and (.b2 .le (.lit (-9223372036854775808)) (.iapp 44 (.cons syncw_x0 (.cons (.int .i64 (.var 12)) .nil)))) (.b2 .le (.iapp 44 (.cons syncw_x0 (.cons (.int .i64 (.var 12)) .nil))) (.lit (9223372036854775807)))))
 (.need (.b2 .and (.b2 .eq (.iapp 35 (.cons (.int .i64 (.var 3)) (.cons (.int .i64 (.var 4)) (.cons (.int .i64 (.var 5)) .nil)))) (.lit (0))) (.b2 .and (.b2 .and (.b2 .le (.lit (-9223372036854775808)) (.iapp 1 (.cons syncw_x8 .nil))) (.b2 .le (.iapp 1 (.cons syncw_x8 .nil)) (.lit (9223372036854775807)))) (.b2 .and (.b2 .le (.lit (-9223372036854775808)) (.var 11)) (.b2 .le (.var 11) (.lit (9223372036854775807))))))
 (.ret (.tup (.cons (.agg (.cons (.int .u32 (.var 0)) (.cons (.int .i64 (.var 1)) (.cons (.int .i64 (.var 2)) (.cons (.int .i64 (.var 3)) (.cons (.int .i64 (.var 4)) (.cons (.int .i64 (.var 5)) (.cons (.int .i64 (.var 6)) (.cons (.bool (.tt true)) (.cons (.int .i64 (.var 12)) (.cons (.int .i64 (.iapp 31 (.cons (.int .i64 (.var 13)) (.cons (.int .i64 (.var 14)) .nil)))) (.cons (.int .i64 (.iapp 1 (.cons (.int .i64 (.i2 .sub (.var 14) (.iapp 31 (.cons (.int .i64 (.var 13)) (.cons (.int .i64 (.var 14)) .nil))))) .nil))) (.cons (.int .i64 (.iapp 41 (.cons (.int .i64 (.var 3)) (.cons (.int .i64 (.var 4)) (.cons (.int .i64 (.var 5)) (.cons (.int .i64 (.var 11)) (.cons (.int .i64 (.iapp 1 (.cons syncw_x8 .nil))) .nil))))))) (.cons (.int .i64 (.iapp 36 (.cons (.int .i64 (.var 11)) (.cons (.int .i64 (.iapp 1 (.cons syncw_x8 .nil))) .nil)))) .nil)))))))))))))) (.cons (.cst .nilI) .nil)))))))))))))))))))))
abbrev ymc_syncw : Con := ⟨57, [(.agg (.cons (.int .u32 (.var 0)) (.cons (.int .i64 (.var 1)) (.cons (.int .i64 (.var 2)) (.cons (.int .i64 (.var 3)) (.cons (.int .i64 (.var 4)) (.cons (.int .i64 (.var 5)) (.cons (.int .i64 (.var 6)) (.cons (.bool (.bvar 0)) (.cons (.int .i64 (.var 7)) (.cons (.int .i64 (.var 8)) (.cons (.int .i64 (.var 9)) (.cons (.int .i64 (.var 10)) (.cons (.int .i64 (.var 11)) .nil)))))))))))))), (.int .i64 (.var 12)), (.agg (.cons (.int .i64 (.var 13)) (.cons (.int .i64 (.var 14)) .nil)))], (.b2 .and (.b2 .and (.b2 .and (.b2 .le (.lit (0)) (.var 0)) (.b2 .le (.var 0) (.lit (4294967295)))) (.b2 .and (.b2 .and (.b2 .le (.lit (-9223372036854775808)) (.var 1)) (.b2 .le (.var 1) (.lit (9223372036854775807)))) (.b2 .and (.b2 .and (.b2 .le (.lit (-9223372036854775808)) (.var 2)) (.b2 .le (.var 2) (.lit (9223372036854775807)))) (.b2 .and (.b2 .and (.b2 .le (.lit (-9223372036854775808)) (.var 3)) (.b2 .le (.var 3) (.lit (9223372036854775807)))) (.b2 .and (.b2 .and (.b2 .le (.lit (-9223372036854775808)) (.var 4)) (.b2 .le (.var 4) (.lit (9223372036854775807)))) (.b2 .and (.b2 .and (.b2 .le (.lit (-9223372036854775808)) (.var 5)) (.b2 .le (.var 5) (.lit (9223372036854775807)))) (.b2 .and (.b2 .and (.b2 .le (.lit (-9223372036854775808)) (.var 6)) (.b2 .le (.var 6) (.lit (9223372036854775807)))) (.b2 .and (.b2 .and (.b2 .le (.lit (-9223372036854775808)) (.var 7)) (.b2 .le (.var 7) (.lit (9223372036854775807)))) (.b2 .and (.b2 .and (.b2 .le (.lit (-9223372036854775808)) (.var 8)) (.b2 .le (.var 8) (.lit (9223372036854775807)))) (.b2 .and (.b2 .and (.b2 .le (.lit (-9223372036854775808)) (.var 9)) (.b2 .le (.var 9) (.lit (9223372036854775807)))) (.b2 .and (.b2 .and (.b2 .le (.lit (-9223372036854775808)) (.var 10)) (.b2 .le (.var 10) (.lit (9223372036854775807)))) (.b2 .and (.b2 .le (.lit (-9223372036854775808)) (.var 11)) (.b2 .le (.var 11) (.lit (9223372036854775807))))))))))))))) (.b2 .and (.bapp 4 (.cons (.tup (.cons (.int .u32 (.var 0)) (.cons (.int .i64 (.var 1)) (.cons (.int .i64 (.var 2)) (.cons (.int .i64 (.var 3)) (.cons (.int .i64 (.var 4)) (.cons (.int .i64 (.var 5)) (.cons (.int .i64 (.var 6)) (.cons (.bool (.bvar 0)) (.cons (.int .i64 (.var 7)) (.cons (.int .i64 (.var 8)) (.cons (.int .i64 (.var 9)) (.cons (.int .i64 (.var 10)) (.cons (.int .i64 (.var 11)) .nil)))))))))))))) .nil)) (.b2 .and (.b2 .le (.lit (0)) (.var 12)) (.b2 .and (.b2 .le (.var 12) (.lit (1152921504606846976))) (.b2 .and (.b2 .le (.var 13) (.var 14)) (.b2 .and (.b2 .lt (.lit (-2305843009213693952)) (.var 13)) (.b2 .and (.b2 .lt (.var 14) (.lit (2305843009213693952))) (.b2 .or (.not (.bvar 0)) (.b2 .le (.var 7) (.var 12)))))))))), (.tup (.cons (.agg (.cons (.int .u32 (.var 0)) (.cons (.int .i64 (.var 1)) (.cons (.int .i64 (.var 2)) (.cons (.int .i64 (.var 3)) (.cons (.int .i64 (.var 4)) (.cons (.int .i64 (.var 5)) (.cons (.int .i64 (.var 6)) (.cons (.bool (.tt true)) (.cons (.int .i64 (.var 12)) (.cons (.int .i64 (.iapp 50 (.cons (.tup (.cons (.int .u32 (.var 0)) (.cons (.int .i64 (.var 1)) (.cons (.int .i64 (.var 2)) (.cons (.int .i64 (.var 3)) (.cons (.int .i64 (.var 4)) (.cons (.int .i64 (.var 5)) (.cons (.int .i64 (.var 6)) (.cons (.bool (.bvar 0)) (.cons (.int .i64 (.var 7)) (.cons (.int .i64 (.var 8)) (.cons (.int .i64 (.var 9)) (.cons (.int .i64 (.var 10)) (.cons (.int .i64 (.var 11)) .nil)))))))))))))) (.cons (.int .i64 (.var 12)) (.cons (.int .i64 (.var 13)) (.cons (.int .i64 (.var 14)) .nil)))))) (.cons (.int .i64 (.iapp 51 (.cons (.tup (.cons (.int .u32 (.var 0)) (.cons (.int .i64 (.var 1)) (.cons (.int .i64 (.var 2)) (.cons (.int .i64 (.var 3)) (.cons (.int .i64 (.var 4)) (.cons (.int .i64 (.var 5)) (.cons (.int .i64 (.var 6)) (.cons (.bool (.bvar 0)) (.cons (.int .i64 (.var 7)) (.cons (.int .i64 (.var 8)) (.cons (.int .i64 (.var 9)) (.cons (.int .i64 (.var 10)) (.cons (.int .i64 (.var 11)) .nil)))))))))))))) (.cons (.int .i64 (.var 12)) (.cons (.int .i64 (.var 13)) (.cons (.int .i64 (.var 14)) .nil)))))) (.cons (.int .i64 (.iapp 52 (.cons (.tup (.cons (.int .u32 (.var 0)) (.cons (.int .i64 (.var 1)) (.cons (.int .i64 (.var 2)) (.cons (.int .i64 (.var 3)) (.cons (.int .i64 (.var 4)) (.cons (.int .i64 (.var 5)) (.cons (.int .i64 (.var 6)) (.cons (.bool (.bvar 0)) (.cons (.int .i64 (.var 7)) (.cons (.int .i64 (.var 8)) (.cons (.int .i64 (.var 9)) (.cons (.int .i64 (.var 10)) (.cons (.int .i64 (.var 11)) .nil)))))))))))))) (.cons (.int .i64 (.var 12)) (.cons (.int .i64 (.var 13)) (.cons (.int .i64 (.var 14)) .nil)))))) (.cons (.int .i64 (.iapp 53 (.cons (.tup (.cons (.int .u32 (.var 0)) (.cons (.int .i64 (.var 1)) (.cons (.int .i64 (.var 2)) (.cons (.int .i64 (.var 3)) (.cons (.int .i64 (.var 4)) (.cons (.int .i64 (.var 5)) (.cons (.int .i64 (.var 6)) (.cons (.bool (.bvar 0)) (.cons (.int .i64 (.var 7)) (.cons (.int .i64 (.var 8)) (.cons (.int .i64 (.var 9)) (.cons (.int .i64 (.var 10)) (.cons (.int .i64 (.var 11)) .nil)))))))))))))) (.cons (.int .i64 (.var 12)) (.cons (.int .i64 (.var 13)) (.cons (.int .i64 (.var 14)) .nil)))))) .nil)))))))))))))) (.cons (.err (.lit (0))) .nil))), ⟨15, 1, 0, 0⟩, none⟩
theorem syncw_w : walk Tryd.prog 229 ⟨[yic_hcheck, yhc_spck, yjc_set, yic_est, yjc_eis, yhc_sgrow, yjc_meet, yac_subsat, yhc_step], syG, [], [], []⟩ [] .v ymc_syncw ymc_syncw.n 3000 = some syncw_tree := by kernel_rfl
set_option maxHeartbeats 4000000 in
theorem syncw_h (rm : Int) (rs : Int) (rr : Int) (gp : Int) (gi : Int) (rl : Int) (ro : Int) (hb : Int) (ht : Int) (he : Int) (sf : Int) (ss : Int) (k : Int) (a : Int) (b : Int) (sy : Bool) (hc : holds (ymE [rm, rs, rr, gp, gi, rl, ro, hb, ht, he, sf, ss, k, a, b] [sy] [] []) (.b2 .and (.b2 .and (.b2 .and (.b2 .le (.lit (0)) (.var 0)) (.b2 .le (.var 0) (.lit (4294967295)))) (.b2 .and (.b2 .and (.b2 .le (.lit (-9223372036854775808)) (.var 1)) (.b2 .le (.var 1) (.lit (9223372036854775807)))) (.b2 .and (.b2 .and (.b2 .le (.lit (-9223372036854775808)) (.var 2)) (.b2 .le (.var 2) (.lit (9223372036854775807)))) (.b2 .and (.b2 .and (.b2 .le (.lit (-9223372036854775808)) (.var 3)) (.b2 .le (.var 3) (.lit (9223372036854775807)))) (.b2 .and (.b2 .and (.b2 .le (.lit (-9223372036854775808)) (.var 4)) (.b2 .le (.var 4) (.lit (9223372036854775807)))) (.b2 .and (.b2 .and (.b2 .le (.lit (-9223372036854775808)) (.var 5)) (.b2 .le (.var 5) (.lit (9223372036854775807)))) (.b2 .and (.b2 .and (.b2 .le (.lit (-9223372036854775808)) (.var 6)) (.b2 .le (.var 6) (.lit (9223372036854775807)))) (.b2 .and (.b2 .and (.b2 .le (.lit (-9223372036854775808)) (.var 7)) (.b2 .le (.var 7) (.lit (9223372036854775807)))) (.b2 .and (.b2 .and (.b2 .le (.lit (-9223372036854775808)) (.var 8)) (.b2 .le (.var 8) (.lit (9223372036854775807)))) (.b2 .and (.b2 .and (.b2 .le (.lit (-9223372036854775808)) (.var 9)) (.b2 .le (.var 9) (.lit (9223372036854775807)))) (.b2 .and (.b2 .and (.b2 .le (.lit (-9223372036854775808)) (.var 10)) (.b2 .le (.var 10) (.lit (9223372036854775807)))) (.b2 .and (.b2 .le (.lit (-9223372036854775808)) (.var 11)) (.b2 .le (.var 11) (.lit (9223372036854775807))))))))))))))) (.b2 .and (.bapp 4 (.cons (.tup (.cons (.int .u32 (.var 0)) (.cons (.int .i64 (.var 1)) (.cons (.int .i64 (.var 2)) (.cons (.int .i64 (.var 3)) (.cons (.int .i64 (.var 4)) (.cons (.int .i64 (.var 5)) (.cons (.int .i64 (.var 6)) (.cons (.bool (.bvar 0)) (.cons (.int .i64 (.var 7)) (.cons (.int .i64 (.var 8)) (.cons (.int .i64 (.var 9)) (.cons (.int .i64 (.var 10)) (.cons (.int .i64 (.var 11)) .nil)))))))))))))) .nil)) (.b2 .and (.b2 .le (.lit (0)) (.var 12)) (.b2 .and (.b2 .le (.var 12) (.lit (1152921504606846976))) (.b2 .and (.b2 .le (.var 13) (.var 14)) (.b2 .and (.b2 .lt (.lit (-2305843009213693952)) (.var 13)) (.b2 .and (.b2 .lt (.var 14) (.lit (2305843009213693952))) (.b2 .or (.not (.bvar 0)) (.b2 .le (.var 7) (.var 12))))))))))) (hty : patsTyp (ymE [rm, rs, rr, gp, gi, rl, ro, hb, ht, he, sf, ss, k, a, b] [sy] [] []) [(.agg (.cons (.int .u32 (.var 0)) (.cons (.int .i64 (.var 1)) (.cons (.int .i64 (.var 2)) (.cons (.int .i64 (.var 3)) (.cons (.int .i64 (.var 4)) (.cons (.int .i64 (.var 5)) (.cons (.int .i64 (.var 6)) (.cons (.bool (.bvar 0)) (.cons (.int .i64 (.var 7)) (.cons (.int .i64 (.var 8)) (.cons (.int .i64 (.var 9)) (.cons (.int .i64 (.var 10)) (.cons (.int .i64 (.var 11)) .nil)))))))))))))), (.int .i64 (.var 12)), (.agg (.cons (.int .i64 (.var 13)) (.cons (.int .i64 (.var 14)) .nil)))]) : syncw_tree.holds (fun v_ => v_ = denV (ymE [rm, rs, rr, gp, gi, rl, ro, hb, ht, he, sf, ss, k, a, b] [sy] [] []) b0 (.tup (.cons (.agg (.cons (.int .u32 (.var 0)) (.cons (.int .i64 (.var 1)) (.cons (.int .i64 (.var 2)) (.cons (.int .i64 (.var 3)) (.cons (.int .i64 (.var 4)) (.cons (.int .i64 (.var 5)) (.cons (.int .i64 (.var 6)) (.cons (.bool (.tt true)) (.cons (.int .i64 (.var 12)) (.cons (.int .i64 (.iapp 50 (.cons (.tup (.cons (.int .u32 (.var 0)) (.cons (.int .i64 (.var 1)) (.cons (.int .i64 (.var 2)) (.cons (.int .i64 (.var 3)) (.cons (.int .i64 (.var 4)) (.cons (.int .i64 (.var 5)) (.cons (.int .i64 (.var 6)) (.cons (.bool (.bvar 0)) (.cons (.int .i64 (.var 7)) (.cons (.int .i64 (.var 8)) (.cons (.int .i64 (.var 9)) (.cons (.int .i64 (.var 10)) (.cons (.int .i64 (.var 11)) .nil)))))))))))))) (.cons (.int .i64 (.var 12)) (.cons (.int .i64 (.var 13)) (.cons (.int .i64 (.var 14)) .nil)))))) (.cons (.int .i64 (.iapp 51 (.cons (.tup (.cons (.int .u32 (.var 0)) (.cons (.int .i64 (.var 1)) (.cons (.int .i64 (.var 2)) (.cons (.int .i64 (.var 3)) (.cons (.int .i64 (.var 4)) (.cons (.int .i64 (.var 5)) (.cons (.int .i64 (.var 6)) (.cons (.bool (.bvar 0)) (.cons (.int .i64 (.var 7)) (.cons (.int .i64 (.var 8)) (.cons (.int .i64 (.var 9)) (.cons (.int .i64 (.var 10)) (.cons (.int .i64 (.var 11)) .nil)))))))))))))) (.cons (.int .i64 (.var 12)) (.cons (.int .i64 (.var 13)) (.cons (.int .i64 (.var 14)) .nil)))))) (.cons (.int .i64 (.iapp 52 (.cons (.tup (.cons (.int .u32 (.var 0)) (.cons (.int .i64 (.var 1)) (.cons (.int .i64 (.var 2)) (.cons (.int .i64 (.var 3)) (.cons (.int .i64 (.var 4)) (.cons (.int .i64 (.var 5)) (.cons (.int .i64 (.var 6)) (.cons (.bool (.bvar 0)) (.cons (.int .i64 (.var 7)) (.cons (.int .i64 (.var 8)) (.cons (.int .i64 (.var 9)) (.cons (.int .i64 (.var 10)) (.cons (.int .i64 (.var 11)) .nil)))))))))))))) (.cons (.int .i64 (.var 12)) (.cons (.int .i64 (.var 13)) (.cons (.int .i64 (.var 14)) .nil)))))) (.cons (.int .i64 (.iapp 53 (.cons (.tup (.cons (.int .u32 (.var 0)) (.cons (.int .i64 (.var 1)) (.cons (.int .i64 (.var 2)) (.cons (.int .i64 (.var 3)) (.cons (.int .i64 (.var 4)) (.cons (.int .i64 (.var 5)) (.cons (.int .i64 (.var 6)) (.cons (.bool (.bvar 0)) (.cons (.int .i64 (.var 7)) (.cons (.int .i64 (.var 8)) (.cons (.int .i64 (.var 9)) (.cons (.int .i64 (.var 10)) (.cons (.int .i64 (.var 11)) .nil)))))))))))))) (.cons (.int .i64 (.var 12)) (.cons (.int .i64 (.var 13)) (.cons (.int .i64 (.var 14)) .nil)))))) .nil)))))))))))))) (.cons (.err (.lit (0))) .nil)))) (ymE [rm, rs, rr, gp, gi, rl, ro, hb, ht, he, sf, ss, k, a, b] [sy] [] []) := by
  simp only [Tree.holds, Sy.holds, AllN, Env.more, ymE, List.cons_append, List.nil_append, List.append_nil, denV, denI, denB, denL, I2.den, VOp.den, List.getD_cons_zero, List.getD_cons_succ, Cst.den, syso, syse, syio, sybo, ymb_hm, List.map_nil, List.map_cons, B2.ofInts, B2.denI, B2.denB, if_true, Bool.false_eq_true, if_false, Nat.div_one, Nat.mul_one, Nat.add_zero, holds] at hc
  simp only [patsTyp, patTyp, patTypL, ymE, denV, denL, List.getD_cons_zero, List.getD_cons_succ, and_true, true_and] at hty
  unfold syncw_tree
  simp only [syncw_x0, syncw_x1, syncw_x2, syncw_x3, syncw_x4, syncw_x5, syncw_x6, syncw_x7, syncw_x8]
  simp only [Tree.holds, Sy.holds, AllN, Env.more, ymE, List.cons_append, List.nil_append, List.append_nil, denV, denI, denB, denL, I2.den, VOp.den, List.getD_cons_zero, List.getD_cons_succ, Cst.den, syso, syse, syio, sybo, ymi_sa, ymi_se, ymi_mi, ymi_sve, ymi_sts, ymi_stf, ymi_hme, ymi_rke, ymi_rkt, ymi_rko, ymi_syt, ymi_syr, ymi_syf, ymi_sys, ymi_gb, ymb_hm, List.map_nil, List.map_cons, B2.ofInts, B2.denI, B2.denB, if_true, Bool.false_eq_true, if_false, Nat.div_one, Nat.mul_one, Nat.add_zero]
  obtain ⟨L, hL0⟩ : ∃ x, (if satE (rkTl (Sy.rows (hoT rm rs rr gp gi rl ro hb ht he sf ss sy)) k - rkOl (Sy.rows (hoT rm rs rr gp gi rl ro hb ht he sf ss sy)) k) > a then satE (rkTl (Sy.rows (hoT rm rs rr gp gi rl ro hb ht he sf ss sy)) k - rkOl (Sy.rows (hoT rm rs rr gp gi rl ro hb ht he sf ss sy)) k) else a) = x := ⟨_, rfl⟩
  obtain ⟨H, hH0⟩ : ∃ x, (if satE (rkTl (Sy.rows (hoT rm rs rr gp gi rl ro hb ht he sf ss sy)) k + rkOl (Sy.rows (hoT rm rs rr gp gi rl ro hb ht he sf ss sy)) k) < b then satE (rkTl (Sy.rows (hoT rm rs rr gp gi rl ro hb ht he sf ss sy)) k + rkOl (Sy.rows (hoT rm rs rr gp gi rl ro hb ht he sf ss sy)) k) else b) = x := ⟨_, rfl⟩
  simp only [hL0, hH0]
  simp only [hoL_eq, hoB_eq, rkE_eq, rkT_eq, rkO_eq, syE_eq, syT_eq, syR_eq, syF_eq, syS_eq]
  have hk := rk_spec rm rs rr hb ht he sf k
  have hsv := sv_spec gp gi rl
  have hL : (if satE (rkT rm rs hb ht sf k - rkO rm rs rr hb ht he sf k) > a then satE (rkT rm rs hb ht sf k - rkO rm rs rr hb ht he sf k) else a) = L := hL0
  have hH : (if satE (rkT rm rs hb ht sf k + rkO rm rs rr hb ht he sf k) < b then satE (rkT rm rs hb ht sf k + rkO rm rs rr hb ht he sf k) else b) = H := hH0
  have uL := satE_spec (rkT rm rs hb ht sf k - rkO rm rs rr hb ht he sf k)
  have uH := satE_spec (rkT rm rs hb ht sf k + rkO rm rs rr hb ht he sf k)
  have hL2 : -9223372036854775808 ≤ L ∧ L ≤ 9223372036854775807 := by (rw [← hL]; split <;> omega)
  have hH2 : -9223372036854775808 ≤ H ∧ H ≤ 9223372036854775807 := by (rw [← hH]; split <;> omega)
  have hLH : (L ≤ H ∧ decide (L ≤ H) = true) ∨ (¬ L ≤ H ∧ decide (L ≤ H) = false) := by (by_cases h : L ≤ H; exact .inl ⟨h, decide_eq_true h⟩; exact .inr ⟨h, decide_eq_false h⟩)
  have hsp := spI_spec a b
  have hp : hoP rm rs rr gp gi rl ro hb ht he sf ss := of_decide_eq_true hc.2.1
  obtain ⟨f, a1, a2, a3, a4, a5, a6, a7, a8, a9, a10, a11, a12, a13, a14, a15, a16, a17, a18, a19, a20⟩ := id hp
  have hE : hoE rm rs rr gp gi rl ro hb ht he sf ss = 0 := hoE_y hp
  have hbd := rk_bd (k := k) hp
  obtain ⟨c1, c2, c3, c4, c5, c6, c7, c8⟩ := id hc
  have hmm := mi_bd c5
  cases sy
  all_goals
   refine ⟨?_, fun h0 => ?_⟩
   ·
    first
    | omega
    | exact hc.1
    | contradiction
    | exact ⟨c1, c2, by omega⟩
    | exact ⟨c1, by omega⟩
    | (have u3 := satE_spec (miI a b - rkT rm rs hb ht sf k)
       omega)
    | (rcases hLH with ⟨q, dd⟩ | ⟨q, dd⟩
       · have hm2 := mi_bd q
         have u4 := satE_spec (miI L H - rkT rm rs hb ht sf k)
         simp only [dd, gb_y]
         first
         | omega
         | exact ⟨c1, by omega, q, hL2, hH2⟩
       · contradiction)
    | skip
   ·
    refine ⟨fun h1 => ?_, fun h1 => ?_⟩
    ·
     first
     | contradiction
     | (exfalso; omega)
     | (exfalso; simp only [not_true_eq_false, false_or] at c8; omega)
     | (obtain ⟨u1, u2, u3, u4⟩ := @sy_uns rm rs rr gp gi rl ro hb ht he sf ss k a b _ (.inl rfl)
        rw [u1, u2, u3, u4]
        first | done | rfl)
     | (have c9 : hb ≤ k := by (simp only [not_true_eq_false, false_or] at c8; exact c8)
        obtain ⟨u1, u2, u3, u4⟩ := @sy_uns rm rs rr gp gi rl ro hb ht he sf ss k a b true (.inr (by omega))
        rw [u1, u2, u3, u4]
        first | done | rfl)
     | (have h0 : rkE rm rs hb ht sf k = 0 := by (simp only [not_true_eq_false, false_or] at c8; omega)
        rcases hLH with ⟨q, dd⟩ | ⟨q, dd⟩
        · obtain ⟨u1, u2, u3, u4⟩ := sy_m (gp := gp) (gi := gi) (rl := rl) (ro := ro) (ss := ss) h0 hL hH q
          first
          | contradiction
          | (simp only [dd, u1, u2, u3, u4, gb_y]
             first | done | rfl)
        · obtain ⟨u1, u2, u3, u4⟩ := sy_n (gp := gp) (gi := gi) (rl := rl) (ro := ro) (ss := ss) h0 hL hH q
          first
          | contradiction
          | (simp only [dd, u1, u2, u3, u4, gb_n]
             first | done | rfl))
     | skip
    ·
     refine ⟨fun h2 => ?_, fun h2 => ?_⟩
     ·
      first
      | contradiction
      | (exfalso; omega)
      | (exfalso; simp only [not_true_eq_false, false_or] at c8; omega)
      | (obtain ⟨u1, u2, u3, u4⟩ := @sy_uns rm rs rr gp gi rl ro hb ht he sf ss k a b _ (.inl rfl)
         rw [u1, u2, u3, u4]
         first | done | rfl)
      | (have c9 : hb ≤ k := by (simp only [not_true_eq_false, false_or] at c8; exact c8)
         obtain ⟨u1, u2, u3, u4⟩ := @sy_uns rm rs rr gp gi rl ro hb ht he sf ss k a b true (.inr (by omega))
         rw [u1, u2, u3, u4]
         first | done | rfl)
      | (have h0 : rkE rm rs hb ht sf k = 0 := by (simp only [not_true_eq_false, false_or] at c8; omega)
         rcases hLH with ⟨q, dd⟩ | ⟨q, dd⟩
         · obtain ⟨u1, u2, u3, u4⟩ := sy_m (gp := gp) (gi := gi) (rl := rl) (ro := ro) (ss := ss) h0 hL hH q
           first
           | contradiction
           | (simp only [dd, u1, u2, u3, u4, gb_y]
              first | done | rfl)
         · obtain ⟨u1, u2, u3, u4⟩ := sy_n (gp := gp) (gi := gi) (rl := rl) (ro := ro) (ss := ss) h0 hL hH q
           first
           | contradiction
           | (simp only [dd, u1, u2, u3, u4, gb_n]
              first | done | rfl))
      | skip
     ·
      refine ⟨fun h3 => ?_, fun h3 => ?_⟩
      ·
       first
       | contradiction
       | (exfalso; omega)
       | (exfalso; simp only [not_true_eq_false, false_or] at c8; omega)
       | (obtain ⟨u1, u2, u3, u4⟩ := @sy_uns rm rs rr gp gi rl ro hb ht he sf ss k a b _ (.inl rfl)
          rw [u1, u2, u3, u4]
          first | done | rfl)
       | (have c9 : hb ≤ k := by (simp only [not_true_eq_false, false_or] at c8; exact c8)
          obtain ⟨u1, u2, u3, u4⟩ := @sy_uns rm rs rr gp gi rl ro hb ht he sf ss k a b true (.inr (by omega))
          rw [u1, u2, u3, u4]
          first | done | rfl)
       | (have h0 : rkE rm rs hb ht sf k = 0 := by (simp only [not_true_eq_false, false_or] at c8; omega)
          rcases hLH with ⟨q, dd⟩ | ⟨q, dd⟩
          · obtain ⟨u1, u2, u3, u4⟩ := sy_m (gp := gp) (gi := gi) (rl := rl) (ro := ro) (ss := ss) h0 hL hH q
            first
            | contradiction
            | (simp only [dd, u1, u2, u3, u4, gb_y]
               first | done | rfl)
          · obtain ⟨u1, u2, u3, u4⟩ := sy_n (gp := gp) (gi := gi) (rl := rl) (ro := ro) (ss := ss) h0 hL hH q
            first
            | contradiction
            | (simp only [dd, u1, u2, u3, u4, gb_n]
               first | done | rfl))
       | skip
      ·
       refine ⟨fun h4 => ?_, fun h4 => ?_⟩
       ·
        first
        | contradiction
        | (exfalso; omega)
        | (exfalso; simp only [not_true_eq_false, false_or] at c8; omega)
        | (obtain ⟨u1, u2, u3, u4⟩ := @sy_uns rm rs rr gp gi rl ro hb ht he sf ss k a b _ (.inl rfl)
           rw [u1, u2, u3, u4]
           first | done | rfl)
        | (have c9 : hb ≤ k := by (simp only [not_true_eq_false, false_or] at c8; exact c8)
           obtain ⟨u1, u2, u3, u4⟩ := @sy_uns rm rs rr gp gi rl ro hb ht he sf ss k a b true (.inr (by omega))
           rw [u1, u2, u3, u4]
           first | done | rfl)
        | (have h0 : rkE rm rs hb ht sf k = 0 := by (simp only [not_true_eq_false, false_or] at c8; omega)
           rcases hLH with ⟨q, dd⟩ | ⟨q, dd⟩
           · obtain ⟨u1, u2, u3, u4⟩ := sy_m (gp := gp) (gi := gi) (rl := rl) (ro := ro) (ss := ss) h0 hL hH q
             first
             | contradiction
             | (simp only [dd, u1, u2, u3, u4, gb_y]
                first | done | rfl)
           · obtain ⟨u1, u2, u3, u4⟩ := sy_n (gp := gp) (gi := gi) (rl := rl) (ro := ro) (ss := ss) h0 hL hH q
             first
             | contradiction
             | (simp only [dd, u1, u2, u3, u4, gb_n]
                first | done | rfl))
        | skip
       ·
        refine ⟨fun h5 => ?_, fun h5 => ?_⟩
        ·
         first
         | contradiction
         | (exfalso; omega)
         | (exfalso; simp only [not_true_eq_false, false_or] at c8; omega)
         | (obtain ⟨u1, u2, u3, u4⟩ := @sy_uns rm rs rr gp gi rl ro hb ht he sf ss k a b _ (.inl rfl)
            rw [u1, u2, u3, u4]
            first | done | rfl)
         | (have c9 : hb ≤ k := by (simp only [not_true_eq_false, false_or] at c8; exact c8)
            obtain ⟨u1, u2, u3, u4⟩ := @sy_uns rm rs rr gp gi rl ro hb ht he sf ss k a b true (.inr (by omega))
            rw [u1, u2, u3, u4]
            first | done | rfl)
         | (have h0 : rkE rm rs hb ht sf k = 0 := by (simp only [not_true_eq_false, false_or] at c8; omega)
            rcases hLH with ⟨q, dd⟩ | ⟨q, dd⟩
            · obtain ⟨u1, u2, u3, u4⟩ := sy_m (gp := gp) (gi := gi) (rl := rl) (ro := ro) (ss := ss) h0 hL hH q
              first
              | contradiction
              | (simp only [dd, u1, u2, u3, u4, gb_y]
                 first | done | rfl)
            · obtain ⟨u1, u2, u3, u4⟩ := sy_n (gp := gp) (gi := gi) (rl := rl) (ro := ro) (ss := ss) h0 hL hH q
              first
              | contradiction
              | (simp only [dd, u1, u2, u3, u4, gb_n]
                 first | done | rfl))
         | skip
        ·
         refine ⟨fun h6 => ?_, fun h6 => ?_⟩
         ·
          first
          | contradiction
          | (exfalso; omega)
          | (exfalso; simp only [not_true_eq_false, false_or] at c8; omega)
          | (obtain ⟨u1, u2, u3, u4⟩ := @sy_uns rm rs rr gp gi rl ro hb ht he sf ss k a b _ (.inl rfl)
             rw [u1, u2, u3, u4]
             first | done | rfl)
          | (have c9 : hb ≤ k := by (simp only [not_true_eq_false, false_or] at c8; exact c8)
             obtain ⟨u1, u2, u3, u4⟩ := @sy_uns rm rs rr gp gi rl ro hb ht he sf ss k a b true (.inr (by omega))
             rw [u1, u2, u3, u4]
             first | done | rfl)
          | (have h0 : rkE rm rs hb ht sf k = 0 := by (simp only [not_true_eq_false, false_or] at c8; omega)
             rcases hLH with ⟨q, dd⟩ | ⟨q, dd⟩
             · obtain ⟨u1, u2, u3, u4⟩ := sy_m (gp := gp) (gi := gi) (rl := rl) (ro := ro) (ss := ss) h0 hL hH q
               first
               | contradiction
               | (simp only [dd, u1, u2, u3, u4, gb_y]
                  first | done | rfl)
             · obtain ⟨u1, u2, u3, u4⟩ := sy_n (gp := gp) (gi := gi) (rl := rl) (ro := ro) (ss := ss) h0 hL hH q
               first
               | contradiction
               | (simp only [dd, u1, u2, u3, u4, gb_n]
                  first | done | rfl))
          | skip
         ·
          refine ⟨fun h7 => ?_, fun h7 => ?_⟩
          ·
           refine ⟨?_, fun h8 => ?_⟩
           ·
            first
            | omega
            | exact hc.1
            | contradiction
            | exact ⟨c1, c2, by omega⟩
            | exact ⟨c1, by omega⟩
            | (have u3 := satE_spec (miI a b - rkT rm rs hb ht sf k)
               omega)
            | (rcases hLH with ⟨q, dd⟩ | ⟨q, dd⟩
               · have hm2 := mi_bd q
                 have u4 := satE_spec (miI L H - rkT rm rs hb ht sf k)
                 simp only [dd, gb_y]
                 first
                 | omega
                 | exact ⟨c1, by omega, q, hL2, hH2⟩
               · contradiction)
            | skip
           ·
            first
            | contradiction
            | (exfalso; omega)
            | (exfalso; simp only [not_true_eq_false, false_or] at c8; omega)
            | (obtain ⟨u1, u2, u3, u4⟩ := @sy_uns rm rs rr gp gi rl ro hb ht he sf ss k a b _ (.inl rfl)
               rw [u1, u2, u3, u4]
               first | done | rfl)
            | (have c9 : hb ≤ k := by (simp only [not_true_eq_false, false_or] at c8; exact c8)
               obtain ⟨u1, u2, u3, u4⟩ := @sy_uns rm rs rr gp gi rl ro hb ht he sf ss k a b true (.inr (by omega))
               rw [u1, u2, u3, u4]
               first | done | rfl)
            | (have h0 : rkE rm rs hb ht sf k = 0 := by (simp only [not_true_eq_false, false_or] at c8; omega)
               rcases hLH with ⟨q, dd⟩ | ⟨q, dd⟩
               · obtain ⟨u1, u2, u3, u4⟩ := sy_m (gp := gp) (gi := gi) (rl := rl) (ro := ro) (ss := ss) h0 hL hH q
                 first
                 | contradiction
                 | (simp only [dd, u1, u2, u3, u4, gb_y]
                    first | done | rfl)
               · obtain ⟨u1, u2, u3, u4⟩ := sy_n (gp := gp) (gi := gi) (rl := rl) (ro := ro) (ss := ss) h0 hL hH q
                 first
                 | contradiction
                 | (simp only [dd, u1, u2, u3, u4, gb_n]
                    first | done | rfl))
            | skip
          ·
           refine ⟨?_, fun h9 => ?_⟩
           ·
            first
            | omega
            | exact hc.1
            | contradiction
            | exact ⟨c1, c2, by omega⟩
            | exact ⟨c1, by omega⟩
            | (have u3 := satE_spec (miI a b - rkT rm rs hb ht sf k)
               omega)
            | (rcases hLH with ⟨q, dd⟩ | ⟨q, dd⟩
               · have hm2 := mi_bd q
                 have u4 := satE_spec (miI L H - rkT rm rs hb ht sf k)
                 simp only [dd, gb_y]
                 first
                 | omega
                 | exact ⟨c1, by omega, q, hL2, hH2⟩
               · contradiction)
            | skip
           ·
            refine ⟨fun h10 => ?_, fun h10 => ?_⟩
            ·
             refine ⟨?_, fun h11 => ?_⟩
             ·
              first
              | omega
              | exact hc.1
              | contradiction
              | exact ⟨c1, c2, by omega⟩
              | exact ⟨c1, by omega⟩
              | (have u3 := satE_spec (miI a b - rkT rm rs hb ht sf k)
                 omega)
              | (rcases hLH with ⟨q, dd⟩ | ⟨q, dd⟩
                 · have hm2 := mi_bd q
                   have u4 := satE_spec (miI L H - rkT rm rs hb ht sf k)
                   simp only [dd, gb_y]
                   first
                   | omega
                   | exact ⟨c1, by omega, q, hL2, hH2⟩
                 · contradiction)
              | skip
             ·
              first
              | contradiction
              | (exfalso; omega)
              | (exfalso; simp only [not_true_eq_false, false_or] at c8; omega)
              | (obtain ⟨u1, u2, u3, u4⟩ := @sy_uns rm rs rr gp gi rl ro hb ht he sf ss k a b _ (.inl rfl)
                 rw [u1, u2, u3, u4]
                 first | done | rfl)
              | (have c9 : hb ≤ k := by (simp only [not_true_eq_false, false_or] at c8; exact c8)
                 obtain ⟨u1, u2, u3, u4⟩ := @sy_uns rm rs rr gp gi rl ro hb ht he sf ss k a b true (.inr (by omega))
                 rw [u1, u2, u3, u4]
                 first | done | rfl)
              | (have h0 : rkE rm rs hb ht sf k = 0 := by (simp only [not_true_eq_false, false_or] at c8; omega)
                 rcases hLH with ⟨q, dd⟩ | ⟨q, dd⟩
                 · obtain ⟨u1, u2, u3, u4⟩ := sy_m (gp := gp) (gi := gi) (rl := rl) (ro := ro) (ss := ss) h0 hL hH q
                   first
                   | contradiction
                   | (simp only [dd, u1, u2, u3, u4, gb_y]
                      first | done | rfl)
                 · obtain ⟨u1, u2, u3, u4⟩ := sy_n (gp := gp) (gi := gi) (rl := rl) (ro := ro) (ss := ss) h0 hL hH q
                   first
                   | contradiction
                   | (simp only [dd, u1, u2, u3, u4, gb_n]
                      first | done | rfl))
              | skip
            ·
             refine ⟨fun h12 => ?_, fun h12 => ?_⟩
             ·
              first
              | contradiction
              | (exfalso; omega)
              | (exfalso; simp only [not_true_eq_false, false_or] at c8; omega)
              | (obtain ⟨u1, u2, u3, u4⟩ := @sy_uns rm rs rr gp gi rl ro hb ht he sf ss k a b _ (.inl rfl)
                 rw [u1, u2, u3, u4]
                 first | done | rfl)
              | (have c9 : hb ≤ k := by (simp only [not_true_eq_false, false_or] at c8; exact c8)
                 obtain ⟨u1, u2, u3, u4⟩ := @sy_uns rm rs rr gp gi rl ro hb ht he sf ss k a b true (.inr (by omega))
                 rw [u1, u2, u3, u4]
                 first | done | rfl)
              | (have h0 : rkE rm rs hb ht sf k = 0 := by (simp only [not_true_eq_false, false_or] at c8; omega)
                 rcases hLH with ⟨q, dd⟩ | ⟨q, dd⟩
                 · obtain ⟨u1, u2, u3, u4⟩ := sy_m (gp := gp) (gi := gi) (rl := rl) (ro := ro) (ss := ss) h0 hL hH q
                   first
                   | contradiction
                   | (simp only [dd, u1, u2, u3, u4, gb_y]
                      first | done | rfl)
                 · obtain ⟨u1, u2, u3, u4⟩ := sy_n (gp := gp) (gi := gi) (rl := rl) (ro := ro) (ss := ss) h0 hL hH q
                   first
                   | contradiction
                   | (simp only [dd, u1, u2, u3, u4, gb_n]
                      first | done | rfl))
              | skip
             ·
              refine ⟨?_, fun h13 => ?_⟩
              ·
               first
               | omega
               | exact hc.1
               | contradiction
               | exact ⟨c1, c2, by omega⟩
               | exact ⟨c1, by omega⟩
               | (have u3 := satE_spec (miI a b - rkT rm rs hb ht sf k)
                  omega)
               | (rcases hLH with ⟨q, dd⟩ | ⟨q, dd⟩
                  · have hm2 := mi_bd q
                    have u4 := satE_spec (miI L H - rkT rm rs hb ht sf k)
                    simp only [dd, gb_y]
                    first
                    | omega
                    | exact ⟨c1, by omega, q, hL2, hH2⟩
                  · contradiction)
               | skip
              ·
               refine ⟨?_, fun h14 => ?_⟩
               ·
                first
                | omega
                | exact hc.1
                | contradiction
                | exact ⟨c1, c2, by omega⟩
                | exact ⟨c1, by omega⟩
                | (have u3 := satE_spec (miI a b - rkT rm rs hb ht sf k)
                   omega)
                | (rcases hLH with ⟨q, dd⟩ | ⟨q, dd⟩
                   · have hm2 := mi_bd q
                     have u4 := satE_spec (miI L H - rkT rm rs hb ht sf k)
                     simp only [dd, gb_y]
                     first
                     | omega
                     | exact ⟨c1, by omega, q, hL2, hH2⟩
                   · contradiction)
                | skip
               ·
                refine ⟨fun h15 => ?_, fun h15 => ?_⟩
                ·
                 refine ⟨?_, fun h16 => ?_⟩
                 ·
                  first
                  | omega
                  | exact hc.1
                  | contradiction
                  | exact ⟨c1, c2, by omega⟩
                  | exact ⟨c1, by omega⟩
                  | (have u3 := satE_spec (miI a b - rkT rm rs hb ht sf k)
                     omega)
                  | (rcases hLH with ⟨q, dd⟩ | ⟨q, dd⟩
                     · have hm2 := mi_bd q
                       have u4 := satE_spec (miI L H - rkT rm rs hb ht sf k)
                       simp only [dd, gb_y]
                       first
                       | omega
                       | exact ⟨c1, by omega, q, hL2, hH2⟩
                     · contradiction)
                  | skip
                 ·
                  refine ⟨?_, fun h17 => ?_⟩
                  ·
                   first
                   | omega
                   | exact hc.1
                   | contradiction
                   | exact ⟨c1, c2, by omega⟩
                   | exact ⟨c1, by omega⟩
                   | (have u3 := satE_spec (miI a b - rkT rm rs hb ht sf k)
                      omega)
                   | (rcases hLH with ⟨q, dd⟩ | ⟨q, dd⟩
                      · have hm2 := mi_bd q
                        have u4 := satE_spec (miI L H - rkT rm rs hb ht sf k)
                        simp only [dd, gb_y]
                        first
                        | omega
                        | exact ⟨c1, by omega, q, hL2, hH2⟩
                      · contradiction)
                   | skip
                  ·
                   refine ⟨?_, fun h18 => ?_⟩
                   ·
                    first
                    | omega
                    | exact hc.1
                    | contradiction
                    | exact ⟨c1, c2, by omega⟩
                    | exact ⟨c1, by omega⟩
                    | (have u3 := satE_spec (miI a b - rkT rm rs hb ht sf k)
                       omega)
                    | (rcases hLH with ⟨q, dd⟩ | ⟨q, dd⟩
                       · have hm2 := mi_bd q
                         have u4 := satE_spec (miI L H - rkT rm rs hb ht sf k)
                         simp only [dd, gb_y]
                         first
                         | omega
                         | exact ⟨c1, by omega, q, hL2, hH2⟩
                       · contradiction)
                    | skip
                   ·
                    first
                    | contradiction
                    | (exfalso; omega)
                    | (exfalso; simp only [not_true_eq_false, false_or] at c8; omega)
                    | (obtain ⟨u1, u2, u3, u4⟩ := @sy_uns rm rs rr gp gi rl ro hb ht he sf ss k a b _ (.inl rfl)
                       rw [u1, u2, u3, u4]
                       first | done | rfl)
                    | (have c9 : hb ≤ k := by (simp only [not_true_eq_false, false_or] at c8; exact c8)
                       obtain ⟨u1, u2, u3, u4⟩ := @sy_uns rm rs rr gp gi rl ro hb ht he sf ss k a b true (.inr (by omega))
                       rw [u1, u2, u3, u4]
                       first | done | rfl)
                    | (have h0 : rkE rm rs hb ht sf k = 0 := by (simp only [not_true_eq_false, false_or] at c8; omega)
                       rcases hLH with ⟨q, dd⟩ | ⟨q, dd⟩
                       · obtain ⟨u1, u2, u3, u4⟩ := sy_m (gp := gp) (gi := gi) (rl := rl) (ro := ro) (ss := ss) h0 hL hH q
                         first
                         | contradiction
                         | (simp only [dd, u1, u2, u3, u4, gb_y]
                            first | done | rfl)
                       · obtain ⟨u1, u2, u3, u4⟩ := sy_n (gp := gp) (gi := gi) (rl := rl) (ro := ro) (ss := ss) h0 hL hH q
                         first
                         | contradiction
                         | (simp only [dd, u1, u2, u3, u4, gb_n]
                            first | done | rfl))
                    | skip
                ·
                 refine ⟨?_, fun h19 => ?_⟩
                 ·
                  first
                  | omega
                  | exact hc.1
                  | contradiction
                  | exact ⟨c1, c2, by omega⟩
                  | exact ⟨c1, by omega⟩
                  | (have u3 := satE_spec (miI a b - rkT rm rs hb ht sf k)
                     omega)
                  | (rcases hLH with ⟨q, dd⟩ | ⟨q, dd⟩
                     · have hm2 := mi_bd q
                       have u4 := satE_spec (miI L H - rkT rm rs hb ht sf k)
                       simp only [dd, gb_y]
                       first
                       | omega
                       | exact ⟨c1, by omega, q, hL2, hH2⟩
                     · contradiction)
                  | skip
                 ·
                  refine ⟨?_, fun h20 => ?_⟩
                  ·
                   first
                   | omega
                   | exact hc.1
                   | contradiction
                   | exact ⟨c1, c2, by omega⟩
                   | exact ⟨c1, by omega⟩
                   | (have u3 := satE_spec (miI a b - rkT rm rs hb ht sf k)
                      omega)
                   | (rcases hLH with ⟨q, dd⟩ | ⟨q, dd⟩
                      · have hm2 := mi_bd q
                        have u4 := satE_spec (miI L H - rkT rm rs hb ht sf k)
                        simp only [dd, gb_y]
                        first
                        | omega
                        | exact ⟨c1, by omega, q, hL2, hH2⟩
                      · contradiction)
                   | skip
                  ·
                   refine ⟨?_, fun h21 => ?_⟩
                   ·
                    first
                    | omega
                    | exact hc.1
                    | contradiction
                    | exact ⟨c1, c2, by omega⟩
                    | exact ⟨c1, by omega⟩
                    | (have u3 := satE_spec (miI a b - rkT rm rs hb ht sf k)
                       omega)
                    | (rcases hLH with ⟨q, dd⟩ | ⟨q, dd⟩
                       · have hm2 := mi_bd q
                         have u4 := satE_spec (miI L H - rkT rm rs hb ht sf k)
                         simp only [dd, gb_y]
                         first
                         | omega
                         | exact ⟨c1, by omega, q, hL2, hH2⟩
                       · contradiction)
                    | skip
                   ·
                    first
                    | contradiction
                    | (exfalso; omega)
                    | (exfalso; simp only [not_true_eq_false, false_or] at c8; omega)
                    | (obtain ⟨u1, u2, u3, u4⟩ := @sy_uns rm rs rr gp gi rl ro hb ht he sf ss k a b _ (.inl rfl)
                       rw [u1, u2, u3, u4]
                       first | done | rfl)
                    | (have c9 : hb ≤ k := by (simp only [not_true_eq_false, false_or] at c8; exact c8)
                       obtain ⟨u1, u2, u3, u4⟩ := @sy_uns rm rs rr gp gi rl ro hb ht he sf ss k a b true (.inr (by omega))
                       rw [u1, u2, u3, u4]
                       first | done | rfl)
                    | (have h0 : rkE rm rs hb ht sf k = 0 := by (simp only [not_true_eq_false, false_or] at c8; omega)
                       rcases hLH with ⟨q, dd⟩ | ⟨q, dd⟩
                       · obtain ⟨u1, u2, u3, u4⟩ := sy_m (gp := gp) (gi := gi) (rl := rl) (ro := ro) (ss := ss) h0 hL hH q
                         first
                         | contradiction
                         | (simp only [dd, u1, u2, u3, u4, gb_y]
                            first | done | rfl)
                       · obtain ⟨u1, u2, u3, u4⟩ := sy_n (gp := gp) (gi := gi) (rl := rl) (ro := ro) (ss := ss) h0 hL hH q
                         first
                         | contradiction
                         | (simp only [dd, u1, u2, u3, u4, gb_n]
                            first | done | rfl))
                    | skip
theorem ymg_syncw : ymc_syncw.Good Tryd.prog syG (ymE [] [] [] []) := good_of_walk (Γ := ⟨[yic_hcheck, yhc_spck, yjc_set, yic_est, yjc_eis, yhc_sgrow, yjc_meet, yac_subsat, yhc_step], syG, [], [], []⟩) (ρ := ymE [] [] [] []) sym syncw_w rfl (fun _ _ _ _ => (ok_cons (Con.Good.env (Con.Good.up (Con.Good.up (Con.Good.up yig_hcheck yjup rfl) ykup rfl) ymup rfl) _ _ _ _) (ok_cons (Con.Good.env (Con.Good.up (Con.Good.up (Con.Good.up (Con.Good.up yhg_spck yiup rfl) yjup rfl) ykup rfl) ymup rfl) _ _ _ _) (ok_cons (Con.Good.env (Con.Good.up (Con.Good.up yjg_set ykup rfl) ymup rfl) _ _ _ _) (ok_cons (Con.Good.env (Con.Good.up (Con.Good.up (Con.Good.up yig_est yjup rfl) ykup rfl) ymup rfl) _ _ _ _) (ok_cons (Con.Good.env (Con.Good.up (Con.Good.up yjg_eis ykup rfl) ymup rfl) _ _ _ _) (ok_cons (Con.Good.env (Con.Good.up (Con.Good.up (Con.Good.up (Con.Good.up yhg_sgrow yiup rfl) yjup rfl) ykup rfl) ymup rfl) _ _ _ _) (ok_cons (Con.Good.env (Con.Good.up (Con.Good.up yjg_meet ykup rfl) ymup rfl) _ _ _ _) (ok_cons (Con.Good.env (Con.Good.up (Con.Good.up (Con.Good.up (Con.Good.up (Con.Good.up (Con.Good.up (Con.Good.up yag_subsat ybup rfl) ycup rfl) yhup rfl) yiup rfl) yjup rfl) ykup rfl) ymup rfl) _ _ _ _) (ok_cons (Con.Good.env (Con.Good.up (Con.Good.up (Con.Good.up (Con.Good.up yhg_step yiup rfl) yjup rfl) ykup rfl) ymup rfl) _ _ _ _) ok_nil)))))))))) (fun rm rs rr gp gi rl ro hb ht he sf ss k a b sy hc hty => syncw_h rm rs rr gp gi rl ro hb ht he sf ss k a b sy hc hty)
def wHolds_x4 : Tm := (.int .i64 (.wrap .i64 (.i2 .add (.var 5) (.wrap .i64 (.ofI (.vop (.sel 5 0) (.cons (.opq 0) (.cons (.int .i64 (.var 4)) .nil))))))))
def wHolds_x1 : Tm := (.tup (.cons (.int .u32 (.lit (2147483648))) (.cons (.int .i64 (.lit (31))) (.cons (.int .i64 (.lit (100))) (.cons (.int .i64 (.i2 (.bits .and .i64) (.wrap .i64 (.var 1)) (.lit (1023)))) (.cons (.int .i64 (.i2 (.bits .and .i64) (.wrap .i64 (.var 2)) (.lit (1023)))) (.cons (.int .i64 (.i2 (.bits .and .i64) (.wrap .i64 (.var 3)) (.lit (32767)))) (.cons (.int .i64 (.lit (1099511627776))) (.cons (.bool (.bvar 0)) (.cons (.int .i64 (.var 8)) (.cons (.int .i64 (.var 9)) (.cons (.int .i64 (.var 10)) (.cons (.int .i64 (.var 11)) (.cons (.int .i64 (.var 12)) .nil))))))))))))))
def wHolds_x2 : Tm := (.int .i64 (.wrap .i64 (.i2 .sub (.wrap .i64 (.i2 .add (.wrap .i64 (.i2 .add (.var 7) (.wrap .i64 (.i2 .add (.var 6) (.wrap .i64 (.ofI (.vop (.sel 5 0) (.cons (.opq 0) (.cons (.int .i64 (.var 4)) .nil))))))))) (.wrap .i64 (.i2 .quo (.wrap .i64 (.i2 .mul (.wrap .i64 (.i2 .quo (.wrap .i64 (.i2 .mul (.wrap .i64 (.i2 .add (.var 6) (.wrap .i64 (.ofI (.vop (.sel 5 0) (.cons (.opq 0) (.cons (.int .i64 (.var 4)) .nil))))))) (.lit (100)))) (.lit (1073741824)))) (.wrap .i64 (.ofI (.vop (.sel 5 1) (.cons (.opq 0) (.cons (.int .i64 (.var 4)) .nil))))))) (.lit (32768)))))) (.wrap .i64 (.ofI (.vop (.sel 5 3) (.cons (.opq 0) (.cons (.int .i64 (.var 4)) .nil))))))))
def wHolds_x3 : Tm := (.int .i64 (.wrap .i64 (.i2 .add (.wrap .i64 (.i2 .add (.wrap .i64 (.i2 .add (.var 7) (.wrap .i64 (.i2 .add (.var 6) (.wrap .i64 (.ofI (.vop (.sel 5 0) (.cons (.opq 0) (.cons (.int .i64 (.var 4)) .nil))))))))) (.wrap .i64 (.i2 .quo (.wrap .i64 (.i2 .mul (.wrap .i64 (.i2 .quo (.wrap .i64 (.i2 .mul (.wrap .i64 (.i2 .add (.var 6) (.wrap .i64 (.ofI (.vop (.sel 5 0) (.cons (.opq 0) (.cons (.int .i64 (.var 4)) .nil))))))) (.lit (100)))) (.lit (1073741824)))) (.wrap .i64 (.ofI (.vop (.sel 5 1) (.cons (.opq 0) (.cons (.int .i64 (.var 4)) .nil))))))) (.lit (32768)))))) (.wrap .i64 (.ofI (.vop (.sel 5 4) (.cons (.opq 0) (.cons (.int .i64 (.var 4)) .nil))))))))
def wHolds_x0 : Tm := (.tup (.cons (.int .u32 (.lit (2147483648))) (.cons (.int .i64 (.lit (31))) (.cons (.int .i64 (.lit (100))) (.cons (.int .i64 (.i2 (.bits .and .i64) (.wrap .i64 (.var 1)) (.lit (1023)))) (.cons (.int .i64 (.i2 (.bits .and .i64) (.wrap .i64 (.var 2)) (.lit (1023)))) (.cons (.int .i64 (.i2 (.bits .and .i64) (.wrap .i64 (.var 3)) (.lit (32767)))) (.cons (.int .i64 (.lit (1099511627776))) (.cons (.bool (.tt true)) (.cons wHolds_x4 (.cons (.int .i64 (.iapp 50 (.cons wHolds_x1 (.cons wHolds_x4 (.cons wHolds_x2 (.cons wHolds_x3 .nil)))))) (.cons (.int .i64 (.iapp 51 (.cons wHolds_x1 (.cons wHolds_x4 (.cons wHolds_x2 (.cons wHolds_x3 .nil)))))) (.cons (.int .i64 (.iapp 52 (.cons wHolds_x1 (.cons wHolds_x4 (.cons wHolds_x2 (.cons wHolds_x3 .nil)))))) (.cons (.int .i64 (.iapp 53 (.cons wHolds_x1 (.cons wHolds_x4 (.cons wHolds_x2 (.cons wHolds_x3 .nil)))))) .nil))))))))))))))
def wHolds_x5 : Tm := (.tup (.cons (.int .u32 (.lit (2147483648))) (.cons (.int .i64 (.lit (31))) (.cons (.int .i64 (.lit (100))) (.cons (.int .i64 (.i2 (.bits .and .i64) (.wrap .i64 (.var 1)) (.lit (1023)))) (.cons (.int .i64 (.i2 (.bits .and .i64) (.wrap .i64 (.var 2)) (.lit (1023)))) (.cons (.int .i64 (.i2 (.bits .and .i64) (.wrap .i64 (.var 3)) (.lit (32767)))) (.cons (.int .i64 (.lit (1099511627776))) (.cons (.bool (.tt false)) (.cons (.int .i64 (.lit (0))) (.cons (.int .i64 (.lit (0))) (.cons (.int .i64 (.lit (0))) (.cons (.int .i64 (.lit (0))) (.cons (.int .i64 (.lit (0))) .nil))))))))))))))
def wHolds_x6 : Tm := (.int .i64 (.wrap .i64 (.i2 .add (.wrap .i64 (.i2 .add (.var 7) (.wrap .i64 (.i2 .add (.var 6) (.wrap .i64 (.ofI (.vop (.sel 5 0) (.cons (.opq 0) (.cons (.int .i64 (.var 4)) .nil))))))))) (.wrap .i64 (.i2 .quo (.wrap .i64 (.i2 .mul (.wrap .i64 (.i2 .quo (.wrap .i64 (.i2 .mul (.wrap .i64 (.i2 .add (.var 6) (.wrap .i64 (.ofI (.vop (.sel 5 0) (.cons (.opq 0) (.cons (.int .i64 (.var 4)) .nil))))))) (.lit (100)))) (.lit (1073741824)))) (.wrap .i64 (.ofI (.vop (.sel 5 1) (.cons (.opq 0) (.cons (.int .i64 (.var 4)) .nil))))))) (.lit (32768)))))))
def wHolds_tree : Tree :=
 (.need (.b2 .and (.b2 .and (.b2 .and (.b2 .le (.lit (-9223372036854775808)) (.i2 (.bits .and .i64) (.wrap .i64 (.var 1)) (.lit (1023)))) (.b2 .le (.i2 (.bits .and .i64) (.wrap .i64 (.var 1)) (.lit (1023))) (.lit (9223372036854775807)))) (.b2 .and (.b2 .and (.b2 .le (.lit (-9223372036854775808)) (.i2 (.bits .and .i64) (.wrap .i64 (.var 2)) (.lit (1023)))) (.b2 .le (.i2 (.bits .and .i64) (.wrap .i64 (.var 2)) (.lit (1023))) (.lit (9223372036854775807)))) (.b2 .and (.b2 .le (.lit (-9223372036854775808)) (.i2 (.bits .and .i64) (.wrap .i64 (.var 3)) (.lit (32767)))) (.b2 .le (.i2 (.bits .and .i64) (.wrap .i64 (.var 3)) (.lit (32767))) (.lit (9223372036854775807)))))) (.bapp 4 (.cons wHolds_x5 .nil)))
 (.br (.b2 .lt (.var 0) (.lit (-1152921504606846976)))
 (.ret (.bool (.tt true)))
 (.br (.b2 .lt (.lit (1152921504606846976)) (.var 0))
 (.ret (.bool (.tt true)))
 (.br (.b2 .lt (.lit (60)) (.ofI (.vop (.len 5) (.cons (.opq 0) .nil))))
 (.ret (.bool (.tt true)))
 (.loop ⟨9, 1, 0, 0⟩ (.b2 .and (.b2 .le (.lit (0)) (.lit (0))) (.b2 .and (.b2 .le (.lit (0)) (.ofI (.vop (.len 5) (.cons (.opq 0) .nil)))) (.bapp 6 (.cons wHolds_x5 (.cons (.int .i64 (.lit (0))) (.cons (.int .i64 (.lit (0))) (.cons (.int .i64 (.var 0)) (.cons (.int .i64 (.var 0)) (.cons (.int .i64 (.lit (0))) .nil))))))))) (.b2 .and (.b2 .le (.lit (0)) (.var 4)) (.b2 .and (.b2 .le (.var 4) (.ofI (.vop (.len 5) (.cons (.opq 0) .nil)))) (.bapp 6 (.cons wHolds_x1 (.cons (.int .i64 (.var 5)) (.cons (.int .i64 (.var 6)) (.cons (.int .i64 (.var 7)) (.cons (.int .i64 (.var 0)) (.cons (.int .i64 (.var 4)) .nil)))))))))
 (.br (.b2 .lt (.var 4) (.ofI (.vop (.len 5) (.cons (.opq 0) .nil))))
 (.need (.b2 .and (.b2 .le (.lit (0)) (.var 4)) (.b2 .lt (.var 4) (.ofI (.vop (.len 5) (.cons (.opq 0) .nil)))))
 (.br (.ofB (.vop (.sel 5 2) (.cons (.opq 0) (.cons (.int .i64 (.var 4)) .nil))))
 (.need (.b2 .and (.b2 .and (.b2 .and (.b2 .le (.lit (-9223372036854775808)) (.i2 (.bits .and .i64) (.wrap .i64 (.var 1)) (.lit (1023)))) (.b2 .le (.i2 (.bits .and .i64) (.wrap .i64 (.var 1)) (.lit (1023))) (.lit (9223372036854775807)))) (.b2 .and (.b2 .and (.b2 .le (.lit (-9223372036854775808)) (.i2 (.bits .and .i64) (.wrap .i64 (.var 2)) (.lit (1023)))) (.b2 .le (.i2 (.bits .and .i64) (.wrap .i64 (.var 2)) (.lit (1023))) (.lit (9223372036854775807)))) (.b2 .and (.b2 .and (.b2 .le (.lit (-9223372036854775808)) (.i2 (.bits .and .i64) (.wrap .i64 (.var 3)) (.lit (32767)))) (.b2 .le (.i2 (.bits .and .i64) (.wrap .i64 (.var 3)) (.lit (32767))) (.lit (9223372036854775807)))) (.b2 .and (.b2 .and (.b2 .le (.lit (-9223372036854775808)) (.var 8)) (.b2 .le (.var 8) (.lit (9223372036854775807)))) (.b2 .and (.b2 .and (.b2 .le (.lit (-9223372036854775808)) (.var 9)) (.b2 .le (.var 9) (.lit (9223372036854775807)))) (.b2 .and (.b2 .and (.b2 .le (.lit (-9223372036854775808)) (.var 10)) (.b2 .le (.var 10) (.lit (9223372036854775807)))) (.b2 .and (.b2 .and (.b2 .le (.lit (-9223372036854775808)) (.var 11)) (.b2 .le (.var 11) (.lit (9223372036854775807)))) (.b2 .and (.b2 .le (.lit (-9223372036854775808)) (.var 12)) (.b2 .le (.var 12) (.lit (9223372036854775807))))))))))) (.b2 .and (.bapp 4 (.cons wHolds_x1 .nil)) (.b2 .and (.b2 .le (.lit (0)) (.wrap .i64 (.i2 .add (.var 5) (.wrap .i64 (.ofI (.vop (.sel 5 0) (.cons (.opq 0) (.cons (.int .i64 (.var 4)) .nil)))))))) (.b2 .and (.b2 .le (.wrap .i64 (.i2 .add (.var 5) (.wrap .i64 (.ofI (.vop (.sel 5 0) (.cons (.opq 0) (.cons (.int .i64 (.var 4)) .nil))))))) (.lit (1152921504606846976))) (.b2 .and (.b2 .le (.wrap .i64 (.i2 .sub (.wrap .i64 (.i2 .add (.wrap .i64 (.i2 .add (.var 7) (.wrap .i64 (.i2 .add (.var 6) (.wrap .i64 (.ofI (.vop (.sel 5 0) (.cons (.opq 0) (.cons (.int .i64 (.var 4)) .nil))))))))) (.wrap .i64 (.i2 .quo (.wrap .i64 (.i2 .mul (.wrap .i64 (.i2 .quo (.wrap .i64 (.i2 .mul (.wrap .i64 (.i2 .add (.var 6) (.wrap .i64 (.ofI (.vop (.sel 5 0) (.cons (.opq 0) (.cons (.int .i64 (.var 4)) .nil))))))) (.lit (100)))) (.lit (1073741824)))) (.wrap .i64 (.ofI (.vop (.sel 5 1) (.cons (.opq 0) (.cons (.int .i64 (.var 4)) .nil))))))) (.lit (32768)))))) (.wrap .i64 (.ofI (.vop (.sel 5 3) (.cons (.opq 0) (.cons (.int .i64 (.var 4)) .nil))))))) (.wrap .i64 (.i2 .add (.wrap .i64 (.i2 .add (.wrap .i64 (.i2 .add (.var 7) (.wrap .i64 (.i2 .add (.var 6) (.wrap .i64 (.ofI (.vop (.sel 5 0) (.cons (.opq 0) (.cons (.int .i64 (.var 4)) .nil))))))))) (.wrap .i64 (.i2 .quo (.wrap .i64 (.i2 .mul (.wrap .i64 (.i2 .quo (.wrap .i64 (.i2 .mul (.wrap .i64 (.i2 .add (.var 6) (.wrap .i64 (.ofI (.vop (.sel 5 0) (.cons (.opq 0) (.cons (.int .i64 (.var 4)) .nil))))))) (.lit (100)))) (.lit (1073741824)))) (.wrap .i64 (.ofI (.vop (.sel 5 1) (.cons (.opq 0) (.cons (.int .i64 (.var 4)) .nil))))))) (.lit (32768)))))) (.wrap .i64 (.ofI (.vop (.sel 5 4) (.cons (.opq 0) (.cons (.int .i64 (.var 4)) .nil)))))))) (.b2 .and (.b2 .lt (.lit (-2305843009213693952)) (.wrap .i64 (.i2 .sub (.wrap .i64 (.i2 .add (.wrap .i64 (.i2 .add (.var 7) (.wrap .i64 (.i2 .add (.var 6) (.wrap .i64 (.ofI (.vop (.sel 5 0) (.cons (.opq 0) (.cons (.int .i64 (.var 4)) .nil))))))))) (.wrap .i64 (.i2 .quo (.wrap .i64 (.i2 .mul (.wrap .i64 (.i2 .quo (.wrap .i64 (.i2 .mul (.wrap .i64 (.i2 .add (.var 6) (.wrap .i64 (.ofI (.vop (.sel 5 0) (.cons (.opq 0) (.cons (.int .i64 (.var 4)) .nil))))))) (.lit (100)))) (.lit (1073741824)))) (.wrap .i64 (.ofI (.vop (.sel 5 1) (.cons (.opq 0) (.cons (.int .i64 (.var 4)) .nil))))))) (.lit (32768)))))) (.wrap .i64 (.ofI (.vop (.sel 5 3) (.cons (.opq 0) (.cons (.int .i64 (.var 4)) .nil)))))))) (.b2 .and (.b2 .lt (.wrap .i64 (.i2 .add (.wrap .i64 (.i2 .add (.wrap .i64 (.i2 .add (.var 7) (.wrap .i64 (.i2 .add (.var 6) (.wrap .i64 (.ofI (.vop (.sel 5 0) (.cons (.opq 0) (.cons (.int .i64 (.var 4)) .nil))))))))) (.wrap .i64 (.i2 .quo (.wrap .i64 (.i2 .mul (.wrap .i64 (.i2 .quo (.wrap .i64 (.i2 .mul (.wrap .i64 (.i2 .add (.var 6) (.wrap .i64 (.ofI (.vop (.sel 5 0) (.cons (.opq 0) (.cons (.int .i64 (.var 4)) .nil))))))) (.lit (100)))) (.lit (1073741824)))) (.wrap .i64 (.ofI (.vop (.sel 5 1) (.cons (.opq 0) (.cons (.int .i64 (.var 4)) .nil))))))) (.lit (32768)))))) (.wrap .i64 (.ofI (.vop (.sel 5 4) (.cons (.opq 0) (.cons (.int .i64 (.var 4)) .nil))))))) (.lit (2305843009213693952))) (.b2 .or (.not (.bvar 0)) (.b2 .le (.var 8) (.wrap .i64 (.i2 .add (.var 5) (.wrap .i64 (.ofI (.vop (.sel 5 0) (.cons (.opq 0) (.cons (.int .i64 (.var 4)) .nil))))))))))))))))
 (.need (.b2 .and (.b2 .and (.b2 .and (.b2 .le (.lit (-9223372036854775808)) (.i2 (.bits .and .i64) (.wrap .i64 (.var 1)) (.lit (1023)))) (.b2 .le (.i2 (.bits .and .i64) (.wrap .i64 (.var 1)) (.lit (1023))) (.lit (9223372036854775807)))) (.b2 .and (.b2 .and (.b2 .le (.lit (-9223372036854775808)) (.i2 (.bits .and .i64) (.wrap .i64 (.var 2)) (.lit (1023)))) (.b2 .le (.i2 (.bits .and .i64) (.wrap .i64 (.var 2)) (.lit (1023))) (.lit (9223372036854775807)))) (.b2 .and (.b2 .and (.b2 .le (.lit (-9223372036854775808)) (.i2 (.bits .and .i64) (.wrap .i64 (.var 3)) (.lit (32767)))) (.b2 .le (.i2 (.bits .and .i64) (.wrap .i64 (.var 3)) (.lit (32767))) (.lit (9223372036854775807)))) (.b2 .and (.b2 .and (.b2 .le (.lit (-9223372036854775808)) (.wrap .i64 (.i2 .add (.var 5) (.wrap .i64 (.ofI (.vop (.sel 5 0) (.cons (.opq 0) (.cons (.int .i64 (.var 4)) .nil)))))))) (.b2 .le (.wrap .i64 (.i2 .add (.var 5) (.wrap .i64 (.ofI (.vop (.sel 5 0) (.cons (.opq 0) (.cons (.int .i64 (.var 4)) .nil))))))) (.lit (9223372036854775807)))) (.b2 .and (.b2 .and (.b2 .le (.lit (-9223372036854775808)) (.iapp 50 (.cons wHolds_x1 (.cons wHolds_x4 (.cons wHolds_x2 (.cons wHolds_x3 .nil)))))) (.b2 .le (.iapp 50 (.cons wHolds_x1 (.cons wHolds_x4 (.cons wHolds_x2 (.cons wHolds_x3 .nil))))) (.lit (9223372036854775807)))) (.b2 .and (.b2 .and (.b2 .le (.lit (-9223372036854775808)) (.iapp 51 (.cons wHolds_x1 (.cons wHolds_x4 (.cons wHolds_x2 (.cons wHolds_x3 .nil)))))) (.b2 .le (.iapp 51 (.cons wHolds_x1 (.cons wHolds_x4 (.cons wHolds_x2 (.cons wHolds_x3 .nil))))) (.lit (9223372036854775807)))) (.b2 .and (.b2 .and (.b2 .le (.lit (-9223372036854775808)) (.iapp 52 (.cons wHolds_x1 (.cons wHolds_x4 (.cons wHolds_x2 (.cons wHolds_x3 .nil)))))) (.b2 .le (.iapp 52 (.cons wHolds_x1 (.cons wHolds_x4 (.cons wHolds_x2 (.cons wHolds_x3 .nil))))) (.lit (9223372036854775807)))) (.b2 .and (.b2 .le (.lit (-9223372036854775808)) (.iapp 53 (.cons wHolds_x1 (.cons wHolds_x4 (.cons wHolds_x2 (.cons wHolds_x3 .nil)))))) (.b2 .le (.iapp 53 (.cons wHolds_x1 (.cons wHolds_x4 (.cons wHolds_x2 (.cons wHolds_x3 .nil))))) (.lit (9223372036854775807))))))))))) (.b2 .and (.b2 .le (.lit (-9223372036854775808)) (.wrap .i64 (.i2 .add (.var 5) (.wrap .i64 (.ofI (.vop (.sel 5 0) (.cons (.opq 0) (.cons (.int .i64 (.var 4)) .nil)))))))) (.b2 .le (.wrap .i64 (.i2 .add (.var 5) (.wrap .i64 (.ofI (.vop (.sel 5 0) (.cons (.opq 0) (.cons (.int .i64 (.var 4)) .nil))))))) (.lit (9223372036854775807)))))
 (.br (.not (.b2 .eq (.iapp 46 (.cons wHolds_x0 (.cons wHolds_x4 .nil))) (.lit (0))))
 (.br (.not (.b2 .eq (.iapp 46 (.cons wHolds_x0 (.cons wHolds_x4 .nil))) (.lit (13))))
 (.ret (.bool (.tt false)))
 (.br (.not (.b2 .eq (.iapp 48 (.cons wHolds_x0 (.cons wHolds_x4 .nil))) (.lit (0))))
 (.ret (.bool (.tt false)))
 (.back (.b2 .and (.b2 .le (.lit (0)) (.wrap .i64 (.i2 .add (.var 4) (.lit (1))))) (.b2 .and (.b2 .le (.wrap .i64 (.i2 .add (.var 4) (.lit (1)))) (.ofI (.vop (.len 5) (.cons (.opq 0) .nil)))) (.bapp 6 (.cons wHolds_x0 (.cons wHolds_x4 (.cons (.int .i64 (.lit (0))) (.cons wHolds_x6 (.cons (.int .i64 (.var 0)) (.cons (.int .i64 (.wrap .i64 (.i2 .add (.var 4) (.lit (1))))) .nil))))))))) (.i2 .sub (.ofI (.vop (.len 5) (.cons (.opq 0) .nil))) (.wrap .i64 (.i2 .add (.var 4) (.lit (1))))) (.i2 .sub (.ofI (.vop (.len 5) (.cons (.opq 0) .nil))) (.var 4)))))
 (.br (.b2 .lt (.iapp 48 (.cons wHolds_x0 (.cons wHolds_x4 .nil))) (.wrap .i64 (.i2 .sub (.iapp 47 (.cons wHolds_x0 (.cons wHolds_x4 .nil))) (.wrap .i64 (.i2 .add (.wrap .i64 (.i2 .add (.var 7) (.wrap .i64 (.i2 .add (.var 6) (.wrap .i64 (.ofI (.vop (.sel 5 0) (.cons (.opq 0) (.cons (.int .i64 (.var 4)) .nil))))))))) (.wrap .i64 (.i2 .quo (.wrap .i64 (.i2 .mul (.wrap .i64 (.i2 .quo (.wrap .i64 (.i2 .mul (.wrap .i64 (.i2 .add (.var 6) (.wrap .i64 (.ofI (.vop (.sel 5 0) (.cons (.opq 0) (.cons (.int .i64 (.var 4)) .nil))))))) (.lit (100)))) (.lit (1073741824)))) (.wrap .i64 (.ofI (.vop (.sel 5 1) (.cons (.opq 0) (.cons (.int .i64 (.var 4)) .nil))))))) (.lit (32768)))))))))
 (.ret (.bool (.tt false)))
 (.br (.b2 .lt (.iapp 48 (.cons wHolds_x0 (.cons wHolds_x4 .nil))) (.wrap .i64 (.i2 .sub (.wrap .i64 (.i2 .add (.wrap .i64 (.i2 .add (.var 7) (.wrap .i64 (.i2 .add (.var 6) (.wrap .i64 (.ofI (.vop (.sel 5 0) (.cons (.opq 0) (.cons (.int .i64 (.var 4)) .nil))))))))) (.wrap .i64 (.i2 .quo (.wrap .i64 (.i2 .mul (.wrap .i64 (.i2 .quo (.wrap .i64 (.i2 .mul (.wrap .i64 (.i2 .add (.var 6) (.wrap .i64 (.ofI (.vop (.sel 5 0) (.cons (.opq 0) (.cons (.int .i64 (.var 4)) .nil))))))) (.lit (100)))) (.lit (1073741824)))) (.wrap .i64 (.ofI (.vop (.sel 5 1) (.cons (.opq 0) (.cons (.int .i64 (.var 4)) .nil))))))) (.lit (32768)))))) (.iapp 47 (.cons wHolds_x0 (.cons wHolds_x4 .nil))))))
 (.ret (.bool (.tt false)))
 (.back (.b2 .and (.b2 .le (.lit (0)) (.wrap .i64 (.i2 .add (.var 4) (.lit (1))))) (.b2 .and (.b2 .le (.wrap .i64 (.i2 .add (.var 4) (.lit (1)))) (.ofI (.vop (.len 5) (.cons (.opq 0) .nil)))) (.bapp 6 (.cons wHolds_x0 (.cons wHolds_x4 (.cons (.int .i64 (.lit (0))) (.cons wHolds_x6 (.cons (.int .i64 (.var 0)) (.cons (.int .i64 (.wrap .i64 (.i2 .add (.var 4) (.lit (1))))) .nil))))))))) (.i2 .sub (.ofI (.vop (.len 5) (.cons (.opq 0) .nil))) (.wrap .i64 (.i2 .add (.var 4) (.lit (1))))) (.i2 .sub (.ofI (.vop (.len 5) (.cons (.opq 0) .nil))) (.var 4))))))))
 (.need (.b2 .and (.b2 .and (.b2 .and (.b2 .le (.lit (-9223372036854775808)) (.i2 (.bits .and .i64) (.wrap .i64 (.var 1)) (.lit (1023)))) (.b2 .le (.i2 (.bits .and .i64) (.wrap .i64 (.var 1)) (.lit (1023))) (.lit (9223372036854775807)))) (.b2 .and (.b2 .and (.b2 .le (.lit (-9223372036854775808)) (.i2 (.bits .and .i64) (.wrap .i64 (.var 2)) (.lit (1023)))) (.b2 .le (.i2 (.bits .and .i64) (.wrap .i64 (.var 2)) (.lit (1023))) (.lit (9223372036854775807)))) (.b2 .and (.b2 .and (.b2 .le (.lit (-9223372036854775808)) (.i2 (.bits .and .i64) (.wrap .i64 (.var 3)) (.lit (32767)))) (.b2 .le (.i2 (.bits .and .i64) (.wrap .i64 (.var 3)) (.lit (32767))) (.lit (9223372036854775807)))) (.b2 .and (.b2 .and (.b2 .le (.lit (-9223372036854775808)) (.var 8)) (.b2 .le (.var 8) (.lit (9223372036854775807)))) (.b2 .and (.b2 .and (.b2 .le (.lit (-9223372036854775808)) (.var 9)) (.b2 .le (.var 9) (.lit (9223372036854775807)))) (.b2 .and (.b2 .and (.b2 .le (.lit (-9223372036854775808)) (.var 10)) (.b2 .le (.var 10) (.lit (9223372036854775807)))) (.b2 .and (.b2 .and (.b2 .le (.lit (-9223372036854775808)) (.var 11)) (.b2 .le (.var 11) (.lit (9223372036854775807)))) (.b2 .and (.b2 .le (.lit (-9223372036854775808)) (.var 12)) (.b2 .le (.var 12) (.lit (9223372036854775807))))))))))) (.b2 .and (.b2 .le (.lit (-9223372036854775808)) (.wrap .i64 (.i2 .add (.var 5) (.wrap .i64 (.ofI (.vop (.sel 5 0) (.cons (.opq 0) (.cons (.int .i64 (.var 4)) .nil)))))))) (.b2 .le (.wrap .i64 (.i2 .add (.var 5) (.wrap .i64 (.ofI (.vop (.sel 5 0) (.cons (.opq 0) (.cons (.int .i64 (.var 4)) .nil))))))) (.lit (9223372036854775807)))))
 (.br (.not (.b2 .eq (.iapp 46 (.cons wHolds_x1 (.cons wHolds_x4 .nil))) (.lit (0))))
 (.br (.not (.b2 .eq (.iapp 46 (.cons wHolds_x1 (.cons wHolds_x4 .nil))) (.lit (13))))
 (.ret (.bool (.tt false)))
 (.br (.bvar 0)
 (.br (.not (.b2 .eq (.iapp 48 (.cons wHolds_x1 (.cons wHolds_x4 .nil))) (.lit (0))))
 (.ret (.bool (.tt false)))
 (.back (.b2 .and (.b2 .le (.lit (0)) (.wrap .i64 (.i2 .add (.var 4) (.lit (1))))) (.b2 .and (.b2 .le (.wrap .i64 (.i2 .add (.var 4) (.lit (1)))) (.ofI (.vop (.len 5) (.cons (.opq 0) .nil)))) (.bapp 6 (.cons wHolds_x1 (.cons wHolds_x4 (.cons (.int .i64 (.wrap .i64 (.i2 .add (.var 6) (.wrap .i64 (.ofI (.vop (.sel 5 0) (.cons (.opq 0) (.cons (.int .i64 (.var 4)) .nil)))))))) (.cons (.int .i64 (.var 7)) (.cons (.int .i64 (.var 0)) (.cons (.int .i64 (.wrap .i64 (.i2 .add (.var 4) (.lit (1))))) .nil))))))))) (.i2 .sub (.ofI (.vop (.len 5) (.cons (.opq 0) .nil))) (.wrap .i64 (.i2 .add (.var 4) (.lit (1))))) (.i2 .sub (.ofI (.vop (.len 5) (.cons (.opq 0) .nil))) (.var 4))))
 (.back (.b2 .and (.b2 .le (.lit (0)) (.wrap .i64 (.i2 .add (.var 4) (.lit (1))))) (.b2 .and (.b2 .le (.wrap .i64 (.i2 .add (.var 4) (.lit (1)))) (.ofI (.vop (.len 5) (.cons (.opq 0) .nil)))) (.bapp 6 (.cons wHolds_x1 (.cons wHolds_x4 (.cons (.int .i64 (.wrap .i64 (.i2 .add (.var 6) (.wrap .i64 (.ofI (.vop (.sel 5 0) (.cons (.opq 0) (.cons (.int .i64 (.var 4)) .nil)))))))) (.cons (.int .i64 (.var 7)) (.cons (.int .i64 (.var 0)) (.cons (.int .i64 (.wrap .i64 (.i2 .add (.var 4) (.lit (1))))) .nil))))))))) (.i2 .sub (.ofI (.vop (.len 5) (.cons (.opq 0) .nil))) (.wrap .i64 (.i2 .add (.var 4) (.lit (1))))) (.i2 .sub (.ofI (.vop (.len 5) (.cons (.opq 0) .nil))) (.var 4)))))
 (.br (.b2 .lt (.iapp 48 (.cons wHolds_x1 (.cons wHolds_x4 .nil))) (.wrap .i64 (.i2 .sub (.iapp 47 (.cons wHolds_x1 (.cons wHolds_x4 .nil))) (.wrap .i64 (.i2 .add (.wrap .i64 (.i2 .add (.var 7) (.wrap .i64 (.i2 .add (.var 6) (.wrap .i64 (.ofI (.vop (.sel 5 0) (.cons (.opq 0) (.cons (.int .i64 (.var 4)) .nil))))))))) (.wrap .i64 (.i2 .quo (.wrap .i64 (.i2 .mul (.wrap .i64 (.i2 .quo (.wrap .i64 (.i2 .mul (.wrap .i64 (.i2 .add (.var 6) (.wrap .i64 (.ofI (.vop (.sel 5 0) (.cons (.opq 0) (.cons (.int .i64 (.var 4)) .nil))))))) (.lit (100)))) (.lit (1073741824)))) (.wrap .i64 (.ofI (.vop (.sel 5 1) (.cons (.opq 0) (.cons (.int .i64 (.var 4)) .nil))))))) (.lit (32768)))))))))
 (.ret (.bool (.tt false)))
 (.br (.b2 .lt (.iapp 48 (.cons wHolds_x1 (.cons wHolds_x4 .nil))) (.wrap .i64 (.i2 .sub (.wrap .i64 (.i2 .add (.wrap .i64 (.i2 .add (.var 7) (.wrap .i64 (.i2 .add (.var 6) (.wrap .i64 (.ofI (.vop (.sel 5 0) (.cons (.opq 0) (.cons (.int .i64 (.var 4)) .nil))))))))) (.wrap .i64 (.i2 .quo (.wrap .i64 (.i2 .mul (.wrap .i64 (.i2 .quo (.wrap .i64 (.i2 .mul (.wrap .i64 (.i2 .add (.var 6) (.wrap .i64 (.ofI (.vop (.sel 5 0) (.cons (.opq 0) (.cons (.int .i64 (.var 4)) .nil))))))) (.lit (100)))) (.lit (1073741824)))) (.wrap .i64 (.ofI (.vop (.sel 5 1) (.cons (.opq 0) (.cons (.int .i64 (.var 4)) .nil))))))) (.lit (32768)))))) (.iapp 47 (.cons wHolds_x1 (.cons wHolds_x4 .nil))))))
 (.ret (.bool (.tt false)))
 (.back (.b2 .and (.b2 .le (.lit (0)) (.wrap .i64 (.i2 .add (.var 4) (.lit (1))))) (.b2 .and (.b2 .le (.wrap .i64 (.i2 .add (.var 4) (.lit (1)))) (.ofI (.vop (.len 5) (.cons (.opq 0) .nil)))) (.bapp 6 (.cons wHolds_x1 (.cons wHolds_x4 (.cons (.int .i64 (.wrap .i64 (.i2 .add (.var 6) (.wrap .i64 (.ofI (.vop (.sel 5 0) (.cons (.opq 0) (.cons (.int .i64 (.var 4)) .nil)))))))) (.cons (.int .i64 (.var 7)) (.cons (.int .i64 (.var 0)) (.cons (.int .i64 (.wrap .i64 (.i2 .add (.var 4) (.lit (1))))) .nil))))))))) (.i2 .sub (.ofI (.vop (.len 5) (.cons (.opq 0) .nil))) (.wrap .i64 (.i2 .add (.var 4) (.lit (1))))) (.i2 .sub (.ofI (.vop (.len 5) (.cons (.opq 0) .nil))) (.var 4)))))))))
 (.ret (.bool (.tt true)))))))))
abbrev ymc_wHolds : Con := ⟨9, [(.int .i64 (.var 0)), (.agg (.cons (.int .i16 (.var 1)) (.cons (.int .i16 (.var 2)) (.cons (.int .i16 (.var 3)) .nil)))), (.hs .no (.cons (.int .u32) (.cons (.int .i16) (.cons .bool (.cons (.int .u16) (.cons (.int .u16) .nil))))) (.opq 0))], (.b2 .and (.b2 .and (.b2 .le (.lit (-9223372036854775808)) (.var 0)) (.b2 .le (.var 0) (.lit (9223372036854775807)))) (.bapp 5 (.cons (.opq 0) .nil))), (.bool (.tt true)), ⟨4, 0, 1, 0⟩, none⟩
theorem wHolds_w : walk Tryd.prog 229 ⟨[ykc_rule, ymc_newv, ymc_syncw, yic_now, ykc_num, ykc_sure18], syG, [], [], []⟩ [⟨0, ⟨9, 1, 0, 0⟩, [(10, (.int .i64 (.var 5))), (11, (.int .i64 (.var 6))), (12, (.int .i64 (.var 7))), (13, (.int .i64 (.var 4))), (9, (.err (.lit (0)))), (6, (.bool (.tt false)))], some [[], [], [], [], [(.int .u32 (.lit (2147483648))), (.int .i64 (.lit (31))), (.int .i64 (.lit (100))), (.int .i64 (.i2 (.bits .and .i64) (.wrap .i64 (.var 1)) (.lit (1023)))), (.int .i64 (.i2 (.bits .and .i64) (.wrap .i64 (.var 2)) (.lit (1023)))), (.int .i64 (.i2 (.bits .and .i64) (.wrap .i64 (.var 3)) (.lit (32767)))), (.int .i64 (.lit (1099511627776))), (.bool (.bvar 0)), (.int .i64 (.var 8)), (.int .i64 (.var 9)), (.int .i64 (.var 10)), (.int .i64 (.var 11)), (.int .i64 (.var 12))]], (.b2 .and (.b2 .le (.lit (0)) (.var 4)) (.b2 .and (.b2 .le (.var 4) (.ofI (.vop (.len 5) (.cons (.opq 0) .nil)))) (.bapp 6 (.cons (.tup (.cons (.int .u32 (.lit (2147483648))) (.cons (.int .i64 (.lit (31))) (.cons (.int .i64 (.lit (100))) (.cons (.int .i64 (.i2 (.bits .and .i64) (.wrap .i64 (.var 1)) (.lit (1023)))) (.cons (.int .i64 (.i2 (.bits .and .i64) (.wrap .i64 (.var 2)) (.lit (1023)))) (.cons (.int .i64 (.i2 (.bits .and .i64) (.wrap .i64 (.var 3)) (.lit (32767)))) (.cons (.int .i64 (.lit (1099511627776))) (.cons (.bool (.bvar 0)) (.cons (.int .i64 (.var 8)) (.cons (.int .i64 (.var 9)) (.cons (.int .i64 (.var 10)) (.cons (.int .i64 (.var 11)) (.cons (.int .i64 (.var 12)) .nil)))))))))))))) (.cons (.int .i64 (.var 5)) (.cons (.int .i64 (.var 6)) (.cons (.int .i64 (.var 7)) (.cons (.int .i64 (.var 0)) (.cons (.int .i64 (.var 4)) .nil))))))))), (.i2 .sub (.ofI (.vop (.len 5) (.cons (.opq 0) .nil))) (.var 4)), 0, []⟩] .v ymc_wHolds ymc_wHolds.n 3000 = some wHolds_tree := by kernel_rfl
set_option maxHeartbeats 8000000 in
theorem wHolds_h (st : Int) (g0 : Int) (g1 : Int) (g2 : Int) (l : Value) (hc : holds (ymE [st, g0, g1, g2] [] [l] []) (.b2 .and (.b2 .and (.b2 .le (.lit (-9223372036854775808)) (.var 0)) (.b2 .le (.var 0) (.lit (9223372036854775807)))) (.bapp 5 (.cons (.opq 0) .nil)))) (hty : patsTyp (ymE [st, g0, g1, g2] [] [l] []) [(.int .i64 (.var 0)), (.agg (.cons (.int .i16 (.var 1)) (.cons (.int .i16 (.var 2)) (.cons (.int .i16 (.var 3)) .nil)))), (.hs .no (.cons (.int .u32) (.cons (.int .i16) (.cons .bool (.cons (.int .u16) (.cons (.int .u16) .nil))))) (.opq 0))]) : wHolds_tree.holds (fun v_ => v_ = denV (ymE [st, g0, g1, g2] [] [l] []) b0 (.bool (.tt true))) (ymE [st, g0, g1, g2] [] [l] []) := by
  simp only [Tree.holds, Sy.holds, AllN, Env.more, ymE, List.cons_append, List.nil_append, List.append_nil, denV, denI, denB, denL, I2.den, VOp.den, List.getD_cons_zero, List.getD_cons_succ, Cst.den, syso, syse, syio, sybo, ymb_okr, List.map_nil, List.map_cons, B2.ofInts, B2.denI, B2.denB, if_true, Bool.false_eq_true, if_false, Nat.div_one, Nat.mul_one, Nat.add_zero, holds] at hc
  simp only [patsTyp, patTyp, patTypL, ymE, denV, denL, List.getD_cons_zero, List.getD_cons_succ, and_true, true_and] at hty
  have hL_l : typ (.sl (.cons (.int .u32) (.cons (.int .i16) (.cons .bool (.cons (.int .u16) (.cons (.int .u16) .nil)))))) l := by first | exact hty | exact hty.1 | exact hty.2 | exact hty.1.1 | exact hty.1.2 | exact hty.2.1 | exact hty.2.2 | exact hty.2.2.1 | exact hty.2.2.2
  have hN_l := typ_len (n := 5) hL_l rfl (by omega)
  unfold wHolds_tree
  simp only [wHolds_x0, wHolds_x1, wHolds_x2, wHolds_x3, wHolds_x4, wHolds_x5, wHolds_x6]
  simp only [Tree.holds, Sy.holds, AllN, Env.more, ymE, List.cons_append, List.nil_append, List.append_nil, denV, denI, denB, denL, I2.den, VOp.den, List.getD_cons_zero, List.getD_cons_succ, Cst.den, syso, syse, syio, sybo, ymi_nwe, ymi_nwt, ymi_nwo, ymi_syt, ymi_syr, ymi_syf, ymi_sys, ymb_hm, ymb_hh, List.map_nil, List.map_cons, B2.ofInts, B2.denI, B2.denB, if_true, Bool.false_eq_true, if_false, Nat.div_one, Nat.mul_one, Nat.add_zero]
  have p1 := and_1023 (IntKind.wrap .i64 g0)
  have p2 := and_1023 (IntKind.wrap .i64 g1)
  have p3 := and_32767 (IntKind.wrap .i64 g2)
  generalize bitsV .and .i64 (IntKind.wrap .i64 g0) 1023 = gp at *
  generalize bitsV .and .i64 (IntKind.wrap .i64 g1) 1023 = gi at *
  generalize bitsV .and .i64 (IntKind.wrap .i64 g2) 32767 = rl at *
  simp only [hh_eq, hoB_eq, nwE_eq, nwT_eq, nwO_eq, syT_eq, syR_eq, syF_eq, syS_eq]
  refine ⟨?_, fun h0 => ?_⟩
  ·
   first
   | exact True.intro
   | omega
   | exact ⟨by omega, decide_eq_true hO, by omega, by omega, by omega, by omega, by omega, (by cases jy; exact .inl (by decide); exact .inr (by omega))⟩
   | (exact ⟨by omega, decide_eq_true ⟨⟨by decide, by decide, by decide⟩, by decide, by decide, by omega, by omega, by omega, by omega, by omega, by omega, by decide, by decide, by decide, by decide, by decide, by decide, by decide, by decide, by omega, by omega, by decide, by decide⟩⟩)
   | skip
  ·
   refine ⟨fun h1 => ?_, fun h1 => ?_⟩
   ·
    first
    | exact True.intro
    | rfl
    | (exfalso; omega)
    | exact absurd True.intro (by assumption)
    | skip
   ·
    refine ⟨fun h2 => ?_, fun h2 => ?_⟩
    ·
     first
     | exact True.intro
     | rfl
     | (exfalso; omega)
     | exact absurd True.intro (by assumption)
     | skip
    ·
     refine ⟨fun h3 => ?_, fun h3 => ?_⟩
     ·
      first
      | exact True.intro
      | rfl
      | (exfalso; omega)
      | exact absurd True.intro (by assumption)
      | skip
     ·
      try simp only [hw2]
      try simp only [hw1]
      try simp only [hw0]
      refine ⟨?_, ?_⟩
      ·
       exact ⟨by omega, by omega, decide_eq_true ⟨⟨by decide, fun h => absurd h (by decide), by decide, by decide, by omega, by omega, by decide, by decide, by decide, by decide, by decide, by decide⟩, by decide, by decide, by decide, by omega, by omega⟩⟩
      ·
       intro ji jc js ja jb jt je jf jz jy hi0
       have hrow := tick_at hL_l hc.2 (Int.toNat ji)
       generalize Go.RowKit.intOf ((Sy.rows l).getD (Int.toNat ji * 5) Go.undef) = dt at *
       generalize Go.RowKit.intOf ((Sy.rows l).getD (Int.toNat ji * 5 + 1) Go.undef) = pt at *
       generalize Go.RowKit.intOf ((Sy.rows l).getD (Int.toNat ji * 5 + 3) Go.undef) = lo at *
       generalize Go.RowKit.intOf ((Sy.rows l).getD (Int.toNat ji * 5 + 4) Go.undef) = hi at *
       obtain ⟨⟨d0, d1⟩, ⟨q0, q1⟩, ⟨l0, l1⟩, ⟨u0, u1⟩⟩ := hrow
       obtain ⟨z0, z1, z2⟩ := hi0
       have hQ := of_decide_eq_true z2
       obtain ⟨hP, c0, c1, s1, t0, t1⟩ := id hQ
       have s0 : 0 ≤ js := hP.1
       have w1 : IntKind.wrap .i64 dt = dt := by have := wr_i64 dt; omega
       have w2 : IntKind.wrap .i64 (jc + dt) = jc + dt := by have := wr_i64 (jc + dt); omega
       have w3 : IntKind.wrap .i64 (js + dt) = js + dt := by have := wr_i64 (js + dt); omega
       have w4 : IntKind.wrap .i64 ((js + dt) * 100) = (js + dt) * 100 := by have := wr_i64 ((js + dt) * 100); omega
       have w5 : Int.tdiv ((js + dt) * 100) 1073741824 = (js + dt) * 100 / 1073741824 := Int.tdiv_eq_ediv_of_nonneg (by omega)
       obtain ⟨M, hM⟩ : ∃ x, (js + dt) * 100 / 1073741824 = x := ⟨_, rfl⟩
       have w6 : IntKind.wrap .i64 M = M := by have := wr_i64 M; omega
       have w7 : IntKind.wrap .i64 pt = pt := by have := wr_i64 pt; omega
       obtain ⟨y1, y2, y3⟩ := drift_bd (m := M) (p := pt) (by omega) (by omega) q0 q1
       have w8 : IntKind.wrap .i64 (M * pt) = M * pt := by have := wr_i64 (M * pt); omega
       obtain ⟨D, hD⟩ : ∃ x, Int.tdiv (M * pt) 32768 = x := ⟨_, rfl⟩
       rw [hD] at y2 y3
       have w9 : IntKind.wrap .i64 D = D := by have := wr_i64 D; omega
       have w10 : IntKind.wrap .i64 (ja + (js + dt)) = ja + (js + dt) := by have := wr_i64 (ja + (js + dt)); omega
       obtain ⟨N, hN⟩ : ∃ x, ja + (js + dt) + D = x := ⟨_, rfl⟩
       have w11 : IntKind.wrap .i64 N = N := by have := wr_i64 N; omega
       have w12 : IntKind.wrap .i64 lo = lo := by have := wr_i64 lo; omega
       have w13 : IntKind.wrap .i64 hi = hi := by have := wr_i64 hi; omega
       have w14 : IntKind.wrap .i64 (N - lo) = N - lo := by have := wr_i64 (N - lo); omega
       have w15 : IntKind.wrap .i64 (N + hi) = N + hi := by have := wr_i64 (N + hi); omega
       simp only [w1, w2, w3, w4, w5, hM, w6, w7, w8, hD, w9, w10, hN, w11, w12, w13, w14, w15]
       have hP2 := hh_go hP d0
       have hO := hh_ho p1.1 p1.2 p2.1 p2.2 p3.1 p3.2 (show jc + dt ≤ 1099511627776 by omega) hP2
       have hS := hh_sync p1.1 p1.2 p2.1 p2.2 p3.1 p3.2 (show 0 ≤ jc + dt by omega) (by omega) hP2 (by omega) (show -((js + dt) * 100 / 1073741824) ≤ D by omega) (by omega) (by omega) (by omega) (show N = ja + (js + dt) + D by omega) (show N - lo ≤ N by omega) (show N ≤ N + hi by omega) (by omega) (by omega)
       have hN1 := hh_now p1.1 p1.2 p2.1 p2.2 p3.1 p3.2 (show jc + dt ≤ 1099511627776 by omega) hS.2 (by omega) (show -((0 : Int) * 100 / 1073741824) ≤ 0 by decide) (by decide) (by omega) (by omega)
       have hN0 := hh_now p1.1 p1.2 p2.1 p2.2 p3.1 p3.2 (show jc + dt ≤ 1099511627776 by omega) hP2 (by omega) (show -((js + dt) * 100 / 1073741824) ≤ D by omega) (by omega) (by omega) (by omega)
       have hS2 := hS.2
       have hPb := hP2
       have wi := wr_i64 (ji + 1)
       obtain ⟨v1, v2, v3, v4, v5, v6, v7, v8, v9, v10, v11, v12⟩ := hS2
       obtain ⟨x1, x2, x3, x4, x5, x6, x7, x8, x9, x10, x11, x12⟩ := hPb
       have waa := wr_i64 (nwT 2147483648 31 100 gp gi rl 1099511627776 (jc + dt) (syT 2147483648 31 100 gp gi rl 1099511627776 jb jt je jf jz jy (jc + dt) (N - lo) (N + hi)) (syR 2147483648 31 100 gp gi rl 1099511627776 jb jt je jf jz jy (jc + dt) (N - lo) (N + hi)) (syF 2147483648 31 100 gp gi rl 1099511627776 jb jt je jf jz jy (jc + dt) (N - lo) (N + hi)) (syS 2147483648 31 100 gp gi rl 1099511627776 jb jt je jf jz jy (jc + dt) (N - lo) (N + hi)) true (jc + dt) - N)
       have wba := wr_i64 (N - nwT 2147483648 31 100 gp gi rl 1099511627776 (jc + dt) (syT 2147483648 31 100 gp gi rl 1099511627776 jb jt je jf jz jy (jc + dt) (N - lo) (N + hi)) (syR 2147483648 31 100 gp gi rl 1099511627776 jb jt je jf jz jy (jc + dt) (N - lo) (N + hi)) (syF 2147483648 31 100 gp gi rl 1099511627776 jb jt je jf jz jy (jc + dt) (N - lo) (N + hi)) (syS 2147483648 31 100 gp gi rl 1099511627776 jb jt je jf jz jy (jc + dt) (N - lo) (N + hi)) true (jc + dt))
       have wab := wr_i64 (nwT 2147483648 31 100 gp gi rl 1099511627776 jb jt je jf jz jy (jc + dt) - N)
       have wbb := wr_i64 (N - nwT 2147483648 31 100 gp gi rl 1099511627776 jb jt je jf jz jy (jc + dt))
       try simp only [hw2]
       try simp only [hw1]
       try simp only [hw0]
       refine ⟨fun h4 => ?_, fun h4 => ?_⟩
       ·
        refine ⟨?_, fun h5 => ?_⟩
        ·
         first
         | exact True.intro
         | omega
         | exact ⟨by omega, decide_eq_true hO, by omega, by omega, by omega, by omega, by omega, (by cases jy; exact .inl (by decide); exact .inr (by omega))⟩
         | (exact ⟨by omega, decide_eq_true ⟨⟨by decide, by decide, by decide⟩, by decide, by decide, by omega, by omega, by omega, by omega, by omega, by omega, by decide, by decide, by decide, by decide, by decide, by decide, by decide, by decide, by omega, by omega, by decide, by decide⟩⟩)
         | skip
        ·
         refine ⟨fun h6 => ?_, fun h6 => ?_⟩
         ·
          try simp only [hw2]
          try simp only [hw1]
          try simp only [hw0]
          refine ⟨?_, fun h7 => ?_⟩
          ·
           first
           | exact True.intro
           | omega
           | exact ⟨by omega, decide_eq_true hO, by omega, by omega, by omega, by omega, by omega, (by cases jy; exact .inl (by decide); exact .inr (by omega))⟩
           | (exact ⟨by omega, decide_eq_true ⟨⟨by decide, by decide, by decide⟩, by decide, by decide, by omega, by omega, by omega, by omega, by omega, by omega, by decide, by decide, by decide, by decide, by decide, by decide, by decide, by decide, by omega, by omega, by decide, by decide⟩⟩)
           | skip
          ·
           try simp only [hw16]
           try simp only [hw15]
           try simp only [hw14]
           try simp only [hw13]
           try simp only [hw12]
           try simp only [hw11]
           try simp only [hw10]
           try simp only [hw9]
           try simp only [hw8]
           try simp only [hw7]
           try simp only [hw6]
           try simp only [hw5]
           try simp only [hw4]
           try simp only [hw3]
           try simp only [hw2]
           try simp only [hw1]
           try simp only [hw0]
           refine ⟨?_, fun h8 => ?_⟩
           ·
            first
            | exact True.intro
            | omega
            | exact ⟨by omega, decide_eq_true hO, by omega, by omega, by omega, by omega, by omega, (by cases jy; exact .inl (by decide); exact .inr (by omega))⟩
            | (exact ⟨by omega, decide_eq_true ⟨⟨by decide, by decide, by decide⟩, by decide, by decide, by omega, by omega, by omega, by omega, by omega, by omega, by decide, by decide, by decide, by decide, by decide, by decide, by decide, by decide, by omega, by omega, by decide, by decide⟩⟩)
            | skip
           ·
            try simp only [hw16]
            try simp only [hw15]
            try simp only [hw14]
            try simp only [hw13]
            try simp only [hw12]
            try simp only [hw11]
            try simp only [hw10]
            try simp only [hw9]
            try simp only [hw8]
            try simp only [hw7]
            try simp only [hw6]
            try simp only [hw5]
            try simp only [hw4]
            try simp only [hw3]
            try simp only [hw2]
            try simp only [hw1]
            try simp only [hw0]
            refine ⟨fun h9 => ?_, fun h9 => ?_⟩
            ·
             try simp only [hw16]
             try simp only [hw15]
             try simp only [hw14]
             try simp only [hw13]
             try simp only [hw12]
             try simp only [hw11]
             try simp only [hw10]
             try simp only [hw9]
             try simp only [hw8]
             try simp only [hw7]
             try simp only [hw6]
             try simp only [hw5]
             try simp only [hw4]
             try simp only [hw3]
             try simp only [hw2]
             try simp only [hw1]
             try simp only [hw0]
             refine ⟨fun h10 => ?_, fun h10 => ?_⟩
             ·
              first
              | exact True.intro
              | rfl
              | (exfalso; omega)
              | exact absurd True.intro (by assumption)
              | skip
             ·
              try simp only [hw16]
              try simp only [hw15]
              try simp only [hw14]
              try simp only [hw13]
              try simp only [hw12]
              try simp only [hw11]
              try simp only [hw10]
              try simp only [hw9]
              try simp only [hw8]
              try simp only [hw7]
              try simp only [hw6]
              try simp only [hw5]
              try simp only [hw4]
              try simp only [hw3]
              try simp only [hw2]
              try simp only [hw1]
              try simp only [hw0]
              refine ⟨fun h11 => ?_, fun h11 => ?_⟩
              ·
               first
               | exact True.intro
               | rfl
               | (exfalso; omega)
               | exact absurd True.intro (by assumption)
               | skip
              ·
               try simp only [hw16]
               try simp only [hw15]
               try simp only [hw14]
               try simp only [hw13]
               try simp only [hw12]
               try simp only [hw11]
               try simp only [hw10]
               try simp only [hw9]
               try simp only [hw8]
               try simp only [hw7]
               try simp only [hw6]
               try simp only [hw5]
               try simp only [hw4]
               try simp only [hw3]
               try simp only [hw2]
               try simp only [hw1]
               try simp only [hw0]
               refine ⟨?_, ?_⟩
               ·
                first
                | exact ⟨by omega, by omega, decide_eq_true ⟨by rw [show IntKind.wrap .i64 (ji + 1) = ji + 1 by omega]; exact hP2, by omega, by omega, by omega, by omega, by omega⟩⟩
                | (rw [show IntKind.wrap .i64 (ji + 1) = ji + 1 by omega]
                   exact ⟨by omega, by omega, decide_eq_true ⟨hS.2, by omega, by omega, by omega, by omega, by omega⟩⟩)
                | (rw [show IntKind.wrap .i64 (ji + 1) = ji + 1 by omega]
                   exact ⟨by omega, by omega, decide_eq_true ⟨hP2, by omega, by omega, by omega, by omega, by omega⟩⟩)
                | skip
               ·
                omega
            ·
             try simp only [hw16]
             try simp only [hw15]
             try simp only [hw14]
             try simp only [hw13]
             try simp only [hw12]
             try simp only [hw11]
             try simp only [hw10]
             try simp only [hw9]
             try simp only [hw8]
             try simp only [hw7]
             try simp only [hw6]
             try simp only [hw5]
             try simp only [hw4]
             try simp only [hw3]
             try simp only [hw2]
             try simp only [hw1]
             try simp only [hw0]
             refine ⟨fun h12 => ?_, fun h12 => ?_⟩
             ·
              first
              | exact True.intro
              | rfl
              | (exfalso; omega)
              | exact absurd True.intro (by assumption)
              | skip
             ·
              try simp only [hw16]
              try simp only [hw15]
              try simp only [hw14]
              try simp only [hw13]
              try simp only [hw12]
              try simp only [hw11]
              try simp only [hw10]
              try simp only [hw9]
              try simp only [hw8]
              try simp only [hw7]
              try simp only [hw6]
              try simp only [hw5]
              try simp only [hw4]
              try simp only [hw3]
              try simp only [hw2]
              try simp only [hw1]
              try simp only [hw0]
              refine ⟨fun h13 => ?_, fun h13 => ?_⟩
              ·
               first
               | exact True.intro
               | rfl
               | (exfalso; omega)
               | exact absurd True.intro (by assumption)
               | skip
              ·
               try simp only [hw16]
               try simp only [hw15]
               try simp only [hw14]
               try simp only [hw13]
               try simp only [hw12]
               try simp only [hw11]
               try simp only [hw10]
               try simp only [hw9]
               try simp only [hw8]
               try simp only [hw7]
               try simp only [hw6]
               try simp only [hw5]
               try simp only [hw4]
               try simp only [hw3]
               try simp only [hw2]
               try simp only [hw1]
               try simp only [hw0]
               refine ⟨?_, ?_⟩
               ·
                first
                | exact ⟨by omega, by omega, decide_eq_true ⟨by rw [show IntKind.wrap .i64 (ji + 1) = ji + 1 by omega]; exact hP2, by omega, by omega, by omega, by omega, by omega⟩⟩
                | (rw [show IntKind.wrap .i64 (ji + 1) = ji + 1 by omega]
                   exact ⟨by omega, by omega, decide_eq_true ⟨hS.2, by omega, by omega, by omega, by omega, by omega⟩⟩)
                | (rw [show IntKind.wrap .i64 (ji + 1) = ji + 1 by omega]
                   exact ⟨by omega, by omega, decide_eq_true ⟨hP2, by omega, by omega, by omega, by omega, by omega⟩⟩)
                | skip
               ·
                omega
         ·
          refine ⟨?_, fun h14 => ?_⟩
          ·
           first
           | exact True.intro
           | omega
           | exact ⟨by omega, decide_eq_true hO, by omega, by omega, by omega, by omega, by omega, (by cases jy; exact .inl (by decide); exact .inr (by omega))⟩
           | (exact ⟨by omega, decide_eq_true ⟨⟨by decide, by decide, by decide⟩, by decide, by decide, by omega, by omega, by omega, by omega, by omega, by omega, by decide, by decide, by decide, by decide, by decide, by decide, by decide, by decide, by omega, by omega, by decide, by decide⟩⟩)
           | skip
          ·
           try simp only [hw20]
           try simp only [hw19]
           try simp only [hw2]
           try simp only [hw1]
           try simp only [hw0]
           refine ⟨fun h15 => ?_, fun h15 => ?_⟩
           ·
            try simp only [hw20]
            try simp only [hw19]
            try simp only [hw2]
            try simp only [hw1]
            try simp only [hw0]
            refine ⟨fun h16 => ?_, fun h16 => ?_⟩
            ·
             first
             | exact True.intro
             | rfl
             | (exfalso; omega)
             | exact absurd True.intro (by assumption)
             | skip
            ·
             refine ⟨fun h17 => ?_, fun h17 => ?_⟩
             ·
              try simp only [hw20]
              try simp only [hw19]
              try simp only [hw2]
              try simp only [hw1]
              try simp only [hw0]
              refine ⟨fun h18 => ?_, fun h18 => ?_⟩
              ·
               first
               | exact True.intro
               | rfl
               | (exfalso; omega)
               | exact absurd True.intro (by assumption)
               | skip
              ·
               try simp only [hw20]
               try simp only [hw19]
               try simp only [hw2]
               try simp only [hw1]
               try simp only [hw0]
               refine ⟨?_, ?_⟩
               ·
                first
                | exact ⟨by omega, by omega, decide_eq_true ⟨by rw [show IntKind.wrap .i64 (ji + 1) = ji + 1 by omega]; exact hP2, by omega, by omega, by omega, by omega, by omega⟩⟩
                | (rw [show IntKind.wrap .i64 (ji + 1) = ji + 1 by omega]
                   exact ⟨by omega, by omega, decide_eq_true ⟨hS.2, by omega, by omega, by omega, by omega, by omega⟩⟩)
                | (rw [show IntKind.wrap .i64 (ji + 1) = ji + 1 by omega]
                   exact ⟨by omega, by omega, decide_eq_true ⟨hP2, by omega, by omega, by omega, by omega, by omega⟩⟩)
                | skip
               ·
                omega
             ·
              try simp only [hw20]
              try simp only [hw19]
              try simp only [hw2]
              try simp only [hw1]
              try simp only [hw0]
              refine ⟨?_, ?_⟩
              ·
               first
               | exact ⟨by omega, by omega, decide_eq_true ⟨by rw [show IntKind.wrap .i64 (ji + 1) = ji + 1 by omega]; exact hP2, by omega, by omega, by omega, by omega, by omega⟩⟩
               | (rw [show IntKind.wrap .i64 (ji + 1) = ji + 1 by omega]
                  exact ⟨by omega, by omega, decide_eq_true ⟨hS.2, by omega, by omega, by omega, by omega, by omega⟩⟩)
               | (rw [show IntKind.wrap .i64 (ji + 1) = ji + 1 by omega]
                  exact ⟨by omega, by omega, decide_eq_true ⟨hP2, by omega, by omega, by omega, by omega, by omega⟩⟩)
               | skip
              ·
               omega
           ·
            try simp only [hw20]
            try simp only [hw19]
            try simp only [hw2]
            try simp only [hw1]
            try simp only [hw0]
            refine ⟨fun h19 => ?_, fun h19 => ?_⟩
            ·
             first
             | exact True.intro
             | rfl
             | (exfalso; omega)
             | exact absurd True.intro (by assumption)
             | skip
            ·
             try simp only [hw20]
             try simp only [hw19]
             try simp only [hw2]
             try simp only [hw1]
             try simp only [hw0]
             refine ⟨fun h20 => ?_, fun h20 => ?_⟩
             ·
              first
              | exact True.intro
              | rfl
              | (exfalso; omega)
              | exact absurd True.intro (by assumption)
              | skip
             ·
              try simp only [hw25]
              try simp only [hw20]
              try simp only [hw19]
              try simp only [hw2]
              try simp only [hw1]
              try simp only [hw0]
              refine ⟨?_, ?_⟩
              ·
               first
               | exact ⟨by omega, by omega, decide_eq_true ⟨by rw [show IntKind.wrap .i64 (ji + 1) = ji + 1 by omega]; exact hP2, by omega, by omega, by omega, by omega, by omega⟩⟩
               | (rw [show IntKind.wrap .i64 (ji + 1) = ji + 1 by omega]
                  exact ⟨by omega, by omega, decide_eq_true ⟨hS.2, by omega, by omega, by omega, by omega, by omega⟩⟩)
               | (rw [show IntKind.wrap .i64 (ji + 1) = ji + 1 by omega]
                  exact ⟨by omega, by omega, decide_eq_true ⟨hP2, by omega, by omega, by omega, by omega, by omega⟩⟩)
               | skip
              ·
               omega
       ·
        first
        | exact True.intro
        | rfl
        | (exfalso; omega)
        | exact absurd True.intro (by assumption)
        | skip
theorem ymg_wHolds : ymc_wHolds.Good Tryd.prog syG (ymE [] [] [] []) := good_of_walk (Γ := ⟨[ykc_rule, ymc_newv, ymc_syncw, yic_now, ykc_num, ykc_sure18], syG, [], [], []⟩) (ρ := ymE [] [] [] []) sym wHolds_w rfl (fun _ _ _ _ => (ok_cons (Con.Good.env (Con.Good.up ykg_rule ymup rfl) _ _ _ _) (ok_cons (Con.Good.env ymg_newv _ _ _ _) (ok_cons (Con.Good.env ymg_syncw _ _ _ _) (ok_cons (Con.Good.env (Con.Good.up (Con.Good.up (Con.Good.up yig_now yjup rfl) ykup rfl) ymup rfl) _ _ _ _) (ok_cons (Con.Good.env (Con.Good.up ykg_num ymup rfl) _ _ _ _) (ok_cons (Con.Good.env (Con.Good.up ykg_sure18 ymup rfl) _ _ _ _) ok_nil))))))) (fun st g0 g1 g2 l hc hty => wHolds_h st g0 g1 g2 l hc hty)
end Go.Proofs.YtjhjgfnodhbacaaDoor
