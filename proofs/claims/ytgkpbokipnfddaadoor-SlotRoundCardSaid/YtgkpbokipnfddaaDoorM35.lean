/-
  Layer 35's rounds as lists of names: the first place of something, slots.
-/
import Derived.Test.YtgkpbokipnfddaaDoorE01
namespace Go.Proofs.YtgkpbokipnfddaaDoor
open Go Go.RowKit Go.Proofs.YtgkpbokipnfddaaDoor.Sx
set_option linter.unusedVariables false
/-- none of the first so many; the first one's place, or -1 -/
def noneB (p : Nat → Bool) (n : Nat) : Bool := (List.range n).all fun j => !p j
def firstN (p : Nat → Bool) (n : Nat) : Int := match (List.range n).find? p with | some i => (i : Int) | none => -1
theorem noneB_succ (p : Nat → Bool) (n : Nat) : noneB p (n + 1) = (noneB p n && !p n) := by simp [noneB, List.range_succ]
theorem noneB_get {p : Nat → Bool} {n : Nat} (h : noneB p n = true) {j : Nat} (hj : j < n) : p j = false := by
  have := List.all_eq_true.1 h j (List.mem_range.2 hj)
  simpa using this
theorem firstN_none {p : Nat → Bool} {n : Nat} (h : noneB p n = true) : firstN p n = -1 := by
  unfold firstN
  have : (List.range n).find? p = none := by
    rw [List.find?_eq_none]
    intro x hx
    rw [noneB_get h (List.mem_range.1 hx)]
    simp
  rw [this]
theorem firstN_at {p : Nat → Bool} {n i : Nat} (h : noneB p i = true) (hi : i < n) (hp : p i = true) : firstN p n = i := by
  unfold firstN
  have : (List.range n).find? p = some i := by
    rw [List.find?_range_eq_some]
    refine ⟨hp, by simpa using hi, fun j hj => ?_⟩
    rw [noneB_get h hj]
    rfl
  rw [this]
theorem firstN_or (p : Nat → Bool) (n : Nat) : (firstN p n = -1 ∧ noneB p n = true) ∨ (∃ i : Nat, firstN p n = i ∧ i < n ∧ noneB p i = true ∧ p i = true) := by
  cases h : noneB p n with
  | true => exact .inl ⟨firstN_none h, rfl⟩
  | false =>
    right
    induction n with
    | zero => cases h
    | succ n ih =>
      rw [noneB_succ] at h
      cases h1 : noneB p n with
      | true =>
        rw [h1] at h
        have hp : p n = true := by simpa using h
        exact ⟨n, firstN_at h1 (by omega) hp, by omega, h1, hp⟩
      | false =>
        obtain ⟨i, h2, h3, h4, h5⟩ := ih h1
        exact ⟨i, firstN_at h4 (by omega) h5, by omega, h4, h5⟩
theorem noneB_not {p : Nat → Bool} {n i : Nat} (hi : i < n) (hp : p i = true) : noneB p n = false := by
  cases h : noneB p n with
  | false => rfl
  | true => rw [noneB_get h hi] at hp; cases hp
def nameAt (l : List ByteArray) (j : Nat) : ByteArray := l.getD j ByteArray.empty
def longAt (l : List ByteArray) (j : Nat) : Bool := decide (12 < (nameAt l j).size)
def mayR (s : Int) (l : List ByteArray) : Bool := noneB (longAt l) l.length && decide (1 ≤ s) && decide (s ≤ 1073741824) && decide (1 ≤ l.length) && decide (l.length ≤ 16)
def mayRI (s : Int) (l : List ByteArray) : Int := if mayR s l = true then 0 else 1
theorem mayRI_spec (s : Int) (l : List ByteArray) : (mayRI s l = 1 ∧ mayR s l = false ∧ (0 ≤ firstN (longAt l) l.length ∨ s < 1 ∨ 1073741824 < s ∨ l.length < 1 ∨ 16 < l.length)) ∨ (mayRI s l = 0 ∧ mayR s l = true ∧ firstN (longAt l) l.length = -1 ∧ 1 ≤ s ∧ s ≤ 1073741824 ∧ 1 ≤ l.length ∧ l.length ≤ 16) := by
  unfold mayRI
  cases h : mayR s l with
  | true =>
    right
    simp only [mayR, Bool.and_eq_true, decide_eq_true_eq] at h
    refine ⟨by simp, rfl, firstN_none h.1.1.1.1, by omega, by omega, by omega, by omega⟩
  | false =>
    left
    refine ⟨by simp, rfl, ?_⟩
    rcases firstN_or (longAt l) l.length with ⟨h1, h2⟩ | ⟨i, h1, _⟩
    · simp only [mayR, h2, Bool.true_and, Bool.and_eq_false_iff, decide_eq_false_iff_not] at h
      omega
    · left; omega
theorem mayR_B (s : Int) (l : List ByteArray) : mayR s l = (mayRI s l == 0) := by
  unfold mayRI
  cases mayR s l <;> rfl
/-- a step: may it be; its slot, and how much of it is gone -/
def plE (s : Int) (l : List ByteArray) (d : Int) : Int := if mayRI s l = 0 ∧ 0 ≤ d ∧ d ≤ 1152921504606846976 then 0 else 1
def plS (s : Int) (l : List ByteArray) (d : Int) : Int := if plE s l d = 0 then (d / s) % (l.length : Int) else 0
def plG (s : Int) (l : List ByteArray) (d : Int) : Int := if plE s l d = 0 then d % s else 0
def lfV (s : Int) (l : List ByteArray) (d : Int) : Int := if plE s l d = 0 then s - d % s else 0
def whoS (s : Int) (l : List ByteArray) (d : Int) : ByteArray := if plE s l d = 0 then nameAt l (plS s l d).toNat else ByteArray.empty
theorem plE_spec (s : Int) (l : List ByteArray) (d : Int) : (plE s l d = 1 ∧ (mayRI s l ≠ 0 ∨ d < 0 ∨ 1152921504606846976 < d) ∧ plS s l d = 0 ∧ plG s l d = 0 ∧ lfV s l d = 0) ∨
    (plE s l d = 0 ∧ mayRI s l = 0 ∧ 0 ≤ d ∧ d ≤ 1152921504606846976 ∧ 1 ≤ s ∧ s ≤ 1073741824 ∧ 1 ≤ l.length ∧ l.length ≤ 16 ∧ plS s l d = (d / s) % (l.length : Int) ∧ plG s l d = d % s ∧ lfV s l d = s - d % s ∧ 0 ≤ plS s l d ∧ plS s l d < (l.length : Int) ∧ 0 ≤ d % s ∧ d % s < s ∧ 0 ≤ d / s ∧ d / s ≤ d) := by
  unfold plS plG lfV
  by_cases h : plE s l d = 0
  · right
    have h0 := h
    unfold plE at h
    split at h
    · rename_i hc
      obtain ⟨c1, c2, c3⟩ := hc
      rcases mayRI_spec s l with ⟨a, _⟩ | ⟨_, _, _, m1, m2, m3, m4⟩
      · omega
      · simp only [h0, if_true]
        have e1 := Int.emod_nonneg (d / s) (b := (l.length : Int)) (by omega)
        have e2 := Int.emod_lt_of_pos (d / s) (b := (l.length : Int)) (by omega)
        have e3 := Int.emod_nonneg d (b := s) (by omega)
        have e4 := Int.emod_lt_of_pos d (b := s) (by omega)
        have e5 := Int.ediv_nonneg (a := d) (b := s) (by omega) (by omega)
        have e6 := Int.ediv_le_self s c2
        refine ⟨trivial, c1, c2, c3, m1, m2, m3, m4, trivial, trivial, trivial, e1, e2, e3, e4, e5, e6⟩
    · omega
  · left
    simp only [h, if_false]
    have h0 := h
    unfold plE at h ⊢
    split at h
    · exact absurd rfl h
    · rename_i hc
      refine ⟨by rw [if_neg hc], by omega, trivial, trivial, trivial⟩
/-- the slot at which a round is so many slots on -/
theorem slot_on {s d : Int} {n : Nat} {i : Int} (h1 : 1 ≤ s) (h2 : 0 ≤ d) (hn : 1 ≤ n) (hi : 0 ≤ i) : ((d - d % s + i * s) % (s * (n : Int))) / s = (d / s + i) % (n : Int) := by
  have e : d - d % s + i * s = s * (d / s + i) := by
    have := Int.mul_ediv_add_emod d s
    rw [Int.mul_add, Int.mul_comm s i]
    omega
  rw [e, Int.mul_emod_mul_of_pos _ _ (by omega), Int.mul_ediv_cancel_left _ (by omega)]
theorem slot_at {s d : Int} {n : Nat} (h1 : 1 ≤ s) (h2 : 0 ≤ d) (hn : 1 ≤ n) : (d % (s * (n : Int))) / s = (d / s) % (n : Int) := by
  have hn' : (0 : Int) < (n : Int) := by omega
  have a1 := Int.mul_ediv_add_emod d s
  have a2 := Int.mul_ediv_add_emod (d / s) (n : Int)
  have r0 := Int.emod_nonneg d (b := s) (by omega)
  have r1 := Int.emod_lt_of_pos d (b := s) (by omega)
  have q0 := Int.emod_nonneg (d / s) (b := (n : Int)) (by omega)
  have q1 := Int.emod_lt_of_pos (d / s) (b := (n : Int)) hn'
  have hle : s * (d / s % (n : Int)) ≤ s * ((n : Int) - 1) := Int.mul_le_mul_of_nonneg_left (by omega) (by omega)
  have hge : 0 ≤ s * (d / s % (n : Int)) := Int.mul_nonneg (by omega) q0
  have hs : s * ((n : Int) - 1) = s * (n : Int) - s := by rw [Int.mul_sub, Int.mul_one]
  have hpos : 0 < s * (n : Int) := Int.mul_pos (by omega) hn'
  have key := eu_uniq (a := d) (b := s * (n : Int)) (q := d / s / (n : Int)) (r := s * (d / s % (n : Int)) + d % s) hpos (by
    have : s * (d / s) = s * ((n : Int) * (d / s / (n : Int))) + s * (d / s % (n : Int)) := by rw [← Int.mul_add, a2]
    rw [Int.mul_assoc]
    omega) (by omega) (by omega)
  rw [key.2, Int.add_comm, Int.add_mul_ediv_left _ _ (by omega), Int.ediv_eq_zero_of_lt r0 r1, Int.zero_add]
def matchAt (l : List ByteArray) (sl : Nat) (name : ByteArray) (j : Nat) : Bool := nameAt l ((sl + j) % l.length) == name
/-- when it is one's turn next: the error, the step -/
def nxF (s : Int) (l : List ByteArray) (d : Int) (name : ByteArray) : Int := firstN (matchAt l (plS s l d).toNat name) l.length
def nxE (s : Int) (l : List ByteArray) (d : Int) (name : ByteArray) : Int := if plE s l d = 0 then (if (name == (⟨#[]⟩ : ByteArray)) = true then 6 else if nxF s l d name = -1 then 6 else 0) else 1
def nxV (s : Int) (l : List ByteArray) (d : Int) (name : ByteArray) : Int := if nxE s l d name = 0 then (if d < d - d % s + nxF s l d name * s then d - d % s + nxF s l d name * s else d) else 0
def cntM (l : List ByteArray) (name : ByteArray) (n : Nat) : Nat := ((l.take n).filter fun x => x == name).length
theorem cntM_succ {l : List ByteArray} {name : ByteArray} {n : Nat} {a : ByteArray} (h : l[n]? = some a) : cntM l name (n + 1) = cntM l name n + if (a == name) = true then 1 else 0 := by
  unfold cntM
  rw [take_more h, List.filter_append, List.length_append]
  cases ha : (a == name) <;> simp [ha]
theorem cntM_le (l : List ByteArray) (name : ByteArray) (n : Nat) : cntM l name n ≤ n := by
  unfold cntM
  exact Nat.le_trans (List.length_filter_le _ _) (by rw [List.length_take]; omega)
def shV (s : Int) (l : List ByteArray) (name : ByteArray) : Int := if (name == (⟨#[]⟩ : ByteArray)) = true then 0 else if mayRI s l = 0 then (cntM l name l.length : Int) * s else 0
theorem nx_spec (s : Int) (l : List ByteArray) (d : Int) (name : ByteArray) (he : (name == (⟨#[]⟩ : ByteArray)) = false) : (plE s l d ≠ 0 ∧ nxE s l d name = 1 ∧ nxV s l d name = 0) ∨ (plE s l d = 0 ∧ nxF s l d name = -1 ∧ nxE s l d name = 6 ∧ nxV s l d name = 0) ∨
    (plE s l d = 0 ∧ nxF s l d name ≠ -1 ∧ nxE s l d name = 0 ∧ ((d < d - d % s + nxF s l d name * s ∧ nxV s l d name = d - d % s + nxF s l d name * s) ∨ (d - d % s + nxF s l d name * s ≤ d ∧ nxV s l d name = d))) := by
  unfold nxV nxE
  rw [he]
  by_cases h : plE s l d = 0
  · right
    by_cases h2 : nxF s l d name = -1
    · left; simp [h, h2]
    · right
      simp only [h, h2, if_true, if_false, Bool.false_eq_true]
      refine ⟨trivial, h2, trivial, ?_⟩
      split
      · left; exact ⟨by assumption, rfl⟩
      · right; exact ⟨by omega, rfl⟩
  · left; simp [h]
theorem nx_emp (s : Int) (l : List ByteArray) (d : Int) (name : ByteArray) (he : (name == (⟨#[]⟩ : ByteArray)) = true) : (plE s l d ≠ 0 ∧ nxE s l d name = 1 ∧ nxV s l d name = 0) ∨ (plE s l d = 0 ∧ nxE s l d name = 6 ∧ nxV s l d name = 0) := by
  unfold nxV nxE
  rw [he]
  by_cases h : plE s l d = 0 <;> simp [h]
theorem match_at {l : List ByteArray} {sl : Int} {name : ByteArray} {i j : Int} (hl : 1 ≤ l.length) (h0 : 0 ≤ sl) (hi : 0 ≤ i) (hj : j = (sl + i) % (l.length : Int)) : matchAt l sl.toNat name i.toNat = (nameAt l j.toNat == name) := by
  unfold matchAt
  have : ((sl.toNat + i.toNat) % l.length : Nat) = j.toNat := by
    have e : ((sl.toNat + i.toNat : Nat) : Int) = sl + i := by omega
    have h1 : (((sl.toNat + i.toNat) % l.length : Nat) : Int) = j := by rw [hj, ← e, Int.natCast_emod]
    omega
  rw [this]
theorem noneB_le {p : Nat → Bool} {n m : Nat} (h : noneB p n = true) (hm : m ≤ n) : noneB p m = true := by
  unfold noneB
  exact List.all_eq_true.2 fun j hj => by rw [noneB_get h (by have := List.mem_range.1 hj; omega)]; rfl
theorem match_len (l : List ByteArray) (sl : Nat) (name : ByteArray) : matchAt l sl name l.length = matchAt l sl name 0 := by
  unfold matchAt
  rw [Nat.add_mod_right, Nat.add_zero]
theorem rix35 {t d : Int} {n : Nat} (h1 : 1 ≤ t) (h2 : t ≤ 1073741824) (hn : 1 ≤ n) (h16 : n ≤ 16) (hd : 0 ≤ d) (hd2 : d ≤ 2305843009213693952) :
    IntKind.wrap .i64 (t * (n : Int)) = t * (n : Int) ∧ ¬ (t * (n : Int) = 0) ∧ IntKind.wrap .i64 (Int.tdiv (Int.tmod d (t * (n : Int))) t) = (d / t) % (n : Int) ∧ Int.tmod d t = d % t := by
  have a1 : t * (n : Int) ≤ 1073741824 * 16 := Int.mul_le_mul h2 (by omega) (by omega) (by omega)
  have a2 : 1 * 1 ≤ t * (n : Int) := Int.mul_le_mul h1 (by omega) (by omega) (by omega)
  have a3 := Int.emod_nonneg d (b := t * (n : Int)) (by omega)
  have a4 := Int.emod_nonneg (d / t) (b := (n : Int)) (by omega)
  have a5 := Int.emod_lt_of_pos (d / t) (b := (n : Int)) (by omega)
  refine ⟨IntWalk.i64_in _ (by omega), by omega, ?_, Int.tmod_eq_emod_of_nonneg hd⟩
  rw [Int.tmod_eq_emod_of_nonneg hd, Int.tdiv_eq_ediv_of_nonneg a3, slot_at h1 hd hn]
  exact IntWalk.i64_in _ (by omega)
theorem rnx35 {t d i : Int} {n : Nat} (h1 : 1 ≤ t) (h2 : t ≤ 1073741824) (hn : 1 ≤ n) (h16 : n ≤ 16) (hd : 0 ≤ d) (hd2 : d ≤ 1152921504606846976) (hi : 0 ≤ i) (hi2 : i ≤ 17) :
    IntKind.wrap .i64 (d - d % t) = d - d % t ∧ IntKind.wrap .i64 (i * t) = i * t ∧ IntKind.wrap .i64 (d - d % t + i * t) = d - d % t + i * t ∧
    IntKind.wrap .i64 (Int.tdiv (Int.tmod (d - d % t + i * t) (t * (n : Int))) t) = ((d / t) % (n : Int) + i) % (n : Int) ∧ 0 ≤ i * t ∧ i * t ≤ 18253611008 := by
  have e3 := Int.emod_nonneg d (b := t) (by omega)
  have e4 := Int.emod_lt_of_pos d (b := t) (by omega)
  have b1 : 0 ≤ i * t := Int.mul_nonneg hi (by omega)
  have b2 : i * t ≤ 17 * 1073741824 := Int.mul_le_mul hi2 h2 (by omega) (by omega)
  have e5 : d % t ≤ d := by
    have := Int.mul_ediv_add_emod d t
    have := Int.mul_nonneg (a := t) (b := d / t) (by omega) (Int.ediv_nonneg hd (by omega))
    omega
  have hx : 0 ≤ d - d % t + i * t := by omega
  have r := rix35 (t := t) (d := d - d % t + i * t) (n := n) h1 h2 hn h16 hx (by omega)
  refine ⟨IntWalk.i64_in _ (by omega), IntWalk.i64_in _ (by omega), IntWalk.i64_in _ (by omega), ?_, b1, by omega⟩
  rw [r.2.2.1]
  have q : (d - d % t + i * t) / t = d / t + i := by
    have := Int.mul_ediv_add_emod d t
    have e : d - d % t + i * t = t * (d / t + i) := by rw [Int.mul_add, Int.mul_comm t i]; omega
    rw [e, Int.mul_ediv_cancel_left _ (by omega)]
  rw [q, Int.emod_add_emod]
end Go.Proofs.YtgkpbokipnfddaaDoor
