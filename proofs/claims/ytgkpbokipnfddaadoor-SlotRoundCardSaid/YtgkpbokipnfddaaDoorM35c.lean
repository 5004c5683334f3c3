/-
  Layer 35: over a whole round it is everybody's turn for as many steps as are theirs; the first of them is the next one.
-/
import Derived.Test.YtgkpbokipnfddaaDoorM35
namespace Go.Proofs.YtgkpbokipnfddaaDoor
open Go Go.RowKit Go.Proofs.YtgkpbokipnfddaaDoor.Sx
set_option linter.unusedVariables false
def cntP (f : Nat → Bool) : Nat → Nat
  | 0 => 0
  | n + 1 => cntP f n + if f n = true then 1 else 0
theorem cntP_congr {f g : Nat → Bool} : ∀ {n : Nat}, (∀ i, i < n → f i = g i) → cntP f n = cntP g n
  | 0, _ => rfl
  | n + 1, h => by simp only [cntP]; rw [cntP_congr (fun i hi => h i (by omega)), h n (by omega)]
theorem cntP_add (f : Nat → Bool) (a : Nat) : ∀ b, cntP f (a + b) = cntP f a + cntP (fun i => f (a + i)) b
  | 0 => by simp [cntP]
  | b + 1 => by
    show cntP f (a + b + 1) = _
    simp only [cntP]
    rw [cntP_add f a b]
    omega
theorem cntP_const (b : Bool) : ∀ n, cntP (fun _ => b) n = if b = true then n else 0
  | 0 => by simp [cntP]
  | n + 1 => by simp only [cntP]; rw [cntP_const b n]; cases b <;> simp
theorem cntP_shift {f : Nat → Bool} {T : Nat} (hp : ∀ i, f (i + T) = f i) : ∀ s, cntP (fun i => f (s + i)) T = cntP f T
  | 0 => by congr 1; funext i; rw [Nat.zero_add]
  | s + 1 => by
    rw [← cntP_shift hp s]
    have h1 := cntP_add (fun i => f (s + i)) 1 T
    have h2 : cntP (fun i => f (s + i)) (T + 1) = cntP (fun i => f (s + i)) T + if f (s + T) = true then 1 else 0 := rfl
    have h3 : cntP (fun i => f (s + i)) 1 = if f s = true then 1 else 0 := by simp [cntP]
    rw [Nat.add_comm 1 T, h2, h3, hp s] at h1
    have h4 : cntP (fun i => f (s + 1 + i)) T = cntP (fun i => (fun i => f (s + i)) (1 + i)) T := cntP_congr fun i _ => by show f _ = f _; congr 1; omega
    rw [h4]
    clear h2 h3 h4
    generalize (if f s = true then 1 else 0) = e at h1
    dsimp only at h1 ⊢
    omega
/-- is it one's turn at a step? -/
def turnAt (l : List ByteArray) (t : Nat) (name : ByteArray) (x : Nat) : Bool := nameAt l ((x / t) % l.length) == name
theorem turn_period (l : List ByteArray) {t : Nat} (ht : 0 < t) (name : ByteArray) (x : Nat) : turnAt l t name (x + t * l.length) = turnAt l t name x := by
  unfold turnAt
  rw [Nat.add_mul_div_left _ _ ht, Nat.add_mod_right]
theorem cntM_step {l : List ByteArray} {name : ByteArray} {k : Nat} (hk : k < l.length) : cntM l name (k + 1) = cntM l name k + if (nameAt l k == name) = true then 1 else 0 := by
  have : l[k]? = some (nameAt l k) := by unfold nameAt; rw [List.getD_eq_getElem?_getD, List.getElem?_eq_getElem hk]; rfl
  exact cntM_succ this
theorem cnt_blocks (l : List ByteArray) {t : Nat} (ht : 0 < t) (name : ByteArray) : ∀ k, k ≤ l.length → cntP (turnAt l t name) (t * k) = t * cntM l name k
  | 0, _ => by simp [cntP, cntM]
  | k + 1, hk => by
    rw [Nat.mul_succ, cntP_add, cnt_blocks l ht name k (by omega), cntM_step (by omega)]
    have h1 : cntP (fun i => turnAt l t name (t * k + i)) t = cntP (fun _ => nameAt l k == name) t := cntP_congr fun i hi => by
      show (nameAt l (((t * k + i) / t) % l.length) == name) = _
      have : (t * k + i) / t = k := by rw [Nat.mul_add_div ht, Nat.div_eq_of_lt hi, Nat.add_zero]
      rw [this, Nat.mod_eq_of_lt (by omega)]
    rw [h1, cntP_const]
    split <;> simp_all [Nat.mul_add]
/-- over a whole round -/
theorem cnt_round (l : List ByteArray) {t : Nat} (ht : 0 < t) (name : ByteArray) (s : Nat) : cntP (fun i => turnAt l t name (s + i)) (t * l.length) = t * cntM l name l.length := by
  rw [cntP_shift (turn_period l ht name) s, cnt_blocks l ht name _ (Nat.le_refl _)]
theorem cntP_none {f : Nat → Bool} : ∀ {n : Nat}, noneB f n = true → cntP f n = 0
  | 0, _ => rfl
  | n + 1, h => by
    rw [noneB_succ, Bool.and_eq_true] at h
    have h2 : f n = false := by simpa using h.2
    simp only [cntP]
    rw [cntP_none h.1, h2]
    rfl
theorem cntP_pos {f : Nat → Bool} : ∀ {n i : Nat}, i < n → f i = true → 0 < cntP f n
  | 0, i, h, _ => absurd h (Nat.not_lt_zero i)
  | n + 1, i, h, hf => by
    simp only [cntP]
    by_cases hi : i = n
    · subst hi; rw [if_pos hf]; omega
    · have := cntP_pos (f := f) (n := n) (i := i) (by omega) hf
      omega
/-- the first of all steps from one on at which it is one's turn, is what is told as the next one -/
theorem first_next {l : List ByteArray} {t d : Nat} {name : ByteArray} (ht : 0 < t) (hl : 0 < l.length) {v : Int}
    (hv : firstN (matchAt l (d / t % l.length) name) l.length = v) :
    (v = -1 ∧ firstN (fun i => turnAt l t name (d + i)) (t * l.length) = -1) ∨
    (0 ≤ v ∧ (d : Int) + firstN (fun i => turnAt l t name (d + i)) (t * l.length) = (if (d : Int) < d - (d % t : Nat) + v * t then d - (d % t : Nat) + v * t else d) ∧ 0 ≤ firstN (fun i => turnAt l t name (d + i)) (t * l.length)) := by
  have hdm := Nat.div_add_mod d t
  have hml := Nat.mod_lt d ht
  -- a step's slot
  have slot : ∀ i, turnAt l t name (d + i) = matchAt l (d / t % l.length) name ((d + i) / t - d / t) := fun i => by
    unfold turnAt matchAt
    have h1 : d / t ≤ (d + i) / t := Nat.div_le_div_right (by omega)
    have h2 : (d + i) / t % l.length = (d / t % l.length + ((d + i) / t - d / t)) % l.length := by
      rw [Nat.mod_add_mod]
      congr 1
      omega
    rw [h2]
  rcases firstN_or (matchAt l (d / t % l.length) name) l.length with ⟨h1, h2⟩ | ⟨j, h1, h2, h3, h4⟩
  · left
    refine ⟨by omega, firstN_none ?_⟩
    unfold noneB
    refine List.all_eq_true.2 fun i hi => ?_
    have hi' := List.mem_range.1 hi
    show (!turnAt l t name (d + i)) = true
    rw [slot i]
    have per : matchAt l (d / t % l.length) name ((d + i) / t - d / t) = matchAt l (d / t % l.length) name (((d + i) / t - d / t) % l.length) := by
      unfold matchAt
      rw [Nat.add_mod_mod]
    rw [per, noneB_get h2 (Nat.mod_lt _ hl)]
    rfl
  · right
    rw [h1] at hv
    subst hv
    -- the step at which it begins
    by_cases hj : j = 0
    · subst hj
      have hf0 : turnAt l t name (d + 0) = true := by
        rw [slot 0, Nat.add_zero, Nat.sub_self]
        exact h4
      have hT : 0 < t * l.length := Nat.mul_pos ht hl
      have hF : firstN (fun i => turnAt l t name (d + i)) (t * l.length) = ((0 : Nat) : Int) := firstN_at (i := 0) rfl hT hf0
      rw [hF]
      refine ⟨by omega, ?_, by omega⟩
      split
      · exfalso
        rename_i h
        simp at h
        omega
      · simp
    · have hg : d % t ≤ t * j := by
        have : t * 1 ≤ t * j := Nat.mul_le_mul_left t (by omega)
        omega
      have hlt : t * j ≤ t * (l.length - 1) := Nat.mul_le_mul_left t (by omega)
      have hT : t * l.length = t * (l.length - 1) + t := by
        rw [← Nat.mul_succ]
        congr 1
        omega
      have hle : t * 1 ≤ t * j := Nat.mul_le_mul_left t (by omega)
      have at_ : (d + (t * j - d % t)) / t - d / t = j := by
        have e : d + (t * j - d % t) = t * (d / t + j) := by rw [Nat.mul_add]; omega
        rw [e, Nat.mul_div_cancel_left _ ht]
        omega
      have hF : firstN (fun i => turnAt l t name (d + i)) (t * l.length) = ((t * j - d % t : Nat) : Int) := by
        refine firstN_at ?_ (by omega) ?_
        · unfold noneB
          refine List.all_eq_true.2 fun i hi => ?_
          have hi' := List.mem_range.1 hi
          show (!turnAt l t name (d + i)) = true
          rw [slot i]
          have hlt2 : (d + i) / t - d / t < j := by
            have : (d + i) / t < d / t + j := by
              rw [Nat.div_lt_iff_lt_mul ht, Nat.add_mul, Nat.mul_comm (d / t) t, Nat.mul_comm j t]
              omega
            have := Nat.div_le_div_right (c := t) (show d ≤ d + i by omega)
            omega
          rw [noneB_get h3 hlt2]
          rfl
        · show turnAt l t name (d + (t * j - d % t)) = true
          rw [slot, at_]
          exact h4
      rw [hF]
      have hmul : (j : Int) * (t : Int) = ((t * j : Nat) : Int) := by push_cast; rw [Int.mul_comm]
      rw [hmul]
      refine ⟨by omega, ?_, by omega⟩
      split <;> omega
def tnE (l : List ByteArray) (t : Int) (name : ByteArray) (d : Int) (i : Nat) : Bool := !(name == (⟨#[]⟩ : ByteArray)) && turnAt l t.toNat name (d.toNat + i)
def cpE (l : List ByteArray) (t : Int) (name : ByteArray) (d k : Int) : Int := (cntP (tnE l t name d) k.toNat : Int)
def fsE (l : List ByteArray) (t : Int) (name : ByteArray) (d k : Int) : Int := if firstN (tnE l t name d) k.toNat < 0 then -1 else d + firstN (tnE l t name d) k.toNat
theorem firstN_succ (p : Nat → Bool) (n : Nat) : firstN p (n + 1) = if firstN p n < 0 then (if p n = true then (n : Int) else -1) else firstN p n := by
  rcases firstN_or p n with ⟨h1, h2⟩ | ⟨i, h1, h2, h3, h4⟩
  · rw [h1, if_pos (by omega)]
    split
    · rename_i hp; exact firstN_at h2 (by omega) hp
    · rename_i hp; refine firstN_none ?_; rw [noneB_succ, h2]; simp [hp]
  · rw [h1, if_neg (by omega)]
    exact firstN_at h3 (by omega) h4
theorem cntP_le (f : Nat → Bool) : ∀ n, cntP f n ≤ n
  | 0 => Nat.le_refl _
  | n + 1 => by
    have := cntP_le f n
    simp only [cntP]
    split <;> omega
theorem cpE_rng (l : List ByteArray) (t : Int) (name : ByteArray) (d : Int) {k : Int} (hk : 0 ≤ k) : 0 ≤ cpE l t name d k ∧ cpE l t name d k ≤ k := by
  unfold cpE
  have := cntP_le (tnE l t name d) k.toNat
  omega
theorem cpE_zero (l : List ByteArray) (t : Int) (name : ByteArray) (d : Int) : cpE l t name d 0 = 0 := rfl
theorem fsE_zero (l : List ByteArray) (t : Int) (name : ByteArray) (d : Int) : fsE l t name d 0 = -1 := rfl
theorem round_step (l : List ByteArray) (t : Int) (name : ByteArray) {d k : Int} (hk : 0 ≤ k) (hd : 0 ≤ d) : (tnE l t name d k.toNat = true ∧ cpE l t name d (k + 1) = cpE l t name d k + 1 ∧ ((fsE l t name d k < 0 ∧ fsE l t name d (k + 1) = d + k) ∨ (0 ≤ fsE l t name d k ∧ fsE l t name d (k + 1) = fsE l t name d k))) ∨
    (tnE l t name d k.toNat = false ∧ cpE l t name d (k + 1) = cpE l t name d k ∧ fsE l t name d (k + 1) = fsE l t name d k) := by
  unfold cpE fsE
  rw [toNat_succ hk, firstN_succ]
  have hf : firstN (tnE l t name d) k.toNat = -1 ∨ 0 ≤ firstN (tnE l t name d) k.toNat := by
    rcases firstN_or (tnE l t name d) k.toNat with ⟨h, _⟩ | ⟨i, h, _⟩ <;> omega
  cases hp : tnE l t name d k.toNat with
  | true =>
    left
    refine ⟨rfl, by simp [cntP, hp], ?_⟩
    rcases hf with hf | hf
    · left; simp [hf]; omega
    · right
      have hn : ¬ firstN (tnE l t name d) k.toNat < 0 := by omega
      simp [hn]
      omega
  | false =>
    right
    refine ⟨rfl, by simp [cntP, hp], ?_⟩
    rcases hf with hf | hf
    · simp [hf]
    · rw [if_neg (show ¬ firstN (tnE l t name d) k.toNat < 0 by omega)]
theorem who_turn {l : List ByteArray} {t x : Int} (name : ByteArray) (h : plE t l x = 0) : (whoS t l x == name) = turnAt l t.toNat name x.toNat := by
  rcases plE_spec t l x with ⟨h1, _⟩ | ⟨_, _, h2, h3, h4, h5, h6, h7, h8, _⟩
  · omega
  unfold whoS turnAt
  rw [if_pos h, h8]
  have : ((x / t) % (l.length : Int)).toNat = x.toNat / t.toNat % l.length := by
    have e : ((x.toNat / t.toNat % l.length : Nat) : Int) = (x / t) % (l.length : Int) := by
      rw [Int.natCast_emod, Int.natCast_ediv, Int.toNat_of_nonneg h2, Int.toNat_of_nonneg (by omega)]
    omega
  rw [this]
/-- over a whole round: how many, and the first -/
theorem round_all {l : List ByteArray} {t d : Int} (name : ByteArray) (hm : mayRI t l = 0) (hd : 0 ≤ d) (hd2 : d ≤ 1152921504606846976) :
    cpE l t name d (t * (l.length : Int)) = shV t l name ∧ ((fsE l t name d (t * (l.length : Int)) < 0 ∧ nxE t l d name = 6 ∧ shV t l name = 0) ∨ (0 ≤ fsE l t name d (t * (l.length : Int)) ∧ nxE t l d name = 0 ∧ nxV t l d name = fsE l t name d (t * (l.length : Int)))) := by
  have hp : plE t l d = 0 := by unfold plE; rw [if_pos ⟨hm, hd, hd2⟩]
  rcases plE_spec t l d with ⟨h1, _⟩ | ⟨_, _, h2, h3, h4, h5, h6, h7, h8, _⟩
  · omega
  obtain ⟨T, rfl⟩ : ∃ T : Nat, t = (T : Int) := ⟨t.toNat, by omega⟩
  obtain ⟨D, rfl⟩ : ∃ D : Nat, d = (D : Int) := ⟨d.toNat, by omega⟩
  have hTl : ((T : Int) * (l.length : Int)).toNat = T * l.length := by rw [← Int.natCast_mul, Int.toNat_natCast]
  have hTp : 0 < T := by omega
  cases he : (name == (⟨#[]⟩ : ByteArray)) with
  | true =>
    have htn : tnE l (T : Int) name (D : Int) = fun _ => false := by funext i; unfold tnE; rw [he]; rfl
    have hsh : shV (T : Int) l name = 0 := by unfold shV; rw [if_pos he]
    have hcp : cpE l (T : Int) name (D : Int) ((T : Int) * (l.length : Int)) = 0 := by unfold cpE; rw [htn, cntP_const]; rfl
    have hfs : fsE l (T : Int) name (D : Int) ((T : Int) * (l.length : Int)) = -1 := by
      unfold fsE
      rw [htn, firstN_none (p := fun _ => false) (by simp [noneB])]
      rfl
    refine ⟨by omega, .inl ⟨by omega, ?_, hsh⟩⟩
    rcases nx_emp (T : Int) l (D : Int) name he with ⟨k, _⟩ | ⟨_, k, _⟩
    · exact absurd hp k
    · exact k
  | false =>
    have htn : tnE l (T : Int) name (D : Int) = fun i => turnAt l T name (D + i) := by
      funext i; unfold tnE; rw [he]; rfl
    have hsh : shV (T : Int) l name = (T : Int) * (cntM l name l.length : Int) := by
      unfold shV; rw [he, if_neg (by decide), if_pos hm, Int.mul_comm]
    have hcp : cpE l (T : Int) name (D : Int) ((T : Int) * (l.length : Int)) = shV (T : Int) l name := by
      unfold cpE
      rw [hTl, htn, cnt_round l hTp name D, hsh]
      push_cast
      rfl
    have hnf : nxF (T : Int) l (D : Int) name = firstN (matchAt l (D / T % l.length) name) l.length := by
      unfold nxF
      have : (plS (T : Int) l (D : Int)).toNat = D / T % l.length := by
        rw [h8, ← Int.natCast_ediv, ← Int.natCast_emod, Int.toNat_natCast]
      rw [this]
    have hfn := first_next (l := l) (t := T) (d := D) (name := name) hTp (by omega) hnf.symm
    refine ⟨hcp, ?_⟩
    have hg := nx_spec (T : Int) l (D : Int) name he
    have hdt : (D : Int) % (T : Int) = ((D % T : Nat) : Int) := by rw [Int.natCast_emod]
    rcases hfn with ⟨k1, k2⟩ | ⟨k1, k2, k3⟩
    · left
      have hfs : fsE l (T : Int) name (D : Int) ((T : Int) * (l.length : Int)) = -1 := by unfold fsE; rw [hTl, htn, k2]; rfl
      refine ⟨by omega, by omega, ?_⟩
      rw [← hcp]
      unfold cpE
      rw [hTl, htn]
      have hn : noneB (fun i => turnAt l T name (D + i)) (T * l.length) = true := by
        rcases firstN_or (fun i => turnAt l T name (D + i)) (T * l.length) with ⟨_, q⟩ | ⟨i, q, _⟩
        · exact q
        · omega
      rw [cntP_none hn]
      rfl
    · right
      have hfs : fsE l (T : Int) name (D : Int) ((T : Int) * (l.length : Int)) = (D : Int) + firstN (fun i => turnAt l T name (D + i)) (T * l.length) := by
        unfold fsE; rw [hTl, htn, if_neg (by omega)]
      rw [hfs]
      refine ⟨by omega, by omega, ?_⟩
      rw [hdt] at hg
      split at k2 <;> omega
end Go.Proofs.YtgkpbokipnfddaaDoor
