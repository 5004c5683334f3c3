/-
 Floats that hold whole numbers, and 1024ths of them, exactly.
-/
import GoSem.Core.Float
import Derived.Laws.FloatArith
import Derived.Laws.ComplexArith
import GoSem.Extern.MathFloor
namespace Go.Proofs.YtjcgmdgkdkfdpaaGreatDoor
open Go Ieee
def IsD (d : Datum) (s : Bool) (m : Nat) (e : Int) : Prop := ∃ k : Nat, d = .number s (m * 2 ^ k) (e - k)
theorem d_least : double.leastPlace = -1074 := rfl
theorem d_bin : double.binade = 4503599627370496 := rfl
theorem d_inf : double.infRung = 9218868437227405312 := rfl
theorem d_sw : double.signWeight = 9223372036854775808 := rfl
theorem d_fb : double.fractionBits = 52 := rfl
theorem log2_mul {m : Nat} (h : m ≠ 0) (k : Nat) : (m * 2 ^ k).log2 = m.log2 + k := by
 have hp : 0 < 2 ^ k := Nat.pow_pos (by decide)
 have h2 : m * 2 ^ k ≠ 0 := Nat.mul_ne_zero h (by omega)
 have a1 : 2 ^ m.log2 ≤ m := (Nat.le_log2 h).1 (Nat.le_refl _)
 have a2 : m < 2 ^ (m.log2 + 1) := (Nat.log2_lt h).1 (Nat.lt_succ_self _)
 have b1 : m.log2 + k ≤ (m * 2 ^ k).log2 := (Nat.le_log2 h2).2 (by rw [Nat.pow_add]; exact Nat.mul_le_mul_right _ a1)
 have b2 : (m * 2 ^ k).log2 < m.log2 + k + 1 := (Nat.log2_lt h2).2 (by
   rw [show m.log2 + k + 1 = m.log2 + 1 + k by omega, Nat.pow_add]; exact Nat.mul_lt_mul_of_pos_right a2 hp)
 omega
theorem shl_one (n : Nat) : 1 <<< n = 2 ^ n := by rw [Nat.shiftLeft_eq, Nat.one_mul]
theorem cut_exact (way : Toward) (neg : Bool) (q drop : Nat) : way.cut neg (q * 2 ^ drop) drop = q := by
 have key : ∀ gap, 0 < gap → (q * 2 ^ drop) % gap = 0 → (q * 2 ^ drop) / gap = q → gap = 1 <<< min drop ((q * 2 ^ drop).log2 + 2) → way.cut neg (q * 2 ^ drop) drop = q := by
   intro gap hg h1 h2 h3
   unfold Toward.cut
   rw [← h3]
   simp only [h1, h2]
   cases way <;> simp [show ¬ gap = 0 by omega]
 by_cases h : drop ≤ (q * 2 ^ drop).log2 + 2
 · refine key (2 ^ drop) (Nat.pow_pos (by decide)) (Nat.mul_mod_left _ _) (Nat.mul_div_cancel _ (Nat.pow_pos (by decide))) ?_
   rw [Nat.min_eq_left h, shl_one]
 · have h0 : q = 0 := by
     apply Decidable.byContradiction
     intro hq
     rw [log2_mul hq] at h
     omega
   subst h0
   refine key _ ?_ ?_ ?_ rfl
   · rw [shl_one]; exact Nat.pow_pos (by decide)
   · simp
   · simp
theorem read_word {s : Bool} {K L : Nat} (h0 : 4503599627370496 ≤ K) (h1 : K < 9007199254740992) (h2 : L ≤ 2045) : double.read (double.word s (L * 4503599627370496 + K)) = .number s K (-1074 + (L : Nat)) := by
 unfold Format.read Format.word
 simp only [d_sw, d_bin, d_inf, d_least]
 have e1 : (if s = true then 9223372036854775808 + (L * 4503599627370496 + K) else L * 4503599627370496 + K) % 9223372036854775808 = L * 4503599627370496 + K := by cases s <;> simp <;> omega
 have e2 : ((if s = true then 9223372036854775808 + (L * 4503599627370496 + K) else L * 4503599627370496 + K) / 9223372036854775808 % 2 == 1) = s := by
   cases s
   · simp; omega
   · simp; omega
 simp only [e1, e2]
 rw [if_neg (by omega), if_pos (by omega)]
 rw [show 4503599627370496 + (L * 4503599627370496 + K) % 4503599627370496 = K by omega, show (L * 4503599627370496 + K) / 4503599627370496 - 1 = L by omega]
theorem read_nearest {s : Bool} {m k : Nat} {e : Int} (hm : m < 9007199254740992) (he : -1000 ≤ e) (he2 : e ≤ 900) : IsD (double.read (double.nearest s (m * 2 ^ k) (e - k))) s m e := by
 by_cases h0 : m = 0
 · subst h0
   have e1 : double.nearest s (0 * 2 ^ k) (e - k) = double.word s 0 := by unfold Format.nearest; rw [Nat.zero_mul, if_pos rfl]
   have e2 : double.read (double.word s 0) = .number s 0 (-1074) := by cases s <;> rfl
   rw [e1, e2]
   refine ⟨(e + 1074).toNat, ?_⟩
   rw [Nat.zero_mul, show e - ((e + 1074).toNat : Int) = -1074 by omega]
 · have hp : 0 < 2 ^ k := Nat.pow_pos (by decide)
   have h2 : m * 2 ^ k ≠ 0 := Nat.mul_ne_zero h0 (by omega)
   have a1 : 2 ^ m.log2 ≤ m := (Nat.le_log2 h0).1 (Nat.le_refl _)
   have a2 : m < 2 ^ (m.log2 + 1) := (Nat.log2_lt h0).1 (Nat.lt_succ_self _)
   have a3 : m.log2 < 53 := (Nat.log2_lt h0).2 hm
   generalize hL : m.log2 = L at a1 a2 a3
   have e1 : max (e - (k : Int) + ((m * 2 ^ k).log2 : Nat) - (double.fractionBits : Nat)) double.leastPlace = e + L - 52 := by
     rw [log2_mul h0, d_fb, d_least, hL]; omega
   have e2 : Toward.even.cut s ((m * 2 ^ k) <<< (e - (k : Int) - (e + L - 52)).toNat) ((e + L - 52) - (e - (k : Int))).toNat = m * 2 ^ (52 - L) := by
     rw [Nat.shiftLeft_eq, Nat.mul_assoc, ← Nat.pow_add]
     rw [show k + (e - (k : Int) - (e + L - 52)).toNat = (52 - L) + ((e + L - 52) - (e - (k : Int))).toNat by omega, Nat.pow_add, ← Nat.mul_assoc]
     exact cut_exact _ _ _ _
   have hK0 : 4503599627370496 ≤ m * 2 ^ (52 - L) := by
     have := Nat.mul_le_mul_right (2 ^ (52 - L)) a1
     rw [← Nat.pow_add, show L + (52 - L) = 52 by omega] at this
     exact this
   have hK1 : m * 2 ^ (52 - L) < 9007199254740992 := by
     have := Nat.mul_lt_mul_of_pos_right a2 (show 0 < 2 ^ (52 - L) from Nat.pow_pos (by decide))
     rw [← Nat.pow_add, show L + 1 + (52 - L) = 53 by omega] at this
     exact this
   have e3 : double.nearest s (m * 2 ^ k) (e - k) = double.word s ((e + L - 52 + 1074).toNat * 4503599627370496 + m * 2 ^ (52 - L)) := by
     unfold Format.nearest
     rw [if_neg h2]
     simp only [e1, e2]
     rw [d_least, d_bin, d_inf, show e + (L : Int) - 52 - -1074 = e + L - 52 + 1074 by omega, Nat.min_eq_left (by omega)]
   rw [e3, read_word hK0 hK1 (by omega)]
   refine ⟨52 - L, ?_⟩
   rw [show (-1074 : Int) + ((e + L - 52 + 1074).toNat : Nat) = e - ((52 - L : Nat) : Int) by omega]
def sgn (s : Bool) (m : Nat) : Int := if s then -(m : Int) else m
def FV (w : Nat) (x : Int) : Prop := ∃ s m, IsD (double.read w) s m 0 ∧ sgn s m = x
theorem fv_write {s : Bool} {m k : Nat} (hm : m < 9007199254740992) : FV (double.write (.number s (m * 2 ^ k) (0 - k))) (sgn s m) :=
 ⟨s, m, read_nearest hm (by decide) (by decide), rfl⟩
theorem fv_int {x : Int} (h0 : -9007199254740992 < x) (h1 : x < 9007199254740992) : FV (FloatKind.f64.nearest x) x := by
 have := fv_write (s := decide (x < 0)) (m := x.natAbs) (k := 0) (by omega)
 have e : sgn (decide (x < 0)) x.natAbs = x := by unfold sgn; split <;> rename_i h <;> simp at h <;> omega
 rw [e] at this
 simp only [Nat.pow_zero, Nat.mul_one, Int.natCast_zero, Int.sub_zero] at this
 exact this
theorem sgn_mul (s t : Bool) (m n : Nat) : sgn (s ^^ t) (m * n) = sgn s m * sgn t n := by
 cases s <;> cases t <;> simp [sgn, Int.natCast_mul, Int.neg_mul, Int.mul_neg]
theorem sgn_abs (s : Bool) (m : Nat) : (sgn s m).natAbs = m := by cases s <;> simp [sgn]
theorem fv_mul {v w : Nat} {x y : Int} (hx : FV v x) (hy : FV w y) (h : (x * y).natAbs < 9007199254740992) : ∃ r, double.mul v w = some r ∧ FV r (x * y) := by
 obtain ⟨s, m, ⟨k, h1⟩, rfl⟩ := hx
 obtain ⟨t, n, ⟨l, h2⟩, rfl⟩ := hy
 have e : ((double.read v).product (double.read w)) = some (.number (s ^^ t) (m * n * 2 ^ (k + l)) (0 - ((k + l : Nat) : Int))) := by
   rw [h1, h2]
   show some _ = some _
   rw [show (0 : Int) - (k : Int) + (0 - (l : Int)) = 0 - ((k + l : Nat) : Int) by omega, show m * 2 ^ k * (n * 2 ^ l) = m * n * 2 ^ (k + l) by rw [Nat.pow_add]; ac_rfl]
 refine ⟨_, by unfold Format.mul; rw [e]; rfl, ?_⟩
 rw [← sgn_mul, sgn_abs] at h
 have := fv_write (s := s ^^ t) (k := k + l) h
 rw [sgn_mul] at this
 exact this
theorem signed_mul (s : Bool) (m k up : Nat) : signed s (m * 2 ^ k) up = sgn s m * 2 ^ (k + up) := by
 unfold signed sgn
 rw [Nat.shiftLeft_eq, Nat.mul_assoc, ← Nat.pow_add]
 cases s <;> simp [Int.natCast_mul, Int.natCast_pow, Int.neg_mul]
theorem fv_sum {s t : Bool} {m n k l : Nat} (h : (sgn s m + sgn t n).natAbs < 9007199254740992) : ∃ d, Datum.sum (.number s (m * 2 ^ k) (0 - k)) (.number t (n * 2 ^ l) (0 - l)) = some d ∧ FV (double.write d) (sgn s m + sgn t n) := by
 refine ⟨_, rfl, ?_⟩
 have e0 : min ((0 : Int) - (k : Int)) (0 - (l : Int)) = 0 - ((max k l : Nat) : Int) := by omega
 rw [e0]
 have e1 : ((0 : Int) - (k : Int) - (0 - ((max k l : Nat) : Int))).toNat = max k l - k := by omega
 have e2 : ((0 : Int) - (l : Int) - (0 - ((max k l : Nat) : Int))).toNat = max k l - l := by omega
 rw [e1, e2, signed_mul, signed_mul, show k + (max k l - k) = max k l by omega, show l + (max k l - l) = max k l by omega, ← Int.add_mul]
 generalize hz : sgn s m + sgn t n = z at h
 have e3 : (z * 2 ^ (max k l)).natAbs = z.natAbs * 2 ^ (max k l) := by rw [Int.natAbs_mul, Int.natAbs_pow]; rfl
 rw [e3]
 have hp : (0 : Int) < 2 ^ (max k l) := Int.pow_pos (by decide)
 generalize hs : (if z * 2 ^ (max k l) = 0 then s && t else decide (z * 2 ^ (max k l) < 0)) = sg
 have e4 : sgn sg z.natAbs = z := by
   by_cases h0 : z = 0
   · subst h0; cases sg <;> rfl
   · have hne : z * 2 ^ (max k l) ≠ 0 := Int.mul_ne_zero h0 (by omega)
     rw [if_neg hne] at hs
     by_cases h1 : z < 0
     · have : z * 2 ^ (max k l) < 0 := Int.mul_neg_of_neg_of_pos h1 hp
       rw [decide_eq_true this] at hs
       subst hs; unfold sgn; simp; omega
     · have : ¬ z * 2 ^ (max k l) < 0 := by have := Int.mul_nonneg (show 0 ≤ z by omega) (Int.le_of_lt hp); omega
       rw [decide_eq_false this] at hs
       subst hs; unfold sgn; simp; omega
 have := fv_write (s := sg) (k := max k l) h
 rw [e4] at this
 exact this
theorem fv_add {v w : Nat} {x y : Int} (hx : FV v x) (hy : FV w y) (h : (x + y).natAbs < 9007199254740992) : ∃ r, double.add v w = some r ∧ FV r (x + y) := by
 obtain ⟨s, m, ⟨k, h1⟩, rfl⟩ := hx
 obtain ⟨t, n, ⟨l, h2⟩, rfl⟩ := hy
 obtain ⟨d, hd, hf⟩ := fv_sum (k := k) (l := l) h
 exact ⟨_, by unfold Format.add; rw [h1, h2, hd]; rfl, hf⟩
theorem fv_sub {v w : Nat} {x y : Int} (hx : FV v x) (hy : FV w y) (h : (x - y).natAbs < 9007199254740992) : ∃ r, double.sub v w = some r ∧ FV r (x - y) := by
 obtain ⟨s, m, ⟨k, h1⟩, rfl⟩ := hx
 obtain ⟨t, n, ⟨l, h2⟩, rfl⟩ := hy
 have e : sgn (!t) n = -sgn t n := by cases t <;> simp [sgn]
 have e' : sgn s m - sgn t n = sgn s m + sgn (!t) n := by rw [e]; omega
 rw [e'] at h ⊢
 obtain ⟨d, hd, hf⟩ := fv_sum (k := k) (l := l) h
 exact ⟨_, by unfold Format.sub; rw [h1, h2]; show Option.map _ (Datum.sum _ (.number (!t) _ _)) = _; rw [hd]; rfl, hf⟩
def FQ (w : Nat) (x : Int) : Prop := ∃ s m, IsD (double.read w) s m (-10) ∧ sgn s m = x
theorem fq_div {v : Nat} {x : Int} (hx : FV v x) (h : x.natAbs < 9007199254740992) : ∃ r, double.div v 0x4090000000000000 = some r ∧ FQ r x := by
 obtain ⟨s, m, ⟨k, h1⟩, rfl⟩ := hx
 rw [sgn_abs] at h
 have e0 : double.read 0x4090000000000000 = .number false (2 ^ 52) (-42) := by decide
 have hl : ((2 : Nat) ^ 52).log2 = 52 := by decide
 generalize hmore : 54 + 52 - (m * 2 ^ k).log2 = more
 have hdv : ∃ q, (m * 2 ^ k) <<< more = q * 2 ^ 52 ∧ q * 2 ^ 52 = m * 2 ^ (k + more) := by
   rw [Nat.shiftLeft_eq, Nat.mul_assoc, ← Nat.pow_add]
   by_cases h0 : m = 0
   · exact ⟨0, by simp [h0], by simp [h0]⟩
   · have a3 : m.log2 < 53 := (Nat.log2_lt h0).2 h
     rw [log2_mul h0] at hmore
     refine ⟨m * 2 ^ (k + more - 52), ?_, ?_⟩ <;> rw [Nat.mul_assoc, ← Nat.pow_add, show k + more - 52 + 52 = k + more by omega]
 obtain ⟨q, hq, hq2⟩ := hdv
 have e : (double.read v).quotient (double.fractionBits + 2) (double.read 0x4090000000000000) = some (.number s (m * 2 ^ (k + more - 51)) (-10 - ((k + more - 51 : Nat) : Int))) ∨ (m = 0 ∧ ∃ p : Nat, (double.read v).quotient (double.fractionBits + 2) (double.read 0x4090000000000000) = some (.number s (0 * 2 ^ p) (-10 - (p : Int)))) := by
   have e2 : (double.read v).quotient (double.fractionBits + 2) (double.read 0x4090000000000000) = some (.number (s ^^ false) (2 * ((m * 2 ^ k) <<< more / 2 ^ 52) + ((m * 2 ^ k) <<< more % 2 ^ 52 != 0).toNat) (0 - (k : Int) - -42 - more - 1)) := by
     rw [h1, e0]
     unfold Datum.quotient
     simp only []
     rw [if_neg (by decide), hl, show double.fractionBits + 2 = 54 from rfl, hmore]
   rw [e2, hq, Nat.mul_div_cancel _ (by decide), Nat.mul_mod_left, Bool.xor_false]
   by_cases h0 : m = 0
   · right
     refine ⟨h0, k + more - 51, ?_⟩
     have hq0 : q = 0 := by
       rw [h0, Nat.zero_mul] at hq2
       omega
     have hk : 51 ≤ k + more := by
       rw [h0, Nat.zero_mul, show (0 : Nat).log2 = 0 from rfl] at hmore
       omega
     subst hq0
     clear hq hq2 hl e2
     have z : (2 * 0 + ((0 : Nat) != 0).toNat) = 0 * 2 ^ (k + more - 51) := by rw [Nat.zero_mul]; rfl
     rw [z]
     refine congrArg (fun p => some (Datum.number s (0 * 2 ^ (k + more - 51)) p)) ?_
     clear z h
     omega
   · left
     have a3 : m.log2 < 53 := (Nat.log2_lt h0).2 h
     rw [log2_mul h0] at hmore
     have hk : 52 ≤ k + more := by omega
     have hq3 : q = m * 2 ^ (k + more - 52) := by
       have : q * 2 ^ 52 = m * 2 ^ (k + more - 52) * 2 ^ 52 := by rw [hq2, Nat.mul_assoc, ← Nat.pow_add, show k + more - 52 + 52 = k + more by omega]
       exact Nat.eq_of_mul_eq_mul_right (by decide) this
     have hz : (2 * q + ((0 : Nat) != 0).toNat) = m * 2 ^ (k + more - 51) := by
       rw [hq3, show k + more - 51 = k + more - 52 + 1 by omega, Nat.pow_succ]
       have : ((0 : Nat) != 0) = false := by decide
       rw [this]
       show 2 * (m * 2 ^ (k + more - 52)) + 0 = _
       rw [Nat.add_zero, Nat.mul_comm 2, Nat.mul_assoc]
     rw [hz, show (0 : Int) - (k : Int) - -42 - more - 1 = -10 - ((k + more - 51 : Nat) : Int) by omega]
 rcases e with e | ⟨h0, p, e⟩
 · exact ⟨_, by unfold Format.div; rw [e]; rfl, s, m, read_nearest h (by decide) (by decide), rfl⟩
 · subst h0
   exact ⟨_, by unfold Format.div; rw [e]; rfl, s, 0, read_nearest h (by decide) (by decide), rfl⟩
theorem cut_floor (s : Bool) (m k : Nat) : sgn s (Toward.down.cut s (m * 2 ^ k) (k + 10)) = sgn s m / 1024 := by
 have key : ∀ gap lo : Nat, (m * 2 ^ k) / gap = lo → gap = 1 <<< min (k + 10) ((m * 2 ^ k).log2 + 2) → lo = m / 1024 → (((m * 2 ^ k) % gap != 0) = (m % 1024 != 0)) → sgn s (Toward.down.cut s (m * 2 ^ k) (k + 10)) = sgn s m / 1024 := by
   intro gap lo h1 h2 h3 h4
   unfold Toward.cut
   rw [← h2]
   simp only [h1, h3, h4]
   cases s
   · simp [sgn]
   · by_cases h : m % 1024 = 0
     · simp [sgn, h]; omega
     · have hb : (m % 1024 != 0) = true := by simp [h]
       rw [hb]
       simp only [sgn, if_true, Bool.and_self, Bool.toNat_true]
       omega
 have hp : 0 < 2 ^ k := Nat.pow_pos (by decide)
 by_cases h : k + 10 ≤ (m * 2 ^ k).log2 + 2
 · refine key (2 ^ k * 1024) _ rfl (by rw [Nat.min_eq_left h, shl_one, Nat.pow_add]) ?_ ?_
   · rw [Nat.mul_comm (2 ^ k), Nat.mul_div_mul_right _ _ hp]
   · rw [Nat.mul_comm (2 ^ k), Nat.mul_mod_mul_right]
     by_cases h0 : m % 1024 = 0
     · simp [h0]
     · have : m % 1024 * 2 ^ k ≠ 0 := Nat.mul_ne_zero h0 (by omega)
       exact (bne_iff_ne.2 this).trans (bne_iff_ne.2 h0).symm
 · by_cases h0 : m = 0
   · subst h0
     refine key _ 0 (by simp) rfl (by simp) (by simp)
   · rw [log2_mul h0] at h
     have a2 : m < 2 ^ (m.log2 + 1) := (Nat.log2_lt h0).1 (Nat.lt_succ_self _)
     have a4 : 2 ^ (m.log2 + 1) ≤ 2 ^ 8 := Nat.pow_le_pow_right (by decide) (by omega)
     have hm : m < 1024 := by omega
     have hlt : m * 2 ^ k < 2 ^ ((m * 2 ^ k).log2 + 2) := by
       rw [log2_mul h0, show m.log2 + k + 2 = m.log2 + 1 + k + 1 by omega, Nat.pow_succ, Nat.pow_add]
       have := Nat.mul_lt_mul_of_pos_right a2 hp
       omega
     have hmin : min (k + 10) ((m * 2 ^ k).log2 + 2) = (m * 2 ^ k).log2 + 2 := by rw [log2_mul h0]; omega
     have hne : m * 2 ^ k ≠ 0 := Nat.mul_ne_zero h0 (by omega)
     refine key (2 ^ ((m * 2 ^ k).log2 + 2)) 0 (Nat.div_eq_of_lt hlt) (by rw [hmin, shl_one]) (by omega) ?_
     rw [Nat.mod_eq_of_lt hlt, Nat.mod_eq_of_lt hm]
     exact (bne_iff_ne.2 hne).trans (bne_iff_ne.2 h0).symm
theorem fq_floor {v : Nat} {x : Int} (hx : FQ v x) (h : x.natAbs < 9007199254740992) : (∃ s m p, FloatKind.f64.decode v = .number s m p) ∧ FV (FloatKind.f64.encode ((FloatKind.f64.decode v).integral .down)) (x / 1024) := by
 obtain ⟨s, m, ⟨k, h1⟩, rfl⟩ := hx
 rw [sgn_abs] at h
 have e0 : FloatKind.f64.decode v = double.read v := rfl
 rw [e0, h1]
 refine ⟨⟨_, _, _, rfl⟩, ?_⟩
 have e1 : (Datum.number s (m * 2 ^ k) (-10 - k)).integral .down = .number s (Toward.down.cut s (m * 2 ^ k) (k + 10)) 0 := by
   unfold Datum.integral
   simp only []
   rw [show (-10 - (k : Int)).toNat = 0 by omega, show (-(-10 - (k : Int))).toNat = k + 10 by omega, Nat.shiftLeft_zero]
 rw [e1]
 have e2 := cut_floor s m k
 generalize hc : Toward.down.cut s (m * 2 ^ k) (k + 10) = c at e2
 have hb : c < 9007199254740992 := by
   have := sgn_abs s c
   have := sgn_abs s m
   omega
 have := fv_write (s := s) (k := 0) hb
 rw [e2] at this
 simp only [Nat.pow_zero, Nat.mul_one, Int.natCast_zero, Int.sub_zero] at this
 exact this
theorem fv_toInt {v : Nat} {x : Int} (hx : FV v x) (h0 : -9223372036854775808 ≤ x) (h1 : x ≤ 9223372036854775807) : floatToIntVal .f64 v .i64 = some x := by
 obtain ⟨s, m, ⟨k, h2⟩, rfl⟩ := hx
 unfold floatToIntVal
 have e0 : FloatKind.f64.decode v = double.read v := rfl
 have e1 : (FloatKind.f64.decode v).toInt .zero = some (sgn s m) := by
   rw [e0, h2]
   unfold Datum.toInt Datum.integral
   simp only []
   rw [show ((0 : Int) - (k : Int)).toNat = 0 by omega, show (-((0 : Int) - (k : Int))).toNat = k by omega, Nat.shiftLeft_zero, cut_exact]
   unfold signed sgn
   simp
 rw [e1]
 simp only []
 rw [if_pos ⟨h0, h1⟩]
end Go.Proofs.YtjcgmdgkdkfdpaaGreatDoor
