/-
  Layer 9's blobs: the mathematics.
-/
import Derived.Test.YtbjgopehomnpgaaDoorZ6bql
import Derived.Test.YtbjgopehomnpgaaDoorN09bql
import Derived.Test.YtbjgopehomnpgaaDoorLsyql
namespace Go.Proofs.YtbjgopehomnpgaaDoor
open Go.RowKit Go.Extern.Stop Go.Stop Go.Extern Go.Proofs.YtbjgopehomnpgaaDoor.Sy
set_option linter.unusedVariables false
set_option linter.unusedSimpArgs false
theorem leV_cons (x : UInt8) (l : List UInt8) : leV (x :: l) = leV l * 256 + x.toNat := by
  unfold leV
  rw [List.reverse_cons, beV_snoc]
theorem numB_add : ∀ (n : Nat) (v k : Int), numB (v + k * 256 ^ n) n = numB v n
  | 0, _, _ => rfl
  | n + 1, v, k => by
    have e : v + k * 256 ^ (n + 1) = v + (k * 256 ^ n) * 256 := by rw [Int.pow_succ, Int.mul_assoc]
    have h1 : (v + k * 256 ^ (n + 1)) % 256 = v % 256 := by rw [e]; omega
    have h2 : (v + k * 256 ^ (n + 1)) / 256 = v / 256 + k * 256 ^ n := by rw [e]; omega
    simp only [numB, h1, h2, numB_add n]
theorem numB_u64 {v : Int} (h0 : -9223372036854775808 ≤ v) (h1 : v ≤ 9223372036854775807) : numB (IntKind.wrap .u64 v) 8 = numB v 8 := by
  have hw : IntKind.wrap .u64 v = v % 18446744073709551616 := rfl
  by_cases h : 0 ≤ v
  · rw [hw, show v % 18446744073709551616 = v by omega]
  · have := numB_add 8 v 1
    rw [show (1 : Int) * 256 ^ 8 = 18446744073709551616 by decide] at this
    rw [hw, show v % 18446744073709551616 = v + 18446744073709551616 by omega, this]
theorem leV_numB : ∀ (n : Nat) (v : Int), 0 ≤ v → v < 256 ^ n → ((leV (byL (numB v n)) : Nat) : Int) = v
  | 0, v, h0, h1 => by
    have : v = 0 := by simp at h1; omega
    subst this; rfl
  | n + 1, v, h0, h1 => by
    have e : (256 : Int) ^ (n + 1) = 256 ^ n * 256 := Int.pow_succ ..
    have hk := leV_numB n (v / 256) (by omega) (by rw [e] at h1; omega)
    show ((leV (UInt8.ofNat (v % 256).toNat :: byL (numB (v / 256) n)) : Nat) : Int) = v
    rw [leV_cons, u8_toNat (by omega) (by omega)]
    omega
theorem getL_app (a b : List UInt8) : getL (a ++ b) a.length = b := by
  unfold getL
  rw [if_pos (by simp)]
  simp
theorem getV_app (a b : List UInt8) : getV (a ++ b) a.length = leV a := by
  unfold getV
  rw [if_pos (by simp)]
  simp
theorem rdI_app {v : Int} (h0 : -9223372036854775808 ≤ v) (h1 : v ≤ 9223372036854775807) (b : List UInt8) : rdI (byL (numB v 8) ++ b) = v := by
  have hl : (byL (numB v 8)).length = 8 := by rw [byL_len, numB_len]
  have hg := getV_app (byL (numB v 8)) b
  rw [hl] at hg
  unfold rdI
  rw [hg]
  by_cases h : 0 ≤ v
  · have := leV_numB 8 v h (by rw [show (256 : Int) ^ 8 = 18446744073709551616 by decide]; omega)
    rw [if_pos (by omega)]
    exact this
  · have h2 := numB_add 8 v 1
    rw [show (1 : Int) * 256 ^ 8 = 18446744073709551616 by decide] at h2
    have := leV_numB 8 (v + 18446744073709551616) (by omega) (by rw [show (256 : Int) ^ 8 = 18446744073709551616 by decide]; omega)
    rw [h2] at this
    rw [if_neg (by omega)]
    omega
def rest (X : List UInt8) : Nat → List UInt8 × Bool
  | 0 => (getL (getL (getL X 8) 8) 1, getS (getL (getL X 8) 8) (getS (getL X 8) (getS X false 8) 8) 1)
  | j + 1 => (getL (rest X j).1 8, getS (rest X j).1 (rest X j).2 8)
theorem rest_eq (X : List UInt8) : ∀ j, rest X j = if 17 + 8 * j ≤ X.length then (X.drop (17 + 8 * j), false) else ([], true)
  | 0 => by
    unfold rest getL getS
    by_cases h1 : 8 ≤ X.length
    · rw [if_pos h1, if_pos h1]
      by_cases h2 : 16 ≤ X.length
      · have e2 : 8 ≤ (X.drop 8).length := by simp; omega
        rw [if_pos e2, if_pos e2, List.drop_drop]
        by_cases h3 : 17 ≤ X.length
        · have e3 : 1 ≤ (X.drop (8 + 8)).length := by simp; omega
          rw [if_pos e3, if_pos e3, List.drop_drop, if_pos (by omega)]
        · have e3 : ¬ 1 ≤ (X.drop (8 + 8)).length := by simp; omega
          rw [if_neg e3, if_neg e3, if_neg (show ¬ 17 + 8 * 0 ≤ X.length by omega)]
      · have e2 : ¬ 8 ≤ (X.drop 8).length := by simp; omega
        rw [if_neg e2, if_neg e2, if_neg (show ¬ 17 + 8 * 0 ≤ X.length by omega)]
        simp
    · rw [if_neg h1, if_neg h1, if_neg (show ¬ 17 + 8 * 0 ≤ X.length by omega)]
      simp
  | j + 1 => by
    show (getL (rest X j).1 8, getS (rest X j).1 (rest X j).2 8) = _
    rw [rest_eq X j]
    unfold getL getS
    by_cases h1 : 17 + 8 * j ≤ X.length
    · rw [if_pos h1]
      by_cases h2 : 17 + 8 * (j + 1) ≤ X.length
      · have e2 : 8 ≤ (X.drop (17 + 8 * j)).length := by simp; omega
        rw [if_pos e2, if_pos e2, List.drop_drop, if_pos h2, show 17 + 8 * j + 8 = 17 + 8 * (j + 1) by omega]
      · have e2 : ¬ 8 ≤ (X.drop (17 + 8 * j)).length := by simp; omega
        rw [if_neg e2, if_neg e2, if_neg h2]
    · rw [if_neg h1, if_neg (show ¬ 17 + 8 * (j + 1) ≤ X.length by omega)]
      simp
def hdN (X : List UInt8) : Nat := getV (getL (getL X 8) 8) 1
def hdBs (X : List UInt8) : Int := rdI X
def hdT (X : List UInt8) : Int := rdI (getL X 8)
def numsX (X : List UInt8) : Nat → List Int
  | 0 => []
  | j + 1 => numsX X j ++ [rdI (rest X j).1]
def rowsI (l : List Int) : Value := .tuple (l.map fun d => Value.int .i64 d).toArray
theorem rowsI_rows (l : List Int) : Sy.rows (rowsI l) = l.map fun d => Value.int .i64 d := rfl
theorem ints_rowsI (l : List Int) : intsOf (rowsI l) = l := by
  unfold intsOf
  rw [rowsI_rows, List.map_map]
  exact (List.map_congr_left fun x _ => rfl).trans (List.map_id _)
theorem rowsI_snoc (l : List Int) (d : Int) : Value.tuple (Sy.rows (rowsI l) ++ [Value.int .i64 d]).toArray = rowsI (l ++ [d]) := by
  unfold rowsI
  rw [List.map_append]
  rfl
theorem numsX_len (X : List UInt8) : ∀ j, (numsX X j).length = j
  | 0 => rfl
  | j + 1 => by simp [numsX, numsX_len X j]
theorem hdN_lt (X : List UInt8) : hdN X ≤ 255 := by
  have := getV_lt (getL (getL X 8) 8) 1
  unfold hdN
  omega
theorem done_rest (X : List UInt8) : dnE (rest X (hdN X)).1 (rest X (hdN X)).2 = if X.length = 17 + 8 * hdN X then 0 else 3 := by
  rw [rest_eq]
  unfold dnE
  by_cases h : 17 + 8 * hdN X ≤ X.length
  · rw [if_pos h]
    by_cases h2 : X.length = 17 + 8 * hdN X
    · rw [if_pos h2, if_neg (by simp; omega)]
    · rw [if_neg h2, if_pos (by right; simp; omega)]
  · rw [if_neg h, if_neg (show ¬ X.length = 17 + 8 * hdN X by omega), if_pos (.inl rfl)]
def encB (b t : Int) (l : List Int) (n : Nat) : List Value := numB b 8 ++ (numB t 8 ++ ([.int .u8 ((l.length : Int) % 256)] ++ (l.take n).flatMap fun d => numB d 8))
theorem encB_succ {b t d : Int} {l : List Int} {n : Nat} (h : l[n]? = some d) : encB b t l (n + 1) = encB b t l n ++ numB d 8 := by
  unfold encB
  rw [take_more h, List.flatMap_append]
  simp
theorem isB_enc (b t : Int) (l : List Int) (n : Nat) : isB (encB b t l n) := by
  unfold encB
  refine isB.app (isB_numB _ _) (isB.app (isB_numB _ _) (isB.app (.cons (by omega) (by omega) .nil) ?_))
  intro x hx
  obtain ⟨d, _, hx⟩ := List.mem_flatMap.1 hx
  exact isB_numB _ _ x hx
theorem flat8_len (z : List Int) : (z.flatMap fun d => numB d 8).length = 8 * z.length := by
  induction z with
  | nil => rfl
  | cons a r ih => rw [List.flatMap_cons, List.length_append, numB_len, ih, List.length_cons]; omega
theorem enc_len (b t : Int) (l : List Int) (n : Nat) : (encB b t l n).length = 17 + 8 * (l.take n).length := by
  unfold encB
  rw [List.length_append, List.length_append, List.length_append, numB_len, numB_len, flat8_len]
  simp only [List.length_cons, List.length_nil]
  omega
theorem byL_enc (b t : Int) (l : List Int) : byL (encB b t l l.length) = byL (numB b 8) ++ (byL (numB t 8) ++ ([UInt8.ofNat ((l.length : Int) % 256).toNat] ++ byL (l.flatMap fun d => numB d 8))) := by
  unfold encB
  rw [List.take_length, byL_app, byL_app, byL_app]
  rfl
theorem n8 (v : Int) : (byL (numB v 8)).length = 8 := by rw [byL_len, numB_len]
theorem enc_back {b t : Int} {l : List Int} (hb : -9223372036854775808 ≤ b ∧ b ≤ 9223372036854775807) (ht : -9223372036854775808 ≤ t ∧ t ≤ 9223372036854775807) (hl : ∀ d ∈ l, -9223372036854775808 ≤ d ∧ d ≤ 9223372036854775807) (hn : l.length ≤ 32) :
    hdBs (byL (encB b t l l.length)) = b ∧ hdT (byL (encB b t l l.length)) = t ∧ hdN (byL (encB b t l l.length)) = l.length ∧ (byL (encB b t l l.length)).length = 17 + 8 * l.length ∧ numsX (byL (encB b t l l.length)) l.length = l := by
  have hX := byL_enc b t l
  have hL : (byL (encB b t l l.length)).length = 17 + 8 * l.length := by rw [byL_len, enc_len, List.take_length]
  have g1 : getL (byL (encB b t l l.length)) 8 = byL (numB t 8) ++ ([UInt8.ofNat ((l.length : Int) % 256).toNat] ++ byL (l.flatMap fun d => numB d 8)) := by
    rw [hX]
    have := getL_app (byL (numB b 8)) (byL (numB t 8) ++ ([UInt8.ofNat ((l.length : Int) % 256).toNat] ++ byL (l.flatMap fun d => numB d 8)))
    rw [n8] at this
    exact this
  have g2 : getL (getL (byL (encB b t l l.length)) 8) 8 = [UInt8.ofNat ((l.length : Int) % 256).toNat] ++ byL (l.flatMap fun d => numB d 8) := by
    rw [g1]
    have := getL_app (byL (numB t 8)) ([UInt8.ofNat ((l.length : Int) % 256).toNat] ++ byL (l.flatMap fun d => numB d 8))
    rw [n8] at this
    exact this
  have hn8 : ((l.length : Int) % 256).toNat = l.length := by omega
  have hN : hdN (byL (encB b t l l.length)) = l.length := by
    unfold hdN
    rw [g2, hn8]
    have := getV_app [UInt8.ofNat l.length] (byL (l.flatMap fun d => numB d 8))
    rw [show [UInt8.ofNat l.length].length = 1 from rfl] at this
    rw [this, leV_cons]
    have e0 : leV [] = 0 := rfl
    rw [e0]
    simp
    omega
  have hd : ∀ j, j ≤ l.length → (rest (byL (encB b t l l.length)) j).1 = byL ((l.drop j).flatMap fun d => numB d 8) := by
    intro j
    induction j with
    | zero =>
      intro _
      show getL (getL (getL (byL (encB b t l l.length)) 8) 8) 1 = _
      rw [g2]
      exact getL_app [UInt8.ofNat ((l.length : Int) % 256).toNat] _
    | succ j ih =>
      intro hj
      show getL (rest (byL (encB b t l l.length)) j).1 8 = _
      rw [ih (by omega)]
      have hc : l.drop j = l[j] :: l.drop (j + 1) := (List.drop_eq_getElem_cons (by omega))
      rw [hc, List.flatMap_cons, byL_app]
      have := getL_app (byL (numB l[j] 8)) (byL ((l.drop (j + 1)).flatMap fun d => numB d 8))
      rw [n8] at this
      exact this
  have hm : ∀ j, j ≤ l.length → numsX (byL (encB b t l l.length)) j = l.take j := by
    intro j
    induction j with
    | zero => intro _; rfl
    | succ j ih =>
      intro hj
      have hc : l.drop j = l[j] :: l.drop (j + 1) := (List.drop_eq_getElem_cons (by omega))
      have hin := hl l[j] (List.getElem_mem _)
      show numsX _ j ++ [rdI (rest _ j).1] = _
      rw [ih (by omega), hd j (by omega), hc, List.flatMap_cons, byL_app, rdI_app hin.1 hin.2]
      rw [List.take_succ_eq_append_getElem (by omega)]
  refine ⟨?_, ?_, hN, hL, by rw [hm _ (Nat.le_refl _), List.take_length]⟩
  · unfold hdBs
    rw [hX]
    exact rdI_app hb.1 hb.2 _
  · unfold hdT
    rw [g1]
    exact rdI_app ht.1 ht.2 _
theorem take8_val {l : List Value} (h : isB l) (h8 : 8 ≤ l.length) : ((getV (byL l) 8 : Nat) : Int) = gB l 0 + 256 * (gB l 1 + 256 * (gB l 2 + 256 * (gB l 3 + 256 * (gB l 4 + 256 * (gB l 5 + 256 * (gB l 6 + 256 * gB l 7)))))) := by
  match l, h8 with
  | x0 :: x1 :: x2 :: x3 :: x4 :: x5 :: x6 :: x7 :: r, _ =>
    obtain ⟨n0, rfl, a0, b0⟩ := h x0 (by simp)
    obtain ⟨n1, rfl, a1, b1⟩ := h x1 (by simp)
    obtain ⟨n2, rfl, a2, b2⟩ := h x2 (by simp)
    obtain ⟨n3, rfl, a3, b3⟩ := h x3 (by simp)
    obtain ⟨n4, rfl, a4, b4⟩ := h x4 (by simp)
    obtain ⟨n5, rfl, a5, b5⟩ := h x5 (by simp)
    obtain ⟨n6, rfl, a6, b6⟩ := h x6 (by simp)
    obtain ⟨n7, rfl, a7, b7⟩ := h x7 (by simp)
    have hL : getV (byL (.int .u8 n0 :: .int .u8 n1 :: .int .u8 n2 :: .int .u8 n3 :: .int .u8 n4 :: .int .u8 n5 :: .int .u8 n6 :: .int .u8 n7 :: r)) 8 = leV [UInt8.ofNat n0.toNat, UInt8.ofNat n1.toNat, UInt8.ofNat n2.toNat, UInt8.ofNat n3.toNat, UInt8.ofNat n4.toNat, UInt8.ofNat n5.toNat, UInt8.ofNat n6.toNat, UInt8.ofNat n7.toNat] := by
      unfold getV
      rw [if_pos (by simp [byL])]
      rfl
    have e0 : leV [] = 0 := rfl
    rw [hL]
    simp only [leV_cons, u8_toNat a0 b0, u8_toNat a1 b1, u8_toNat a2 b2, u8_toNat a3 b3, u8_toNat a4 b4, u8_toNat a5 b5, u8_toNat a6 b6, u8_toNat a7 b7, e0]
    show _ = n0 + 256 * (n1 + 256 * (n2 + 256 * (n3 + 256 * (n4 + 256 * (n5 + 256 * (n6 + 256 * n7))))))
    omega
theorem take1_val {l : List Value} (h : isB l) (h1 : 1 ≤ l.length) : ((getV (byL l) 1 : Nat) : Int) = gB l 0 := by
  match l, h1 with
  | x0 :: r, _ =>
    obtain ⟨n0, rfl, a0, b0⟩ := h x0 (by simp)
    have hL : getV (byL (.int .u8 n0 :: r)) 1 = leV [UInt8.ofNat n0.toNat] := by
      unfold getV
      rw [if_pos (by simp [byL])]
      rfl
    have e0 : leV [] = 0 := rfl
    rw [hL]
    simp only [leV_cons, u8_toNat a0 b0, e0]
    show _ = n0
    omega
theorem getL_map {l : List Value} (h : isB l) {k : Nat} (hk : k ≤ l.length) : (getL (byL l) k).map bV = l.drop k := by
  unfold getL
  rw [if_pos (by rw [byL_len]; exact hk), ← byL_drop, (isB.drop h k).by]
theorem getL_byL {l : List Value} {k : Nat} (hk : k ≤ l.length) : getL (byL l) k = byL (l.drop k) := by
  unfold getL
  rw [if_pos (by rw [byL_len]; exact hk), byL_drop]
theorem hdN_gB {l : List Value} (h : isB l) (h17 : 17 ≤ l.length) : (hdN (byL l) : Int) = gB l 16 := by
  unfold hdN
  rw [getL_byL (by omega), getL_byL (by simp; omega), List.drop_drop, take1_val (isB.drop h _) (by simp; omega), ← gB_drop]
theorem seal_back {l : List Value} {k : Int} (h : isB l) (h0 : slE l k = 0) : isB (Sy.rows (slV l k)) ∧ (Sy.rows (slV l k)).length = l.length + 9 ∧ blE (Sy.rows (slV l k)) k = 0 ∧ blV (Sy.rows (slV l k)) k = .tuple l.toArray := by
  have hs : 1 ≤ k ∧ k ≤ 6 ∧ l.length ≤ 1024 := by
    rcases sl_spec l k with ⟨a, _⟩ | ⟨a, _⟩ | ⟨_, b, c, d⟩
    · omega
    · omega
    · exact ⟨b, c, d⟩
  obtain ⟨hk1, hk6, hn⟩ := hs
  obtain ⟨S, hS⟩ : ∃ S, S = crcMore 0 (byL (hdB k l.length ++ l)) := ⟨_, rfl⟩
  have e : Sy.rows (slV l k) = hdB k l.length ++ l ++ (sumBytes S).map bV := by
    unfold slV
    rw [if_pos h0, hS]
    rfl
  have e2 : hdB k l.length = [.int .u8 116, .int .u8 109, .int .u8 k, .int .u8 ((l.length : Int) % 256), .int .u8 ((l.length : Int) / 256 % 256)] := rfl
  have hlen : (Sy.rows (slV l k)).length = l.length + 9 := by
    rw [e, e2]
    simp [sumBytes]
  have hB : isB (Sy.rows (slV l k)) := by
    rw [e, e2]
    exact isB.app (isB.app (.cons (by omega) (by omega) (.cons (by omega) (by omega) (.cons (by omega) (by omega) (.cons (by omega) (by omega) (.cons (by omega) (by omega) .nil))))) h) (isB_bV _)
  have g : ∀ j, gB (Sy.rows (slV l k)) j = Go.RowKit.intOf ((hdB k l.length ++ l ++ (sumBytes S).map bV).getD j Go.undef) := fun j => by rw [e]; rfl
  have g0 : gB (Sy.rows (slV l k)) 0 = 116 := by rw [g, e2]; rfl
  have g1 : gB (Sy.rows (slV l k)) 1 = 109 := by rw [g, e2]; rfl
  have g2 : gB (Sy.rows (slV l k)) 2 = k := by rw [g, e2]; rfl
  have g3 : gB (Sy.rows (slV l k)) 3 = (l.length : Int) % 256 := by rw [g, e2]; rfl
  have g4 : gB (Sy.rows (slV l k)) 4 = (l.length : Int) / 256 % 256 := by rw [g, e2]; rfl
  have hkd := kd_spec (Sy.rows (slV l k))
  have ht : (Sy.rows (slV l k)).take ((Sy.rows (slV l k)).length - 4) = hdB k l.length ++ l := by
    rw [hlen, e]
    rw [List.take_append_of_le_length (by rw [e2]; simp)]
    exact List.take_of_length_le (by rw [e2]; simp)
  have hop : opensB (byL (Sy.rows (slV l k))) = true := by
    have hb : byL (Sy.rows (slV l k)) = byL (hdB k l.length ++ l) ++ sumBytes S := by
      rw [e, byL_app, byL_bV]
    rw [hb, hS]
    exact (opens_iff _ _ _ _ _).2 ⟨rfl, rfl, rfl, rfl⟩
  have hoE : opnE (Sy.rows (slV l k)) = 0 := by unfold opnE; rw [if_pos hop]
  have hE : blE (Sy.rows (slV l k)) k = 0 := by
    rcases bl_spec (Sy.rows (slV l k)) k with a | a | a
    · omega
    · exfalso
      rcases hkd with b | b
      · omega
      · omega
    · omega
  refine ⟨hB, hlen, hE, ?_⟩
  unfold blV
  rw [if_pos hE, ht, e2]
  rfl
end Go.Proofs.YtbjgopehomnpgaaDoor
