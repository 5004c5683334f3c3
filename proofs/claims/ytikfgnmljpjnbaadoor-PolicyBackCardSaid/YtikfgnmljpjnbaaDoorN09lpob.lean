/-
 Layer 9's blobs: the mathematics.
-/
import Derived.Test.YtikfgnmljpjnbaaDoorZ6bpob
import Derived.Test.YtikfgnmljpjnbaaDoorN09pob
import Derived.Test.YtikfgnmljpjnbaaDoorE00pob
import Derived.Test.YtikfgnmljpjnbaaDoorLsypob
namespace Go.Proofs.YtikfgnmljpjnbaaDoor
open Go.RowKit Go.Extern.Stop Go.Stop Go.Extern Go.Proofs.YtikfgnmljpjnbaaDoor.Sy
set_option linter.unusedVariables false
set_option linter.unusedSimpArgs false
theorem leV_cons (x : UInt8) (l : List UInt8) : leV (x :: l) = leV l * 256 + x.toNat := by
 unfold leV
 rw [List.reverse_cons, beV_snoc]
theorem numB_add : ∀ (n : Nat) (v k : Int), numB (v + k * 256 ^ n) n = numB v n
 | 0, _, _ => rfl
 | n + 1, v, k => by
   have e : v + k * 256 ^ (n + 1) = v + (k * 256 ^ n) * 256 := by rw [Int.pow_succ, Int.mul_assoc]
   have h1 : (v + k * 256 ^ (n + 1)) % 256 = v % 256 := by rw [e]; omega
   have h2 : (v + k * 256 ^ (n + 1)) / 256 = v / 256 + k * 256 ^ n := by rw [e]; omega
   simp only [numB, h1, h2, numB_add n]
theorem numB_u64 {v : Int} (h0 : -9223372036854775808 ≤ v) (h1 : v ≤ 9223372036854775807) : numB (IntKind.wrap .u64 v) 8 = numB v 8 := by
 have hw : IntKind.wrap .u64 v = v % 18446744073709551616 := rfl
 by_cases h : 0 ≤ v
 · rw [hw, show v % 18446744073709551616 = v by omega]
 · have := numB_add 8 v 1
   rw [show (1 : Int) * 256 ^ 8 = 18446744073709551616 by decide] at this
   rw [hw, show v % 18446744073709551616 = v + 18446744073709551616 by omega, this]
theorem leV_numB : ∀ (n : Nat) (v : Int), 0 ≤ v → v < 256 ^ n → ((leV (byL (numB v n)) : Nat) : Int) = v
 | 0, v, h0, h1 => by
   have : v = 0 := by simp at h1; omega
   subst this; rfl
 | n + 1, v, h0, h1 => by
   have e : (256 : Int) ^ (n + 1) = 256 ^ n * 256 := Int.pow_succ ..
   have hk := leV_numB n (v / 256) (by omega) (by rw [e] at h1; omega)
   show ((leV (UInt8.ofNat (v % 256).toNat :: byL (numB (v / 256) n)) : Nat) : Int) = v
   rw [leV_cons, u8_toNat (by omega) (by omega)]
   omega
theorem getV_app (a b : List UInt8) : getV (a ++ b) a.length = leV a := by
 unfold getV
 rw [if_pos (by simp)]
 simp
theorem rdI_app {v : Int} (h0 : -9223372036854775808 ≤ v) (h1 : v ≤ 9223372036854775807) (b : List UInt8) : rdI (byL (numB v 8) ++ b) = v := by
 have hl : (byL (numB v 8)).length = 8 := by rw [byL_len, numB_len]
 have hg := getV_app (byL (numB v 8)) b
 rw [hl] at hg
 unfold rdI
 rw [hg]
 by_cases h : 0 ≤ v
 · have := leV_numB 8 v h (by rw [show (256 : Int) ^ 8 = 18446744073709551616 by decide]; omega)
   rw [if_pos (by omega)]
   exact this
 · have h2 := numB_add 8 v 1
   rw [show (1 : Int) * 256 ^ 8 = 18446744073709551616 by decide] at h2
   have := leV_numB 8 (v + 18446744073709551616) (by omega) (by rw [show (256 : Int) ^ 8 = 18446744073709551616 by decide]; omega)
   rw [h2] at this
   rw [if_neg (by omega)]
   omega
def rest (X : List UInt8) : Nat → List UInt8 × Bool
 | 0 => (getL (getL (getL X 8) 8) 1, getS (getL (getL X 8) 8) (getS (getL X 8) (getS X false 8) 8) 1)
 | j + 1 => (getL (rest X j).1 8, getS (rest X j).1 (rest X j).2 8)
def hdN (X : List UInt8) : Nat := getV (getL (getL X 8) 8) 1
theorem n8 (v : Int) : (byL (numB v 8)).length = 8 := by rw [byL_len, numB_len]
theorem seal_back {l : List Value} {k : Int} (h : isB l) (h0 : slE l k = 0) : isB (Sy.rows (slV l k)) ∧ (Sy.rows (slV l k)).length = l.length + 9 ∧ blE (Sy.rows (slV l k)) k = 0 ∧ blV (Sy.rows (slV l k)) k = .tuple l.toArray := by
 have hs : 1 ≤ k ∧ k ≤ 6 ∧ l.length ≤ 1024 := by
   rcases sl_spec l k with ⟨a, _⟩ | ⟨a, _⟩ | ⟨_, b, c, d⟩
   · omega
   · omega
   · exact ⟨b, c, d⟩
 obtain ⟨hk1, hk6, hn⟩ := hs
 obtain ⟨S, hS⟩ : ∃ S, S = crcMore 0 (byL (hdB k l.length ++ l)) := ⟨_, rfl⟩
 have e : Sy.rows (slV l k) = hdB k l.length ++ l ++ (sumBytes S).map bV := by
   unfold slV
   rw [if_pos h0, hS]
   rfl
 have e2 : hdB k l.length = [.int .u8 116, .int .u8 109, .int .u8 k, .int .u8 ((l.length : Int) % 256), .int .u8 ((l.length : Int) / 256 % 256)] := rfl
 have hlen : (Sy.rows (slV l k)).length = l.length + 9 := by
   rw [e, e2]
   simp [sumBytes]
 have hB : isB (Sy.rows (slV l k)) := by
   rw [e, e2]
   exact isB.app (isB.app (.cons (by omega) (by omega) (.cons (by omega) (by omega) (.cons (by omega) (by omega) (.cons (by omega) (by omega) (.cons (by omega) (by omega) .nil))))) h) (isB_bV _)
 have g : ∀ j, gB (Sy.rows (slV l k)) j = Go.RowKit.intOf ((hdB k l.length ++ l ++ (sumBytes S).map bV).getD j Go.undef) := fun j => by rw [e]; rfl
 have g0 : gB (Sy.rows (slV l k)) 0 = 116 := by rw [g, e2]; rfl
 have g1 : gB (Sy.rows (slV l k)) 1 = 109 := by rw [g, e2]; rfl
 have g2 : gB (Sy.rows (slV l k)) 2 = k := by rw [g, e2]; rfl
 have g3 : gB (Sy.rows (slV l k)) 3 = (l.length : Int) % 256 := by rw [g, e2]; rfl
 have g4 : gB (Sy.rows (slV l k)) 4 = (l.length : Int) / 256 % 256 := by rw [g, e2]; rfl
 have hkd := kd_spec (Sy.rows (slV l k))
 have ht : (Sy.rows (slV l k)).take ((Sy.rows (slV l k)).length - 4) = hdB k l.length ++ l := by
   rw [hlen, e]
   rw [List.take_append_of_le_length (by rw [e2]; simp)]
   exact List.take_of_length_le (by rw [e2]; simp)
 have hop : opensB (byL (Sy.rows (slV l k))) = true := by
   have hb : byL (Sy.rows (slV l k)) = byL (hdB k l.length ++ l) ++ sumBytes S := by
     rw [e, byL_app, byL_bV]
   rw [hb, hS]
   exact (opens_iff _ _ _ _ _).2 ⟨rfl, rfl, rfl, rfl⟩
 have hoE : opnE (Sy.rows (slV l k)) = 0 := by unfold opnE; rw [if_pos hop]
 have hE : blE (Sy.rows (slV l k)) k = 0 := by
   rcases bl_spec (Sy.rows (slV l k)) k with a | a | a
   · omega
   · exfalso
     rcases hkd with b | b
     · omega
     · omega
   · omega
 refine ⟨hB, hlen, hE, ?_⟩
 unfold blV
 rw [if_pos hE, ht, e2]
 rfl
end Go.Proofs.YtikfgnmljpjnbaaDoor
