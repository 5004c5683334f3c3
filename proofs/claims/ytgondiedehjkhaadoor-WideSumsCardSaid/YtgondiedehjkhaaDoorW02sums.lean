/-
 math/bits.Len64, LeadingZeros64, Div64.
-/
import Derived.Test.YtgondiedehjkhaaDoorW01sums
import Derived.Test.YtgondiedehjkhaaDoorWmsums
import Derived.Deep.CutBlock
import Derived.Deep.CutRange
import Derived.Laws.ShiftsVarLaws
namespace Go.Proofs.YtgondiedehjkhaaDoor
open Go.RowKit Go.Extern.Stop Go.Stop Go.Extern
set_option linter.unusedVariables false
set_option linter.unusedSimpArgs false
def len8tab : ByteArray := ⟨#[0, 1, 2, 2, 3, 3, 3, 3, 4, 4, 4, 4, 4, 4, 4, 4, 5, 5, 5, 5, 5, 5, 5, 5, 5, 5, 5, 5, 5, 5, 5, 5,
 6, 6, 6, 6, 6, 6, 6, 6, 6, 6, 6, 6, 6, 6, 6, 6, 6, 6, 6, 6, 6, 6, 6, 6, 6, 6, 6, 6, 6, 6, 6, 6,
 7, 7, 7, 7, 7, 7, 7, 7, 7, 7, 7, 7, 7, 7, 7, 7, 7, 7, 7, 7, 7, 7, 7, 7, 7, 7, 7, 7, 7, 7, 7, 7,
 7, 7, 7, 7, 7, 7, 7, 7, 7, 7, 7, 7, 7, 7, 7, 7, 7, 7, 7, 7, 7, 7, 7, 7, 7, 7, 7, 7, 7, 7, 7, 7,
 8, 8, 8, 8, 8, 8, 8, 8, 8, 8, 8, 8, 8, 8, 8, 8, 8, 8, 8, 8, 8, 8, 8, 8, 8, 8, 8, 8, 8, 8, 8, 8,
 8, 8, 8, 8, 8, 8, 8, 8, 8, 8, 8, 8, 8, 8, 8, 8, 8, 8, 8, 8, 8, 8, 8, 8, 8, 8, 8, 8, 8, 8, 8, 8,
 8, 8, 8, 8, 8, 8, 8, 8, 8, 8, 8, 8, 8, 8, 8, 8, 8, 8, 8, 8, 8, 8, 8, 8, 8, 8, 8, 8, 8, 8, 8, 8,
 8, 8, 8, 8, 8, 8, 8, 8, 8, 8, 8, 8, 8, 8, 8, 8, 8, 8, 8, 8, 8, 8, 8, 8, 8, 8, 8, 8, 8, 8, 8, 8]⟩
set_option maxRecDepth 100000 in
theorem len8_all : ∀ b : Fin 256, b.val ≠ 0 → 1 ≤ (len8tab.data.getD b.val 0).toNat ∧ (len8tab.data.getD b.val 0).toNat ≤ 8 ∧ 2 ^ ((len8tab.data.getD b.val 0).toNat - 1) ≤ b.val ∧ b.val < 2 ^ (len8tab.data.getD b.val 0).toNat := by decide
theorem len8_get (b : Nat) (h : b < len8tab.size) : len8tab[b] = len8tab.data.getD b 0 := by
 have h' : b < len8tab.data.size := h
 unfold Array.getD
 rw [dif_pos h']; rfl
theorem len_fin (k : Nat) (P x y : Int) (hk : k ≤ 56) (hP : P = 2 ^ k) (h1 : 1 ≤ y) (h2 : y < 256) (h3 : y * P ≤ x) (h4 : x < y * P + P) (h : y.toNat < len8tab.size) :
   ∃ n : Nat, 1 ≤ n ∧ n ≤ 64 ∧ 2 ^ (n - 1) ≤ x ∧ x < 2 ^ n ∧ wrap64 ((k : Int) + wrap64 (((len8tab[y.toNat]'h).toNat : Nat) : Int)) = (n : Int) := by
 rw [len8_get]
 obtain ⟨a1, a2, a3, a4⟩ := len8_all ⟨y.toNat, by omega⟩ (by simp; omega)
 simp only [] at a1 a2 a3 a4
 generalize (len8tab.data.getD y.toNat 0).toNat = l at *
 have hp : (0 : Int) < P := by rw [hP]; exact Int.pow_pos (by omega)
 have b3 : ((2 : Int) ^ (l - 1)) ≤ y := by
   have : ((2 ^ (l - 1) : Nat) : Int) ≤ ((y.toNat : Nat) : Int) := Int.ofNat_le.2 a3
   rw [Int.natCast_pow, show ((2 : Nat) : Int) = 2 from rfl] at this; omega
 have b4 : y + 1 ≤ (2 : Int) ^ l := by
   have : ((y.toNat : Nat) : Int) < ((2 ^ l : Nat) : Int) := Int.ofNat_lt.2 a4
   rw [Int.natCast_pow, show ((2 : Nat) : Int) = 2 from rfl] at this; omega
 refine ⟨k + l, by omega, by omega, ?_, ?_, ?_⟩
 · have : k + l - 1 = (l - 1) + k := by omega
   rw [this, Int.pow_add, ← hP]
   have := Int.mul_le_mul_of_nonneg_right b3 (Int.le_of_lt hp)
   omega
 · rw [Nat.add_comm, Int.pow_add, ← hP]
   have := Int.mul_le_mul_of_nonneg_right b4 (Int.le_of_lt hp)
   rw [Int.add_mul, Int.one_mul] at this
   omega
 · rw [IntWalk.wrap64_in (l : Int) (by omega), IntWalk.wrap64_in _ (by omega)]; omega
theorem len_fin0 (x : Int) (h1 : 1 ≤ x) (h2 : x < 256) (h : x.toNat < len8tab.size) :
   ∃ n : Nat, 1 ≤ n ∧ n ≤ 64 ∧ 2 ^ (n - 1) ≤ x ∧ x < 2 ^ n ∧ wrap64 (wrap64 (((len8tab[x.toNat]'h).toNat : Nat) : Int)) = (n : Int) := by
 obtain ⟨n, a1, a2, a3, a4, a5⟩ := len_fin 0 1 x x (by omega) (by decide) h1 h2 (by omega) (by omega) h
 refine ⟨n, a1, a2, a3, a4, ?_⟩
 rw [← a5]; congr 1; omega
set_option maxRecDepth 100000 in
set_option maxHeartbeats 4000000 in
theorem len64 (x : Int) (w : World) (h0 : 1 ≤ x) (h1 : x < 18446744073709551616) : Calls Tryd.prog 173 #[.int .u64 x] w fun e w' => (∃ n : Nat, 1 ≤ n ∧ n ≤ 64 ∧ 2 ^ (n - 1) ≤ x ∧ x < 2 ^ n ∧ e = .returned (.int .i64 n)) ∧ w = w' := by
 go_enter Tryd.func173, Tryd.ntmps173
 go_wp2_with (fail)
 all_goals go_ret
 all_goals refine ⟨?_, rfl⟩
 all_goals go_simp
 · exact len_fin 56 72057594037927936 x _ (by omega) (by decide) (by omega) (by omega) (by omega) (by omega) _
 · exact len_fin 48 281474976710656 x _ (by omega) (by decide) (by omega) (by omega) (by omega) (by omega) _
 · exact len_fin 40 1099511627776 x _ (by omega) (by decide) (by omega) (by omega) (by omega) (by omega) _
 · exact len_fin 32 4294967296 x _ (by omega) (by decide) (by omega) (by omega) (by omega) (by omega) _
 · exact len_fin 24 16777216 x _ (by omega) (by decide) (by omega) (by omega) (by omega) (by omega) _
 · exact len_fin 16 65536 x _ (by omega) (by decide) (by omega) (by omega) (by omega) (by omega) _
 · exact len_fin 8 256 x _ (by omega) (by decide) (by omega) (by omega) (by omega) (by omega) _
 · exact len_fin0 x h0 (by omega) _
end Go.Proofs.YtgondiedehjkhaaDoor
