/-
 Layer 9's blobs: the mathematics.
-/
import Derived.Test.YtikfgnmljpjnbaaDoorZ6bbbk
import Derived.Test.YtikfgnmljpjnbaaDoorN09bbk
import Derived.Test.YtikfgnmljpjnbaaDoorE00bbk
import Derived.Test.YtikfgnmljpjnbaaDoorSyobbk
namespace Go.Proofs.YtikfgnmljpjnbaaDoor
open Go.RowKit Go.Extern.Stop Go.Stop Go.Extern Go.Proofs.YtikfgnmljpjnbaaDoor.Sy
set_option linter.unusedVariables false
set_option linter.unusedSimpArgs false
def rest (X : List UInt8) : Nat → List UInt8 × Bool
 | 0 => (getL (getL (getL X 8) 8) 1, getS (getL (getL X 8) 8) (getS (getL X 8) (getS X false 8) 8) 1)
 | j + 1 => (getL (rest X j).1 8, getS (rest X j).1 (rest X j).2 8)
theorem n8 (v : Int) : (byL (numB v 8)).length = 8 := by rw [byL_len, numB_len]
theorem seal_back {l : List Value} {k : Int} (h : isB l) (h0 : slE l k = 0) : isB (Sy.rows (slV l k)) ∧ (Sy.rows (slV l k)).length = l.length + 9 ∧ blE (Sy.rows (slV l k)) k = 0 ∧ blV (Sy.rows (slV l k)) k = .tuple l.toArray := by
 have hs : 1 ≤ k ∧ k ≤ 6 ∧ l.length ≤ 1024 := by
   rcases sl_spec l k with ⟨a, _⟩ | ⟨a, _⟩ | ⟨_, b, c, d⟩
   · omega
   · omega
   · exact ⟨b, c, d⟩
 obtain ⟨hk1, hk6, hn⟩ := hs
 obtain ⟨S, hS⟩ : ∃ S, S = crcMore 0 (byL (hdB k l.length ++ l)) := ⟨_, rfl⟩
 have e : Sy.rows (slV l k) = hdB k l.length ++ l ++ (sumBytes S).map bV := by
   unfold slV
   rw [if_pos h0, hS]
   rfl
 have e2 : hdB k l.length = [.int .u8 116, .int .u8 109, .int .u8 k, .int .u8 ((l.length : Int) % 256), .int .u8 ((l.length : Int) / 256 % 256)] := rfl
 have hlen : (Sy.rows (slV l k)).length = l.length + 9 := by
   rw [e, e2]
   simp [sumBytes]
 have hB : isB (Sy.rows (slV l k)) := by
   rw [e, e2]
   exact isB.app (isB.app (.cons (by omega) (by omega) (.cons (by omega) (by omega) (.cons (by omega) (by omega) (.cons (by omega) (by omega) (.cons (by omega) (by omega) .nil))))) h) (isB_bV _)
 have g : ∀ j, gB (Sy.rows (slV l k)) j = Go.RowKit.intOf ((hdB k l.length ++ l ++ (sumBytes S).map bV).getD j Go.undef) := fun j => by rw [e]; rfl
 have g0 : gB (Sy.rows (slV l k)) 0 = 116 := by rw [g, e2]; rfl
 have g1 : gB (Sy.rows (slV l k)) 1 = 109 := by rw [g, e2]; rfl
 have g2 : gB (Sy.rows (slV l k)) 2 = k := by rw [g, e2]; rfl
 have g3 : gB (Sy.rows (slV l k)) 3 = (l.length : Int) % 256 := by rw [g, e2]; rfl
 have g4 : gB (Sy.rows (slV l k)) 4 = (l.length : Int) / 256 % 256 := by rw [g, e2]; rfl
 have hkd := kd_spec (Sy.rows (slV l k))
 have ht : (Sy.rows (slV l k)).take ((Sy.rows (slV l k)).length - 4) = hdB k l.length ++ l := by
   rw [hlen, e]
   rw [List.take_append_of_le_length (by rw [e2]; simp)]
   exact List.take_of_length_le (by rw [e2]; simp)
 have hop : opensB (byL (Sy.rows (slV l k))) = true := by
   have hb : byL (Sy.rows (slV l k)) = byL (hdB k l.length ++ l) ++ sumBytes S := by
     rw [e, byL_app, byL_bV]
   rw [hb, hS]
   exact (opens_iff _ _ _ _ _).2 ⟨rfl, rfl, rfl, rfl⟩
 have hoE : opnE (Sy.rows (slV l k)) = 0 := by unfold opnE; rw [if_pos hop]
 have hE : blE (Sy.rows (slV l k)) k = 0 := by
   rcases bl_spec (Sy.rows (slV l k)) k with a | a | a
   · omega
   · exfalso
     rcases hkd with b | b
     · omega
     · omega
   · omega
 refine ⟨hB, hlen, hE, ?_⟩
 unfold blV
 rw [if_pos hE, ht, e2]
 rfl
end Go.Proofs.YtikfgnmljpjnbaaDoor
