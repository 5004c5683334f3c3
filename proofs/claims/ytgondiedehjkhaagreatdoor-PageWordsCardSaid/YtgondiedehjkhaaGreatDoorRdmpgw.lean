/-
 A reader of fields among the second engine's contracts: bytes as they are told, and as they lie.
-/
import Derived.Test.YtgondiedehjkhaaGreatDoorRdxpgw
import Derived.Test.YtgondiedehjkhaaGreatDoorSyopgw
namespace Go.Proofs.YtgondiedehjkhaaGreatDoor
open Go.RowKit Go.Extern.Stop Go.Stop Go.Extern
set_option linter.unusedVariables false
set_option linter.unusedSimpArgs false
abbrev KB : Sy.SK := .cons (.int .u8) .nil
def byL (l : List Value) : List UInt8 := l.map fun x => UInt8.ofNat (Go.RowKit.intOf x).toNat
theorem byL_len (l : List Value) : (byL l).length = l.length := List.length_map _
theorem bV_of {n : Int} (h0 : 0 ≤ n) (h1 : n ≤ 255) : bV (UInt8.ofNat n.toNat) = .int .u8 n := by
 show Value.int .u8 ((UInt8.ofNat n.toNat).toNat : Int) = _
 rw [UInt8.toNat_ofNat']
 congr 1
 omega
theorem add_flat (b off i : Nat) : (⟨b, off, none⟩ : Addr).add i = ⟨b, off + i, none⟩ := by
 unfold Addr.add
 split
 · rename_i h; subst h; rfl
 · rfl
theorem rd_of_deep {ok : Nat → Nat → Prop} {w : World} {u c : Value} (h : Sy.deepC ok w (.sl KB) u c) (hk : ∀ x ∈ Sy.rows c, inK x) : ∃ A cap, u = .slice A (byL (Sy.rows c)).length cap ∧ Rd w A (byL (Sy.rows c)) ∧ (A = none → cap = 0) ∧ (byL (Sy.rows c)).length ≤ cap ∧ (byL (Sy.rows c)).length ≤ 140737488355328 ∧ ∀ i, i < (byL (Sy.rows c)).length → ∀ ad, A = some ad → ad.block < w.heap.size ∧ ok ad.block (ad.off + i) := by
 obtain ⟨p, n, cap, rfl, h2, h3, h4, h4', h5, h6⟩ := h
 have hn : (byL (Sy.rows c)).length = n := by rw [byL_len, h3]; exact Nat.mul_one n
 refine ⟨p, cap, by rw [hn], ⟨fun e => ?_, fun i hi => ?_⟩, h5, by rw [hn]; exact h4, by rw [hn]; exact h4', fun i hi ad e => ?_⟩
 · apply List.eq_nil_of_length_eq_zero
   rw [hn]
   rcases Nat.eq_zero_or_pos n with h0 | h0
   · exact h0
   · obtain ⟨b, off, e2, _⟩ := h6 0 h0
     rw [e] at e2
     cases e2
 · obtain ⟨b, off, e, hb, ⟨u, g1, g2, g3, g4⟩, _⟩ := h6 i (by omega)
   have e1 : i * KB.wd = i := Nat.mul_one i
   rw [e1] at g2 g3 g4
   refine ⟨_, e, by rw [add_block]; exact hb, ?_⟩
   have hil : i < (Sy.rows c).length := by rw [byL_len] at hi; exact hi
   have hget : (Sy.rows c).getD i Go.undef = (Sy.rows c)[i] := by rw [List.getD_eq_getElem?_getD, List.getElem?_eq_getElem hil]; rfl
   change (Sy.rows c).getD i Go.undef = .int .u8 (Go.RowKit.intOf ((Sy.rows c).getD i Go.undef)) at g4
   rw [hget] at g3 g4
   have hx := bounds_u8 (hk _ (List.getElem_mem hil) _ _ g4)
   rw [add_flat, g2, g3]
   congr 1
   have : (byL (Sy.rows c))[i] = UInt8.ofNat (Go.RowKit.intOf (Sy.rows c)[i]).toNat := by unfold byL; exact List.getElem_map _
   rw [this, bV_of hx.1 hx.2]
   exact g4
 · obtain ⟨b, off, e2, hb, ⟨u, g1, _⟩, _⟩ := h6 i (by omega)
   rw [e] at e2
   obtain rfl := Option.some.inj e2
   have e1 : i * KB.wd = i := Nat.mul_one i
   rw [e1] at g1
   exact ⟨hb, g1⟩
end Go.Proofs.YtgondiedehjkhaaGreatDoor
