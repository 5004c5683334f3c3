/-
 A reader told by its cells: a text.
-/
import Derived.Test.YtikfgnmljpjnbaaDoorRdnpob
namespace Go.Proofs.YtikfgnmljpjnbaaDoor
open Go.RowKit Go.Extern.Stop Go.Stop Go.Extern
set_option linter.unusedVariables false
set_option maxRecDepth 100000 in
set_option maxHeartbeats 1000000 in
theorem getT_cG (Q : Nat → Nat → Prop) (w : World) (g : Nat) (l : List UInt8) (sh : Bool) (h : RdgB w.heap.size Q w g l sh) (hl : l.length ≤ 140737488355328) :
   Calls Tryd.prog 93 #[.pointer (some ⟨g, 0, none⟩)] w (NumG Q w g (.string ⟨(getT l).toArray⟩) (getTL l) (getTS l sh)) := by
 have hv : getV l 1 < 256 := by have := getV_lt l 1; simpa using this
 have hl1 := getL_le l 1
 by_cases hk : getV l 1 ≤ (getL l 1).length
 · have HT := Lib.hid (show getT l = (getL l 1).take (getV l 1) ∧ getTL l = (getL l 1).drop (getV l 1) ∧ getTS l sh = getS l sh 1 by
     unfold getT getTL getTS getL getS at *
     refine ⟨if_pos hk, if_pos hk, if_pos hk⟩)
   go_enter Tryd.func93, Tryd.ntmps93
   go_wp2_with (go_at_call 50; (with_reducible refine (get1_cG Q _ _ _ _ h hl).mono ?_); rintro e w1 ⟨rfl, h1, h2⟩)
   (with_reducible refine (take_okG _ Q _ _ _ _ _ h1 hk (by omega)).mono ?_)
   rintro e w2 ⟨A, c, rfl, hR, hA, hc, ha, h4, h5⟩
   have hlen : getV l 1 = ((getL l 1).take (getV l 1)).length := by simp; omega
   have kt := run_text (P := Tryd.prog) w2 22 9 5 A c _ hR Tryd.underlying22 Tryd.underlying5 Tryd.underlying9
   rw [← hlen] at kt
   clear hlen
   go_wp2_with (fail)
   go_ret
   obtain ⟨e1, e2, e3⟩ := HT.out
   rw [e1, e2, e3]
   exact ⟨rfl, h4, gb_trans h2 h5⟩
 · have HT := Lib.hid (show getT l = [] ∧ getTL l = [] ∧ getTS l sh = true by
     unfold getT getTL getTS getL getS at *
     refine ⟨if_neg hk, if_neg hk, if_neg hk⟩)
   go_enter Tryd.func93, Tryd.ntmps93
   go_wp2_with (go_at_call 50; (with_reducible refine (get1_cG Q _ _ _ _ h hl).mono ?_); rintro e w1 ⟨rfl, h1, h2⟩)
   (with_reducible refine (take_shortG _ _ _ _ _ h1.rdg (by omega) (by omega)).mono ?_)
   rintro e w2 ⟨rfl, ⟨A, c, h4⟩, h5⟩
   have kt := run_text (P := Tryd.prog) w2 22 9 5 none 0 [] (Rd.nil _ _) Tryd.underlying22 Tryd.underlying5 Tryd.underlying9
   rw [show ([] : List UInt8).length = 0 from rfl] at kt
   go_wp2_with (fail)
   go_ret
   obtain ⟨e1, e2, e3⟩ := HT.out
   rw [e1, e2, e3]
   exact ⟨rfl, ⟨A, c, h4, fun hn => absurd rfl hn, fun i hi => absurd hi (Nat.not_lt_zero i)⟩, gb_trans h2 h5⟩
end Go.Proofs.YtikfgnmljpjnbaaDoor
