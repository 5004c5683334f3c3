/-
 Layer 5: a reader of fields takes bytes.
-/
import Derived.Test.YtikfgnmljpjnbaaDoorW05cpob
namespace Go.Proofs.YtikfgnmljpjnbaaDoor
open Go.RowKit Go.Extern.Stop Go.Stop Go.Extern
set_option linter.unusedVariables false
set_option linter.unusedSimpArgs false
theorem set_rowd {w : World} {g : Nat} {cs : Array Value} {T : TypeId} (h : w.heap[g]? = some (.cells cs T (0, 0))) (i : Nat) (u : Value) : (w.setCell ⟨g, i, none⟩ u).heap[g]? = some (.cells (cs.setIfInBounds i u) T (0, 0)) := by
 simp [World.setCell, Array.getElem?_modify, h]
theorem row_freed {w : World} {g : Nat} {cs : Array Value} {T : TypeId} (h : w.heap[g]? = some (.cells cs T (0, 0))) (i : Nat) : w.frozen? ⟨g, i, none⟩ = false := by
 simp [World.frozen?, h]
def TakeP (w : World) (g : Nat) (l : List UInt8) (sh : Bool) (k : Nat) (e : Ending) (w' : World) : Prop :=
 ∃ A c, e = .returned (.slice A k c) ∧ Rd w' A (l.take k) ∧ (A = none → c = 0) ∧ k ≤ c ∧ (∀ ad, A = some ad → ad.block < g) ∧ Rdr w' g (l.drop k) sh ∧ w.grownBy w' (some g)
theorem take_short (w : World) (g k : Nat) (l : List UInt8) (sh : Bool) (h : Rdr w g l sh) (hk : l.length < k) (hk2 : k ≤ 140737488355328) :
   Calls Tryd.prog 115 #[.pointer (some ⟨g, 0, none⟩), .int .i64 k] w fun e w' => e = .returned (.slice none 0 0) ∧ Rdr w' g [] true ∧ w.grownBy w' (some g) := by
 obtain ⟨A, c, h0, h1, h2, h3, h4⟩ := h
 have hc0 := cell_of_row w g 0 _ _ _ h0
 have hc1 := cell_of_row w g 1 _ _ _ h0
 have hf0 := row_freed h0 0
 have hf1 := row_freed h0 1
 simp at hc0 hc1
 go_enter Tryd.func115, Tryd.ntmps115
 go_wp2_with (fail)
 go_ret
 refine ⟨rfl, ⟨none, 0, ?_, fun _ => rfl, Nat.zero_le _, Rd.nil _ _, fun ad e => by cases e⟩, gb_trans (gb_set _ _ _ _) (gb_set _ _ _ _)⟩
 exact set_rowd (set_rowd h0 0 _) 1 _
set_option maxRecDepth 100000 in
theorem take_ok (w : World) (g k : Nat) (l : List UInt8) (sh : Bool) (h : Rdr w g l sh) (hk : k ≤ l.length) (hl : l.length ≤ 140737488355328) :
   Calls Tryd.prog 115 #[.pointer (some ⟨g, 0, none⟩), .int .i64 k] w (TakeP w g l sh k) := by
 obtain ⟨A, c, h0, h1, h2, h3, h4⟩ := h
 have hc0 := cell_of_row w g 0 _ _ _ h0
 have hf0 := row_freed h0 0
 simp at hc0
 rcases A with _ | ad
 · obtain rfl := h3.1 rfl
   obtain rfl := h1 rfl
   obtain rfl : k = 0 := by simpa using hk
   go_enter Tryd.func115, Tryd.ntmps115
   go_wp2_with (fail)
   go_ret
   exact ⟨none, 0, rfl, Rd.nil _ _, fun _ => rfl, Nat.le_refl _, (fun ad e => by cases e), ⟨none, 0, set_rowd h0 0 _, fun _ => rfl, Nat.le_refl _, Rd.nil _ _, fun ad e => by cases e⟩, gb_set _ _ _ _⟩
 · have hb := h4 ad rfl
   have hg := gb_set w g 0
   by_cases hck : c = k
   · subst hck
     obtain rfl : c = l.length := by omega
     go_enter Tryd.func115, Tryd.ntmps115
     go_wp2_with (fail)
     go_ret
     have hr : Rd (w.setCell ⟨g, 0, none⟩ (.slice (some ad) 0 0)) (some ad) l := h3.grown (hg _) (fun ad e => by cases e; simpa using Nat.ne_of_lt hb)
     refine ⟨some ad, l.length, rfl, by simpa using hr, (fun e => by cases e), Nat.le_refl _, h4, ⟨some ad, 0, ?_, (fun e => by cases e), by simp, by simpa using Rd.nil _ _, h4⟩, hg _⟩
     have := set_rowd h0 0 (.slice (some ad) 0 0)
     simpa using this
   · go_enter Tryd.func115, Tryd.ntmps115
     go_wp2_with (fail)
     go_ret
     have hr : Rd (w.setCell ⟨g, 0, none⟩ (.slice (some (ad.add k)) (l.length - k) (c - k))) (some ad) l := h3.grown (hg _) (fun ad e => by cases e; simpa using Nat.ne_of_lt hb)
     refine ⟨some ad, c, rfl, hr.take k, (fun e => by cases e), by omega, h4, ⟨some (ad.add k), c - k, ?_, (fun e => by cases e), by simp; omega, hr.drop k, fun a e => ?_⟩, hg _⟩
     · have := set_rowd h0 0 (.slice (some (ad.add k)) (l.length - k) (c - k))
       simpa using this
     · injection e with e
       subst e
       rw [add_block]; exact hb
end Go.Proofs.YtikfgnmljpjnbaaDoor
