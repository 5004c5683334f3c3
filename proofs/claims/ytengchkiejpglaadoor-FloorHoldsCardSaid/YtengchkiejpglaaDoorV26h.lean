/-
  Layer 26: the statement FloorHolds.
-/
import Derived.Test.YtengchkiejpglaaDoorV26
import Derived.Test.YtengchkiejpglaaDoorSl
import Derived.Deep.RegionHeld3
import Derived.LoopTactic
import Derived.BigRegion
namespace Go.Proofs.YtengchkiejpglaaDoor
open Go.RowKit Go.Extern.Stop Go.Stop Go.Extern
set_option linter.unusedVariables false
set_option linter.unusedSimpArgs false
abbrev R2 (b : Nat) (x y : Value) (wx : World) : Prop := b < wx.heap.size ∧ wx.cell? ⟨b, 0, none⟩ = some x ∧ wx.cell? ⟨b, 1, none⟩ = some y ∧ wx.frozen? ⟨b, 0, none⟩ = false ∧ wx.frozen? ⟨b, 1, none⟩ = false
theorem R2.step {b : Nat} {x y : Value} {wx w' : World} (h : R2 b x y wx) (hb : Below wx.heap.size wx w') : R2 b x y w' :=
  ⟨Nat.lt_of_lt_of_le h.1 hb.size, by rw [hb.cell (p := ⟨b, 0, none⟩) h.1]; exact h.2.1, by rw [hb.cell (p := ⟨b, 1, none⟩) h.1]; exact h.2.2.1, by rw [hb.frozen (p := ⟨b, 0, none⟩) h.1]; exact h.2.2.2.1, by rw [hb.frozen (p := ⟨b, 1, none⟩) h.1]; exact h.2.2.2.2⟩
theorem upq_ge (t q : Int) (hq : 1 ≤ q) : t ≤ upq t q ∧ upq t q ≤ t + q := by
  unfold upq
  have h1 := Int.emod_nonneg t (by omega : q ≠ 0)
  have h2 := Int.emod_lt_of_pos t (by omega : 0 < q)
  split <;> omega
theorem margin_set {m b q : Int} (hm : -4611686018427387904 ≤ m ∧ m ≤ 4611686018427387904) (hb : 0 ≤ b ∧ b ≤ 65535) (hq : 1 ≤ q ∧ q ≤ 50) : marginF true m b q = ⟨true, upq (m + b) q, 0⟩ ∧ m ≤ upq (m + b) q ∧ upq (m + b) q ≤ m + 65600 := by
  have hs : sat (m + b) = m + b := sat_in (by omega)
  have hu := upq_ge (m + b) q (by omega)
  unfold marginF
  rw [if_neg (by omega), if_neg (by simp), hs, if_pos (by omega)]
  exact ⟨rfl, by omega, by omega⟩
theorem margin_unset {m b q : Int} (hb : 0 ≤ b ∧ b ≤ 65535) (hq : 1 ≤ q ∧ q ≤ 50) : marginF false m b q = ⟨false, m, 0⟩ := by
  unfold marginF; rw [if_neg (by omega), if_pos rfl]
theorem R2.set {b : Nat} {x y : Value} {wx : World} (h : R2 b x y wx) (x' y' : Value) : R2 b x' y' ((wx.setCell ⟨b, 0, none⟩ x').setCell ⟨b, 1, none⟩ y') := by
  obtain ⟨h0, h1, h2, h3, h4⟩ := h
  exact ⟨by simp; exact h0, by go_simp, by go_simp, by go_simp, by go_simp⟩
theorem Held.set2 {w wx : World} {b : Nat} (h : Held w wx) (hb : w.heap.size ≤ b) (hg : 0 < w.heap.size) (p q : Value) : Held w ((wx.setCell ⟨b, 0, none⟩ p).setCell ⟨b, 1, none⟩ q) := by
  have hbe : Below w.heap.size w ((wx.setCell ⟨b, 0, none⟩ p).setCell ⟨b, 1, none⟩ q) := (h.2.setCell hb _).setCell hb _
  have h0 := h.1
  rw [h.2.cell (p := ⟨0, 0, none⟩) hg] at h0
  exact ⟨by rw [hbe.cell (p := ⟨0, 0, none⟩) hg]; exact h0, hbe⟩
theorem tdiv4 (n : Int) (h : InR n) : -2305843009213693952 ≤ n.tdiv 4 ∧ n.tdiv 4 ≤ 2305843009213693952 := by
  have h1 := tdiv_near n 4 (by omega)
  obtain ⟨r, hr, h2, _⟩ := h1
  have h3 := h2 (by omega)
  generalize n.tdiv 4 = q at *
  omega
/-- A slice of numbers that came in: of each index below its length the cell. -/
theorem raise_eq1 {at_ t : Int} : raiseF false at_ t = t := by unfold raiseF; rw [if_neg (by simp)]
theorem raise_eq2 {at_ t : Int} (h : t < at_) : raiseF true at_ t = at_ := by unfold raiseF; rw [if_pos ⟨rfl, h⟩]
theorem raise_eq3 {at_ t : Int} (h : at_ ≤ t) : raiseF true at_ t = t := by unfold raiseF; rw [if_neg (by omega)]
abbrev S26 (w : World) (b : Nat) (x y : Value) (p : Addr) (v : Value) (wx : World) : Prop := Held w wx ∧ R2 b x y wx ∧ (p.block < wx.heap.size ∧ wx.cell? p = some v)
theorem S26.step {w : World} {b : Nat} {x y : Value} {p : Addr} {v : Value} {wx w' : World} (h : S26 w b x y p v wx) (hb : Below wx.heap.size wx w') : S26 w b x y p v w' := ⟨h.1.step hb, h.2.1.step hb, Nat.lt_of_lt_of_le h.2.2.1 hb.size, by rw [hb.cell (p := p) h.2.2.1]; exact h.2.2.2⟩
theorem S26.drew {w : World} {b : Nat} {x y : Value} {p : Addr} {v : Value} {wx : World} (h : S26 w b x y p v wx) : S26 w b x y p v wx.drew := h.step (Below.refl _ _).drew
theorem S26.alloc {w : World} {b : Nat} {x y : Value} {p : Addr} {v : Value} {wx : World} (h : S26 w b x y p v wx) (o : Obj) : S26 w b x y p v (wx.alloc o) := h.step (Below.alloc (Below.refl _ _) (Nat.le_refl _) _)
theorem R2.alloc {b : Nat} {x y : Value} {wx : World} (h : R2 b x y wx) (o : Obj) : R2 b x y (wx.alloc o) := h.step (Below.alloc (Below.refl _ _) (Nat.le_refl _) _)
theorem S26.held {w : World} {b : Nat} {x y : Value} {p : Addr} {v : Value} {wx : World} (h : S26 w b x y p v wx) : Held w wx := h.1
theorem S26.r2 {w : World} {b : Nat} {x y : Value} {p : Addr} {v : Value} {wx : World} (h : S26 w b x y p v wx) : R2 b x y wx := h.2.1
theorem Held.set1 {w wx : World} {q : Addr} (h : Held w wx) (hb : w.heap.size ≤ q.block) (hg : 0 < w.heap.size) (u : Value) : Held w (wx.setCell q u) := by
  have hbe : Below w.heap.size w (wx.setCell q u) := h.2.setCell hb _
  have h0 := h.1
  rw [h.2.cell (p := ⟨0, 0, none⟩) hg] at h0
  exact ⟨by rw [hbe.cell (p := ⟨0, 0, none⟩) hg]; exact h0, hbe⟩
theorem S26.set {w : World} {b : Nat} {x y : Value} {p : Addr} {v : Value} {wx : World} (h : S26 w b x y p v wx) (hg : 0 < w.heap.size) (q : Addr) (hq : w.heap.size ≤ q.block) (hq1 : b ≠ q.block) (hq2 : q.block ≠ p.block) (u : Value) : S26 w b x y p v (wx.setCell q u) := by
  obtain ⟨h1, ⟨r0, r1, r2, r3, r4⟩, h3, h4⟩ := h
  refine ⟨h1.set1 hq hg u, ⟨by simp; exact r0, ?_, ?_, by simp; exact r3, by simp; exact r4⟩, by simp; exact h3, ?_⟩
  · rw [World.cell?_setCell_far _ _ _ _ (by simpa using hq1.symm)]; exact r1
  · rw [World.cell?_setCell_far _ _ _ _ (by simpa using hq1.symm)]; exact r2
  · rw [World.cell?_setCell_far _ _ _ _ hq2]; exact h4
set_option maxRecDepth 100000 in
set_option maxHeartbeats 16000000 in
theorem fholds (oa ob : Option Addr) (na nb ca cb : Nat) (fa fb : Nat → Int) (w : World) (hA : SliceI w oa na .i64 fa) (hB : SliceI w ob nb .u16 fb) (hmax : na ≤ 9223372036854775807) (hmaxb : nb ≤ 9223372036854775807) (hfa : ∀ i, InR (fa i)) (hfb : ∀ i, 0 ≤ fb i ∧ fb i ≤ 65535) (hg : w.cell? ⟨0, 0, none⟩ = some asHandle) :
    Calls Tryd.prog 14 #[.slice oa na ca, .slice ob nb cb] w fun e w' => e = .returned (.bool true) ∧ Below w.heap.size w w' := by
  have hH := Held.start hg
  have e0 := errOf_zero
  go_enter Tryd.func14, Tryd.ntmps14
  go_wp2_with (fail)
  go_loopw [6, 7, 8] (fun la an ix wr => ∃ (i : Nat) (st : Bool) (at_ : Int), i ≤ na ∧ i ≤ 60 ∧ la = .int .i64 at_ ∧ an = .bool st ∧ ix = .int .i64 i ∧ -2305843009213693952 ≤ at_ ∧ at_ ≤ 2305843009213693952 + 65600 * (i : Int) ∧ Hid (st = false → at_ = 0) ∧ Held w wr ∧ R2 w.heap.size (.bool st) (.int .i64 at_) wr) (fun _ _ ix _ => na - (intOf ix).toNat)
  case atStart => exact ⟨0, false, 0, by omega, by omega, rfl, rfl, rfl, by omega, by omega, Lib.hid (fun _ => rfl), Held.alloc hH _, ⟨by simp, by simp, by simp, by simp, by simp⟩⟩
  case round =>
    obtain ⟨i, st, at_, hi, hi6, rfl, rfl, rfl, hlo, hhi, hz, hHr, hR⟩ := hrel
    obtain ⟨r0, r1, r2, r3, r4⟩ := id hR
    by_cases hlt : i < na ∧ i < 60
    · obtain ⟨hlt, hl6⟩ := hlt
      obtain ⟨aa, rfl, kA0, hba⟩ := hA i hlt
      have kA : wr.cell? (aa.add i) = some (.int .i64 (fa i)) := (hHr.below.cell (p := aa.add i) hba).trans kA0
      clear kA0
      have hfi := hfa i
      have ht4 := tdiv4 _ hfi
      by_cases hib : i < nb
      · obtain ⟨bb, rfl, kB0, hbb⟩ := hB i hib
        have kB : wr.cell? (bb.add i) = some (.int .u16 (fb i)) := (hHr.below.cell (p := bb.add i) hbb).trans kB0
        clear kB0
        have hfbi := hfb i
        by_cases h3 : fb i % 3 = 0
        · have hq50 : 1 ≤ 1 + (fb i).tmod 50 ∧ 1 + (fb i).tmod 50 ≤ 50 := by rw [Int.tmod_eq_emod_of_nonneg hfbi.1]; omega
          have hw1 : IntKind.i64.wrap (fb i) = fb i := Go.IntWalk.i64_in _ (by omega)
          have hw2 : IntKind.i64.wrap ((fb i).tmod 50) = (fb i).tmod 50 := Go.IntWalk.i64_in _ (by omega)
          have hw3 : IntKind.i64.wrap (1 + (fb i).tmod 50) = 1 + (fb i).tmod 50 := Go.IntWalk.i64_in _ (by omega)
          have h3' : ((fb i).tmod 3 == 0) = true := by rw [beq_iff_eq, Int.tmod_eq_emod_of_nonneg hfbi.1]; exact h3
          cases st
          · have hz0 := hz.out rfl
            subst hz0
            have hm0 := margin_unset (m := 0) (b := fb i) (q := 1 + (fb i).tmod 50) hfbi hq50
            go_wp2_with (fail)
            have hS0 : S26 w w.heap.size (.bool false) (.int .i64 0) (bb.add i) (.int .u16 (fb i)) wr := ⟨hHr, hR, Nat.lt_trans hbb r0, kB⟩
            go_region_held3 (fun wx => S26 w w.heap.size (.bool false) (.int .i64 0) (bb.add i) (.int .u16 (fb i)) wx) (repeat (first | with_reducible assumption | refine S26.alloc ?_ _ | refine S26.drew ?_ | refine S26.set ?_ (handle_lt hg) _ (by simp; omega) (by simp; omega) (by simp; omega) _)) (first | (go_at_call 67; (try rw [hw1]); (try rw [hw2]); (try rw [hw3]); (with_reducible refine (margin_f _ _ _ _ _ (by omega) (by omega) (by omega)).mono ?_); rintro e w' ⟨rfl, hb'⟩; obtain ⟨hc, hf⟩ := bcell hb'; have hz := hb'.size; (try (simp at hz)); have hS' := S26.step (by assumption) hb'; clear hb'))
            · rename_i hS2
              have hG : R2 w'.heap.size (.bool false) (.int .i64 0) (w'.alloc (.cells #[.bool false, .int .i64 0] 84)) := ⟨by simp, by simp, by simp, by simp, by simp⟩
              have hbk : w.heap.size < w'.heap.size := by omega
              clear hc hf hz hS'
              generalize w'.alloc (.cells #[.bool false, .int .i64 0] 84) = W at *
              generalize w'.heap.size = BK at *
              obtain ⟨b0, b1, b2, b3, b4⟩ := id hG
              obtain ⟨q0, q1, q2, q3, q4⟩ := id (S26.r2 hS2)
              clear hA hB hfa hfb hS0 kA kB
              go_wp2_with (fail)
              (with_reducible refine (take_set false 0 _ _ (by omega) (by omega) (Or.inl rfl)).mono ?_)
              rintro e w1 ⟨rfl, HB⟩
              obtain ⟨hc1, hf1⟩ := bcell HB
              have hz1 := HB.size
              try simp at hz1
              have hH1 := Held.step (w0 := w) (Held.set2 (S26.held hS2) (Nat.le_refl _) (handle_lt hg) _ _) HB
              have hR1 := R2.step (R2.set (S26.r2 hS2) _ _) HB
              obtain ⟨s0, s1, s2, s3, s4⟩ := id hR1
              clear HB
              try rw [show (fa i).tdiv 4 - (fa i).tdiv 4 = 0 by omega, show sat 0 = 0 by decide]
              generalize (fa i).tdiv 4 = t at *
              (try clear hA); (try clear hB); (try clear hfa); (try clear hfb); (try clear hfi); (try clear hz)
              go_wp2_with (fail)
              refine ⟨⟨i + 1, true, _, by omega, by omega, rfl, rfl, by simp, by omega, by omega, Lib.hid (by simp), Held.alloc (Held.set2 hH1 (Nat.le_refl _) (handle_lt hg) _ _) _, R2.step (R2.set hR1 _ _) (Below.alloc (Below.refl _ _) (by simp) _)⟩, ?_⟩
              simp [intOf]
              omega
            · rename_i hS2
              have hG0 : R2 wr.heap.size (.bool false) (.int .i64 0) w' := ⟨by omega, by rw [hc _ _ (by simp)]; simp, by rw [hc _ _ (by simp)]; simp, by rw [hf _ _ (by simp)]; simp, by rw [hf _ _ (by simp)]; simp⟩
              have hG := R2.set hG0 (.bool false) (.int .i64 0)
              have hbk : w.heap.size < wr.heap.size := r0
              clear hc hf hz hS' hG0
              generalize (w'.setCell ⟨wr.heap.size, 0, none⟩ (.bool false)).setCell ⟨wr.heap.size, 1, none⟩ (.int .i64 0) = W at *
              generalize wr.heap.size = BK at *
              obtain ⟨b0, b1, b2, b3, b4⟩ := id hG
              obtain ⟨q0, q1, q2, q3, q4⟩ := id (S26.r2 hS2)
              clear hA hB hfa hfb hS0 kA kB
              go_wp2_with (fail)
              (with_reducible refine (take_set false 0 _ _ (by omega) (by omega) (Or.inl rfl)).mono ?_)
              rintro e w1 ⟨rfl, HB⟩
              obtain ⟨hc1, hf1⟩ := bcell HB
              have hz1 := HB.size
              try simp at hz1
              have hH1 := Held.step (w0 := w) (Held.set2 (S26.held hS2) (Nat.le_refl _) (handle_lt hg) _ _) HB
              have hR1 := R2.step (R2.set (S26.r2 hS2) _ _) HB
              obtain ⟨s0, s1, s2, s3, s4⟩ := id hR1
              clear HB
              try rw [show (fa i).tdiv 4 - (fa i).tdiv 4 = 0 by omega, show sat 0 = 0 by decide]
              generalize (fa i).tdiv 4 = t at *
              (try clear hA); (try clear hB); (try clear hfa); (try clear hfb); (try clear hfi); (try clear hz)
              go_wp2_with (fail)
              refine ⟨⟨i + 1, true, _, by omega, by omega, rfl, rfl, by simp, by omega, by omega, Lib.hid (by simp), Held.alloc (Held.set2 hH1 (Nat.le_refl _) (handle_lt hg) _ _) _, R2.step (R2.set hR1 _ _) (Below.alloc (Below.refl _ _) (by simp) _)⟩, ?_⟩
              simp [intOf]
              omega
          · obtain ⟨U, hm0, hu1, hu2⟩ : ∃ U, marginF true at_ (fb i) (1 + (fb i).tmod 50) = ⟨true, U, 0⟩ ∧ at_ ≤ U ∧ U ≤ at_ + 65600 := ⟨_, margin_set (by omega) hfbi hq50⟩
            have hne : decide (U < at_) = false := by simp; omega
            by_cases hlt4 : (fa i).tdiv 4 < U
            · go_wp2_with (fail)
              have hS0 : S26 w w.heap.size (.bool true) (.int .i64 at_) (bb.add i) (.int .u16 (fb i)) wr := ⟨hHr, hR, Nat.lt_trans hbb r0, kB⟩
              go_region_held3 (fun wx => S26 w w.heap.size (.bool true) (.int .i64 at_) (bb.add i) (.int .u16 (fb i)) wx) (repeat (first | with_reducible assumption | refine S26.alloc ?_ _ | refine S26.drew ?_ | refine S26.set ?_ (handle_lt hg) _ (by simp; omega) (by simp; omega) (by simp; omega) _)) (first | (go_at_call 67; (try rw [hw1]); (try rw [hw2]); (try rw [hw3]); (with_reducible refine (margin_f _ _ _ _ _ (by omega) (by omega) (by omega)).mono ?_); rintro e w' ⟨rfl, hb'⟩; obtain ⟨hc, hf⟩ := bcell hb'; have hz := hb'.size; (try (simp at hz)); have hS' := S26.step (by assumption) hb'; clear hb'))
              · rename_i hS2
                have hG : R2 w'.heap.size (.bool true) (.int .i64 U) (w'.alloc (.cells #[.bool true, .int .i64 U] 84)) := ⟨by simp, by simp, by simp, by simp, by simp⟩
                have hbk : w.heap.size < w'.heap.size := by omega
                clear hc hf hz hS'
                generalize w'.alloc (.cells #[.bool true, .int .i64 U] 84) = W at *
                generalize w'.heap.size = BK at *
                obtain ⟨b0, b1, b2, b3, b4⟩ := id hG
                obtain ⟨q0, q1, q2, q3, q4⟩ := id (S26.r2 hS2)
                clear hA hB hfa hfb hS0 kA kB
                go_wp2_with (fail)
                (with_reducible refine (take_keep U _ _ (by omega) (by omega) (by omega)).mono ?_)
                rintro e w1 ⟨rfl, HB⟩
                obtain ⟨hc1, hf1⟩ := bcell HB
                have hz1 := HB.size
                try simp at hz1
                have hH1 := Held.step (w0 := w) (Held.set2 (S26.held hS2) (Nat.le_refl _) (handle_lt hg) _ _) HB
                have hR1 := R2.step (R2.set (S26.r2 hS2) _ _) HB
                obtain ⟨s0, s1, s2, s3, s4⟩ := id hR1
                clear HB
                rw [show sat (U - (fa i).tdiv 4) = U - (fa i).tdiv 4 from sat_in (by omega)]
                generalize (fa i).tdiv 4 = t at *
                (try clear hA); (try clear hB); (try clear hfa); (try clear hfb); (try clear hfi); (try clear hz)
                go_wp2_with (fail)
                refine ⟨⟨i + 1, true, _, by omega, by omega, rfl, rfl, by simp, by omega, by omega, Lib.hid (by simp), Held.alloc (Held.set2 hH1 (Nat.le_refl _) (handle_lt hg) _ _) _, R2.step (R2.set hR1 _ _) (Below.alloc (Below.refl _ _) (by simp) _)⟩, ?_⟩
                simp [intOf]
                omega
              · rename_i hS2
                have hG0 : R2 wr.heap.size (.bool false) (.int .i64 0) w' := ⟨by omega, by rw [hc _ _ (by simp)]; simp, by rw [hc _ _ (by simp)]; simp, by rw [hf _ _ (by simp)]; simp, by rw [hf _ _ (by simp)]; simp⟩
                have hG := R2.set hG0 (.bool true) (.int .i64 U)
                have hbk : w.heap.size < wr.heap.size := r0
                clear hc hf hz hS' hG0
                generalize (w'.setCell ⟨wr.heap.size, 0, none⟩ (.bool true)).setCell ⟨wr.heap.size, 1, none⟩ (.int .i64 U) = W at *
                generalize wr.heap.size = BK at *
                obtain ⟨b0, b1, b2, b3, b4⟩ := id hG
                obtain ⟨q0, q1, q2, q3, q4⟩ := id (S26.r2 hS2)
                clear hA hB hfa hfb hS0 kA kB
                go_wp2_with (fail)
                (with_reducible refine (take_keep U _ _ (by omega) (by omega) (by omega)).mono ?_)
                rintro e w1 ⟨rfl, HB⟩
                obtain ⟨hc1, hf1⟩ := bcell HB
                have hz1 := HB.size
                try simp at hz1
                have hH1 := Held.step (w0 := w) (Held.set2 (S26.held hS2) (Nat.le_refl _) (handle_lt hg) _ _) HB
                have hR1 := R2.step (R2.set (S26.r2 hS2) _ _) HB
                obtain ⟨s0, s1, s2, s3, s4⟩ := id hR1
                clear HB
                rw [show sat (U - (fa i).tdiv 4) = U - (fa i).tdiv 4 from sat_in (by omega)]
                generalize (fa i).tdiv 4 = t at *
                (try clear hA); (try clear hB); (try clear hfa); (try clear hfb); (try clear hfi); (try clear hz)
                go_wp2_with (fail)
                refine ⟨⟨i + 1, true, _, by omega, by omega, rfl, rfl, by simp, by omega, by omega, Lib.hid (by simp), Held.alloc (Held.set2 hH1 (Nat.le_refl _) (handle_lt hg) _ _) _, R2.step (R2.set hR1 _ _) (Below.alloc (Below.refl _ _) (by simp) _)⟩, ?_⟩
                simp [intOf]
                omega
            · go_wp2_with (fail)
              have hS0 : S26 w w.heap.size (.bool true) (.int .i64 at_) (bb.add i) (.int .u16 (fb i)) wr := ⟨hHr, hR, Nat.lt_trans hbb r0, kB⟩
              go_region_held3 (fun wx => S26 w w.heap.size (.bool true) (.int .i64 at_) (bb.add i) (.int .u16 (fb i)) wx) (repeat (first | with_reducible assumption | refine S26.alloc ?_ _ | refine S26.drew ?_ | refine S26.set ?_ (handle_lt hg) _ (by simp; omega) (by simp; omega) (by simp; omega) _)) (first | (go_at_call 67; (try rw [hw1]); (try rw [hw2]); (try rw [hw3]); (with_reducible refine (margin_f _ _ _ _ _ (by omega) (by omega) (by omega)).mono ?_); rintro e w' ⟨rfl, hb'⟩; obtain ⟨hc, hf⟩ := bcell hb'; have hz := hb'.size; (try (simp at hz)); have hS' := S26.step (by assumption) hb'; clear hb'))
              · rename_i hS2
                have hG : R2 w'.heap.size (.bool true) (.int .i64 U) (w'.alloc (.cells #[.bool true, .int .i64 U] 84)) := ⟨by simp, by simp, by simp, by simp, by simp⟩
                have hbk : w.heap.size < w'.heap.size := by omega
                clear hc hf hz hS'
                generalize w'.alloc (.cells #[.bool true, .int .i64 U] 84) = W at *
                generalize w'.heap.size = BK at *
                obtain ⟨b0, b1, b2, b3, b4⟩ := id hG
                obtain ⟨q0, q1, q2, q3, q4⟩ := id (S26.r2 hS2)
                clear hA hB hfa hfb hS0 kA kB
                go_wp2_with (fail)
                (with_reducible refine (take_set true U _ _ (by omega) (by omega) (Or.inr (by omega))).mono ?_)
                rintro e w1 ⟨rfl, HB⟩
                obtain ⟨hc1, hf1⟩ := bcell HB
                have hz1 := HB.size
                try simp at hz1
                have hH1 := Held.step (w0 := w) (Held.set2 (S26.held hS2) (Nat.le_refl _) (handle_lt hg) _ _) HB
                have hR1 := R2.step (R2.set (S26.r2 hS2) _ _) HB
                obtain ⟨s0, s1, s2, s3, s4⟩ := id hR1
                clear HB
                try rw [show (fa i).tdiv 4 - (fa i).tdiv 4 = 0 by omega, show sat 0 = 0 by decide]
                generalize (fa i).tdiv 4 = t at *
                (try clear hA); (try clear hB); (try clear hfa); (try clear hfb); (try clear hfi); (try clear hz)
                go_wp2_with (fail)
                refine ⟨⟨i + 1, true, _, by omega, by omega, rfl, rfl, by simp, by omega, by omega, Lib.hid (by simp), Held.alloc (Held.set2 hH1 (Nat.le_refl _) (handle_lt hg) _ _) _, R2.step (R2.set hR1 _ _) (Below.alloc (Below.refl _ _) (by simp) _)⟩, ?_⟩
                simp [intOf]
                omega
              · rename_i hS2
                have hG0 : R2 wr.heap.size (.bool false) (.int .i64 0) w' := ⟨by omega, by rw [hc _ _ (by simp)]; simp, by rw [hc _ _ (by simp)]; simp, by rw [hf _ _ (by simp)]; simp, by rw [hf _ _ (by simp)]; simp⟩
                have hG := R2.set hG0 (.bool true) (.int .i64 U)
                have hbk : w.heap.size < wr.heap.size := r0
                clear hc hf hz hS' hG0
                generalize (w'.setCell ⟨wr.heap.size, 0, none⟩ (.bool true)).setCell ⟨wr.heap.size, 1, none⟩ (.int .i64 U) = W at *
                generalize wr.heap.size = BK at *
                obtain ⟨b0, b1, b2, b3, b4⟩ := id hG
                obtain ⟨q0, q1, q2, q3, q4⟩ := id (S26.r2 hS2)
                clear hA hB hfa hfb hS0 kA kB
                go_wp2_with (fail)
                (with_reducible refine (take_set true U _ _ (by omega) (by omega) (Or.inr (by omega))).mono ?_)
                rintro e w1 ⟨rfl, HB⟩
                obtain ⟨hc1, hf1⟩ := bcell HB
                have hz1 := HB.size
                try simp at hz1
                have hH1 := Held.step (w0 := w) (Held.set2 (S26.held hS2) (Nat.le_refl _) (handle_lt hg) _ _) HB
                have hR1 := R2.step (R2.set (S26.r2 hS2) _ _) HB
                obtain ⟨s0, s1, s2, s3, s4⟩ := id hR1
                clear HB
                try rw [show (fa i).tdiv 4 - (fa i).tdiv 4 = 0 by omega, show sat 0 = 0 by decide]
                generalize (fa i).tdiv 4 = t at *
                (try clear hA); (try clear hB); (try clear hfa); (try clear hfb); (try clear hfi); (try clear hz)
                go_wp2_with (fail)
                refine ⟨⟨i + 1, true, _, by omega, by omega, rfl, rfl, by simp, by omega, by omega, Lib.hid (by simp), Held.alloc (Held.set2 hH1 (Nat.le_refl _) (handle_lt hg) _ _) _, R2.step (R2.set hR1 _ _) (Below.alloc (Below.refl _ _) (by simp) _)⟩, ?_⟩
                simp [intOf]
                omega
        · have h3' : ((fb i).tmod 3 == 0) = false := by rw [beq_eq_false_iff_ne, Int.tmod_eq_emod_of_nonneg hfbi.1]; exact h3
          cases st
          · have hz0 := hz.out rfl
            subst hz0
            go_wp2_with (fail)
            (with_reducible refine (take_set false 0 _ _ (by omega) (by omega) (Or.inl rfl)).mono ?_)
            rintro e w1 ⟨rfl, HB⟩
            obtain ⟨hc1, hf1⟩ := bcell HB
            have hz1 := HB.size
            try simp at hz1
            have hH1 := Held.step (w0 := w) hHr HB
            have hR1 := R2.step hR HB
            obtain ⟨s0, s1, s2, s3, s4⟩ := id hR1
            clear HB
            try rw [show (fa i).tdiv 4 - (fa i).tdiv 4 = 0 by omega, show sat 0 = 0 by decide]
            generalize (fa i).tdiv 4 = t at *
            (try clear hA); (try clear hB); (try clear hfa); (try clear hfb); (try clear hfi); (try clear hz)
            go_wp2_with (fail)
            refine ⟨⟨i + 1, true, _, by omega, by omega, rfl, rfl, by simp, by omega, by omega, Lib.hid (by simp), Held.alloc (Held.set2 hH1 (Nat.le_refl _) (handle_lt hg) _ _) _, R2.step (R2.set hR1 _ _) (Below.alloc (Below.refl _ _) (by simp) _)⟩, ?_⟩
            simp [intOf]
            omega
          · by_cases hlt4 : (fa i).tdiv 4 < at_
            · go_wp2_with (fail)
              (with_reducible refine (take_keep at_ _ _ (by omega) (by omega) (by omega)).mono ?_)
              rintro e w1 ⟨rfl, HB⟩
              obtain ⟨hc1, hf1⟩ := bcell HB
              have hz1 := HB.size
              try simp at hz1
              have hH1 := Held.step (w0 := w) hHr HB
              have hR1 := R2.step hR HB
              obtain ⟨s0, s1, s2, s3, s4⟩ := id hR1
              clear HB
              rw [show sat (at_ - (fa i).tdiv 4) = at_ - (fa i).tdiv 4 from sat_in (by omega)]
              generalize (fa i).tdiv 4 = t at *
              (try clear hA); (try clear hB); (try clear hfa); (try clear hfb); (try clear hfi); (try clear hz)
              go_wp2_with (fail)
              refine ⟨⟨i + 1, true, _, by omega, by omega, rfl, rfl, by simp, by omega, by omega, Lib.hid (by simp), Held.alloc (Held.set2 hH1 (Nat.le_refl _) (handle_lt hg) _ _) _, R2.step (R2.set hR1 _ _) (Below.alloc (Below.refl _ _) (by simp) _)⟩, ?_⟩
              simp [intOf]
              omega
            · go_wp2_with (fail)
              (with_reducible refine (take_set true at_ _ _ (by omega) (by omega) (Or.inr (by omega))).mono ?_)
              rintro e w1 ⟨rfl, HB⟩
              obtain ⟨hc1, hf1⟩ := bcell HB
              have hz1 := HB.size
              try simp at hz1
              have hH1 := Held.step (w0 := w) hHr HB
              have hR1 := R2.step hR HB
              obtain ⟨s0, s1, s2, s3, s4⟩ := id hR1
              clear HB
              try rw [show (fa i).tdiv 4 - (fa i).tdiv 4 = 0 by omega, show sat 0 = 0 by decide]
              generalize (fa i).tdiv 4 = t at *
              (try clear hA); (try clear hB); (try clear hfa); (try clear hfb); (try clear hfi); (try clear hz)
              go_wp2_with (fail)
              refine ⟨⟨i + 1, true, _, by omega, by omega, rfl, rfl, by simp, by omega, by omega, Lib.hid (by simp), Held.alloc (Held.set2 hH1 (Nat.le_refl _) (handle_lt hg) _ _) _, R2.step (R2.set hR1 _ _) (Below.alloc (Below.refl _ _) (by simp) _)⟩, ?_⟩
              simp [intOf]
              omega
      · skip
        cases st
        · have hz0 := hz.out rfl
          subst hz0
          go_wp2_with (fail)
          (with_reducible refine (take_set false 0 _ _ (by omega) (by omega) (Or.inl rfl)).mono ?_)
          rintro e w1 ⟨rfl, HB⟩
          obtain ⟨hc1, hf1⟩ := bcell HB
          have hz1 := HB.size
          try simp at hz1
          have hH1 := Held.step (w0 := w) hHr HB
          have hR1 := R2.step hR HB
          obtain ⟨s0, s1, s2, s3, s4⟩ := id hR1
          clear HB
          try rw [show (fa i).tdiv 4 - (fa i).tdiv 4 = 0 by omega, show sat 0 = 0 by decide]
          generalize (fa i).tdiv 4 = t at *
          (try clear hA); (try clear hB); (try clear hfa); (try clear hfb); (try clear hfi); (try clear hz)
          go_wp2_with (fail)
          refine ⟨⟨i + 1, true, _, by omega, by omega, rfl, rfl, by simp, by omega, by omega, Lib.hid (by simp), Held.alloc (Held.set2 hH1 (Nat.le_refl _) (handle_lt hg) _ _) _, R2.step (R2.set hR1 _ _) (Below.alloc (Below.refl _ _) (by simp) _)⟩, ?_⟩
          simp [intOf]
          omega
        · by_cases hlt4 : (fa i).tdiv 4 < at_
          · go_wp2_with (fail)
            (with_reducible refine (take_keep at_ _ _ (by omega) (by omega) (by omega)).mono ?_)
            rintro e w1 ⟨rfl, HB⟩
            obtain ⟨hc1, hf1⟩ := bcell HB
            have hz1 := HB.size
            try simp at hz1
            have hH1 := Held.step (w0 := w) hHr HB
            have hR1 := R2.step hR HB
            obtain ⟨s0, s1, s2, s3, s4⟩ := id hR1
            clear HB
            rw [show sat (at_ - (fa i).tdiv 4) = at_ - (fa i).tdiv 4 from sat_in (by omega)]
            generalize (fa i).tdiv 4 = t at *
            (try clear hA); (try clear hB); (try clear hfa); (try clear hfb); (try clear hfi); (try clear hz)
            go_wp2_with (fail)
            refine ⟨⟨i + 1, true, _, by omega, by omega, rfl, rfl, by simp, by omega, by omega, Lib.hid (by simp), Held.alloc (Held.set2 hH1 (Nat.le_refl _) (handle_lt hg) _ _) _, R2.step (R2.set hR1 _ _) (Below.alloc (Below.refl _ _) (by simp) _)⟩, ?_⟩
            simp [intOf]
            omega
          · go_wp2_with (fail)
            (with_reducible refine (take_set true at_ _ _ (by omega) (by omega) (Or.inr (by omega))).mono ?_)
            rintro e w1 ⟨rfl, HB⟩
            obtain ⟨hc1, hf1⟩ := bcell HB
            have hz1 := HB.size
            try simp at hz1
            have hH1 := Held.step (w0 := w) hHr HB
            have hR1 := R2.step hR HB
            obtain ⟨s0, s1, s2, s3, s4⟩ := id hR1
            clear HB
            try rw [show (fa i).tdiv 4 - (fa i).tdiv 4 = 0 by omega, show sat 0 = 0 by decide]
            generalize (fa i).tdiv 4 = t at *
            (try clear hA); (try clear hB); (try clear hfa); (try clear hfb); (try clear hfi); (try clear hz)
            go_wp2_with (fail)
            refine ⟨⟨i + 1, true, _, by omega, by omega, rfl, rfl, by simp, by omega, by omega, Lib.hid (by simp), Held.alloc (Held.set2 hH1 (Nat.le_refl _) (handle_lt hg) _ _) _, R2.step (R2.set hR1 _ _) (Below.alloc (Below.refl _ _) (by simp) _)⟩, ?_⟩
            simp [intOf]
            omega
    · clear hA hB hfa hfb
      by_cases hlt1 : i < na
      · have b1 : (i : Int) < (na : Int) := by omega
        have b2 : ¬ (i : Int) < 60 := by omega
        go_wp2_with (first | (go_at_call 72; (with_reducible refine (sure26 _ (Held.handle (w0 := w) (by assumption))).mono ?_); rintro e w' ⟨rfl, hb'⟩; have hH' := Held.step (w0 := w) (by assumption) hb'; clear hb'))
        go_ret
        exact ⟨rfl, Held.below (w0 := w) (by assumption)⟩
      · have b1 : ¬ (i : Int) < (na : Int) := by omega
        go_wp2_with (first | (go_at_call 72; (with_reducible refine (sure26 _ (Held.handle (w0 := w) (by assumption))).mono ?_); rintro e w' ⟨rfl, hb'⟩; have hH' := Held.step (w0 := w) (by assumption) hb'; clear hb'))
        go_ret
        exact ⟨rfl, Held.below (w0 := w) (by assumption)⟩
theorem walkFloorHolds (oa : Option Addr) (na ca : Nat) (fa : Nat → Int) (ob : Option Addr) (nb cb : Nat) (fb : Nat → Int) {w : World} (hA : SliceI w oa na .i64 fa) (hmax : na ≤ 9223372036854775807) (hfa : ∀ i, -9223372036854775808 ≤ fa i ∧ fa i ≤ 9223372036854775807) (hB : SliceI w ob nb .u16 fb) (hmaxb : nb ≤ 9223372036854775807) (hfb : ∀ i, 0 ≤ fb i ∧ fb i ≤ 65535) (hg : w.cell? ⟨0, 0, none⟩ = some asHandle) :
    Calls Tryd.prog 14 #[.slice oa na ca, .slice ob nb cb] w fun e w' => e = .returned (.bool true) ∧ Below w.heap.size w w' := fholds oa ob na nb ca cb fa fb w hA hB hmax hmaxb hfa hfb hg
end Go.Proofs.YtengchkiejpglaaDoor
