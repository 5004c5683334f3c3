/-
  Layer 5: the statement FieldsTake.
-/
import Derived.Test.YtffdglhdklmjoaaDoorW05i
import Derived.Test.YtffdglhdklmjoaaDoorV05
import Derived.Deep.LoopGhost
import Derived.Test.YtffdglhdklmjoaaDoorOrd
namespace Go.Proofs.YtffdglhdklmjoaaDoor
open Go.RowKit Go.Extern.Stop Go.Stop Go.Extern
set_option linter.unusedVariables false
set_option linter.unusedSimpArgs false
set_option maxRecDepth 100000 in
set_option maxHeartbeats 4000000 in
theorem ft_big (A : Option Addr) (c : Nat) (la : List UInt8) (B : Option Addr) (d : Nat) (lb : List UInt8) (w : World) (h : 600 < la.length ∨ 200 < lb.length) (hg : w.cell? ⟨0, 0, none⟩ = some asHandle) :
    Calls Tryd.prog 12 #[.slice A la.length c, .slice B lb.length d] w fun e w' => e = .returned (.bool true) ∧ Below w.heap.size w w' := by
  have hH := Held.start hg
  by_cases ha : 600 < la.length
  · go_enter Tryd.func12, Tryd.ntmps12
    go_wp2_with (go_at_call 64; (with_reducible refine (sure05 _ (Held.handle (w0 := w) (by assumption))).mono ?_); rintro e w' ⟨rfl, hb'⟩; have hH' := Held.step (w0 := w) (by assumption) hb'; clear hb')
    go_ret
    exact ⟨rfl, Held.below (w0 := w) (by assumption)⟩
  · have hb : 200 < lb.length := by omega
    go_enter Tryd.func12, Tryd.ntmps12
    go_wp2_with (go_at_call 64; (with_reducible refine (sure05 _ (Held.handle (w0 := w) (by assumption))).mono ?_); rintro e w' ⟨rfl, hb'⟩; have hH' := Held.step (w0 := w) (by assumption) hb'; clear hb')
    go_ret
    exact ⟨rfl, Held.below (w0 := w) (by assumption)⟩
/-- what the loop keeps -/
def FtI (w : World) (g bt : Nat) (l : List UInt8) (sh : Bool) (wr : World) : Prop :=
  Rdr wr g l sh ∧ (∃ A' c', wr.heap[bt]? = some (.cells #[.slice A' l.length c', .bool sh] 109 (0, 0)) ∧ Rd w A' l ∧ (A' = none → c' = 0) ∧ l.length ≤ c') ∧ (sh = true → l = []) ∧ Held w wr ∧ l.length ≤ 600 ∧ w.heap.size ≤ g ∧ g < bt
theorem row_two {W : World} {g : Nat} {a b : Value} {T : TypeId} (h : W.heap[g]? = some (.cells #[a, b] T (0, 0))) (v0 v1 : Value) : ((W.setCell ⟨g, 0, none⟩ v0).setCell ⟨g, 1, none⟩ v1).heap[g]? = some (.cells #[v0, v1] T (0, 0)) := by
  have h7 := set_row (set_row h 0 v0) 1 v1
  rw [h7]
  simp only [List.setIfInBounds_toArray, List.set_cons_zero, List.set_cons_succ]
/-- what region 28 keeps -/
def FtS (w : World) (g bt : Nat) (l : List UInt8) (sh : Bool) (A' : Option Addr) (c' : Nat) (wx : World) : Prop :=
  Rdr wx g l sh ∧ wx.heap[bt]? = some (.cells #[.slice A' l.length c', .bool sh] 109 (0, 0)) ∧ Held w wx
theorem FtS.step {w wx w' : World} {g bt : Nat} {l : List UInt8} {sh : Bool} {A' : Option Addr} {c' : Nat} (h : FtS w g bt l sh A' c' wx) (hb : Below wx.heap.size wx w') : FtS w g bt l sh A' c' w' :=
  ⟨h.1.below hb, by rw [hb.block bt (Array.getElem?_eq_some_iff.1 h.2.1).1]; exact h.2.1, h.2.2.step hb⟩
theorem Rdr.past {w w' : World} {g bt : Nat} {l : List UInt8} {sh : Bool} (h : Rdr w g l sh) (hg : w.grownBy w' (some bt)) (hb : g < bt) : Rdr w' g l sh := by
  have hlt := h.lt
  obtain ⟨A, c, h0, h1, h2, h3, h4⟩ := h
  exact ⟨A, c, (hg.block g hlt (by intro e; injection e with e; omega)).trans h0, h1, h2, h3.grown hg (fun ad e => by have := h4 ad e; intro e2; injection e2 with e2; omega), h4⟩
theorem FtS.of {w w5 : World} {g bt : Nat} {l : List UInt8} {sh : Bool} {v0 v1 : Value} (A' : Option Addr) (c' : Nat) (hg : w.cell? ⟨0, 0, none⟩ = some asHandle) (hR : Rdr w5 g l sh) (hrow : w5.heap[bt]? = some (.cells #[v0, v1] 109 (0, 0))) (hb : Below w.heap.size w w5) (hgb : g < bt) (hbw : w.heap.size ≤ bt) :
    FtS w g bt l sh A' c' ((w5.setCell ⟨bt, 0, none⟩ (.slice A' l.length c')).setCell ⟨bt, 1, none⟩ (.bool sh)) := by
  have hgr := gb_trans (gb_set w5 bt 0 (.slice A' l.length c')) (gb_set _ bt 1 (.bool sh))
  have hb6 := hb.grown hgr hb.size (fun k e => by cases e; exact hbw)
  exact ⟨hR.past hgr hgb, row_two hrow _ _, handle_below hg hb6 (handle_lt hg), hb6⟩
theorem rdone_n (A : Option Addr) (c n : Nat) (l : List UInt8) (bad v : Bool) (w : World) (hn : n = l.length) (hv : (!bad && decide (l = [])) = v) :
    Calls Tryd.prog 76 #[.agg #[.slice A n c, .bool bad]] w fun e w' => e = .returned (.bool v) ∧ Below w.heap.size w w' := by subst hv; exact rdone_c A c n l bad w hn
theorem u64_wrap64 (v : Nat) (h : v < 18446744073709551616) : IntKind.u64.wrap (wrap64 (v : Int)) = (v : Int) := by
  rw [IntKind.wrap_u64]
  unfold wrap64
  omega
def doneV (l : List UInt8) (sh : Bool) : Value := if sh = false ∧ l = [] then .nilIface else errV 3
theorem ft_done (w : World) (g : Nat) (l : List UInt8) (sh : Bool) (h : Rdr w g l sh) (hl : l.length ≤ 140737488355328) :
    Calls Tryd.prog 72 #[.pointer (some ⟨g, 0, none⟩)] w fun e w' => e = .returned (doneV l sh) ∧ w = w' := by
  unfold doneV
  cases sh
  · rcases l with _ | ⟨x, r⟩
    · rw [if_pos ⟨rfl, rfl⟩]; exact done_ok g w h
    · rw [if_neg (by simp)]; exact done_left g _ w h (by simp) hl
  · rw [if_neg (by simp)]; exact done_short g l w h
set_option maxRecDepth 100000 in
set_option maxHeartbeats 40000000 in
theorem ft_small (A : Option Addr) (c : Nat) (la : List UInt8) (B : Option Addr) (d : Nat) (lb : List UInt8) (w : World) (hA : Rd w A la) (hAc : A = none → c = 0) (hlc : la.length ≤ c) (hB : Rd w B lb) (ha : la.length ≤ 600) (hb : lb.length ≤ 200) (hg : w.cell? ⟨0, 0, none⟩ = some asHandle) :
    Calls Tryd.prog 12 #[.slice A la.length c, .slice B lb.length d] w fun e w' => e = .returned (.bool true) ∧ Below w.heap.size w w' := by
  have hH := Held.start hg
  go_enter Tryd.func12, Tryd.ntmps12
  go_wp2_with (first | (go_at_call 65; (with_reducible refine (get1_pt _).mono ?_); rintro e w' ⟨rfl, hb'⟩; have hH' := Held.step (w0 := w) (by assumption) hb'; clear hb') | (go_at_call 66; (with_reducible refine (get2_pt _).mono ?_); rintro e w' ⟨rfl, hb'⟩; have hH' := Held.step (w0 := w) (by assumption) hb'; clear hb') | (go_at_call 67; (with_reducible refine (get4_pt _).mono ?_); rintro e w' ⟨rfl, hb'⟩; have hH' := Held.step (w0 := w) (by assumption) hb'; clear hb') | (go_at_call 68; (with_reducible refine (get8_pt _).mono ?_); rintro e w' ⟨rfl, hb'⟩; have hH' := Held.step (w0 := w) (by assumption) hb'; clear hb') | (go_at_call 69; (with_reducible refine (getT_pt _).mono ?_); rintro e w' ⟨rfl, hb'⟩; have hH' := Held.step (w0 := w) (by assumption) hb'; clear hb') | (go_at_call 70; (with_reducible refine (left_nil _).mono ?_); rintro e w' ⟨rfl, rfl⟩) | (go_at_call 72; (with_reducible refine (done_nil _).mono ?_); rintro e w' ⟨rfl, rfl⟩) | (go_at_call 71; (with_reducible refine (num05_nil _).mono ?_); rintro e w' ⟨rfl, hb'⟩; have hH' := Held.step (w0 := w) (by assumption) hb'; clear hb') | (go_at_call 71; (with_reducible refine (num05_err _ _ (Held.handle (w0 := w) (by assumption))).mono ?_); rintro e w' ⟨rfl, hb'⟩; have hH' := Held.step (w0 := w) (by assumption) hb'; clear hb'))
  (with_reducible refine (new_n _ _ _ la _ (by exact hA.below (Held.below (w0 := w) (by assumption))) (by exact hAc) (by simp) (by omega)).mono ?_)
  rintro e w2 ⟨g, rfl, hR, hgs, HB2⟩
  have hH2 : Held w w2 := Held.step (w0 := w) (by assumption) HB2
  have hgw : w.heap.size ≤ g := Nat.le_trans (Held.below (w0 := w) (by assumption)).size hgs
  go_wp2_with (fail)
  have hI : FtI w g w2.heap.size la false (w2.alloc (.cells #[.slice A la.length c, .bool false] 109)) :=
    ⟨hR.below ((Below.refl _ _).alloc (Nat.le_refl _) _), ⟨A, c, heap_alloc_new w2 _, hA, hAc, hlc⟩, (fun h => by cases h), hH2.alloc _, ha, hgw, hR.lt⟩
  have hbw : w.heap.size ≤ w2.heap.size := hH2.below.size
  have hBl : ∀ wr, Below w.heap.size w wr → Rd wr B lb := fun wr h => hB.below h
  generalize w2.heap.size = bt at *
  generalize w2.alloc (.cells #[.slice A la.length c, .bool false] 109) = w3 at *
  clear hA hAc hlc hR hgs HB2 hH2 hH hH'
  go_loopg [8] (lb.length) (fun k i wx => ∃ (m : Nat) (l : List UInt8) (sh : Bool), k = lb.length - m ∧ m ≤ lb.length ∧ i = .int .i64 (m : Int) ∧ FtI w g bt l sh wx)
  case atStart => exact ⟨0, la, false, rfl, Nat.zero_le _, rfl, hI⟩
  case round =>
    obtain ⟨m, l, sh, rfl, hm, rfl, hI⟩ := hrel
    by_cases hlt : m < lb.length
    · rcases B with _ | bd
      · have := hB.1 rfl
        subst this
        simp at hlt
      obtain ⟨hR, ⟨A', c', hrow, hRA, hAc, hlc⟩, hbad, hHx, hl6, hgw2, hgb⟩ := hI
      have hcx := (hBl wr hHx.below).cell hlt
      have hx := lb[m].toNat_lt
      have kr0 := cell_of_row wr bt 0 _ _ _ hrow
      have kr1 := cell_of_row wr bt 1 _ _ _ hrow
      obtain hx5 | hx5 | hx5 | hx5 | hx5 : lb[m].toNat % 5 = 0 ∨ lb[m].toNat % 5 = 1 ∨ lb[m].toNat % 5 = 2 ∨ lb[m].toNat % 5 = 3 ∨ lb[m].toNat % 5 = 4 := by omega
      · go_wp2_with (fail)
        (with_reducible refine (get1_c _ _ _ _ (by exact hR) (by omega)).mono ?_)
        rintro e w4 ⟨rfl, hR4, hg4⟩
        have hb4 : Below w.heap.size w w4 := hHx.below.grown hg4 hHx.below.size (fun k e => by cases e; exact hgw2)
        have hrow4 := (hg4.block bt (Array.getElem?_eq_some_iff.1 hrow).1 (by intro e; injection e with e; omega)).trans hrow
        have kq0 := cell_of_row w4 bt 0 _ _ _ hrow4
        have kq1 := cell_of_row w4 bt 1 _ _ _ hrow4
        clear kr0 kr1 hcx
        have hv := getV_lt l 1
        have hvE : 256 ^ 1 = 256 := by decide
        rw [hvE] at hv
        clear hvE
        have hcv : IntKind.u64.wrap ((getV l 1 : Nat) : Int) = (getV l 1 : Nat) := by rw [IntKind.wrap_u64]; omega
        go_wp2_with (fail)
        (with_reducible refine (rtake_n w A' c' _ l _ sh _ _ 1 _ _ (by exact hRA) (by exact hb4) (by exact hlc) (by exact hbad) (by simp) (by simp) (by omega) (by decide) (by decide) rfl rfl rfl).mono ?_)
        rintro e w5 ⟨A5, c5, rfl, hRA5, hAc5, hlc5, HB5⟩
        have hb5 : Below w.heap.size w w5 := hb4.trans (HB5.mono hb4.size)
        have hrow5 := (HB5.block bt (Array.getElem?_eq_some_iff.1 hrow4).1).trans hrow4
        have hR5 := hR4.below HB5
        have kr0 := cell_of_row w5 bt 0 _ _ _ hrow5
        have kr1 := cell_of_row w5 bt 1 _ _ _ hrow5
        have kf0 := frozen_of_row w5 bt 0 _ _ hrow5
        have kf1 := frozen_of_row w5 bt 1 _ _ hrow5
        have hS6 := FtS.of A5 c5 hg hR5 hrow5 hb5 hgb hbw
        have hbad' := bad_keeps l sh 1 hbad
        have hle := getL_le l 1
        clear hR4 hg4 hR kq0 kq1 hb4 HB5 hrow4
        generalize getL l 1 = l' at *
        generalize getS l sh 1 = sh' at *
        generalize getV l 1 = V at *
        go_wp2_with (fail)
        generalize (w5.setCell ⟨bt, 0, none⟩ (.slice A5 l'.length c5)).setCell ⟨bt, 1, none⟩ (.bool sh') = w6 at *
        clear kr0 kr1 kf0 kf1 hR5 hrow5 hb5
        have hR6 := hS6.1
        (with_reducible refine (ft_done _ _ l' _ (by exact hR6) (by omega)).mono ?_)
        rintro e w7 ⟨rfl, rfl⟩
        by_cases hd : sh' = false ∧ l' = []
        · have hdv : doneV l' sh' = .nilIface := if_pos hd
          have hrd := Lib.hid (show (!sh' && decide (l' = [])) = true by simp [hd.1, hd.2])
          clear hd
          rw [hdv]
          go_upto_region 28 with (fail)
          refine wp_region_S (S := (fun wx => FtS w g bt l' sh' A5 c5 wx)) (by kernel_rfl) (FtS.step hS6 (Below.refl _ _).drew) ?_
          refine anyS_take (i := 0) (v := ?vx1x0) rfl (by kernel_rfl) (by kernel_rfl) (by kernel_rfl) ?hyx1x0 ?restx1x0
          case hyx1x0 => first | (refine StepS.read (by rfl) (fun wx hSw => ?_); (try dsimp only at hSw); obtain ⟨hRw, hroww, hHw⟩ := hSw; have q0 := cell_of_row _ bt 0 _ _ _ hroww; have q1 := cell_of_row _ bt 1 _ _ _ hroww; go_simp; first | done | with_reducible rfl) | exact Or.inr ⟨by rfl, rfl⟩
          try simp only [List.getElem_toArray, List.getElem_cons_succ, List.getElem_cons_zero, Act.put, List.setIfInBounds_toArray, List.set_cons_zero, List.set_cons_succ]
          refine anyS_take (i := 1) (v := ?vx1x1) rfl (by kernel_rfl) (by kernel_rfl) (by kernel_rfl) ?hyx1x1 ?restx1x1
          case hyx1x1 => first | (refine StepS.read (by rfl) (fun wx hSw => ?_); (try dsimp only at hSw); obtain ⟨hRw, hroww, hHw⟩ := hSw; have q0 := cell_of_row _ bt 0 _ _ _ hroww; have q1 := cell_of_row _ bt 1 _ _ _ hroww; go_simp; first | done | with_reducible rfl) | exact Or.inr ⟨by rfl, rfl⟩
          try simp only [List.getElem_toArray, List.getElem_cons_succ, List.getElem_cons_zero, Act.put, List.setIfInBounds_toArray, List.set_cons_zero, List.set_cons_succ]
          refine anyS_take (i := 2) (v := ?vx1x2) rfl (by kernel_rfl) (by kernel_rfl) (by kernel_rfl) ?hyx1x2 ?restx1x2
          case hyx1x2 => first | (refine StepS.read (by rfl) (fun wx hSw => ?_); (try dsimp only at hSw); obtain ⟨hRw, hroww, hHw⟩ := hSw; have q0 := cell_of_row _ bt 0 _ _ _ hroww; have q1 := cell_of_row _ bt 1 _ _ _ hroww; go_simp; first | done | with_reducible rfl) | exact Or.inr ⟨by rfl, rfl⟩
          try simp only [List.getElem_toArray, List.getElem_cons_succ, List.getElem_cons_zero, Act.put, List.setIfInBounds_toArray, List.set_cons_zero, List.set_cons_succ]
          refine anyS_take (i := 3) (v := ?vx1x3) rfl (by kernel_rfl) (by kernel_rfl) (by kernel_rfl) ?hyx1x3 ?restx1x3
          case hyx1x3 => first | (refine StepS.read (by rfl) (fun wx hSw => ?_); (try dsimp only at hSw); obtain ⟨hRw, hroww, hHw⟩ := hSw; have q0 := cell_of_row _ bt 0 _ _ _ hroww; have q1 := cell_of_row _ bt 1 _ _ _ hroww; go_simp; first | done | with_reducible rfl) | exact Or.inr ⟨by rfl, rfl⟩
          try simp only [List.getElem_toArray, List.getElem_cons_succ, List.getElem_cons_zero, Act.put, List.setIfInBounds_toArray, List.set_cons_zero, List.set_cons_succ]
          refine anyS_take (i := 4) (v := ?vx1x4) rfl (by kernel_rfl) (by kernel_rfl) (by kernel_rfl) ?hyx1x4 ?restx1x4
          case hyx1x4 => first | (refine StepS.read (by rfl) (fun wx hSw => ?_); (try dsimp only at hSw); obtain ⟨hRw, hroww, hHw⟩ := hSw; have q0 := cell_of_row _ bt 0 _ _ _ hroww; have q1 := cell_of_row _ bt 1 _ _ _ hroww; go_simp; first | done | with_reducible rfl) | exact Or.inr ⟨by rfl, rfl⟩
          try simp only [List.getElem_toArray, List.getElem_cons_succ, List.getElem_cons_zero, Act.put, List.setIfInBounds_toArray, List.set_cons_zero, List.set_cons_succ]
          refine anyS_take (i := 5) (v := ?vx1x5) rfl (by kernel_rfl) (by kernel_rfl) (by kernel_rfl) ?hyx1x5 ?restx1x5
          case hyx1x5 => first | (refine StepS.read (by rfl) (fun wx hSw => ?_); (try dsimp only at hSw); obtain ⟨hRw, hroww, hHw⟩ := hSw; have q0 := cell_of_row _ bt 0 _ _ _ hroww; have q1 := cell_of_row _ bt 1 _ _ _ hroww; go_simp; first | done | with_reducible rfl) | exact Or.inr ⟨by rfl, rfl⟩
          try simp only [List.getElem_toArray, List.getElem_cons_succ, List.getElem_cons_zero, Act.put, List.setIfInBounds_toArray, List.set_cons_zero, List.set_cons_succ]
          refine anyS_take (i := 6) (v := ?vx1x6) rfl (by kernel_rfl) (by kernel_rfl) (by kernel_rfl) ?hyx1x6 ?restx1x6
          case hyx1x6 => first | (refine StepS.read (by rfl) (fun wx hSw => ?_); (try dsimp only at hSw); obtain ⟨hRw, hroww, hHw⟩ := hSw; have q0 := cell_of_row _ bt 0 _ _ _ hroww; have q1 := cell_of_row _ bt 1 _ _ _ hroww; go_simp; first | done | with_reducible rfl) | exact Or.inr ⟨by rfl, rfl⟩
          try simp only [List.getElem_toArray, List.getElem_cons_succ, List.getElem_cons_zero, Act.put, List.setIfInBounds_toArray, List.set_cons_zero, List.set_cons_succ]
          refine anyS_take (i := 7) (v := ?vx1x7) rfl (by kernel_rfl) (by kernel_rfl) (by kernel_rfl) ?hyx1x7 ?restx1x7
          case hyx1x7 => first | (refine StepS.read (by rfl) (fun wx hSw => ?_); (try dsimp only at hSw); obtain ⟨hRw, hroww, hHw⟩ := hSw; have q0 := cell_of_row _ bt 0 _ _ _ hroww; have q1 := cell_of_row _ bt 1 _ _ _ hroww; go_simp; first | done | with_reducible rfl) | exact Or.inr ⟨by rfl, rfl⟩
          try simp only [List.getElem_toArray, List.getElem_cons_succ, List.getElem_cons_zero, Act.put, List.setIfInBounds_toArray, List.set_cons_zero, List.set_cons_succ]
          refine anyS_take (i := 8) (v := ?vx1x8) rfl (by kernel_rfl) (by kernel_rfl) (by kernel_rfl) ?hyx1x8 ?restx1x8
          case hyx1x8 => first | (refine StepS.read (by rfl) (fun wx hSw => ?_); (try dsimp only at hSw); obtain ⟨hRw, hroww, hHw⟩ := hSw; have q0 := cell_of_row _ bt 0 _ _ _ hroww; have q1 := cell_of_row _ bt 1 _ _ _ hroww; go_simp; first | done | with_reducible rfl) | exact Or.inr ⟨by rfl, rfl⟩
          try simp only [List.getElem_toArray, List.getElem_cons_succ, List.getElem_cons_zero, Act.put, List.setIfInBounds_toArray, List.set_cons_zero, List.set_cons_succ]
          refine anyS_take (i := 9) (v := ?vx1x9) rfl (by kernel_rfl) (by kernel_rfl) (by kernel_rfl) ?hyx1x9 ?restx1x9
          case hyx1x9 => first | (refine StepS.read (by rfl) (fun wx hSw => ?_); (try dsimp only at hSw); obtain ⟨hRw, hroww, hHw⟩ := hSw; have q0 := cell_of_row _ bt 0 _ _ _ hroww; have q1 := cell_of_row _ bt 1 _ _ _ hroww; go_simp; first | done | with_reducible rfl) | exact Or.inr ⟨by rfl, rfl⟩
          try simp only [List.getElem_toArray, List.getElem_cons_succ, List.getElem_cons_zero, Act.put, List.setIfInBounds_toArray, List.set_cons_zero, List.set_cons_succ]
          refine anyS_take (i := 10) (v := (.int .i64 (l'.length : Int))) rfl (by kernel_rfl) (by kernel_rfl) (by kernel_rfl) ?hyx1x10 ?restx1x10
          case hyx1x10 => (refine Or.inl ⟨by rfl, fun wx hSw => ?_⟩; (try dsimp only at hSw); have hSk := hSw; obtain ⟨hRw, hroww, hHw⟩ := hSw; go_simp; refine Or.inr ⟨_, _, _, rfl, ?_⟩; (with_reducible refine (left_c _ _ _ _ (by exact hRw)).mono ?_); rintro e w' ⟨rfl, rfl⟩; exact ⟨rfl, hSk⟩)
          try simp only [List.getElem_toArray, List.getElem_cons_succ, List.getElem_cons_zero, Act.put, List.setIfInBounds_toArray, List.set_cons_zero, List.set_cons_succ]
          refine anyS_take (i := 11) (v := ?vx1x11) rfl (by kernel_rfl) (by kernel_rfl) (by kernel_rfl) ?hyx1x11 ?restx1x11
          case hyx1x11 => first | (refine StepS.read (by rfl) (fun wx hSw => ?_); (try dsimp only at hSw); obtain ⟨hRw, hroww, hHw⟩ := hSw; have q0 := cell_of_row _ bt 0 _ _ _ hroww; have q1 := cell_of_row _ bt 1 _ _ _ hroww; go_simp; first | done | with_reducible rfl) | exact Or.inr ⟨by rfl, rfl⟩
          try simp only [List.getElem_toArray, List.getElem_cons_succ, List.getElem_cons_zero, Act.put, List.setIfInBounds_toArray, List.set_cons_zero, List.set_cons_succ]
          refine anyS_take (i := 12) (v := ?vx1x12) rfl (by kernel_rfl) (by kernel_rfl) (by kernel_rfl) ?hyx1x12 ?restx1x12
          case hyx1x12 => first | (refine StepS.read (by rfl) (fun wx hSw => ?_); (try dsimp only at hSw); obtain ⟨hRw, hroww, hHw⟩ := hSw; have q0 := cell_of_row _ bt 0 _ _ _ hroww; have q1 := cell_of_row _ bt 1 _ _ _ hroww; go_simp; first | done | with_reducible rfl) | exact Or.inr ⟨by rfl, rfl⟩
          try simp only [List.getElem_toArray, List.getElem_cons_succ, List.getElem_cons_zero, Act.put, List.setIfInBounds_toArray, List.set_cons_zero, List.set_cons_succ]
          refine anyS_take (i := 13) (v := ?vx1x13) rfl (by kernel_rfl) (by kernel_rfl) (by kernel_rfl) ?hyx1x13 ?restx1x13
          case hyx1x13 => first | (refine StepS.read (by rfl) (fun wx hSw => ?_); (try dsimp only at hSw); obtain ⟨hRw, hroww, hHw⟩ := hSw; have q0 := cell_of_row _ bt 0 _ _ _ hroww; have q1 := cell_of_row _ bt 1 _ _ _ hroww; go_simp; first | done | with_reducible rfl) | exact Or.inr ⟨by rfl, rfl⟩
          try simp only [List.getElem_toArray, List.getElem_cons_succ, List.getElem_cons_zero, Act.put, List.setIfInBounds_toArray, List.set_cons_zero, List.set_cons_succ]
          refine anyS_take (i := 14) (v := ?vx1x14) rfl (by kernel_rfl) (by kernel_rfl) (by kernel_rfl) ?hyx1x14 ?restx1x14
          case hyx1x14 => first | (refine StepS.read (by rfl) (fun wx hSw => ?_); (try dsimp only at hSw); obtain ⟨hRw, hroww, hHw⟩ := hSw; have q0 := cell_of_row _ bt 0 _ _ _ hroww; have q1 := cell_of_row _ bt 1 _ _ _ hroww; go_simp; first | done | with_reducible rfl) | exact Or.inr ⟨by rfl, rfl⟩
          try simp only [List.getElem_toArray, List.getElem_cons_succ, List.getElem_cons_zero, Act.put, List.setIfInBounds_toArray, List.set_cons_zero, List.set_cons_succ]
          refine anyS_take (i := 15) (v := ?vx1x15) rfl (by kernel_rfl) (by kernel_rfl) (by kernel_rfl) ?hyx1x15 ?restx1x15
          case hyx1x15 => first | (refine StepS.read (by rfl) (fun wx hSw => ?_); (try dsimp only at hSw); obtain ⟨hRw, hroww, hHw⟩ := hSw; have q0 := cell_of_row _ bt 0 _ _ _ hroww; have q1 := cell_of_row _ bt 1 _ _ _ hroww; go_simp; first | done | with_reducible rfl) | exact Or.inr ⟨by rfl, rfl⟩
          try simp only [List.getElem_toArray, List.getElem_cons_succ, List.getElem_cons_zero, Act.put, List.setIfInBounds_toArray, List.set_cons_zero, List.set_cons_succ]
          refine anyS_take (i := 16) (v := ?vx1x16) rfl (by kernel_rfl) (by kernel_rfl) (by kernel_rfl) ?hyx1x16 ?restx1x16
          case hyx1x16 => first | (refine StepS.read (by rfl) (fun wx hSw => ?_); (try dsimp only at hSw); obtain ⟨hRw, hroww, hHw⟩ := hSw; have q0 := cell_of_row _ bt 0 _ _ _ hroww; have q1 := cell_of_row _ bt 1 _ _ _ hroww; go_simp; first | done | with_reducible rfl) | exact Or.inr ⟨by rfl, rfl⟩
          try simp only [List.getElem_toArray, List.getElem_cons_succ, List.getElem_cons_zero, Act.put, List.setIfInBounds_toArray, List.set_cons_zero, List.set_cons_succ]
          refine anyS_take (i := 17) (v := ?vx1x17) rfl (by kernel_rfl) (by kernel_rfl) (by kernel_rfl) ?hyx1x17 ?restx1x17
          case hyx1x17 => first | (refine StepS.read (by rfl) (fun wx hSw => ?_); (try dsimp only at hSw); obtain ⟨hRw, hroww, hHw⟩ := hSw; have q0 := cell_of_row _ bt 0 _ _ _ hroww; have q1 := cell_of_row _ bt 1 _ _ _ hroww; go_simp; first | done | with_reducible rfl) | exact Or.inr ⟨by rfl, rfl⟩
          try simp only [List.getElem_toArray, List.getElem_cons_succ, List.getElem_cons_zero, Act.put, List.setIfInBounds_toArray, List.set_cons_zero, List.set_cons_succ]
          refine anyS_take (i := 18) (v := ?vx1x18) rfl (by kernel_rfl) (by kernel_rfl) (by kernel_rfl) ?hyx1x18 ?restx1x18
          case hyx1x18 => first | (refine StepS.read (by rfl) (fun wx hSw => ?_); (try dsimp only at hSw); obtain ⟨hRw, hroww, hHw⟩ := hSw; have q0 := cell_of_row _ bt 0 _ _ _ hroww; have q1 := cell_of_row _ bt 1 _ _ _ hroww; go_simp; first | done | with_reducible rfl) | exact Or.inr ⟨by rfl, rfl⟩
          try simp only [List.getElem_toArray, List.getElem_cons_succ, List.getElem_cons_zero, Act.put, List.setIfInBounds_toArray, List.set_cons_zero, List.set_cons_succ]
          refine anyS_take (i := 19) (v := ?vx1x19) rfl (by kernel_rfl) (by kernel_rfl) (by kernel_rfl) ?hyx1x19 ?restx1x19
          case hyx1x19 => first | (refine StepS.read (by rfl) (fun wx hSw => ?_); (try dsimp only at hSw); obtain ⟨hRw, hroww, hHw⟩ := hSw; have q0 := cell_of_row _ bt 0 _ _ _ hroww; have q1 := cell_of_row _ bt 1 _ _ _ hroww; go_simp; first | done | with_reducible rfl) | exact Or.inr ⟨by rfl, rfl⟩
          try simp only [List.getElem_toArray, List.getElem_cons_succ, List.getElem_cons_zero, Act.put, List.setIfInBounds_toArray, List.set_cons_zero, List.set_cons_succ]
          refine anyS_take (i := 20) (v := .bool true) rfl (by kernel_rfl) (by kernel_rfl) (by kernel_rfl) ?hyx1x20 ?restx1x20
          case hyx1x20 => (refine Or.inl ⟨by rfl, fun wx hSw => ?_⟩; (try dsimp only at hSw); have hSk := hSw; obtain ⟨hRw, hroww, hHw⟩ := hSw; go_simp; refine Or.inr ⟨_, _, _, rfl, ?_⟩; (with_reducible refine (rdone_n _ _ _ l' _ true _ (by simp) (by exact hrd.out)).mono ?_); rintro e w' ⟨rfl, hb'⟩; exact ⟨rfl, FtS.step hSk hb'⟩)
          try simp only [List.getElem_toArray, List.getElem_cons_succ, List.getElem_cons_zero, Act.put, List.setIfInBounds_toArray, List.set_cons_zero, List.set_cons_succ]
          refine anyS_take (i := 21) (v := ?vx1x21) rfl (by kernel_rfl) (by kernel_rfl) (by kernel_rfl) ?hyx1x21 ?restx1x21
          case hyx1x21 => first | (refine StepS.read (by rfl) (fun wx hSw => ?_); (try dsimp only at hSw); obtain ⟨hRw, hroww, hHw⟩ := hSw; have q0 := cell_of_row _ bt 0 _ _ _ hroww; have q1 := cell_of_row _ bt 1 _ _ _ hroww; go_simp; first | done | with_reducible rfl) | exact Or.inr ⟨by rfl, rfl⟩
          try simp only [List.getElem_toArray, List.getElem_cons_succ, List.getElem_cons_zero, Act.put, List.setIfInBounds_toArray, List.set_cons_zero, List.set_cons_succ]
          refine anyS_take (i := 22) (v := ?vx1x22) rfl (by kernel_rfl) (by kernel_rfl) (by kernel_rfl) ?hyx1x22 ?restx1x22
          case hyx1x22 => first | (refine StepS.read (by rfl) (fun wx hSw => ?_); (try dsimp only at hSw); obtain ⟨hRw, hroww, hHw⟩ := hSw; have q0 := cell_of_row _ bt 0 _ _ _ hroww; have q1 := cell_of_row _ bt 1 _ _ _ hroww; go_simp; first | done | with_reducible rfl) | exact Or.inr ⟨by rfl, rfl⟩
          try simp only [List.getElem_toArray, List.getElem_cons_succ, List.getElem_cons_zero, Act.put, List.setIfInBounds_toArray, List.set_cons_zero, List.set_cons_succ]
          refine anyS_take (i := 23) (v := ?vx1x23) rfl (by kernel_rfl) (by kernel_rfl) (by kernel_rfl) ?hyx1x23 ?restx1x23
          case hyx1x23 => first | (refine StepS.read (by rfl) (fun wx hSw => ?_); (try dsimp only at hSw); obtain ⟨hRw, hroww, hHw⟩ := hSw; have q0 := cell_of_row _ bt 0 _ _ _ hroww; have q1 := cell_of_row _ bt 1 _ _ _ hroww; go_simp; first | done | with_reducible rfl) | exact Or.inr ⟨by rfl, rfl⟩
          try simp only [List.getElem_toArray, List.getElem_cons_succ, List.getElem_cons_zero, Act.put, List.setIfInBounds_toArray, List.set_cons_zero, List.set_cons_succ]
          refine anyS_take (i := 24) (v := ?vx1x24) rfl (by kernel_rfl) (by kernel_rfl) (by kernel_rfl) ?hyx1x24 ?restx1x24
          case hyx1x24 => first | (refine StepS.read (by rfl) (fun wx hSw => ?_); (try dsimp only at hSw); obtain ⟨hRw, hroww, hHw⟩ := hSw; have q0 := cell_of_row _ bt 0 _ _ _ hroww; have q1 := cell_of_row _ bt 1 _ _ _ hroww; go_simp; first | done | with_reducible rfl) | exact Or.inr ⟨by rfl, rfl⟩
          try simp only [List.getElem_toArray, List.getElem_cons_succ, List.getElem_cons_zero, Act.put, List.setIfInBounds_toArray, List.set_cons_zero, List.set_cons_succ]
          refine anyS_take (i := 25) (v := ?vx1x25) rfl (by kernel_rfl) (by kernel_rfl) (by kernel_rfl) ?hyx1x25 ?restx1x25
          case hyx1x25 => first | (refine StepS.read (by rfl) (fun wx hSw => ?_); (try dsimp only at hSw); obtain ⟨hRw, hroww, hHw⟩ := hSw; have q0 := cell_of_row _ bt 0 _ _ _ hroww; have q1 := cell_of_row _ bt 1 _ _ _ hroww; go_simp; first | done | with_reducible rfl) | exact Or.inr ⟨by rfl, rfl⟩
          try simp only [List.getElem_toArray, List.getElem_cons_succ, List.getElem_cons_zero, Act.put, List.setIfInBounds_toArray, List.set_cons_zero, List.set_cons_succ]
          refine anyS_take (i := 26) (v := ?vx1x26) rfl (by kernel_rfl) (by kernel_rfl) (by kernel_rfl) ?hyx1x26 ?restx1x26
          case hyx1x26 => first | (refine StepS.read (by rfl) (fun wx hSw => ?_); (try dsimp only at hSw); obtain ⟨hRw, hroww, hHw⟩ := hSw; have q0 := cell_of_row _ bt 0 _ _ _ hroww; have q1 := cell_of_row _ bt 1 _ _ _ hroww; go_simp; first | done | with_reducible rfl) | exact Or.inr ⟨by rfl, rfl⟩
          try simp only [List.getElem_toArray, List.getElem_cons_succ, List.getElem_cons_zero, Act.put, List.setIfInBounds_toArray, List.set_cons_zero, List.set_cons_succ]
          refine anyS_take (i := 27) (v := undef) rfl (by kernel_rfl) (by kernel_rfl) (by kernel_rfl) (Or.inr ⟨by kernel_rfl, rfl⟩) ?restx1x27
          try simp only [List.getElem_toArray, List.getElem_cons_succ, List.getElem_cons_zero, Act.put, List.setIfInBounds_toArray, List.set_cons_zero, List.set_cons_succ]
          refine anyS_take (i := 28) (v := undef) rfl (by kernel_rfl) (by kernel_rfl) (by kernel_rfl) (Or.inr ⟨by kernel_rfl, rfl⟩) ?restx1x28
          try simp only [List.getElem_toArray, List.getElem_cons_succ, List.getElem_cons_zero, Act.put, List.setIfInBounds_toArray, List.set_cons_zero, List.set_cons_succ]
          refine anyS_take (i := 29) (v := undef) rfl (by kernel_rfl) (by kernel_rfl) (by kernel_rfl) (Or.inr ⟨by kernel_rfl, rfl⟩) ?restx1x29
          try simp only [List.getElem_toArray, List.getElem_cons_succ, List.getElem_cons_zero, Act.put, List.setIfInBounds_toArray, List.set_cons_zero, List.set_cons_succ]
          refine anyS_take (i := 30) (v := ?vx1x30) rfl (by kernel_rfl) (by kernel_rfl) (by kernel_rfl) ?hyx1x30 ?restx1x30
          case hyx1x30 => first | (refine StepS.read (by rfl) (fun wx hSw => ?_); (try dsimp only at hSw); obtain ⟨hRw, hroww, hHw⟩ := hSw; have q0 := cell_of_row _ bt 0 _ _ _ hroww; have q1 := cell_of_row _ bt 1 _ _ _ hroww; go_simp; first | done | with_reducible rfl) | exact Or.inr ⟨by rfl, rfl⟩
          try simp only [List.getElem_toArray, List.getElem_cons_succ, List.getElem_cons_zero, Act.put, List.setIfInBounds_toArray, List.set_cons_zero, List.set_cons_succ]
          refine anyS_take (i := 31) (v := ?vx1x31) rfl (by kernel_rfl) (by kernel_rfl) (by kernel_rfl) ?hyx1x31 ?restx1x31
          case hyx1x31 => first | (refine StepS.read (by rfl) (fun wx hSw => ?_); (try dsimp only at hSw); obtain ⟨hRw, hroww, hHw⟩ := hSw; have q0 := cell_of_row _ bt 0 _ _ _ hroww; have q1 := cell_of_row _ bt 1 _ _ _ hroww; go_simp; first | done | with_reducible rfl) | exact Or.inr ⟨by rfl, rfl⟩
          try simp only [List.getElem_toArray, List.getElem_cons_succ, List.getElem_cons_zero, Act.put, List.setIfInBounds_toArray, List.set_cons_zero, List.set_cons_succ]
          refine anyS_done (by kernel_rfl) (fun wx hSw => ?_) _
          (try dsimp only at hSw)
          go_wp2_with (fail)
          go_roundg (lb.length - (m + 1))
          case measure => omega
          case rel => exact ⟨m + 1, l', sh', rfl, by omega, by simp, ⟨hSw.1, ⟨A5, c5, hSw.2.1, hRA5, hAc5, hlc5⟩, hbad', hSw.2.2, by omega, hgw, hgb⟩⟩
        · have hdv : doneV l' sh' = errV 3 := if_neg hd
          have hrd := Lib.hid (show (!sh' && decide (l' = [])) = false by revert hd; cases sh' <;> simp)
          clear hd
          rw [hdv]
          go_upto_region 28 with (fail)
          refine wp_region_S (S := (fun wx => FtS w g bt l' sh' A5 c5 wx)) (by kernel_rfl) (FtS.step hS6 (Below.refl _ _).drew) ?_
          refine anyS_take (i := 0) (v := ?vx2x0) rfl (by kernel_rfl) (by kernel_rfl) (by kernel_rfl) ?hyx2x0 ?restx2x0
          case hyx2x0 => first | (refine StepS.read (by rfl) (fun wx hSw => ?_); (try dsimp only at hSw); obtain ⟨hRw, hroww, hHw⟩ := hSw; have q0 := cell_of_row _ bt 0 _ _ _ hroww; have q1 := cell_of_row _ bt 1 _ _ _ hroww; go_simp; first | done | with_reducible rfl) | exact Or.inr ⟨by rfl, rfl⟩
          try simp only [List.getElem_toArray, List.getElem_cons_succ, List.getElem_cons_zero, Act.put, List.setIfInBounds_toArray, List.set_cons_zero, List.set_cons_succ]
          refine anyS_take (i := 1) (v := ?vx2x1) rfl (by kernel_rfl) (by kernel_rfl) (by kernel_rfl) ?hyx2x1 ?restx2x1
          case hyx2x1 => first | (refine StepS.read (by rfl) (fun wx hSw => ?_); (try dsimp only at hSw); obtain ⟨hRw, hroww, hHw⟩ := hSw; have q0 := cell_of_row _ bt 0 _ _ _ hroww; have q1 := cell_of_row _ bt 1 _ _ _ hroww; go_simp; first | done | with_reducible rfl) | exact Or.inr ⟨by rfl, rfl⟩
          try simp only [List.getElem_toArray, List.getElem_cons_succ, List.getElem_cons_zero, Act.put, List.setIfInBounds_toArray, List.set_cons_zero, List.set_cons_succ]
          refine anyS_take (i := 2) (v := ?vx2x2) rfl (by kernel_rfl) (by kernel_rfl) (by kernel_rfl) ?hyx2x2 ?restx2x2
          case hyx2x2 => first | (refine StepS.read (by rfl) (fun wx hSw => ?_); (try dsimp only at hSw); obtain ⟨hRw, hroww, hHw⟩ := hSw; have q0 := cell_of_row _ bt 0 _ _ _ hroww; have q1 := cell_of_row _ bt 1 _ _ _ hroww; go_simp; first | done | with_reducible rfl) | exact Or.inr ⟨by rfl, rfl⟩
          try simp only [List.getElem_toArray, List.getElem_cons_succ, List.getElem_cons_zero, Act.put, List.setIfInBounds_toArray, List.set_cons_zero, List.set_cons_succ]
          refine anyS_take (i := 3) (v := ?vx2x3) rfl (by kernel_rfl) (by kernel_rfl) (by kernel_rfl) ?hyx2x3 ?restx2x3
          case hyx2x3 => first | (refine StepS.read (by rfl) (fun wx hSw => ?_); (try dsimp only at hSw); obtain ⟨hRw, hroww, hHw⟩ := hSw; have q0 := cell_of_row _ bt 0 _ _ _ hroww; have q1 := cell_of_row _ bt 1 _ _ _ hroww; go_simp; first | done | with_reducible rfl) | exact Or.inr ⟨by rfl, rfl⟩
          try simp only [List.getElem_toArray, List.getElem_cons_succ, List.getElem_cons_zero, Act.put, List.setIfInBounds_toArray, List.set_cons_zero, List.set_cons_succ]
          refine anyS_take (i := 4) (v := ?vx2x4) rfl (by kernel_rfl) (by kernel_rfl) (by kernel_rfl) ?hyx2x4 ?restx2x4
          case hyx2x4 => first | (refine StepS.read (by rfl) (fun wx hSw => ?_); (try dsimp only at hSw); obtain ⟨hRw, hroww, hHw⟩ := hSw; have q0 := cell_of_row _ bt 0 _ _ _ hroww; have q1 := cell_of_row _ bt 1 _ _ _ hroww; go_simp; first | done | with_reducible rfl) | exact Or.inr ⟨by rfl, rfl⟩
          try simp only [List.getElem_toArray, List.getElem_cons_succ, List.getElem_cons_zero, Act.put, List.setIfInBounds_toArray, List.set_cons_zero, List.set_cons_succ]
          refine anyS_take (i := 5) (v := ?vx2x5) rfl (by kernel_rfl) (by kernel_rfl) (by kernel_rfl) ?hyx2x5 ?restx2x5
          case hyx2x5 => first | (refine StepS.read (by rfl) (fun wx hSw => ?_); (try dsimp only at hSw); obtain ⟨hRw, hroww, hHw⟩ := hSw; have q0 := cell_of_row _ bt 0 _ _ _ hroww; have q1 := cell_of_row _ bt 1 _ _ _ hroww; go_simp; first | done | with_reducible rfl) | exact Or.inr ⟨by rfl, rfl⟩
          try simp only [List.getElem_toArray, List.getElem_cons_succ, List.getElem_cons_zero, Act.put, List.setIfInBounds_toArray, List.set_cons_zero, List.set_cons_succ]
          refine anyS_take (i := 6) (v := ?vx2x6) rfl (by kernel_rfl) (by kernel_rfl) (by kernel_rfl) ?hyx2x6 ?restx2x6
          case hyx2x6 => first | (refine StepS.read (by rfl) (fun wx hSw => ?_); (try dsimp only at hSw); obtain ⟨hRw, hroww, hHw⟩ := hSw; have q0 := cell_of_row _ bt 0 _ _ _ hroww; have q1 := cell_of_row _ bt 1 _ _ _ hroww; go_simp; first | done | with_reducible rfl) | exact Or.inr ⟨by rfl, rfl⟩
          try simp only [List.getElem_toArray, List.getElem_cons_succ, List.getElem_cons_zero, Act.put, List.setIfInBounds_toArray, List.set_cons_zero, List.set_cons_succ]
          refine anyS_take (i := 7) (v := ?vx2x7) rfl (by kernel_rfl) (by kernel_rfl) (by kernel_rfl) ?hyx2x7 ?restx2x7
          case hyx2x7 => first | (refine StepS.read (by rfl) (fun wx hSw => ?_); (try dsimp only at hSw); obtain ⟨hRw, hroww, hHw⟩ := hSw; have q0 := cell_of_row _ bt 0 _ _ _ hroww; have q1 := cell_of_row _ bt 1 _ _ _ hroww; go_simp; first | done | with_reducible rfl) | exact Or.inr ⟨by rfl, rfl⟩
          try simp only [List.getElem_toArray, List.getElem_cons_succ, List.getElem_cons_zero, Act.put, List.setIfInBounds_toArray, List.set_cons_zero, List.set_cons_succ]
          refine anyS_take (i := 8) (v := ?vx2x8) rfl (by kernel_rfl) (by kernel_rfl) (by kernel_rfl) ?hyx2x8 ?restx2x8
          case hyx2x8 => first | (refine StepS.read (by rfl) (fun wx hSw => ?_); (try dsimp only at hSw); obtain ⟨hRw, hroww, hHw⟩ := hSw; have q0 := cell_of_row _ bt 0 _ _ _ hroww; have q1 := cell_of_row _ bt 1 _ _ _ hroww; go_simp; first | done | with_reducible rfl) | exact Or.inr ⟨by rfl, rfl⟩
          try simp only [List.getElem_toArray, List.getElem_cons_succ, List.getElem_cons_zero, Act.put, List.setIfInBounds_toArray, List.set_cons_zero, List.set_cons_succ]
          refine anyS_take (i := 9) (v := ?vx2x9) rfl (by kernel_rfl) (by kernel_rfl) (by kernel_rfl) ?hyx2x9 ?restx2x9
          case hyx2x9 => first | (refine StepS.read (by rfl) (fun wx hSw => ?_); (try dsimp only at hSw); obtain ⟨hRw, hroww, hHw⟩ := hSw; have q0 := cell_of_row _ bt 0 _ _ _ hroww; have q1 := cell_of_row _ bt 1 _ _ _ hroww; go_simp; first | done | with_reducible rfl) | exact Or.inr ⟨by rfl, rfl⟩
          try simp only [List.getElem_toArray, List.getElem_cons_succ, List.getElem_cons_zero, Act.put, List.setIfInBounds_toArray, List.set_cons_zero, List.set_cons_succ]
          refine anyS_take (i := 10) (v := (.int .i64 (l'.length : Int))) rfl (by kernel_rfl) (by kernel_rfl) (by kernel_rfl) ?hyx2x10 ?restx2x10
          case hyx2x10 => (refine Or.inl ⟨by rfl, fun wx hSw => ?_⟩; (try dsimp only at hSw); have hSk := hSw; obtain ⟨hRw, hroww, hHw⟩ := hSw; go_simp; refine Or.inr ⟨_, _, _, rfl, ?_⟩; (with_reducible refine (left_c _ _ _ _ (by exact hRw)).mono ?_); rintro e w' ⟨rfl, rfl⟩; exact ⟨rfl, hSk⟩)
          try simp only [List.getElem_toArray, List.getElem_cons_succ, List.getElem_cons_zero, Act.put, List.setIfInBounds_toArray, List.set_cons_zero, List.set_cons_succ]
          refine anyS_take (i := 11) (v := ?vx2x11) rfl (by kernel_rfl) (by kernel_rfl) (by kernel_rfl) ?hyx2x11 ?restx2x11
          case hyx2x11 => first | (refine StepS.read (by rfl) (fun wx hSw => ?_); (try dsimp only at hSw); obtain ⟨hRw, hroww, hHw⟩ := hSw; have q0 := cell_of_row _ bt 0 _ _ _ hroww; have q1 := cell_of_row _ bt 1 _ _ _ hroww; go_simp; first | done | with_reducible rfl) | exact Or.inr ⟨by rfl, rfl⟩
          try simp only [List.getElem_toArray, List.getElem_cons_succ, List.getElem_cons_zero, Act.put, List.setIfInBounds_toArray, List.set_cons_zero, List.set_cons_succ]
          refine anyS_take (i := 12) (v := ?vx2x12) rfl (by kernel_rfl) (by kernel_rfl) (by kernel_rfl) ?hyx2x12 ?restx2x12
          case hyx2x12 => first | (refine StepS.read (by rfl) (fun wx hSw => ?_); (try dsimp only at hSw); obtain ⟨hRw, hroww, hHw⟩ := hSw; have q0 := cell_of_row _ bt 0 _ _ _ hroww; have q1 := cell_of_row _ bt 1 _ _ _ hroww; go_simp; first | done | with_reducible rfl) | exact Or.inr ⟨by rfl, rfl⟩
          try simp only [List.getElem_toArray, List.getElem_cons_succ, List.getElem_cons_zero, Act.put, List.setIfInBounds_toArray, List.set_cons_zero, List.set_cons_succ]
          refine anyS_take (i := 13) (v := ?vx2x13) rfl (by kernel_rfl) (by kernel_rfl) (by kernel_rfl) ?hyx2x13 ?restx2x13
          case hyx2x13 => first | (refine StepS.read (by rfl) (fun wx hSw => ?_); (try dsimp only at hSw); obtain ⟨hRw, hroww, hHw⟩ := hSw; have q0 := cell_of_row _ bt 0 _ _ _ hroww; have q1 := cell_of_row _ bt 1 _ _ _ hroww; go_simp; first | done | with_reducible rfl) | exact Or.inr ⟨by rfl, rfl⟩
          try simp only [List.getElem_toArray, List.getElem_cons_succ, List.getElem_cons_zero, Act.put, List.setIfInBounds_toArray, List.set_cons_zero, List.set_cons_succ]
          refine anyS_take (i := 14) (v := ?vx2x14) rfl (by kernel_rfl) (by kernel_rfl) (by kernel_rfl) ?hyx2x14 ?restx2x14
          case hyx2x14 => first | (refine StepS.read (by rfl) (fun wx hSw => ?_); (try dsimp only at hSw); obtain ⟨hRw, hroww, hHw⟩ := hSw; have q0 := cell_of_row _ bt 0 _ _ _ hroww; have q1 := cell_of_row _ bt 1 _ _ _ hroww; go_simp; first | done | with_reducible rfl) | exact Or.inr ⟨by rfl, rfl⟩
          try simp only [List.getElem_toArray, List.getElem_cons_succ, List.getElem_cons_zero, Act.put, List.setIfInBounds_toArray, List.set_cons_zero, List.set_cons_succ]
          refine anyS_take (i := 15) (v := ?vx2x15) rfl (by kernel_rfl) (by kernel_rfl) (by kernel_rfl) ?hyx2x15 ?restx2x15
          case hyx2x15 => first | (refine StepS.read (by rfl) (fun wx hSw => ?_); (try dsimp only at hSw); obtain ⟨hRw, hroww, hHw⟩ := hSw; have q0 := cell_of_row _ bt 0 _ _ _ hroww; have q1 := cell_of_row _ bt 1 _ _ _ hroww; go_simp; first | done | with_reducible rfl) | exact Or.inr ⟨by rfl, rfl⟩
          try simp only [List.getElem_toArray, List.getElem_cons_succ, List.getElem_cons_zero, Act.put, List.setIfInBounds_toArray, List.set_cons_zero, List.set_cons_succ]
          refine anyS_take (i := 16) (v := ?vx2x16) rfl (by kernel_rfl) (by kernel_rfl) (by kernel_rfl) ?hyx2x16 ?restx2x16
          case hyx2x16 => first | (refine StepS.read (by rfl) (fun wx hSw => ?_); (try dsimp only at hSw); obtain ⟨hRw, hroww, hHw⟩ := hSw; have q0 := cell_of_row _ bt 0 _ _ _ hroww; have q1 := cell_of_row _ bt 1 _ _ _ hroww; go_simp; first | done | with_reducible rfl) | exact Or.inr ⟨by rfl, rfl⟩
          try simp only [List.getElem_toArray, List.getElem_cons_succ, List.getElem_cons_zero, Act.put, List.setIfInBounds_toArray, List.set_cons_zero, List.set_cons_succ]
          refine anyS_take (i := 17) (v := ?vx2x17) rfl (by kernel_rfl) (by kernel_rfl) (by kernel_rfl) ?hyx2x17 ?restx2x17
          case hyx2x17 => first | (refine StepS.read (by rfl) (fun wx hSw => ?_); (try dsimp only at hSw); obtain ⟨hRw, hroww, hHw⟩ := hSw; have q0 := cell_of_row _ bt 0 _ _ _ hroww; have q1 := cell_of_row _ bt 1 _ _ _ hroww; go_simp; first | done | with_reducible rfl) | exact Or.inr ⟨by rfl, rfl⟩
          try simp only [List.getElem_toArray, List.getElem_cons_succ, List.getElem_cons_zero, Act.put, List.setIfInBounds_toArray, List.set_cons_zero, List.set_cons_succ]
          refine anyS_take (i := 18) (v := ?vx2x18) rfl (by kernel_rfl) (by kernel_rfl) (by kernel_rfl) ?hyx2x18 ?restx2x18
          case hyx2x18 => first | (refine StepS.read (by rfl) (fun wx hSw => ?_); (try dsimp only at hSw); obtain ⟨hRw, hroww, hHw⟩ := hSw; have q0 := cell_of_row _ bt 0 _ _ _ hroww; have q1 := cell_of_row _ bt 1 _ _ _ hroww; go_simp; first | done | with_reducible rfl) | exact Or.inr ⟨by rfl, rfl⟩
          try simp only [List.getElem_toArray, List.getElem_cons_succ, List.getElem_cons_zero, Act.put, List.setIfInBounds_toArray, List.set_cons_zero, List.set_cons_succ]
          refine anyS_take (i := 19) (v := ?vx2x19) rfl (by kernel_rfl) (by kernel_rfl) (by kernel_rfl) ?hyx2x19 ?restx2x19
          case hyx2x19 => first | (refine StepS.read (by rfl) (fun wx hSw => ?_); (try dsimp only at hSw); obtain ⟨hRw, hroww, hHw⟩ := hSw; have q0 := cell_of_row _ bt 0 _ _ _ hroww; have q1 := cell_of_row _ bt 1 _ _ _ hroww; go_simp; first | done | with_reducible rfl) | exact Or.inr ⟨by rfl, rfl⟩
          try simp only [List.getElem_toArray, List.getElem_cons_succ, List.getElem_cons_zero, Act.put, List.setIfInBounds_toArray, List.set_cons_zero, List.set_cons_succ]
          refine anyS_take (i := 20) (v := .bool false) rfl (by kernel_rfl) (by kernel_rfl) (by kernel_rfl) ?hyx2x20 ?restx2x20
          case hyx2x20 => (refine Or.inl ⟨by rfl, fun wx hSw => ?_⟩; (try dsimp only at hSw); have hSk := hSw; obtain ⟨hRw, hroww, hHw⟩ := hSw; go_simp; refine Or.inr ⟨_, _, _, rfl, ?_⟩; (with_reducible refine (rdone_n _ _ _ l' _ false _ (by simp) (by exact hrd.out)).mono ?_); rintro e w' ⟨rfl, hb'⟩; exact ⟨rfl, FtS.step hSk hb'⟩)
          try simp only [List.getElem_toArray, List.getElem_cons_succ, List.getElem_cons_zero, Act.put, List.setIfInBounds_toArray, List.set_cons_zero, List.set_cons_succ]
          refine anyS_take (i := 21) (v := ?vx2x21) rfl (by kernel_rfl) (by kernel_rfl) (by kernel_rfl) ?hyx2x21 ?restx2x21
          case hyx2x21 => first | (refine StepS.read (by rfl) (fun wx hSw => ?_); (try dsimp only at hSw); obtain ⟨hRw, hroww, hHw⟩ := hSw; have q0 := cell_of_row _ bt 0 _ _ _ hroww; have q1 := cell_of_row _ bt 1 _ _ _ hroww; go_simp; first | done | with_reducible rfl) | exact Or.inr ⟨by rfl, rfl⟩
          try simp only [List.getElem_toArray, List.getElem_cons_succ, List.getElem_cons_zero, Act.put, List.setIfInBounds_toArray, List.set_cons_zero, List.set_cons_succ]
          refine anyS_take (i := 22) (v := ?vx2x22) rfl (by kernel_rfl) (by kernel_rfl) (by kernel_rfl) ?hyx2x22 ?restx2x22
          case hyx2x22 => first | (refine StepS.read (by rfl) (fun wx hSw => ?_); (try dsimp only at hSw); obtain ⟨hRw, hroww, hHw⟩ := hSw; have q0 := cell_of_row _ bt 0 _ _ _ hroww; have q1 := cell_of_row _ bt 1 _ _ _ hroww; go_simp; first | done | with_reducible rfl) | exact Or.inr ⟨by rfl, rfl⟩
          try simp only [List.getElem_toArray, List.getElem_cons_succ, List.getElem_cons_zero, Act.put, List.setIfInBounds_toArray, List.set_cons_zero, List.set_cons_succ]
          refine anyS_take (i := 23) (v := ?vx2x23) rfl (by kernel_rfl) (by kernel_rfl) (by kernel_rfl) ?hyx2x23 ?restx2x23
          case hyx2x23 => first | (refine StepS.read (by rfl) (fun wx hSw => ?_); (try dsimp only at hSw); obtain ⟨hRw, hroww, hHw⟩ := hSw; have q0 := cell_of_row _ bt 0 _ _ _ hroww; have q1 := cell_of_row _ bt 1 _ _ _ hroww; go_simp; first | done | with_reducible rfl) | exact Or.inr ⟨by rfl, rfl⟩
          try simp only [List.getElem_toArray, List.getElem_cons_succ, List.getElem_cons_zero, Act.put, List.setIfInBounds_toArray, List.set_cons_zero, List.set_cons_succ]
          refine anyS_take (i := 24) (v := ?vx2x24) rfl (by kernel_rfl) (by kernel_rfl) (by kernel_rfl) ?hyx2x24 ?restx2x24
          case hyx2x24 => first | (refine StepS.read (by rfl) (fun wx hSw => ?_); (try dsimp only at hSw); obtain ⟨hRw, hroww, hHw⟩ := hSw; have q0 := cell_of_row _ bt 0 _ _ _ hroww; have q1 := cell_of_row _ bt 1 _ _ _ hroww; go_simp; first | done | with_reducible rfl) | exact Or.inr ⟨by rfl, rfl⟩
          try simp only [List.getElem_toArray, List.getElem_cons_succ, List.getElem_cons_zero, Act.put, List.setIfInBounds_toArray, List.set_cons_zero, List.set_cons_succ]
          refine anyS_take (i := 25) (v := ?vx2x25) rfl (by kernel_rfl) (by kernel_rfl) (by kernel_rfl) ?hyx2x25 ?restx2x25
          case hyx2x25 => first | (refine StepS.read (by rfl) (fun wx hSw => ?_); (try dsimp only at hSw); obtain ⟨hRw, hroww, hHw⟩ := hSw; have q0 := cell_of_row _ bt 0 _ _ _ hroww; have q1 := cell_of_row _ bt 1 _ _ _ hroww; go_simp; first | done | with_reducible rfl) | exact Or.inr ⟨by rfl, rfl⟩
          try simp only [List.getElem_toArray, List.getElem_cons_succ, List.getElem_cons_zero, Act.put, List.setIfInBounds_toArray, List.set_cons_zero, List.set_cons_succ]
          refine anyS_take (i := 26) (v := ?vx2x26) rfl (by kernel_rfl) (by kernel_rfl) (by kernel_rfl) ?hyx2x26 ?restx2x26
          case hyx2x26 => first | (refine StepS.read (by rfl) (fun wx hSw => ?_); (try dsimp only at hSw); obtain ⟨hRw, hroww, hHw⟩ := hSw; have q0 := cell_of_row _ bt 0 _ _ _ hroww; have q1 := cell_of_row _ bt 1 _ _ _ hroww; go_simp; first | done | with_reducible rfl) | exact Or.inr ⟨by rfl, rfl⟩
          try simp only [List.getElem_toArray, List.getElem_cons_succ, List.getElem_cons_zero, Act.put, List.setIfInBounds_toArray, List.set_cons_zero, List.set_cons_succ]
          refine anyS_take (i := 27) (v := ?vx2x27) rfl (by kernel_rfl) (by kernel_rfl) (by kernel_rfl) ?hyx2x27 ?restx2x27
          case hyx2x27 => first | (refine StepS.read (by rfl) (fun wx hSw => ?_); (try dsimp only at hSw); obtain ⟨hRw, hroww, hHw⟩ := hSw; have q0 := cell_of_row _ bt 0 _ _ _ hroww; have q1 := cell_of_row _ bt 1 _ _ _ hroww; go_simp; first | done | with_reducible rfl) | exact Or.inr ⟨by rfl, rfl⟩
          try simp only [List.getElem_toArray, List.getElem_cons_succ, List.getElem_cons_zero, Act.put, List.setIfInBounds_toArray, List.set_cons_zero, List.set_cons_succ]
          refine anyS_take (i := 28) (v := .int .i64 3) rfl (by kernel_rfl) (by kernel_rfl) (by kernel_rfl) ?hyx2x28 ?restx2x28
          case hyx2x28 => (refine Or.inl ⟨by rfl, fun wx hSw => ?_⟩; (try dsimp only at hSw); have hSk := hSw; obtain ⟨hRw, hroww, hHw⟩ := hSw; go_simp; refine Or.inr ⟨_, _, _, rfl, ?_⟩; (with_reducible refine (num05_err _ _ (Held.handle (w0 := w) hHw)).mono ?_); rintro e w' ⟨rfl, hb'⟩; exact ⟨rfl, FtS.step hSk hb'⟩)
          try simp only [List.getElem_toArray, List.getElem_cons_succ, List.getElem_cons_zero, Act.put, List.setIfInBounds_toArray, List.set_cons_zero, List.set_cons_succ]
          refine anyS_take (i := 29) (v := ?vx2x29) rfl (by kernel_rfl) (by kernel_rfl) (by kernel_rfl) ?hyx2x29 ?restx2x29
          case hyx2x29 => first | (refine StepS.read (by rfl) (fun wx hSw => ?_); (try dsimp only at hSw); obtain ⟨hRw, hroww, hHw⟩ := hSw; have q0 := cell_of_row _ bt 0 _ _ _ hroww; have q1 := cell_of_row _ bt 1 _ _ _ hroww; go_simp; first | done | with_reducible rfl) | exact Or.inr ⟨by rfl, rfl⟩
          try simp only [List.getElem_toArray, List.getElem_cons_succ, List.getElem_cons_zero, Act.put, List.setIfInBounds_toArray, List.set_cons_zero, List.set_cons_succ]
          refine anyS_take (i := 30) (v := ?vx2x30) rfl (by kernel_rfl) (by kernel_rfl) (by kernel_rfl) ?hyx2x30 ?restx2x30
          case hyx2x30 => first | (refine StepS.read (by rfl) (fun wx hSw => ?_); (try dsimp only at hSw); obtain ⟨hRw, hroww, hHw⟩ := hSw; have q0 := cell_of_row _ bt 0 _ _ _ hroww; have q1 := cell_of_row _ bt 1 _ _ _ hroww; go_simp; first | done | with_reducible rfl) | exact Or.inr ⟨by rfl, rfl⟩
          try simp only [List.getElem_toArray, List.getElem_cons_succ, List.getElem_cons_zero, Act.put, List.setIfInBounds_toArray, List.set_cons_zero, List.set_cons_succ]
          refine anyS_take (i := 31) (v := ?vx2x31) rfl (by kernel_rfl) (by kernel_rfl) (by kernel_rfl) ?hyx2x31 ?restx2x31
          case hyx2x31 => first | (refine StepS.read (by rfl) (fun wx hSw => ?_); (try dsimp only at hSw); obtain ⟨hRw, hroww, hHw⟩ := hSw; have q0 := cell_of_row _ bt 0 _ _ _ hroww; have q1 := cell_of_row _ bt 1 _ _ _ hroww; go_simp; first | done | with_reducible rfl) | exact Or.inr ⟨by rfl, rfl⟩
          try simp only [List.getElem_toArray, List.getElem_cons_succ, List.getElem_cons_zero, Act.put, List.setIfInBounds_toArray, List.set_cons_zero, List.set_cons_succ]
          refine anyS_done (by kernel_rfl) (fun wx hSw => ?_) _
          (try dsimp only at hSw)
          go_wp2_with (fail)
          go_roundg (lb.length - (m + 1))
          case measure => omega
          case rel => exact ⟨m + 1, l', sh', rfl, by omega, by simp, ⟨hSw.1, ⟨A5, c5, hSw.2.1, hRA5, hAc5, hlc5⟩, hbad', hSw.2.2, by omega, hgw, hgb⟩⟩
      · go_wp2_with (fail)
        (with_reducible refine (get2_c _ _ _ _ (by exact hR) (by omega)).mono ?_)
        rintro e w4 ⟨rfl, hR4, hg4⟩
        have hb4 : Below w.heap.size w w4 := hHx.below.grown hg4 hHx.below.size (fun k e => by cases e; exact hgw2)
        have hrow4 := (hg4.block bt (Array.getElem?_eq_some_iff.1 hrow).1 (by intro e; injection e with e; omega)).trans hrow
        have kq0 := cell_of_row w4 bt 0 _ _ _ hrow4
        have kq1 := cell_of_row w4 bt 1 _ _ _ hrow4
        clear kr0 kr1 hcx
        have hv := getV_lt l 2
        have hvE : 256 ^ 2 = 65536 := by decide
        rw [hvE] at hv
        clear hvE
        have hcv : IntKind.u64.wrap ((getV l 2 : Nat) : Int) = (getV l 2 : Nat) := by rw [IntKind.wrap_u64]; omega
        go_wp2_with (fail)
        (with_reducible refine (rtake_n w A' c' _ l _ sh _ _ 2 _ _ (by exact hRA) (by exact hb4) (by exact hlc) (by exact hbad) (by simp) (by simp) (by omega) (by decide) (by decide) rfl rfl rfl).mono ?_)
        rintro e w5 ⟨A5, c5, rfl, hRA5, hAc5, hlc5, HB5⟩
        have hb5 : Below w.heap.size w w5 := hb4.trans (HB5.mono hb4.size)
        have hrow5 := (HB5.block bt (Array.getElem?_eq_some_iff.1 hrow4).1).trans hrow4
        have hR5 := hR4.below HB5
        have kr0 := cell_of_row w5 bt 0 _ _ _ hrow5
        have kr1 := cell_of_row w5 bt 1 _ _ _ hrow5
        have kf0 := frozen_of_row w5 bt 0 _ _ hrow5
        have kf1 := frozen_of_row w5 bt 1 _ _ hrow5
        have hS6 := FtS.of A5 c5 hg hR5 hrow5 hb5 hgb hbw
        have hbad' := bad_keeps l sh 2 hbad
        have hle := getL_le l 2
        clear hR4 hg4 hR kq0 kq1 hb4 HB5 hrow4
        generalize getL l 2 = l' at *
        generalize getS l sh 2 = sh' at *
        generalize getV l 2 = V at *
        go_wp2_with (fail)
        generalize (w5.setCell ⟨bt, 0, none⟩ (.slice A5 l'.length c5)).setCell ⟨bt, 1, none⟩ (.bool sh') = w6 at *
        clear kr0 kr1 kf0 kf1 hR5 hrow5 hb5
        have hR6 := hS6.1
        (with_reducible refine (ft_done _ _ l' _ (by exact hR6) (by omega)).mono ?_)
        rintro e w7 ⟨rfl, rfl⟩
        by_cases hd : sh' = false ∧ l' = []
        · have hdv : doneV l' sh' = .nilIface := if_pos hd
          have hrd := Lib.hid (show (!sh' && decide (l' = [])) = true by simp [hd.1, hd.2])
          clear hd
          rw [hdv]
          go_upto_region 28 with (fail)
          refine wp_region_S (S := (fun wx => FtS w g bt l' sh' A5 c5 wx)) (by kernel_rfl) (FtS.step hS6 (Below.refl _ _).drew) ?_
          refine anyS_take (i := 0) (v := ?vx3x0) rfl (by kernel_rfl) (by kernel_rfl) (by kernel_rfl) ?hyx3x0 ?restx3x0
          case hyx3x0 => first | (refine StepS.read (by rfl) (fun wx hSw => ?_); (try dsimp only at hSw); obtain ⟨hRw, hroww, hHw⟩ := hSw; have q0 := cell_of_row _ bt 0 _ _ _ hroww; have q1 := cell_of_row _ bt 1 _ _ _ hroww; go_simp; first | done | with_reducible rfl) | exact Or.inr ⟨by rfl, rfl⟩
          try simp only [List.getElem_toArray, List.getElem_cons_succ, List.getElem_cons_zero, Act.put, List.setIfInBounds_toArray, List.set_cons_zero, List.set_cons_succ]
          refine anyS_take (i := 1) (v := ?vx3x1) rfl (by kernel_rfl) (by kernel_rfl) (by kernel_rfl) ?hyx3x1 ?restx3x1
          case hyx3x1 => first | (refine StepS.read (by rfl) (fun wx hSw => ?_); (try dsimp only at hSw); obtain ⟨hRw, hroww, hHw⟩ := hSw; have q0 := cell_of_row _ bt 0 _ _ _ hroww; have q1 := cell_of_row _ bt 1 _ _ _ hroww; go_simp; first | done | with_reducible rfl) | exact Or.inr ⟨by rfl, rfl⟩
          try simp only [List.getElem_toArray, List.getElem_cons_succ, List.getElem_cons_zero, Act.put, List.setIfInBounds_toArray, List.set_cons_zero, List.set_cons_succ]
          refine anyS_take (i := 2) (v := ?vx3x2) rfl (by kernel_rfl) (by kernel_rfl) (by kernel_rfl) ?hyx3x2 ?restx3x2
          case hyx3x2 => first | (refine StepS.read (by rfl) (fun wx hSw => ?_); (try dsimp only at hSw); obtain ⟨hRw, hroww, hHw⟩ := hSw; have q0 := cell_of_row _ bt 0 _ _ _ hroww; have q1 := cell_of_row _ bt 1 _ _ _ hroww; go_simp; first | done | with_reducible rfl) | exact Or.inr ⟨by rfl, rfl⟩
          try simp only [List.getElem_toArray, List.getElem_cons_succ, List.getElem_cons_zero, Act.put, List.setIfInBounds_toArray, List.set_cons_zero, List.set_cons_succ]
          refine anyS_take (i := 3) (v := ?vx3x3) rfl (by kernel_rfl) (by kernel_rfl) (by kernel_rfl) ?hyx3x3 ?restx3x3
          case hyx3x3 => first | (refine StepS.read (by rfl) (fun wx hSw => ?_); (try dsimp only at hSw); obtain ⟨hRw, hroww, hHw⟩ := hSw; have q0 := cell_of_row _ bt 0 _ _ _ hroww; have q1 := cell_of_row _ bt 1 _ _ _ hroww; go_simp; first | done | with_reducible rfl) | exact Or.inr ⟨by rfl, rfl⟩
          try simp only [List.getElem_toArray, List.getElem_cons_succ, List.getElem_cons_zero, Act.put, List.setIfInBounds_toArray, List.set_cons_zero, List.set_cons_succ]
          refine anyS_take (i := 4) (v := ?vx3x4) rfl (by kernel_rfl) (by kernel_rfl) (by kernel_rfl) ?hyx3x4 ?restx3x4
          case hyx3x4 => first | (refine StepS.read (by rfl) (fun wx hSw => ?_); (try dsimp only at hSw); obtain ⟨hRw, hroww, hHw⟩ := hSw; have q0 := cell_of_row _ bt 0 _ _ _ hroww; have q1 := cell_of_row _ bt 1 _ _ _ hroww; go_simp; first | done | with_reducible rfl) | exact Or.inr ⟨by rfl, rfl⟩
          try simp only [List.getElem_toArray, List.getElem_cons_succ, List.getElem_cons_zero, Act.put, List.setIfInBounds_toArray, List.set_cons_zero, List.set_cons_succ]
          refine anyS_take (i := 5) (v := ?vx3x5) rfl (by kernel_rfl) (by kernel_rfl) (by kernel_rfl) ?hyx3x5 ?restx3x5
          case hyx3x5 => first | (refine StepS.read (by rfl) (fun wx hSw => ?_); (try dsimp only at hSw); obtain ⟨hRw, hroww, hHw⟩ := hSw; have q0 := cell_of_row _ bt 0 _ _ _ hroww; have q1 := cell_of_row _ bt 1 _ _ _ hroww; go_simp; first | done | with_reducible rfl) | exact Or.inr ⟨by rfl, rfl⟩
          try simp only [List.getElem_toArray, List.getElem_cons_succ, List.getElem_cons_zero, Act.put, List.setIfInBounds_toArray, List.set_cons_zero, List.set_cons_succ]
          refine anyS_take (i := 6) (v := ?vx3x6) rfl (by kernel_rfl) (by kernel_rfl) (by kernel_rfl) ?hyx3x6 ?restx3x6
          case hyx3x6 => first | (refine StepS.read (by rfl) (fun wx hSw => ?_); (try dsimp only at hSw); obtain ⟨hRw, hroww, hHw⟩ := hSw; have q0 := cell_of_row _ bt 0 _ _ _ hroww; have q1 := cell_of_row _ bt 1 _ _ _ hroww; go_simp; first | done | with_reducible rfl) | exact Or.inr ⟨by rfl, rfl⟩
          try simp only [List.getElem_toArray, List.getElem_cons_succ, List.getElem_cons_zero, Act.put, List.setIfInBounds_toArray, List.set_cons_zero, List.set_cons_succ]
          refine anyS_take (i := 7) (v := ?vx3x7) rfl (by kernel_rfl) (by kernel_rfl) (by kernel_rfl) ?hyx3x7 ?restx3x7
          case hyx3x7 => first | (refine StepS.read (by rfl) (fun wx hSw => ?_); (try dsimp only at hSw); obtain ⟨hRw, hroww, hHw⟩ := hSw; have q0 := cell_of_row _ bt 0 _ _ _ hroww; have q1 := cell_of_row _ bt 1 _ _ _ hroww; go_simp; first | done | with_reducible rfl) | exact Or.inr ⟨by rfl, rfl⟩
          try simp only [List.getElem_toArray, List.getElem_cons_succ, List.getElem_cons_zero, Act.put, List.setIfInBounds_toArray, List.set_cons_zero, List.set_cons_succ]
          refine anyS_take (i := 8) (v := ?vx3x8) rfl (by kernel_rfl) (by kernel_rfl) (by kernel_rfl) ?hyx3x8 ?restx3x8
          case hyx3x8 => first | (refine StepS.read (by rfl) (fun wx hSw => ?_); (try dsimp only at hSw); obtain ⟨hRw, hroww, hHw⟩ := hSw; have q0 := cell_of_row _ bt 0 _ _ _ hroww; have q1 := cell_of_row _ bt 1 _ _ _ hroww; go_simp; first | done | with_reducible rfl) | exact Or.inr ⟨by rfl, rfl⟩
          try simp only [List.getElem_toArray, List.getElem_cons_succ, List.getElem_cons_zero, Act.put, List.setIfInBounds_toArray, List.set_cons_zero, List.set_cons_succ]
          refine anyS_take (i := 9) (v := ?vx3x9) rfl (by kernel_rfl) (by kernel_rfl) (by kernel_rfl) ?hyx3x9 ?restx3x9
          case hyx3x9 => first | (refine StepS.read (by rfl) (fun wx hSw => ?_); (try dsimp only at hSw); obtain ⟨hRw, hroww, hHw⟩ := hSw; have q0 := cell_of_row _ bt 0 _ _ _ hroww; have q1 := cell_of_row _ bt 1 _ _ _ hroww; go_simp; first | done | with_reducible rfl) | exact Or.inr ⟨by rfl, rfl⟩
          try simp only [List.getElem_toArray, List.getElem_cons_succ, List.getElem_cons_zero, Act.put, List.setIfInBounds_toArray, List.set_cons_zero, List.set_cons_succ]
          refine anyS_take (i := 10) (v := (.int .i64 (l'.length : Int))) rfl (by kernel_rfl) (by kernel_rfl) (by kernel_rfl) ?hyx3x10 ?restx3x10
          case hyx3x10 => (refine Or.inl ⟨by rfl, fun wx hSw => ?_⟩; (try dsimp only at hSw); have hSk := hSw; obtain ⟨hRw, hroww, hHw⟩ := hSw; go_simp; refine Or.inr ⟨_, _, _, rfl, ?_⟩; (with_reducible refine (left_c _ _ _ _ (by exact hRw)).mono ?_); rintro e w' ⟨rfl, rfl⟩; exact ⟨rfl, hSk⟩)
          try simp only [List.getElem_toArray, List.getElem_cons_succ, List.getElem_cons_zero, Act.put, List.setIfInBounds_toArray, List.set_cons_zero, List.set_cons_succ]
          refine anyS_take (i := 11) (v := ?vx3x11) rfl (by kernel_rfl) (by kernel_rfl) (by kernel_rfl) ?hyx3x11 ?restx3x11
          case hyx3x11 => first | (refine StepS.read (by rfl) (fun wx hSw => ?_); (try dsimp only at hSw); obtain ⟨hRw, hroww, hHw⟩ := hSw; have q0 := cell_of_row _ bt 0 _ _ _ hroww; have q1 := cell_of_row _ bt 1 _ _ _ hroww; go_simp; first | done | with_reducible rfl) | exact Or.inr ⟨by rfl, rfl⟩
          try simp only [List.getElem_toArray, List.getElem_cons_succ, List.getElem_cons_zero, Act.put, List.setIfInBounds_toArray, List.set_cons_zero, List.set_cons_succ]
          refine anyS_take (i := 12) (v := ?vx3x12) rfl (by kernel_rfl) (by kernel_rfl) (by kernel_rfl) ?hyx3x12 ?restx3x12
          case hyx3x12 => first | (refine StepS.read (by rfl) (fun wx hSw => ?_); (try dsimp only at hSw); obtain ⟨hRw, hroww, hHw⟩ := hSw; have q0 := cell_of_row _ bt 0 _ _ _ hroww; have q1 := cell_of_row _ bt 1 _ _ _ hroww; go_simp; first | done | with_reducible rfl) | exact Or.inr ⟨by rfl, rfl⟩
          try simp only [List.getElem_toArray, List.getElem_cons_succ, List.getElem_cons_zero, Act.put, List.setIfInBounds_toArray, List.set_cons_zero, List.set_cons_succ]
          refine anyS_take (i := 13) (v := ?vx3x13) rfl (by kernel_rfl) (by kernel_rfl) (by kernel_rfl) ?hyx3x13 ?restx3x13
          case hyx3x13 => first | (refine StepS.read (by rfl) (fun wx hSw => ?_); (try dsimp only at hSw); obtain ⟨hRw, hroww, hHw⟩ := hSw; have q0 := cell_of_row _ bt 0 _ _ _ hroww; have q1 := cell_of_row _ bt 1 _ _ _ hroww; go_simp; first | done | with_reducible rfl) | exact Or.inr ⟨by rfl, rfl⟩
          try simp only [List.getElem_toArray, List.getElem_cons_succ, List.getElem_cons_zero, Act.put, List.setIfInBounds_toArray, List.set_cons_zero, List.set_cons_succ]
          refine anyS_take (i := 14) (v := ?vx3x14) rfl (by kernel_rfl) (by kernel_rfl) (by kernel_rfl) ?hyx3x14 ?restx3x14
          case hyx3x14 => first | (refine StepS.read (by rfl) (fun wx hSw => ?_); (try dsimp only at hSw); obtain ⟨hRw, hroww, hHw⟩ := hSw; have q0 := cell_of_row _ bt 0 _ _ _ hroww; have q1 := cell_of_row _ bt 1 _ _ _ hroww; go_simp; first | done | with_reducible rfl) | exact Or.inr ⟨by rfl, rfl⟩
          try simp only [List.getElem_toArray, List.getElem_cons_succ, List.getElem_cons_zero, Act.put, List.setIfInBounds_toArray, List.set_cons_zero, List.set_cons_succ]
          refine anyS_take (i := 15) (v := ?vx3x15) rfl (by kernel_rfl) (by kernel_rfl) (by kernel_rfl) ?hyx3x15 ?restx3x15
          case hyx3x15 => first | (refine StepS.read (by rfl) (fun wx hSw => ?_); (try dsimp only at hSw); obtain ⟨hRw, hroww, hHw⟩ := hSw; have q0 := cell_of_row _ bt 0 _ _ _ hroww; have q1 := cell_of_row _ bt 1 _ _ _ hroww; go_simp; first | done | with_reducible rfl) | exact Or.inr ⟨by rfl, rfl⟩
          try simp only [List.getElem_toArray, List.getElem_cons_succ, List.getElem_cons_zero, Act.put, List.setIfInBounds_toArray, List.set_cons_zero, List.set_cons_succ]
          refine anyS_take (i := 16) (v := ?vx3x16) rfl (by kernel_rfl) (by kernel_rfl) (by kernel_rfl) ?hyx3x16 ?restx3x16
          case hyx3x16 => first | (refine StepS.read (by rfl) (fun wx hSw => ?_); (try dsimp only at hSw); obtain ⟨hRw, hroww, hHw⟩ := hSw; have q0 := cell_of_row _ bt 0 _ _ _ hroww; have q1 := cell_of_row _ bt 1 _ _ _ hroww; go_simp; first | done | with_reducible rfl) | exact Or.inr ⟨by rfl, rfl⟩
          try simp only [List.getElem_toArray, List.getElem_cons_succ, List.getElem_cons_zero, Act.put, List.setIfInBounds_toArray, List.set_cons_zero, List.set_cons_succ]
          refine anyS_take (i := 17) (v := ?vx3x17) rfl (by kernel_rfl) (by kernel_rfl) (by kernel_rfl) ?hyx3x17 ?restx3x17
          case hyx3x17 => first | (refine StepS.read (by rfl) (fun wx hSw => ?_); (try dsimp only at hSw); obtain ⟨hRw, hroww, hHw⟩ := hSw; have q0 := cell_of_row _ bt 0 _ _ _ hroww; have q1 := cell_of_row _ bt 1 _ _ _ hroww; go_simp; first | done | with_reducible rfl) | exact Or.inr ⟨by rfl, rfl⟩
          try simp only [List.getElem_toArray, List.getElem_cons_succ, List.getElem_cons_zero, Act.put, List.setIfInBounds_toArray, List.set_cons_zero, List.set_cons_succ]
          refine anyS_take (i := 18) (v := ?vx3x18) rfl (by kernel_rfl) (by kernel_rfl) (by kernel_rfl) ?hyx3x18 ?restx3x18
          case hyx3x18 => first | (refine StepS.read (by rfl) (fun wx hSw => ?_); (try dsimp only at hSw); obtain ⟨hRw, hroww, hHw⟩ := hSw; have q0 := cell_of_row _ bt 0 _ _ _ hroww; have q1 := cell_of_row _ bt 1 _ _ _ hroww; go_simp; first | done | with_reducible rfl) | exact Or.inr ⟨by rfl, rfl⟩
          try simp only [List.getElem_toArray, List.getElem_cons_succ, List.getElem_cons_zero, Act.put, List.setIfInBounds_toArray, List.set_cons_zero, List.set_cons_succ]
          refine anyS_take (i := 19) (v := ?vx3x19) rfl (by kernel_rfl) (by kernel_rfl) (by kernel_rfl) ?hyx3x19 ?restx3x19
          case hyx3x19 => first | (refine StepS.read (by rfl) (fun wx hSw => ?_); (try dsimp only at hSw); obtain ⟨hRw, hroww, hHw⟩ := hSw; have q0 := cell_of_row _ bt 0 _ _ _ hroww; have q1 := cell_of_row _ bt 1 _ _ _ hroww; go_simp; first | done | with_reducible rfl) | exact Or.inr ⟨by rfl, rfl⟩
          try simp only [List.getElem_toArray, List.getElem_cons_succ, List.getElem_cons_zero, Act.put, List.setIfInBounds_toArray, List.set_cons_zero, List.set_cons_succ]
          refine anyS_take (i := 20) (v := .bool true) rfl (by kernel_rfl) (by kernel_rfl) (by kernel_rfl) ?hyx3x20 ?restx3x20
          case hyx3x20 => (refine Or.inl ⟨by rfl, fun wx hSw => ?_⟩; (try dsimp only at hSw); have hSk := hSw; obtain ⟨hRw, hroww, hHw⟩ := hSw; go_simp; refine Or.inr ⟨_, _, _, rfl, ?_⟩; (with_reducible refine (rdone_n _ _ _ l' _ true _ (by simp) (by exact hrd.out)).mono ?_); rintro e w' ⟨rfl, hb'⟩; exact ⟨rfl, FtS.step hSk hb'⟩)
          try simp only [List.getElem_toArray, List.getElem_cons_succ, List.getElem_cons_zero, Act.put, List.setIfInBounds_toArray, List.set_cons_zero, List.set_cons_succ]
          refine anyS_take (i := 21) (v := ?vx3x21) rfl (by kernel_rfl) (by kernel_rfl) (by kernel_rfl) ?hyx3x21 ?restx3x21
          case hyx3x21 => first | (refine StepS.read (by rfl) (fun wx hSw => ?_); (try dsimp only at hSw); obtain ⟨hRw, hroww, hHw⟩ := hSw; have q0 := cell_of_row _ bt 0 _ _ _ hroww; have q1 := cell_of_row _ bt 1 _ _ _ hroww; go_simp; first | done | with_reducible rfl) | exact Or.inr ⟨by rfl, rfl⟩
          try simp only [List.getElem_toArray, List.getElem_cons_succ, List.getElem_cons_zero, Act.put, List.setIfInBounds_toArray, List.set_cons_zero, List.set_cons_succ]
          refine anyS_take (i := 22) (v := ?vx3x22) rfl (by kernel_rfl) (by kernel_rfl) (by kernel_rfl) ?hyx3x22 ?restx3x22
          case hyx3x22 => first | (refine StepS.read (by rfl) (fun wx hSw => ?_); (try dsimp only at hSw); obtain ⟨hRw, hroww, hHw⟩ := hSw; have q0 := cell_of_row _ bt 0 _ _ _ hroww; have q1 := cell_of_row _ bt 1 _ _ _ hroww; go_simp; first | done | with_reducible rfl) | exact Or.inr ⟨by rfl, rfl⟩
          try simp only [List.getElem_toArray, List.getElem_cons_succ, List.getElem_cons_zero, Act.put, List.setIfInBounds_toArray, List.set_cons_zero, List.set_cons_succ]
          refine anyS_take (i := 23) (v := ?vx3x23) rfl (by kernel_rfl) (by kernel_rfl) (by kernel_rfl) ?hyx3x23 ?restx3x23
          case hyx3x23 => first | (refine StepS.read (by rfl) (fun wx hSw => ?_); (try dsimp only at hSw); obtain ⟨hRw, hroww, hHw⟩ := hSw; have q0 := cell_of_row _ bt 0 _ _ _ hroww; have q1 := cell_of_row _ bt 1 _ _ _ hroww; go_simp; first | done | with_reducible rfl) | exact Or.inr ⟨by rfl, rfl⟩
          try simp only [List.getElem_toArray, List.getElem_cons_succ, List.getElem_cons_zero, Act.put, List.setIfInBounds_toArray, List.set_cons_zero, List.set_cons_succ]
          refine anyS_take (i := 24) (v := ?vx3x24) rfl (by kernel_rfl) (by kernel_rfl) (by kernel_rfl) ?hyx3x24 ?restx3x24
          case hyx3x24 => first | (refine StepS.read (by rfl) (fun wx hSw => ?_); (try dsimp only at hSw); obtain ⟨hRw, hroww, hHw⟩ := hSw; have q0 := cell_of_row _ bt 0 _ _ _ hroww; have q1 := cell_of_row _ bt 1 _ _ _ hroww; go_simp; first | done | with_reducible rfl) | exact Or.inr ⟨by rfl, rfl⟩
          try simp only [List.getElem_toArray, List.getElem_cons_succ, List.getElem_cons_zero, Act.put, List.setIfInBounds_toArray, List.set_cons_zero, List.set_cons_succ]
          refine anyS_take (i := 25) (v := ?vx3x25) rfl (by kernel_rfl) (by kernel_rfl) (by kernel_rfl) ?hyx3x25 ?restx3x25
          case hyx3x25 => first | (refine StepS.read (by rfl) (fun wx hSw => ?_); (try dsimp only at hSw); obtain ⟨hRw, hroww, hHw⟩ := hSw; have q0 := cell_of_row _ bt 0 _ _ _ hroww; have q1 := cell_of_row _ bt 1 _ _ _ hroww; go_simp; first | done | with_reducible rfl) | exact Or.inr ⟨by rfl, rfl⟩
          try simp only [List.getElem_toArray, List.getElem_cons_succ, List.getElem_cons_zero, Act.put, List.setIfInBounds_toArray, List.set_cons_zero, List.set_cons_succ]
          refine anyS_take (i := 26) (v := ?vx3x26) rfl (by kernel_rfl) (by kernel_rfl) (by kernel_rfl) ?hyx3x26 ?restx3x26
          case hyx3x26 => first | (refine StepS.read (by rfl) (fun wx hSw => ?_); (try dsimp only at hSw); obtain ⟨hRw, hroww, hHw⟩ := hSw; have q0 := cell_of_row _ bt 0 _ _ _ hroww; have q1 := cell_of_row _ bt 1 _ _ _ hroww; go_simp; first | done | with_reducible rfl) | exact Or.inr ⟨by rfl, rfl⟩
          try simp only [List.getElem_toArray, List.getElem_cons_succ, List.getElem_cons_zero, Act.put, List.setIfInBounds_toArray, List.set_cons_zero, List.set_cons_succ]
          refine anyS_take (i := 27) (v := undef) rfl (by kernel_rfl) (by kernel_rfl) (by kernel_rfl) (Or.inr ⟨by kernel_rfl, rfl⟩) ?restx3x27
          try simp only [List.getElem_toArray, List.getElem_cons_succ, List.getElem_cons_zero, Act.put, List.setIfInBounds_toArray, List.set_cons_zero, List.set_cons_succ]
          refine anyS_take (i := 28) (v := undef) rfl (by kernel_rfl) (by kernel_rfl) (by kernel_rfl) (Or.inr ⟨by kernel_rfl, rfl⟩) ?restx3x28
          try simp only [List.getElem_toArray, List.getElem_cons_succ, List.getElem_cons_zero, Act.put, List.setIfInBounds_toArray, List.set_cons_zero, List.set_cons_succ]
          refine anyS_take (i := 29) (v := undef) rfl (by kernel_rfl) (by kernel_rfl) (by kernel_rfl) (Or.inr ⟨by kernel_rfl, rfl⟩) ?restx3x29
          try simp only [List.getElem_toArray, List.getElem_cons_succ, List.getElem_cons_zero, Act.put, List.setIfInBounds_toArray, List.set_cons_zero, List.set_cons_succ]
          refine anyS_take (i := 30) (v := ?vx3x30) rfl (by kernel_rfl) (by kernel_rfl) (by kernel_rfl) ?hyx3x30 ?restx3x30
          case hyx3x30 => first | (refine StepS.read (by rfl) (fun wx hSw => ?_); (try dsimp only at hSw); obtain ⟨hRw, hroww, hHw⟩ := hSw; have q0 := cell_of_row _ bt 0 _ _ _ hroww; have q1 := cell_of_row _ bt 1 _ _ _ hroww; go_simp; first | done | with_reducible rfl) | exact Or.inr ⟨by rfl, rfl⟩
          try simp only [List.getElem_toArray, List.getElem_cons_succ, List.getElem_cons_zero, Act.put, List.setIfInBounds_toArray, List.set_cons_zero, List.set_cons_succ]
          refine anyS_take (i := 31) (v := ?vx3x31) rfl (by kernel_rfl) (by kernel_rfl) (by kernel_rfl) ?hyx3x31 ?restx3x31
          case hyx3x31 => first | (refine StepS.read (by rfl) (fun wx hSw => ?_); (try dsimp only at hSw); obtain ⟨hRw, hroww, hHw⟩ := hSw; have q0 := cell_of_row _ bt 0 _ _ _ hroww; have q1 := cell_of_row _ bt 1 _ _ _ hroww; go_simp; first | done | with_reducible rfl) | exact Or.inr ⟨by rfl, rfl⟩
          try simp only [List.getElem_toArray, List.getElem_cons_succ, List.getElem_cons_zero, Act.put, List.setIfInBounds_toArray, List.set_cons_zero, List.set_cons_succ]
          refine anyS_done (by kernel_rfl) (fun wx hSw => ?_) _
          (try dsimp only at hSw)
          go_wp2_with (fail)
          go_roundg (lb.length - (m + 1))
          case measure => omega
          case rel => exact ⟨m + 1, l', sh', rfl, by omega, by simp, ⟨hSw.1, ⟨A5, c5, hSw.2.1, hRA5, hAc5, hlc5⟩, hbad', hSw.2.2, by omega, hgw, hgb⟩⟩
        · have hdv : doneV l' sh' = errV 3 := if_neg hd
          have hrd := Lib.hid (show (!sh' && decide (l' = [])) = false by revert hd; cases sh' <;> simp)
          clear hd
          rw [hdv]
          go_upto_region 28 with (fail)
          refine wp_region_S (S := (fun wx => FtS w g bt l' sh' A5 c5 wx)) (by kernel_rfl) (FtS.step hS6 (Below.refl _ _).drew) ?_
          refine anyS_take (i := 0) (v := ?vx4x0) rfl (by kernel_rfl) (by kernel_rfl) (by kernel_rfl) ?hyx4x0 ?restx4x0
          case hyx4x0 => first | (refine StepS.read (by rfl) (fun wx hSw => ?_); (try dsimp only at hSw); obtain ⟨hRw, hroww, hHw⟩ := hSw; have q0 := cell_of_row _ bt 0 _ _ _ hroww; have q1 := cell_of_row _ bt 1 _ _ _ hroww; go_simp; first | done | with_reducible rfl) | exact Or.inr ⟨by rfl, rfl⟩
          try simp only [List.getElem_toArray, List.getElem_cons_succ, List.getElem_cons_zero, Act.put, List.setIfInBounds_toArray, List.set_cons_zero, List.set_cons_succ]
          refine anyS_take (i := 1) (v := ?vx4x1) rfl (by kernel_rfl) (by kernel_rfl) (by kernel_rfl) ?hyx4x1 ?restx4x1
          case hyx4x1 => first | (refine StepS.read (by rfl) (fun wx hSw => ?_); (try dsimp only at hSw); obtain ⟨hRw, hroww, hHw⟩ := hSw; have q0 := cell_of_row _ bt 0 _ _ _ hroww; have q1 := cell_of_row _ bt 1 _ _ _ hroww; go_simp; first | done | with_reducible rfl) | exact Or.inr ⟨by rfl, rfl⟩
          try simp only [List.getElem_toArray, List.getElem_cons_succ, List.getElem_cons_zero, Act.put, List.setIfInBounds_toArray, List.set_cons_zero, List.set_cons_succ]
          refine anyS_take (i := 2) (v := ?vx4x2) rfl (by kernel_rfl) (by kernel_rfl) (by kernel_rfl) ?hyx4x2 ?restx4x2
          case hyx4x2 => first | (refine StepS.read (by rfl) (fun wx hSw => ?_); (try dsimp only at hSw); obtain ⟨hRw, hroww, hHw⟩ := hSw; have q0 := cell_of_row _ bt 0 _ _ _ hroww; have q1 := cell_of_row _ bt 1 _ _ _ hroww; go_simp; first | done | with_reducible rfl) | exact Or.inr ⟨by rfl, rfl⟩
          try simp only [List.getElem_toArray, List.getElem_cons_succ, List.getElem_cons_zero, Act.put, List.setIfInBounds_toArray, List.set_cons_zero, List.set_cons_succ]
          refine anyS_take (i := 3) (v := ?vx4x3) rfl (by kernel_rfl) (by kernel_rfl) (by kernel_rfl) ?hyx4x3 ?restx4x3
          case hyx4x3 => first | (refine StepS.read (by rfl) (fun wx hSw => ?_); (try dsimp only at hSw); obtain ⟨hRw, hroww, hHw⟩ := hSw; have q0 := cell_of_row _ bt 0 _ _ _ hroww; have q1 := cell_of_row _ bt 1 _ _ _ hroww; go_simp; first | done | with_reducible rfl) | exact Or.inr ⟨by rfl, rfl⟩
          try simp only [List.getElem_toArray, List.getElem_cons_succ, List.getElem_cons_zero, Act.put, List.setIfInBounds_toArray, List.set_cons_zero, List.set_cons_succ]
          refine anyS_take (i := 4) (v := ?vx4x4) rfl (by kernel_rfl) (by kernel_rfl) (by kernel_rfl) ?hyx4x4 ?restx4x4
          case hyx4x4 => first | (refine StepS.read (by rfl) (fun wx hSw => ?_); (try dsimp only at hSw); obtain ⟨hRw, hroww, hHw⟩ := hSw; have q0 := cell_of_row _ bt 0 _ _ _ hroww; have q1 := cell_of_row _ bt 1 _ _ _ hroww; go_simp; first | done | with_reducible rfl) | exact Or.inr ⟨by rfl, rfl⟩
          try simp only [List.getElem_toArray, List.getElem_cons_succ, List.getElem_cons_zero, Act.put, List.setIfInBounds_toArray, List.set_cons_zero, List.set_cons_succ]
          refine anyS_take (i := 5) (v := ?vx4x5) rfl (by kernel_rfl) (by kernel_rfl) (by kernel_rfl) ?hyx4x5 ?restx4x5
          case hyx4x5 => first | (refine StepS.read (by rfl) (fun wx hSw => ?_); (try dsimp only at hSw); obtain ⟨hRw, hroww, hHw⟩ := hSw; have q0 := cell_of_row _ bt 0 _ _ _ hroww; have q1 := cell_of_row _ bt 1 _ _ _ hroww; go_simp; first | done | with_reducible rfl) | exact Or.inr ⟨by rfl, rfl⟩
          try simp only [List.getElem_toArray, List.getElem_cons_succ, List.getElem_cons_zero, Act.put, List.setIfInBounds_toArray, List.set_cons_zero, List.set_cons_succ]
          refine anyS_take (i := 6) (v := ?vx4x6) rfl (by kernel_rfl) (by kernel_rfl) (by kernel_rfl) ?hyx4x6 ?restx4x6
          case hyx4x6 => first | (refine StepS.read (by rfl) (fun wx hSw => ?_); (try dsimp only at hSw); obtain ⟨hRw, hroww, hHw⟩ := hSw; have q0 := cell_of_row _ bt 0 _ _ _ hroww; have q1 := cell_of_row _ bt 1 _ _ _ hroww; go_simp; first | done | with_reducible rfl) | exact Or.inr ⟨by rfl, rfl⟩
          try simp only [List.getElem_toArray, List.getElem_cons_succ, List.getElem_cons_zero, Act.put, List.setIfInBounds_toArray, List.set_cons_zero, List.set_cons_succ]
          refine anyS_take (i := 7) (v := ?vx4x7) rfl (by kernel_rfl) (by kernel_rfl) (by kernel_rfl) ?hyx4x7 ?restx4x7
          case hyx4x7 => first | (refine StepS.read (by rfl) (fun wx hSw => ?_); (try dsimp only at hSw); obtain ⟨hRw, hroww, hHw⟩ := hSw; have q0 := cell_of_row _ bt 0 _ _ _ hroww; have q1 := cell_of_row _ bt 1 _ _ _ hroww; go_simp; first | done | with_reducible rfl) | exact Or.inr ⟨by rfl, rfl⟩
          try simp only [List.getElem_toArray, List.getElem_cons_succ, List.getElem_cons_zero, Act.put, List.setIfInBounds_toArray, List.set_cons_zero, List.set_cons_succ]
          refine anyS_take (i := 8) (v := ?vx4x8) rfl (by kernel_rfl) (by kernel_rfl) (by kernel_rfl) ?hyx4x8 ?restx4x8
          case hyx4x8 => first | (refine StepS.read (by rfl) (fun wx hSw => ?_); (try dsimp only at hSw); obtain ⟨hRw, hroww, hHw⟩ := hSw; have q0 := cell_of_row _ bt 0 _ _ _ hroww; have q1 := cell_of_row _ bt 1 _ _ _ hroww; go_simp; first | done | with_reducible rfl) | exact Or.inr ⟨by rfl, rfl⟩
          try simp only [List.getElem_toArray, List.getElem_cons_succ, List.getElem_cons_zero, Act.put, List.setIfInBounds_toArray, List.set_cons_zero, List.set_cons_succ]
          refine anyS_take (i := 9) (v := ?vx4x9) rfl (by kernel_rfl) (by kernel_rfl) (by kernel_rfl) ?hyx4x9 ?restx4x9
          case hyx4x9 => first | (refine StepS.read (by rfl) (fun wx hSw => ?_); (try dsimp only at hSw); obtain ⟨hRw, hroww, hHw⟩ := hSw; have q0 := cell_of_row _ bt 0 _ _ _ hroww; have q1 := cell_of_row _ bt 1 _ _ _ hroww; go_simp; first | done | with_reducible rfl) | exact Or.inr ⟨by rfl, rfl⟩
          try simp only [List.getElem_toArray, List.getElem_cons_succ, List.getElem_cons_zero, Act.put, List.setIfInBounds_toArray, List.set_cons_zero, List.set_cons_succ]
          refine anyS_take (i := 10) (v := (.int .i64 (l'.length : Int))) rfl (by kernel_rfl) (by kernel_rfl) (by kernel_rfl) ?hyx4x10 ?restx4x10
          case hyx4x10 => (refine Or.inl ⟨by rfl, fun wx hSw => ?_⟩; (try dsimp only at hSw); have hSk := hSw; obtain ⟨hRw, hroww, hHw⟩ := hSw; go_simp; refine Or.inr ⟨_, _, _, rfl, ?_⟩; (with_reducible refine (left_c _ _ _ _ (by exact hRw)).mono ?_); rintro e w' ⟨rfl, rfl⟩; exact ⟨rfl, hSk⟩)
          try simp only [List.getElem_toArray, List.getElem_cons_succ, List.getElem_cons_zero, Act.put, List.setIfInBounds_toArray, List.set_cons_zero, List.set_cons_succ]
          refine anyS_take (i := 11) (v := ?vx4x11) rfl (by kernel_rfl) (by kernel_rfl) (by kernel_rfl) ?hyx4x11 ?restx4x11
          case hyx4x11 => first | (refine StepS.read (by rfl) (fun wx hSw => ?_); (try dsimp only at hSw); obtain ⟨hRw, hroww, hHw⟩ := hSw; have q0 := cell_of_row _ bt 0 _ _ _ hroww; have q1 := cell_of_row _ bt 1 _ _ _ hroww; go_simp; first | done | with_reducible rfl) | exact Or.inr ⟨by rfl, rfl⟩
          try simp only [List.getElem_toArray, List.getElem_cons_succ, List.getElem_cons_zero, Act.put, List.setIfInBounds_toArray, List.set_cons_zero, List.set_cons_succ]
          refine anyS_take (i := 12) (v := ?vx4x12) rfl (by kernel_rfl) (by kernel_rfl) (by kernel_rfl) ?hyx4x12 ?restx4x12
          case hyx4x12 => first | (refine StepS.read (by rfl) (fun wx hSw => ?_); (try dsimp only at hSw); obtain ⟨hRw, hroww, hHw⟩ := hSw; have q0 := cell_of_row _ bt 0 _ _ _ hroww; have q1 := cell_of_row _ bt 1 _ _ _ hroww; go_simp; first | done | with_reducible rfl) | exact Or.inr ⟨by rfl, rfl⟩
          try simp only [List.getElem_toArray, List.getElem_cons_succ, List.getElem_cons_zero, Act.put, List.setIfInBounds_toArray, List.set_cons_zero, List.set_cons_succ]
          refine anyS_take (i := 13) (v := ?vx4x13) rfl (by kernel_rfl) (by kernel_rfl) (by kernel_rfl) ?hyx4x13 ?restx4x13
          case hyx4x13 => first | (refine StepS.read (by rfl) (fun wx hSw => ?_); (try dsimp only at hSw); obtain ⟨hRw, hroww, hHw⟩ := hSw; have q0 := cell_of_row _ bt 0 _ _ _ hroww; have q1 := cell_of_row _ bt 1 _ _ _ hroww; go_simp; first | done | with_reducible rfl) | exact Or.inr ⟨by rfl, rfl⟩
          try simp only [List.getElem_toArray, List.getElem_cons_succ, List.getElem_cons_zero, Act.put, List.setIfInBounds_toArray, List.set_cons_zero, List.set_cons_succ]
          refine anyS_take (i := 14) (v := ?vx4x14) rfl (by kernel_rfl) (by kernel_rfl) (by kernel_rfl) ?hyx4x14 ?restx4x14
          case hyx4x14 => first | (refine StepS.read (by rfl) (fun wx hSw => ?_); (try dsimp only at hSw); obtain ⟨hRw, hroww, hHw⟩ := hSw; have q0 := cell_of_row _ bt 0 _ _ _ hroww; have q1 := cell_of_row _ bt 1 _ _ _ hroww; go_simp; first | done | with_reducible rfl) | exact Or.inr ⟨by rfl, rfl⟩
          try simp only [List.getElem_toArray, List.getElem_cons_succ, List.getElem_cons_zero, Act.put, List.setIfInBounds_toArray, List.set_cons_zero, List.set_cons_succ]
          refine anyS_take (i := 15) (v := ?vx4x15) rfl (by kernel_rfl) (by kernel_rfl) (by kernel_rfl) ?hyx4x15 ?restx4x15
          case hyx4x15 => first | (refine StepS.read (by rfl) (fun wx hSw => ?_); (try dsimp only at hSw); obtain ⟨hRw, hroww, hHw⟩ := hSw; have q0 := cell_of_row _ bt 0 _ _ _ hroww; have q1 := cell_of_row _ bt 1 _ _ _ hroww; go_simp; first | done | with_reducible rfl) | exact Or.inr ⟨by rfl, rfl⟩
          try simp only [List.getElem_toArray, List.getElem_cons_succ, List.getElem_cons_zero, Act.put, List.setIfInBounds_toArray, List.set_cons_zero, List.set_cons_succ]
          refine anyS_take (i := 16) (v := ?vx4x16) rfl (by kernel_rfl) (by kernel_rfl) (by kernel_rfl) ?hyx4x16 ?restx4x16
          case hyx4x16 => first | (refine StepS.read (by rfl) (fun wx hSw => ?_); (try dsimp only at hSw); obtain ⟨hRw, hroww, hHw⟩ := hSw; have q0 := cell_of_row _ bt 0 _ _ _ hroww; have q1 := cell_of_row _ bt 1 _ _ _ hroww; go_simp; first | done | with_reducible rfl) | exact Or.inr ⟨by rfl, rfl⟩
          try simp only [List.getElem_toArray, List.getElem_cons_succ, List.getElem_cons_zero, Act.put, List.setIfInBounds_toArray, List.set_cons_zero, List.set_cons_succ]
          refine anyS_take (i := 17) (v := ?vx4x17) rfl (by kernel_rfl) (by kernel_rfl) (by kernel_rfl) ?hyx4x17 ?restx4x17
          case hyx4x17 => first | (refine StepS.read (by rfl) (fun wx hSw => ?_); (try dsimp only at hSw); obtain ⟨hRw, hroww, hHw⟩ := hSw; have q0 := cell_of_row _ bt 0 _ _ _ hroww; have q1 := cell_of_row _ bt 1 _ _ _ hroww; go_simp; first | done | with_reducible rfl) | exact Or.inr ⟨by rfl, rfl⟩
          try simp only [List.getElem_toArray, List.getElem_cons_succ, List.getElem_cons_zero, Act.put, List.setIfInBounds_toArray, List.set_cons_zero, List.set_cons_succ]
          refine anyS_take (i := 18) (v := ?vx4x18) rfl (by kernel_rfl) (by kernel_rfl) (by kernel_rfl) ?hyx4x18 ?restx4x18
          case hyx4x18 => first | (refine StepS.read (by rfl) (fun wx hSw => ?_); (try dsimp only at hSw); obtain ⟨hRw, hroww, hHw⟩ := hSw; have q0 := cell_of_row _ bt 0 _ _ _ hroww; have q1 := cell_of_row _ bt 1 _ _ _ hroww; go_simp; first | done | with_reducible rfl) | exact Or.inr ⟨by rfl, rfl⟩
          try simp only [List.getElem_toArray, List.getElem_cons_succ, List.getElem_cons_zero, Act.put, List.setIfInBounds_toArray, List.set_cons_zero, List.set_cons_succ]
          refine anyS_take (i := 19) (v := ?vx4x19) rfl (by kernel_rfl) (by kernel_rfl) (by kernel_rfl) ?hyx4x19 ?restx4x19
          case hyx4x19 => first | (refine StepS.read (by rfl) (fun wx hSw => ?_); (try dsimp only at hSw); obtain ⟨hRw, hroww, hHw⟩ := hSw; have q0 := cell_of_row _ bt 0 _ _ _ hroww; have q1 := cell_of_row _ bt 1 _ _ _ hroww; go_simp; first | done | with_reducible rfl) | exact Or.inr ⟨by rfl, rfl⟩
          try simp only [List.getElem_toArray, List.getElem_cons_succ, List.getElem_cons_zero, Act.put, List.setIfInBounds_toArray, List.set_cons_zero, List.set_cons_succ]
          refine anyS_take (i := 20) (v := .bool false) rfl (by kernel_rfl) (by kernel_rfl) (by kernel_rfl) ?hyx4x20 ?restx4x20
          case hyx4x20 => (refine Or.inl ⟨by rfl, fun wx hSw => ?_⟩; (try dsimp only at hSw); have hSk := hSw; obtain ⟨hRw, hroww, hHw⟩ := hSw; go_simp; refine Or.inr ⟨_, _, _, rfl, ?_⟩; (with_reducible refine (rdone_n _ _ _ l' _ false _ (by simp) (by exact hrd.out)).mono ?_); rintro e w' ⟨rfl, hb'⟩; exact ⟨rfl, FtS.step hSk hb'⟩)
          try simp only [List.getElem_toArray, List.getElem_cons_succ, List.getElem_cons_zero, Act.put, List.setIfInBounds_toArray, List.set_cons_zero, List.set_cons_succ]
          refine anyS_take (i := 21) (v := ?vx4x21) rfl (by kernel_rfl) (by kernel_rfl) (by kernel_rfl) ?hyx4x21 ?restx4x21
          case hyx4x21 => first | (refine StepS.read (by rfl) (fun wx hSw => ?_); (try dsimp only at hSw); obtain ⟨hRw, hroww, hHw⟩ := hSw; have q0 := cell_of_row _ bt 0 _ _ _ hroww; have q1 := cell_of_row _ bt 1 _ _ _ hroww; go_simp; first | done | with_reducible rfl) | exact Or.inr ⟨by rfl, rfl⟩
          try simp only [List.getElem_toArray, List.getElem_cons_succ, List.getElem_cons_zero, Act.put, List.setIfInBounds_toArray, List.set_cons_zero, List.set_cons_succ]
          refine anyS_take (i := 22) (v := ?vx4x22) rfl (by kernel_rfl) (by kernel_rfl) (by kernel_rfl) ?hyx4x22 ?restx4x22
          case hyx4x22 => first | (refine StepS.read (by rfl) (fun wx hSw => ?_); (try dsimp only at hSw); obtain ⟨hRw, hroww, hHw⟩ := hSw; have q0 := cell_of_row _ bt 0 _ _ _ hroww; have q1 := cell_of_row _ bt 1 _ _ _ hroww; go_simp; first | done | with_reducible rfl) | exact Or.inr ⟨by rfl, rfl⟩
          try simp only [List.getElem_toArray, List.getElem_cons_succ, List.getElem_cons_zero, Act.put, List.setIfInBounds_toArray, List.set_cons_zero, List.set_cons_succ]
          refine anyS_take (i := 23) (v := ?vx4x23) rfl (by kernel_rfl) (by kernel_rfl) (by kernel_rfl) ?hyx4x23 ?restx4x23
          case hyx4x23 => first | (refine StepS.read (by rfl) (fun wx hSw => ?_); (try dsimp only at hSw); obtain ⟨hRw, hroww, hHw⟩ := hSw; have q0 := cell_of_row _ bt 0 _ _ _ hroww; have q1 := cell_of_row _ bt 1 _ _ _ hroww; go_simp; first | done | with_reducible rfl) | exact Or.inr ⟨by rfl, rfl⟩
          try simp only [List.getElem_toArray, List.getElem_cons_succ, List.getElem_cons_zero, Act.put, List.setIfInBounds_toArray, List.set_cons_zero, List.set_cons_succ]
          refine anyS_take (i := 24) (v := ?vx4x24) rfl (by kernel_rfl) (by kernel_rfl) (by kernel_rfl) ?hyx4x24 ?restx4x24
          case hyx4x24 => first | (refine StepS.read (by rfl) (fun wx hSw => ?_); (try dsimp only at hSw); obtain ⟨hRw, hroww, hHw⟩ := hSw; have q0 := cell_of_row _ bt 0 _ _ _ hroww; have q1 := cell_of_row _ bt 1 _ _ _ hroww; go_simp; first | done | with_reducible rfl) | exact Or.inr ⟨by rfl, rfl⟩
          try simp only [List.getElem_toArray, List.getElem_cons_succ, List.getElem_cons_zero, Act.put, List.setIfInBounds_toArray, List.set_cons_zero, List.set_cons_succ]
          refine anyS_take (i := 25) (v := ?vx4x25) rfl (by kernel_rfl) (by kernel_rfl) (by kernel_rfl) ?hyx4x25 ?restx4x25
          case hyx4x25 => first | (refine StepS.read (by rfl) (fun wx hSw => ?_); (try dsimp only at hSw); obtain ⟨hRw, hroww, hHw⟩ := hSw; have q0 := cell_of_row _ bt 0 _ _ _ hroww; have q1 := cell_of_row _ bt 1 _ _ _ hroww; go_simp; first | done | with_reducible rfl) | exact Or.inr ⟨by rfl, rfl⟩
          try simp only [List.getElem_toArray, List.getElem_cons_succ, List.getElem_cons_zero, Act.put, List.setIfInBounds_toArray, List.set_cons_zero, List.set_cons_succ]
          refine anyS_take (i := 26) (v := ?vx4x26) rfl (by kernel_rfl) (by kernel_rfl) (by kernel_rfl) ?hyx4x26 ?restx4x26
          case hyx4x26 => first | (refine StepS.read (by rfl) (fun wx hSw => ?_); (try dsimp only at hSw); obtain ⟨hRw, hroww, hHw⟩ := hSw; have q0 := cell_of_row _ bt 0 _ _ _ hroww; have q1 := cell_of_row _ bt 1 _ _ _ hroww; go_simp; first | done | with_reducible rfl) | exact Or.inr ⟨by rfl, rfl⟩
          try simp only [List.getElem_toArray, List.getElem_cons_succ, List.getElem_cons_zero, Act.put, List.setIfInBounds_toArray, List.set_cons_zero, List.set_cons_succ]
          refine anyS_take (i := 27) (v := ?vx4x27) rfl (by kernel_rfl) (by kernel_rfl) (by kernel_rfl) ?hyx4x27 ?restx4x27
          case hyx4x27 => first | (refine StepS.read (by rfl) (fun wx hSw => ?_); (try dsimp only at hSw); obtain ⟨hRw, hroww, hHw⟩ := hSw; have q0 := cell_of_row _ bt 0 _ _ _ hroww; have q1 := cell_of_row _ bt 1 _ _ _ hroww; go_simp; first | done | with_reducible rfl) | exact Or.inr ⟨by rfl, rfl⟩
          try simp only [List.getElem_toArray, List.getElem_cons_succ, List.getElem_cons_zero, Act.put, List.setIfInBounds_toArray, List.set_cons_zero, List.set_cons_succ]
          refine anyS_take (i := 28) (v := .int .i64 3) rfl (by kernel_rfl) (by kernel_rfl) (by kernel_rfl) ?hyx4x28 ?restx4x28
          case hyx4x28 => (refine Or.inl ⟨by rfl, fun wx hSw => ?_⟩; (try dsimp only at hSw); have hSk := hSw; obtain ⟨hRw, hroww, hHw⟩ := hSw; go_simp; refine Or.inr ⟨_, _, _, rfl, ?_⟩; (with_reducible refine (num05_err _ _ (Held.handle (w0 := w) hHw)).mono ?_); rintro e w' ⟨rfl, hb'⟩; exact ⟨rfl, FtS.step hSk hb'⟩)
          try simp only [List.getElem_toArray, List.getElem_cons_succ, List.getElem_cons_zero, Act.put, List.setIfInBounds_toArray, List.set_cons_zero, List.set_cons_succ]
          refine anyS_take (i := 29) (v := ?vx4x29) rfl (by kernel_rfl) (by kernel_rfl) (by kernel_rfl) ?hyx4x29 ?restx4x29
          case hyx4x29 => first | (refine StepS.read (by rfl) (fun wx hSw => ?_); (try dsimp only at hSw); obtain ⟨hRw, hroww, hHw⟩ := hSw; have q0 := cell_of_row _ bt 0 _ _ _ hroww; have q1 := cell_of_row _ bt 1 _ _ _ hroww; go_simp; first | done | with_reducible rfl) | exact Or.inr ⟨by rfl, rfl⟩
          try simp only [List.getElem_toArray, List.getElem_cons_succ, List.getElem_cons_zero, Act.put, List.setIfInBounds_toArray, List.set_cons_zero, List.set_cons_succ]
          refine anyS_take (i := 30) (v := ?vx4x30) rfl (by kernel_rfl) (by kernel_rfl) (by kernel_rfl) ?hyx4x30 ?restx4x30
          case hyx4x30 => first | (refine StepS.read (by rfl) (fun wx hSw => ?_); (try dsimp only at hSw); obtain ⟨hRw, hroww, hHw⟩ := hSw; have q0 := cell_of_row _ bt 0 _ _ _ hroww; have q1 := cell_of_row _ bt 1 _ _ _ hroww; go_simp; first | done | with_reducible rfl) | exact Or.inr ⟨by rfl, rfl⟩
          try simp only [List.getElem_toArray, List.getElem_cons_succ, List.getElem_cons_zero, Act.put, List.setIfInBounds_toArray, List.set_cons_zero, List.set_cons_succ]
          refine anyS_take (i := 31) (v := ?vx4x31) rfl (by kernel_rfl) (by kernel_rfl) (by kernel_rfl) ?hyx4x31 ?restx4x31
          case hyx4x31 => first | (refine StepS.read (by rfl) (fun wx hSw => ?_); (try dsimp only at hSw); obtain ⟨hRw, hroww, hHw⟩ := hSw; have q0 := cell_of_row _ bt 0 _ _ _ hroww; have q1 := cell_of_row _ bt 1 _ _ _ hroww; go_simp; first | done | with_reducible rfl) | exact Or.inr ⟨by rfl, rfl⟩
          try simp only [List.getElem_toArray, List.getElem_cons_succ, List.getElem_cons_zero, Act.put, List.setIfInBounds_toArray, List.set_cons_zero, List.set_cons_succ]
          refine anyS_done (by kernel_rfl) (fun wx hSw => ?_) _
          (try dsimp only at hSw)
          go_wp2_with (fail)
          go_roundg (lb.length - (m + 1))
          case measure => omega
          case rel => exact ⟨m + 1, l', sh', rfl, by omega, by simp, ⟨hSw.1, ⟨A5, c5, hSw.2.1, hRA5, hAc5, hlc5⟩, hbad', hSw.2.2, by omega, hgw, hgb⟩⟩
      · go_wp2_with (fail)
        (with_reducible refine (get4_c _ _ _ _ (by exact hR) (by omega)).mono ?_)
        rintro e w4 ⟨rfl, hR4, hg4⟩
        have hb4 : Below w.heap.size w w4 := hHx.below.grown hg4 hHx.below.size (fun k e => by cases e; exact hgw2)
        have hrow4 := (hg4.block bt (Array.getElem?_eq_some_iff.1 hrow).1 (by intro e; injection e with e; omega)).trans hrow
        have kq0 := cell_of_row w4 bt 0 _ _ _ hrow4
        have kq1 := cell_of_row w4 bt 1 _ _ _ hrow4
        clear kr0 kr1 hcx
        have hv := getV_lt l 4
        have hvE : 256 ^ 4 = 4294967296 := by decide
        rw [hvE] at hv
        clear hvE
        have hcv : IntKind.u64.wrap ((getV l 4 : Nat) : Int) = (getV l 4 : Nat) := by rw [IntKind.wrap_u64]; omega
        go_wp2_with (fail)
        (with_reducible refine (rtake_n w A' c' _ l _ sh _ _ 4 _ _ (by exact hRA) (by exact hb4) (by exact hlc) (by exact hbad) (by simp) (by simp) (by omega) (by decide) (by decide) rfl rfl rfl).mono ?_)
        rintro e w5 ⟨A5, c5, rfl, hRA5, hAc5, hlc5, HB5⟩
        have hb5 : Below w.heap.size w w5 := hb4.trans (HB5.mono hb4.size)
        have hrow5 := (HB5.block bt (Array.getElem?_eq_some_iff.1 hrow4).1).trans hrow4
        have hR5 := hR4.below HB5
        have kr0 := cell_of_row w5 bt 0 _ _ _ hrow5
        have kr1 := cell_of_row w5 bt 1 _ _ _ hrow5
        have kf0 := frozen_of_row w5 bt 0 _ _ hrow5
        have kf1 := frozen_of_row w5 bt 1 _ _ hrow5
        have hS6 := FtS.of A5 c5 hg hR5 hrow5 hb5 hgb hbw
        have hbad' := bad_keeps l sh 4 hbad
        have hle := getL_le l 4
        clear hR4 hg4 hR kq0 kq1 hb4 HB5 hrow4
        generalize getL l 4 = l' at *
        generalize getS l sh 4 = sh' at *
        generalize getV l 4 = V at *
        go_wp2_with (fail)
        generalize (w5.setCell ⟨bt, 0, none⟩ (.slice A5 l'.length c5)).setCell ⟨bt, 1, none⟩ (.bool sh') = w6 at *
        clear kr0 kr1 kf0 kf1 hR5 hrow5 hb5
        have hR6 := hS6.1
        (with_reducible refine (ft_done _ _ l' _ (by exact hR6) (by omega)).mono ?_)
        rintro e w7 ⟨rfl, rfl⟩
        by_cases hd : sh' = false ∧ l' = []
        · have hdv : doneV l' sh' = .nilIface := if_pos hd
          have hrd := Lib.hid (show (!sh' && decide (l' = [])) = true by simp [hd.1, hd.2])
          clear hd
          rw [hdv]
          go_upto_region 28 with (fail)
          refine wp_region_S (S := (fun wx => FtS w g bt l' sh' A5 c5 wx)) (by kernel_rfl) (FtS.step hS6 (Below.refl _ _).drew) ?_
          refine anyS_take (i := 0) (v := ?vx5x0) rfl (by kernel_rfl) (by kernel_rfl) (by kernel_rfl) ?hyx5x0 ?restx5x0
          case hyx5x0 => first | (refine StepS.read (by rfl) (fun wx hSw => ?_); (try dsimp only at hSw); obtain ⟨hRw, hroww, hHw⟩ := hSw; have q0 := cell_of_row _ bt 0 _ _ _ hroww; have q1 := cell_of_row _ bt 1 _ _ _ hroww; go_simp; first | done | with_reducible rfl) | exact Or.inr ⟨by rfl, rfl⟩
          try simp only [List.getElem_toArray, List.getElem_cons_succ, List.getElem_cons_zero, Act.put, List.setIfInBounds_toArray, List.set_cons_zero, List.set_cons_succ]
          refine anyS_take (i := 1) (v := ?vx5x1) rfl (by kernel_rfl) (by kernel_rfl) (by kernel_rfl) ?hyx5x1 ?restx5x1
          case hyx5x1 => first | (refine StepS.read (by rfl) (fun wx hSw => ?_); (try dsimp only at hSw); obtain ⟨hRw, hroww, hHw⟩ := hSw; have q0 := cell_of_row _ bt 0 _ _ _ hroww; have q1 := cell_of_row _ bt 1 _ _ _ hroww; go_simp; first | done | with_reducible rfl) | exact Or.inr ⟨by rfl, rfl⟩
          try simp only [List.getElem_toArray, List.getElem_cons_succ, List.getElem_cons_zero, Act.put, List.setIfInBounds_toArray, List.set_cons_zero, List.set_cons_succ]
          refine anyS_take (i := 2) (v := ?vx5x2) rfl (by kernel_rfl) (by kernel_rfl) (by kernel_rfl) ?hyx5x2 ?restx5x2
          case hyx5x2 => first | (refine StepS.read (by rfl) (fun wx hSw => ?_); (try dsimp only at hSw); obtain ⟨hRw, hroww, hHw⟩ := hSw; have q0 := cell_of_row _ bt 0 _ _ _ hroww; have q1 := cell_of_row _ bt 1 _ _ _ hroww; go_simp; first | done | with_reducible rfl) | exact Or.inr ⟨by rfl, rfl⟩
          try simp only [List.getElem_toArray, List.getElem_cons_succ, List.getElem_cons_zero, Act.put, List.setIfInBounds_toArray, List.set_cons_zero, List.set_cons_succ]
          refine anyS_take (i := 3) (v := ?vx5x3) rfl (by kernel_rfl) (by kernel_rfl) (by kernel_rfl) ?hyx5x3 ?restx5x3
          case hyx5x3 => first | (refine StepS.read (by rfl) (fun wx hSw => ?_); (try dsimp only at hSw); obtain ⟨hRw, hroww, hHw⟩ := hSw; have q0 := cell_of_row _ bt 0 _ _ _ hroww; have q1 := cell_of_row _ bt 1 _ _ _ hroww; go_simp; first | done | with_reducible rfl) | exact Or.inr ⟨by rfl, rfl⟩
          try simp only [List.getElem_toArray, List.getElem_cons_succ, List.getElem_cons_zero, Act.put, List.setIfInBounds_toArray, List.set_cons_zero, List.set_cons_succ]
          refine anyS_take (i := 4) (v := ?vx5x4) rfl (by kernel_rfl) (by kernel_rfl) (by kernel_rfl) ?hyx5x4 ?restx5x4
          case hyx5x4 => first | (refine StepS.read (by rfl) (fun wx hSw => ?_); (try dsimp only at hSw); obtain ⟨hRw, hroww, hHw⟩ := hSw; have q0 := cell_of_row _ bt 0 _ _ _ hroww; have q1 := cell_of_row _ bt 1 _ _ _ hroww; go_simp; first | done | with_reducible rfl) | exact Or.inr ⟨by rfl, rfl⟩
          try simp only [List.getElem_toArray, List.getElem_cons_succ, List.getElem_cons_zero, Act.put, List.setIfInBounds_toArray, List.set_cons_zero, List.set_cons_succ]
          refine anyS_take (i := 5) (v := ?vx5x5) rfl (by kernel_rfl) (by kernel_rfl) (by kernel_rfl) ?hyx5x5 ?restx5x5
          case hyx5x5 => first | (refine StepS.read (by rfl) (fun wx hSw => ?_); (try dsimp only at hSw); obtain ⟨hRw, hroww, hHw⟩ := hSw; have q0 := cell_of_row _ bt 0 _ _ _ hroww; have q1 := cell_of_row _ bt 1 _ _ _ hroww; go_simp; first | done | with_reducible rfl) | exact Or.inr ⟨by rfl, rfl⟩
          try simp only [List.getElem_toArray, List.getElem_cons_succ, List.getElem_cons_zero, Act.put, List.setIfInBounds_toArray, List.set_cons_zero, List.set_cons_succ]
          refine anyS_take (i := 6) (v := ?vx5x6) rfl (by kernel_rfl) (by kernel_rfl) (by kernel_rfl) ?hyx5x6 ?restx5x6
          case hyx5x6 => first | (refine StepS.read (by rfl) (fun wx hSw => ?_); (try dsimp only at hSw); obtain ⟨hRw, hroww, hHw⟩ := hSw; have q0 := cell_of_row _ bt 0 _ _ _ hroww; have q1 := cell_of_row _ bt 1 _ _ _ hroww; go_simp; first | done | with_reducible rfl) | exact Or.inr ⟨by rfl, rfl⟩
          try simp only [List.getElem_toArray, List.getElem_cons_succ, List.getElem_cons_zero, Act.put, List.setIfInBounds_toArray, List.set_cons_zero, List.set_cons_succ]
          refine anyS_take (i := 7) (v := ?vx5x7) rfl (by kernel_rfl) (by kernel_rfl) (by kernel_rfl) ?hyx5x7 ?restx5x7
          case hyx5x7 => first | (refine StepS.read (by rfl) (fun wx hSw => ?_); (try dsimp only at hSw); obtain ⟨hRw, hroww, hHw⟩ := hSw; have q0 := cell_of_row _ bt 0 _ _ _ hroww; have q1 := cell_of_row _ bt 1 _ _ _ hroww; go_simp; first | done | with_reducible rfl) | exact Or.inr ⟨by rfl, rfl⟩
          try simp only [List.getElem_toArray, List.getElem_cons_succ, List.getElem_cons_zero, Act.put, List.setIfInBounds_toArray, List.set_cons_zero, List.set_cons_succ]
          refine anyS_take (i := 8) (v := ?vx5x8) rfl (by kernel_rfl) (by kernel_rfl) (by kernel_rfl) ?hyx5x8 ?restx5x8
          case hyx5x8 => first | (refine StepS.read (by rfl) (fun wx hSw => ?_); (try dsimp only at hSw); obtain ⟨hRw, hroww, hHw⟩ := hSw; have q0 := cell_of_row _ bt 0 _ _ _ hroww; have q1 := cell_of_row _ bt 1 _ _ _ hroww; go_simp; first | done | with_reducible rfl) | exact Or.inr ⟨by rfl, rfl⟩
          try simp only [List.getElem_toArray, List.getElem_cons_succ, List.getElem_cons_zero, Act.put, List.setIfInBounds_toArray, List.set_cons_zero, List.set_cons_succ]
          refine anyS_take (i := 9) (v := ?vx5x9) rfl (by kernel_rfl) (by kernel_rfl) (by kernel_rfl) ?hyx5x9 ?restx5x9
          case hyx5x9 => first | (refine StepS.read (by rfl) (fun wx hSw => ?_); (try dsimp only at hSw); obtain ⟨hRw, hroww, hHw⟩ := hSw; have q0 := cell_of_row _ bt 0 _ _ _ hroww; have q1 := cell_of_row _ bt 1 _ _ _ hroww; go_simp; first | done | with_reducible rfl) | exact Or.inr ⟨by rfl, rfl⟩
          try simp only [List.getElem_toArray, List.getElem_cons_succ, List.getElem_cons_zero, Act.put, List.setIfInBounds_toArray, List.set_cons_zero, List.set_cons_succ]
          refine anyS_take (i := 10) (v := (.int .i64 (l'.length : Int))) rfl (by kernel_rfl) (by kernel_rfl) (by kernel_rfl) ?hyx5x10 ?restx5x10
          case hyx5x10 => (refine Or.inl ⟨by rfl, fun wx hSw => ?_⟩; (try dsimp only at hSw); have hSk := hSw; obtain ⟨hRw, hroww, hHw⟩ := hSw; go_simp; refine Or.inr ⟨_, _, _, rfl, ?_⟩; (with_reducible refine (left_c _ _ _ _ (by exact hRw)).mono ?_); rintro e w' ⟨rfl, rfl⟩; exact ⟨rfl, hSk⟩)
          try simp only [List.getElem_toArray, List.getElem_cons_succ, List.getElem_cons_zero, Act.put, List.setIfInBounds_toArray, List.set_cons_zero, List.set_cons_succ]
          refine anyS_take (i := 11) (v := ?vx5x11) rfl (by kernel_rfl) (by kernel_rfl) (by kernel_rfl) ?hyx5x11 ?restx5x11
          case hyx5x11 => first | (refine StepS.read (by rfl) (fun wx hSw => ?_); (try dsimp only at hSw); obtain ⟨hRw, hroww, hHw⟩ := hSw; have q0 := cell_of_row _ bt 0 _ _ _ hroww; have q1 := cell_of_row _ bt 1 _ _ _ hroww; go_simp; first | done | with_reducible rfl) | exact Or.inr ⟨by rfl, rfl⟩
          try simp only [List.getElem_toArray, List.getElem_cons_succ, List.getElem_cons_zero, Act.put, List.setIfInBounds_toArray, List.set_cons_zero, List.set_cons_succ]
          refine anyS_take (i := 12) (v := ?vx5x12) rfl (by kernel_rfl) (by kernel_rfl) (by kernel_rfl) ?hyx5x12 ?restx5x12
          case hyx5x12 => first | (refine StepS.read (by rfl) (fun wx hSw => ?_); (try dsimp only at hSw); obtain ⟨hRw, hroww, hHw⟩ := hSw; have q0 := cell_of_row _ bt 0 _ _ _ hroww; have q1 := cell_of_row _ bt 1 _ _ _ hroww; go_simp; first | done | with_reducible rfl) | exact Or.inr ⟨by rfl, rfl⟩
          try simp only [List.getElem_toArray, List.getElem_cons_succ, List.getElem_cons_zero, Act.put, List.setIfInBounds_toArray, List.set_cons_zero, List.set_cons_succ]
          refine anyS_take (i := 13) (v := ?vx5x13) rfl (by kernel_rfl) (by kernel_rfl) (by kernel_rfl) ?hyx5x13 ?restx5x13
          case hyx5x13 => first | (refine StepS.read (by rfl) (fun wx hSw => ?_); (try dsimp only at hSw); obtain ⟨hRw, hroww, hHw⟩ := hSw; have q0 := cell_of_row _ bt 0 _ _ _ hroww; have q1 := cell_of_row _ bt 1 _ _ _ hroww; go_simp; first | done | with_reducible rfl) | exact Or.inr ⟨by rfl, rfl⟩
          try simp only [List.getElem_toArray, List.getElem_cons_succ, List.getElem_cons_zero, Act.put, List.setIfInBounds_toArray, List.set_cons_zero, List.set_cons_succ]
          refine anyS_take (i := 14) (v := ?vx5x14) rfl (by kernel_rfl) (by kernel_rfl) (by kernel_rfl) ?hyx5x14 ?restx5x14
          case hyx5x14 => first | (refine StepS.read (by rfl) (fun wx hSw => ?_); (try dsimp only at hSw); obtain ⟨hRw, hroww, hHw⟩ := hSw; have q0 := cell_of_row _ bt 0 _ _ _ hroww; have q1 := cell_of_row _ bt 1 _ _ _ hroww; go_simp; first | done | with_reducible rfl) | exact Or.inr ⟨by rfl, rfl⟩
          try simp only [List.getElem_toArray, List.getElem_cons_succ, List.getElem_cons_zero, Act.put, List.setIfInBounds_toArray, List.set_cons_zero, List.set_cons_succ]
          refine anyS_take (i := 15) (v := ?vx5x15) rfl (by kernel_rfl) (by kernel_rfl) (by kernel_rfl) ?hyx5x15 ?restx5x15
          case hyx5x15 => first | (refine StepS.read (by rfl) (fun wx hSw => ?_); (try dsimp only at hSw); obtain ⟨hRw, hroww, hHw⟩ := hSw; have q0 := cell_of_row _ bt 0 _ _ _ hroww; have q1 := cell_of_row _ bt 1 _ _ _ hroww; go_simp; first | done | with_reducible rfl) | exact Or.inr ⟨by rfl, rfl⟩
          try simp only [List.getElem_toArray, List.getElem_cons_succ, List.getElem_cons_zero, Act.put, List.setIfInBounds_toArray, List.set_cons_zero, List.set_cons_succ]
          refine anyS_take (i := 16) (v := ?vx5x16) rfl (by kernel_rfl) (by kernel_rfl) (by kernel_rfl) ?hyx5x16 ?restx5x16
          case hyx5x16 => first | (refine StepS.read (by rfl) (fun wx hSw => ?_); (try dsimp only at hSw); obtain ⟨hRw, hroww, hHw⟩ := hSw; have q0 := cell_of_row _ bt 0 _ _ _ hroww; have q1 := cell_of_row _ bt 1 _ _ _ hroww; go_simp; first | done | with_reducible rfl) | exact Or.inr ⟨by rfl, rfl⟩
          try simp only [List.getElem_toArray, List.getElem_cons_succ, List.getElem_cons_zero, Act.put, List.setIfInBounds_toArray, List.set_cons_zero, List.set_cons_succ]
          refine anyS_take (i := 17) (v := ?vx5x17) rfl (by kernel_rfl) (by kernel_rfl) (by kernel_rfl) ?hyx5x17 ?restx5x17
          case hyx5x17 => first | (refine StepS.read (by rfl) (fun wx hSw => ?_); (try dsimp only at hSw); obtain ⟨hRw, hroww, hHw⟩ := hSw; have q0 := cell_of_row _ bt 0 _ _ _ hroww; have q1 := cell_of_row _ bt 1 _ _ _ hroww; go_simp; first | done | with_reducible rfl) | exact Or.inr ⟨by rfl, rfl⟩
          try simp only [List.getElem_toArray, List.getElem_cons_succ, List.getElem_cons_zero, Act.put, List.setIfInBounds_toArray, List.set_cons_zero, List.set_cons_succ]
          refine anyS_take (i := 18) (v := ?vx5x18) rfl (by kernel_rfl) (by kernel_rfl) (by kernel_rfl) ?hyx5x18 ?restx5x18
          case hyx5x18 => first | (refine StepS.read (by rfl) (fun wx hSw => ?_); (try dsimp only at hSw); obtain ⟨hRw, hroww, hHw⟩ := hSw; have q0 := cell_of_row _ bt 0 _ _ _ hroww; have q1 := cell_of_row _ bt 1 _ _ _ hroww; go_simp; first | done | with_reducible rfl) | exact Or.inr ⟨by rfl, rfl⟩
          try simp only [List.getElem_toArray, List.getElem_cons_succ, List.getElem_cons_zero, Act.put, List.setIfInBounds_toArray, List.set_cons_zero, List.set_cons_succ]
          refine anyS_take (i := 19) (v := ?vx5x19) rfl (by kernel_rfl) (by kernel_rfl) (by kernel_rfl) ?hyx5x19 ?restx5x19
          case hyx5x19 => first | (refine StepS.read (by rfl) (fun wx hSw => ?_); (try dsimp only at hSw); obtain ⟨hRw, hroww, hHw⟩ := hSw; have q0 := cell_of_row _ bt 0 _ _ _ hroww; have q1 := cell_of_row _ bt 1 _ _ _ hroww; go_simp; first | done | with_reducible rfl) | exact Or.inr ⟨by rfl, rfl⟩
          try simp only [List.getElem_toArray, List.getElem_cons_succ, List.getElem_cons_zero, Act.put, List.setIfInBounds_toArray, List.set_cons_zero, List.set_cons_succ]
          refine anyS_take (i := 20) (v := .bool true) rfl (by kernel_rfl) (by kernel_rfl) (by kernel_rfl) ?hyx5x20 ?restx5x20
          case hyx5x20 => (refine Or.inl ⟨by rfl, fun wx hSw => ?_⟩; (try dsimp only at hSw); have hSk := hSw; obtain ⟨hRw, hroww, hHw⟩ := hSw; go_simp; refine Or.inr ⟨_, _, _, rfl, ?_⟩; (with_reducible refine (rdone_n _ _ _ l' _ true _ (by simp) (by exact hrd.out)).mono ?_); rintro e w' ⟨rfl, hb'⟩; exact ⟨rfl, FtS.step hSk hb'⟩)
          try simp only [List.getElem_toArray, List.getElem_cons_succ, List.getElem_cons_zero, Act.put, List.setIfInBounds_toArray, List.set_cons_zero, List.set_cons_succ]
          refine anyS_take (i := 21) (v := ?vx5x21) rfl (by kernel_rfl) (by kernel_rfl) (by kernel_rfl) ?hyx5x21 ?restx5x21
          case hyx5x21 => first | (refine StepS.read (by rfl) (fun wx hSw => ?_); (try dsimp only at hSw); obtain ⟨hRw, hroww, hHw⟩ := hSw; have q0 := cell_of_row _ bt 0 _ _ _ hroww; have q1 := cell_of_row _ bt 1 _ _ _ hroww; go_simp; first | done | with_reducible rfl) | exact Or.inr ⟨by rfl, rfl⟩
          try simp only [List.getElem_toArray, List.getElem_cons_succ, List.getElem_cons_zero, Act.put, List.setIfInBounds_toArray, List.set_cons_zero, List.set_cons_succ]
          refine anyS_take (i := 22) (v := ?vx5x22) rfl (by kernel_rfl) (by kernel_rfl) (by kernel_rfl) ?hyx5x22 ?restx5x22
          case hyx5x22 => first | (refine StepS.read (by rfl) (fun wx hSw => ?_); (try dsimp only at hSw); obtain ⟨hRw, hroww, hHw⟩ := hSw; have q0 := cell_of_row _ bt 0 _ _ _ hroww; have q1 := cell_of_row _ bt 1 _ _ _ hroww; go_simp; first | done | with_reducible rfl) | exact Or.inr ⟨by rfl, rfl⟩
          try simp only [List.getElem_toArray, List.getElem_cons_succ, List.getElem_cons_zero, Act.put, List.setIfInBounds_toArray, List.set_cons_zero, List.set_cons_succ]
          refine anyS_take (i := 23) (v := ?vx5x23) rfl (by kernel_rfl) (by kernel_rfl) (by kernel_rfl) ?hyx5x23 ?restx5x23
          case hyx5x23 => first | (refine StepS.read (by rfl) (fun wx hSw => ?_); (try dsimp only at hSw); obtain ⟨hRw, hroww, hHw⟩ := hSw; have q0 := cell_of_row _ bt 0 _ _ _ hroww; have q1 := cell_of_row _ bt 1 _ _ _ hroww; go_simp; first | done | with_reducible rfl) | exact Or.inr ⟨by rfl, rfl⟩
          try simp only [List.getElem_toArray, List.getElem_cons_succ, List.getElem_cons_zero, Act.put, List.setIfInBounds_toArray, List.set_cons_zero, List.set_cons_succ]
          refine anyS_take (i := 24) (v := ?vx5x24) rfl (by kernel_rfl) (by kernel_rfl) (by kernel_rfl) ?hyx5x24 ?restx5x24
          case hyx5x24 => first | (refine StepS.read (by rfl) (fun wx hSw => ?_); (try dsimp only at hSw); obtain ⟨hRw, hroww, hHw⟩ := hSw; have q0 := cell_of_row _ bt 0 _ _ _ hroww; have q1 := cell_of_row _ bt 1 _ _ _ hroww; go_simp; first | done | with_reducible rfl) | exact Or.inr ⟨by rfl, rfl⟩
          try simp only [List.getElem_toArray, List.getElem_cons_succ, List.getElem_cons_zero, Act.put, List.setIfInBounds_toArray, List.set_cons_zero, List.set_cons_succ]
          refine anyS_take (i := 25) (v := ?vx5x25) rfl (by kernel_rfl) (by kernel_rfl) (by kernel_rfl) ?hyx5x25 ?restx5x25
          case hyx5x25 => first | (refine StepS.read (by rfl) (fun wx hSw => ?_); (try dsimp only at hSw); obtain ⟨hRw, hroww, hHw⟩ := hSw; have q0 := cell_of_row _ bt 0 _ _ _ hroww; have q1 := cell_of_row _ bt 1 _ _ _ hroww; go_simp; first | done | with_reducible rfl) | exact Or.inr ⟨by rfl, rfl⟩
          try simp only [List.getElem_toArray, List.getElem_cons_succ, List.getElem_cons_zero, Act.put, List.setIfInBounds_toArray, List.set_cons_zero, List.set_cons_succ]
          refine anyS_take (i := 26) (v := ?vx5x26) rfl (by kernel_rfl) (by kernel_rfl) (by kernel_rfl) ?hyx5x26 ?restx5x26
          case hyx5x26 => first | (refine StepS.read (by rfl) (fun wx hSw => ?_); (try dsimp only at hSw); obtain ⟨hRw, hroww, hHw⟩ := hSw; have q0 := cell_of_row _ bt 0 _ _ _ hroww; have q1 := cell_of_row _ bt 1 _ _ _ hroww; go_simp; first | done | with_reducible rfl) | exact Or.inr ⟨by rfl, rfl⟩
          try simp only [List.getElem_toArray, List.getElem_cons_succ, List.getElem_cons_zero, Act.put, List.setIfInBounds_toArray, List.set_cons_zero, List.set_cons_succ]
          refine anyS_take (i := 27) (v := undef) rfl (by kernel_rfl) (by kernel_rfl) (by kernel_rfl) (Or.inr ⟨by kernel_rfl, rfl⟩) ?restx5x27
          try simp only [List.getElem_toArray, List.getElem_cons_succ, List.getElem_cons_zero, Act.put, List.setIfInBounds_toArray, List.set_cons_zero, List.set_cons_succ]
          refine anyS_take (i := 28) (v := undef) rfl (by kernel_rfl) (by kernel_rfl) (by kernel_rfl) (Or.inr ⟨by kernel_rfl, rfl⟩) ?restx5x28
          try simp only [List.getElem_toArray, List.getElem_cons_succ, List.getElem_cons_zero, Act.put, List.setIfInBounds_toArray, List.set_cons_zero, List.set_cons_succ]
          refine anyS_take (i := 29) (v := undef) rfl (by kernel_rfl) (by kernel_rfl) (by kernel_rfl) (Or.inr ⟨by kernel_rfl, rfl⟩) ?restx5x29
          try simp only [List.getElem_toArray, List.getElem_cons_succ, List.getElem_cons_zero, Act.put, List.setIfInBounds_toArray, List.set_cons_zero, List.set_cons_succ]
          refine anyS_take (i := 30) (v := ?vx5x30) rfl (by kernel_rfl) (by kernel_rfl) (by kernel_rfl) ?hyx5x30 ?restx5x30
          case hyx5x30 => first | (refine StepS.read (by rfl) (fun wx hSw => ?_); (try dsimp only at hSw); obtain ⟨hRw, hroww, hHw⟩ := hSw; have q0 := cell_of_row _ bt 0 _ _ _ hroww; have q1 := cell_of_row _ bt 1 _ _ _ hroww; go_simp; first | done | with_reducible rfl) | exact Or.inr ⟨by rfl, rfl⟩
          try simp only [List.getElem_toArray, List.getElem_cons_succ, List.getElem_cons_zero, Act.put, List.setIfInBounds_toArray, List.set_cons_zero, List.set_cons_succ]
          refine anyS_take (i := 31) (v := ?vx5x31) rfl (by kernel_rfl) (by kernel_rfl) (by kernel_rfl) ?hyx5x31 ?restx5x31
          case hyx5x31 => first | (refine StepS.read (by rfl) (fun wx hSw => ?_); (try dsimp only at hSw); obtain ⟨hRw, hroww, hHw⟩ := hSw; have q0 := cell_of_row _ bt 0 _ _ _ hroww; have q1 := cell_of_row _ bt 1 _ _ _ hroww; go_simp; first | done | with_reducible rfl) | exact Or.inr ⟨by rfl, rfl⟩
          try simp only [List.getElem_toArray, List.getElem_cons_succ, List.getElem_cons_zero, Act.put, List.setIfInBounds_toArray, List.set_cons_zero, List.set_cons_succ]
          refine anyS_done (by kernel_rfl) (fun wx hSw => ?_) _
          (try dsimp only at hSw)
          go_wp2_with (fail)
          go_roundg (lb.length - (m + 1))
          case measure => omega
          case rel => exact ⟨m + 1, l', sh', rfl, by omega, by simp, ⟨hSw.1, ⟨A5, c5, hSw.2.1, hRA5, hAc5, hlc5⟩, hbad', hSw.2.2, by omega, hgw, hgb⟩⟩
        · have hdv : doneV l' sh' = errV 3 := if_neg hd
          have hrd := Lib.hid (show (!sh' && decide (l' = [])) = false by revert hd; cases sh' <;> simp)
          clear hd
          rw [hdv]
          go_upto_region 28 with (fail)
          refine wp_region_S (S := (fun wx => FtS w g bt l' sh' A5 c5 wx)) (by kernel_rfl) (FtS.step hS6 (Below.refl _ _).drew) ?_
          refine anyS_take (i := 0) (v := ?vx6x0) rfl (by kernel_rfl) (by kernel_rfl) (by kernel_rfl) ?hyx6x0 ?restx6x0
          case hyx6x0 => first | (refine StepS.read (by rfl) (fun wx hSw => ?_); (try dsimp only at hSw); obtain ⟨hRw, hroww, hHw⟩ := hSw; have q0 := cell_of_row _ bt 0 _ _ _ hroww; have q1 := cell_of_row _ bt 1 _ _ _ hroww; go_simp; first | done | with_reducible rfl) | exact Or.inr ⟨by rfl, rfl⟩
          try simp only [List.getElem_toArray, List.getElem_cons_succ, List.getElem_cons_zero, Act.put, List.setIfInBounds_toArray, List.set_cons_zero, List.set_cons_succ]
          refine anyS_take (i := 1) (v := ?vx6x1) rfl (by kernel_rfl) (by kernel_rfl) (by kernel_rfl) ?hyx6x1 ?restx6x1
          case hyx6x1 => first | (refine StepS.read (by rfl) (fun wx hSw => ?_); (try dsimp only at hSw); obtain ⟨hRw, hroww, hHw⟩ := hSw; have q0 := cell_of_row _ bt 0 _ _ _ hroww; have q1 := cell_of_row _ bt 1 _ _ _ hroww; go_simp; first | done | with_reducible rfl) | exact Or.inr ⟨by rfl, rfl⟩
          try simp only [List.getElem_toArray, List.getElem_cons_succ, List.getElem_cons_zero, Act.put, List.setIfInBounds_toArray, List.set_cons_zero, List.set_cons_succ]
          refine anyS_take (i := 2) (v := ?vx6x2) rfl (by kernel_rfl) (by kernel_rfl) (by kernel_rfl) ?hyx6x2 ?restx6x2
          case hyx6x2 => first | (refine StepS.read (by rfl) (fun wx hSw => ?_); (try dsimp only at hSw); obtain ⟨hRw, hroww, hHw⟩ := hSw; have q0 := cell_of_row _ bt 0 _ _ _ hroww; have q1 := cell_of_row _ bt 1 _ _ _ hroww; go_simp; first | done | with_reducible rfl) | exact Or.inr ⟨by rfl, rfl⟩
          try simp only [List.getElem_toArray, List.getElem_cons_succ, List.getElem_cons_zero, Act.put, List.setIfInBounds_toArray, List.set_cons_zero, List.set_cons_succ]
          refine anyS_take (i := 3) (v := ?vx6x3) rfl (by kernel_rfl) (by kernel_rfl) (by kernel_rfl) ?hyx6x3 ?restx6x3
          case hyx6x3 => first | (refine StepS.read (by rfl) (fun wx hSw => ?_); (try dsimp only at hSw); obtain ⟨hRw, hroww, hHw⟩ := hSw; have q0 := cell_of_row _ bt 0 _ _ _ hroww; have q1 := cell_of_row _ bt 1 _ _ _ hroww; go_simp; first | done | with_reducible rfl) | exact Or.inr ⟨by rfl, rfl⟩
          try simp only [List.getElem_toArray, List.getElem_cons_succ, List.getElem_cons_zero, Act.put, List.setIfInBounds_toArray, List.set_cons_zero, List.set_cons_succ]
          refine anyS_take (i := 4) (v := ?vx6x4) rfl (by kernel_rfl) (by kernel_rfl) (by kernel_rfl) ?hyx6x4 ?restx6x4
          case hyx6x4 => first | (refine StepS.read (by rfl) (fun wx hSw => ?_); (try dsimp only at hSw); obtain ⟨hRw, hroww, hHw⟩ := hSw; have q0 := cell_of_row _ bt 0 _ _ _ hroww; have q1 := cell_of_row _ bt 1 _ _ _ hroww; go_simp; first | done | with_reducible rfl) | exact Or.inr ⟨by rfl, rfl⟩
          try simp only [List.getElem_toArray, List.getElem_cons_succ, List.getElem_cons_zero, Act.put, List.setIfInBounds_toArray, List.set_cons_zero, List.set_cons_succ]
          refine anyS_take (i := 5) (v := ?vx6x5) rfl (by kernel_rfl) (by kernel_rfl) (by kernel_rfl) ?hyx6x5 ?restx6x5
          case hyx6x5 => first | (refine StepS.read (by rfl) (fun wx hSw => ?_); (try dsimp only at hSw); obtain ⟨hRw, hroww, hHw⟩ := hSw; have q0 := cell_of_row _ bt 0 _ _ _ hroww; have q1 := cell_of_row _ bt 1 _ _ _ hroww; go_simp; first | done | with_reducible rfl) | exact Or.inr ⟨by rfl, rfl⟩
          try simp only [List.getElem_toArray, List.getElem_cons_succ, List.getElem_cons_zero, Act.put, List.setIfInBounds_toArray, List.set_cons_zero, List.set_cons_succ]
          refine anyS_take (i := 6) (v := ?vx6x6) rfl (by kernel_rfl) (by kernel_rfl) (by kernel_rfl) ?hyx6x6 ?restx6x6
          case hyx6x6 => first | (refine StepS.read (by rfl) (fun wx hSw => ?_); (try dsimp only at hSw); obtain ⟨hRw, hroww, hHw⟩ := hSw; have q0 := cell_of_row _ bt 0 _ _ _ hroww; have q1 := cell_of_row _ bt 1 _ _ _ hroww; go_simp; first | done | with_reducible rfl) | exact Or.inr ⟨by rfl, rfl⟩
          try simp only [List.getElem_toArray, List.getElem_cons_succ, List.getElem_cons_zero, Act.put, List.setIfInBounds_toArray, List.set_cons_zero, List.set_cons_succ]
          refine anyS_take (i := 7) (v := ?vx6x7) rfl (by kernel_rfl) (by kernel_rfl) (by kernel_rfl) ?hyx6x7 ?restx6x7
          case hyx6x7 => first | (refine StepS.read (by rfl) (fun wx hSw => ?_); (try dsimp only at hSw); obtain ⟨hRw, hroww, hHw⟩ := hSw; have q0 := cell_of_row _ bt 0 _ _ _ hroww; have q1 := cell_of_row _ bt 1 _ _ _ hroww; go_simp; first | done | with_reducible rfl) | exact Or.inr ⟨by rfl, rfl⟩
          try simp only [List.getElem_toArray, List.getElem_cons_succ, List.getElem_cons_zero, Act.put, List.setIfInBounds_toArray, List.set_cons_zero, List.set_cons_succ]
          refine anyS_take (i := 8) (v := ?vx6x8) rfl (by kernel_rfl) (by kernel_rfl) (by kernel_rfl) ?hyx6x8 ?restx6x8
          case hyx6x8 => first | (refine StepS.read (by rfl) (fun wx hSw => ?_); (try dsimp only at hSw); obtain ⟨hRw, hroww, hHw⟩ := hSw; have q0 := cell_of_row _ bt 0 _ _ _ hroww; have q1 := cell_of_row _ bt 1 _ _ _ hroww; go_simp; first | done | with_reducible rfl) | exact Or.inr ⟨by rfl, rfl⟩
          try simp only [List.getElem_toArray, List.getElem_cons_succ, List.getElem_cons_zero, Act.put, List.setIfInBounds_toArray, List.set_cons_zero, List.set_cons_succ]
          refine anyS_take (i := 9) (v := ?vx6x9) rfl (by kernel_rfl) (by kernel_rfl) (by kernel_rfl) ?hyx6x9 ?restx6x9
          case hyx6x9 => first | (refine StepS.read (by rfl) (fun wx hSw => ?_); (try dsimp only at hSw); obtain ⟨hRw, hroww, hHw⟩ := hSw; have q0 := cell_of_row _ bt 0 _ _ _ hroww; have q1 := cell_of_row _ bt 1 _ _ _ hroww; go_simp; first | done | with_reducible rfl) | exact Or.inr ⟨by rfl, rfl⟩
          try simp only [List.getElem_toArray, List.getElem_cons_succ, List.getElem_cons_zero, Act.put, List.setIfInBounds_toArray, List.set_cons_zero, List.set_cons_succ]
          refine anyS_take (i := 10) (v := (.int .i64 (l'.length : Int))) rfl (by kernel_rfl) (by kernel_rfl) (by kernel_rfl) ?hyx6x10 ?restx6x10
          case hyx6x10 => (refine Or.inl ⟨by rfl, fun wx hSw => ?_⟩; (try dsimp only at hSw); have hSk := hSw; obtain ⟨hRw, hroww, hHw⟩ := hSw; go_simp; refine Or.inr ⟨_, _, _, rfl, ?_⟩; (with_reducible refine (left_c _ _ _ _ (by exact hRw)).mono ?_); rintro e w' ⟨rfl, rfl⟩; exact ⟨rfl, hSk⟩)
          try simp only [List.getElem_toArray, List.getElem_cons_succ, List.getElem_cons_zero, Act.put, List.setIfInBounds_toArray, List.set_cons_zero, List.set_cons_succ]
          refine anyS_take (i := 11) (v := ?vx6x11) rfl (by kernel_rfl) (by kernel_rfl) (by kernel_rfl) ?hyx6x11 ?restx6x11
          case hyx6x11 => first | (refine StepS.read (by rfl) (fun wx hSw => ?_); (try dsimp only at hSw); obtain ⟨hRw, hroww, hHw⟩ := hSw; have q0 := cell_of_row _ bt 0 _ _ _ hroww; have q1 := cell_of_row _ bt 1 _ _ _ hroww; go_simp; first | done | with_reducible rfl) | exact Or.inr ⟨by rfl, rfl⟩
          try simp only [List.getElem_toArray, List.getElem_cons_succ, List.getElem_cons_zero, Act.put, List.setIfInBounds_toArray, List.set_cons_zero, List.set_cons_succ]
          refine anyS_take (i := 12) (v := ?vx6x12) rfl (by kernel_rfl) (by kernel_rfl) (by kernel_rfl) ?hyx6x12 ?restx6x12
          case hyx6x12 => first | (refine StepS.read (by rfl) (fun wx hSw => ?_); (try dsimp only at hSw); obtain ⟨hRw, hroww, hHw⟩ := hSw; have q0 := cell_of_row _ bt 0 _ _ _ hroww; have q1 := cell_of_row _ bt 1 _ _ _ hroww; go_simp; first | done | with_reducible rfl) | exact Or.inr ⟨by rfl, rfl⟩
          try simp only [List.getElem_toArray, List.getElem_cons_succ, List.getElem_cons_zero, Act.put, List.setIfInBounds_toArray, List.set_cons_zero, List.set_cons_succ]
          refine anyS_take (i := 13) (v := ?vx6x13) rfl (by kernel_rfl) (by kernel_rfl) (by kernel_rfl) ?hyx6x13 ?restx6x13
          case hyx6x13 => first | (refine StepS.read (by rfl) (fun wx hSw => ?_); (try dsimp only at hSw); obtain ⟨hRw, hroww, hHw⟩ := hSw; have q0 := cell_of_row _ bt 0 _ _ _ hroww; have q1 := cell_of_row _ bt 1 _ _ _ hroww; go_simp; first | done | with_reducible rfl) | exact Or.inr ⟨by rfl, rfl⟩
          try simp only [List.getElem_toArray, List.getElem_cons_succ, List.getElem_cons_zero, Act.put, List.setIfInBounds_toArray, List.set_cons_zero, List.set_cons_succ]
          refine anyS_take (i := 14) (v := ?vx6x14) rfl (by kernel_rfl) (by kernel_rfl) (by kernel_rfl) ?hyx6x14 ?restx6x14
          case hyx6x14 => first | (refine StepS.read (by rfl) (fun wx hSw => ?_); (try dsimp only at hSw); obtain ⟨hRw, hroww, hHw⟩ := hSw; have q0 := cell_of_row _ bt 0 _ _ _ hroww; have q1 := cell_of_row _ bt 1 _ _ _ hroww; go_simp; first | done | with_reducible rfl) | exact Or.inr ⟨by rfl, rfl⟩
          try simp only [List.getElem_toArray, List.getElem_cons_succ, List.getElem_cons_zero, Act.put, List.setIfInBounds_toArray, List.set_cons_zero, List.set_cons_succ]
          refine anyS_take (i := 15) (v := ?vx6x15) rfl (by kernel_rfl) (by kernel_rfl) (by kernel_rfl) ?hyx6x15 ?restx6x15
          case hyx6x15 => first | (refine StepS.read (by rfl) (fun wx hSw => ?_); (try dsimp only at hSw); obtain ⟨hRw, hroww, hHw⟩ := hSw; have q0 := cell_of_row _ bt 0 _ _ _ hroww; have q1 := cell_of_row _ bt 1 _ _ _ hroww; go_simp; first | done | with_reducible rfl) | exact Or.inr ⟨by rfl, rfl⟩
          try simp only [List.getElem_toArray, List.getElem_cons_succ, List.getElem_cons_zero, Act.put, List.setIfInBounds_toArray, List.set_cons_zero, List.set_cons_succ]
          refine anyS_take (i := 16) (v := ?vx6x16) rfl (by kernel_rfl) (by kernel_rfl) (by kernel_rfl) ?hyx6x16 ?restx6x16
          case hyx6x16 => first | (refine StepS.read (by rfl) (fun wx hSw => ?_); (try dsimp only at hSw); obtain ⟨hRw, hroww, hHw⟩ := hSw; have q0 := cell_of_row _ bt 0 _ _ _ hroww; have q1 := cell_of_row _ bt 1 _ _ _ hroww; go_simp; first | done | with_reducible rfl) | exact Or.inr ⟨by rfl, rfl⟩
          try simp only [List.getElem_toArray, List.getElem_cons_succ, List.getElem_cons_zero, Act.put, List.setIfInBounds_toArray, List.set_cons_zero, List.set_cons_succ]
          refine anyS_take (i := 17) (v := ?vx6x17) rfl (by kernel_rfl) (by kernel_rfl) (by kernel_rfl) ?hyx6x17 ?restx6x17
          case hyx6x17 => first | (refine StepS.read (by rfl) (fun wx hSw => ?_); (try dsimp only at hSw); obtain ⟨hRw, hroww, hHw⟩ := hSw; have q0 := cell_of_row _ bt 0 _ _ _ hroww; have q1 := cell_of_row _ bt 1 _ _ _ hroww; go_simp; first | done | with_reducible rfl) | exact Or.inr ⟨by rfl, rfl⟩
          try simp only [List.getElem_toArray, List.getElem_cons_succ, List.getElem_cons_zero, Act.put, List.setIfInBounds_toArray, List.set_cons_zero, List.set_cons_succ]
          refine anyS_take (i := 18) (v := ?vx6x18) rfl (by kernel_rfl) (by kernel_rfl) (by kernel_rfl) ?hyx6x18 ?restx6x18
          case hyx6x18 => first | (refine StepS.read (by rfl) (fun wx hSw => ?_); (try dsimp only at hSw); obtain ⟨hRw, hroww, hHw⟩ := hSw; have q0 := cell_of_row _ bt 0 _ _ _ hroww; have q1 := cell_of_row _ bt 1 _ _ _ hroww; go_simp; first | done | with_reducible rfl) | exact Or.inr ⟨by rfl, rfl⟩
          try simp only [List.getElem_toArray, List.getElem_cons_succ, List.getElem_cons_zero, Act.put, List.setIfInBounds_toArray, List.set_cons_zero, List.set_cons_succ]
          refine anyS_take (i := 19) (v := ?vx6x19) rfl (by kernel_rfl) (by kernel_rfl) (by kernel_rfl) ?hyx6x19 ?restx6x19
          case hyx6x19 => first | (refine StepS.read (by rfl) (fun wx hSw => ?_); (try dsimp only at hSw); obtain ⟨hRw, hroww, hHw⟩ := hSw; have q0 := cell_of_row _ bt 0 _ _ _ hroww; have q1 := cell_of_row _ bt 1 _ _ _ hroww; go_simp; first | done | with_reducible rfl) | exact Or.inr ⟨by rfl, rfl⟩
          try simp only [List.getElem_toArray, List.getElem_cons_succ, List.getElem_cons_zero, Act.put, List.setIfInBounds_toArray, List.set_cons_zero, List.set_cons_succ]
          refine anyS_take (i := 20) (v := .bool false) rfl (by kernel_rfl) (by kernel_rfl) (by kernel_rfl) ?hyx6x20 ?restx6x20
          case hyx6x20 => (refine Or.inl ⟨by rfl, fun wx hSw => ?_⟩; (try dsimp only at hSw); have hSk := hSw; obtain ⟨hRw, hroww, hHw⟩ := hSw; go_simp; refine Or.inr ⟨_, _, _, rfl, ?_⟩; (with_reducible refine (rdone_n _ _ _ l' _ false _ (by simp) (by exact hrd.out)).mono ?_); rintro e w' ⟨rfl, hb'⟩; exact ⟨rfl, FtS.step hSk hb'⟩)
          try simp only [List.getElem_toArray, List.getElem_cons_succ, List.getElem_cons_zero, Act.put, List.setIfInBounds_toArray, List.set_cons_zero, List.set_cons_succ]
          refine anyS_take (i := 21) (v := ?vx6x21) rfl (by kernel_rfl) (by kernel_rfl) (by kernel_rfl) ?hyx6x21 ?restx6x21
          case hyx6x21 => first | (refine StepS.read (by rfl) (fun wx hSw => ?_); (try dsimp only at hSw); obtain ⟨hRw, hroww, hHw⟩ := hSw; have q0 := cell_of_row _ bt 0 _ _ _ hroww; have q1 := cell_of_row _ bt 1 _ _ _ hroww; go_simp; first | done | with_reducible rfl) | exact Or.inr ⟨by rfl, rfl⟩
          try simp only [List.getElem_toArray, List.getElem_cons_succ, List.getElem_cons_zero, Act.put, List.setIfInBounds_toArray, List.set_cons_zero, List.set_cons_succ]
          refine anyS_take (i := 22) (v := ?vx6x22) rfl (by kernel_rfl) (by kernel_rfl) (by kernel_rfl) ?hyx6x22 ?restx6x22
          case hyx6x22 => first | (refine StepS.read (by rfl) (fun wx hSw => ?_); (try dsimp only at hSw); obtain ⟨hRw, hroww, hHw⟩ := hSw; have q0 := cell_of_row _ bt 0 _ _ _ hroww; have q1 := cell_of_row _ bt 1 _ _ _ hroww; go_simp; first | done | with_reducible rfl) | exact Or.inr ⟨by rfl, rfl⟩
          try simp only [List.getElem_toArray, List.getElem_cons_succ, List.getElem_cons_zero, Act.put, List.setIfInBounds_toArray, List.set_cons_zero, List.set_cons_succ]
          refine anyS_take (i := 23) (v := ?vx6x23) rfl (by kernel_rfl) (by kernel_rfl) (by kernel_rfl) ?hyx6x23 ?restx6x23
          case hyx6x23 => first | (refine StepS.read (by rfl) (fun wx hSw => ?_); (try dsimp only at hSw); obtain ⟨hRw, hroww, hHw⟩ := hSw; have q0 := cell_of_row _ bt 0 _ _ _ hroww; have q1 := cell_of_row _ bt 1 _ _ _ hroww; go_simp; first | done | with_reducible rfl) | exact Or.inr ⟨by rfl, rfl⟩
          try simp only [List.getElem_toArray, List.getElem_cons_succ, List.getElem_cons_zero, Act.put, List.setIfInBounds_toArray, List.set_cons_zero, List.set_cons_succ]
          refine anyS_take (i := 24) (v := ?vx6x24) rfl (by kernel_rfl) (by kernel_rfl) (by kernel_rfl) ?hyx6x24 ?restx6x24
          case hyx6x24 => first | (refine StepS.read (by rfl) (fun wx hSw => ?_); (try dsimp only at hSw); obtain ⟨hRw, hroww, hHw⟩ := hSw; have q0 := cell_of_row _ bt 0 _ _ _ hroww; have q1 := cell_of_row _ bt 1 _ _ _ hroww; go_simp; first | done | with_reducible rfl) | exact Or.inr ⟨by rfl, rfl⟩
          try simp only [List.getElem_toArray, List.getElem_cons_succ, List.getElem_cons_zero, Act.put, List.setIfInBounds_toArray, List.set_cons_zero, List.set_cons_succ]
          refine anyS_take (i := 25) (v := ?vx6x25) rfl (by kernel_rfl) (by kernel_rfl) (by kernel_rfl) ?hyx6x25 ?restx6x25
          case hyx6x25 => first | (refine StepS.read (by rfl) (fun wx hSw => ?_); (try dsimp only at hSw); obtain ⟨hRw, hroww, hHw⟩ := hSw; have q0 := cell_of_row _ bt 0 _ _ _ hroww; have q1 := cell_of_row _ bt 1 _ _ _ hroww; go_simp; first | done | with_reducible rfl) | exact Or.inr ⟨by rfl, rfl⟩
          try simp only [List.getElem_toArray, List.getElem_cons_succ, List.getElem_cons_zero, Act.put, List.setIfInBounds_toArray, List.set_cons_zero, List.set_cons_succ]
          refine anyS_take (i := 26) (v := ?vx6x26) rfl (by kernel_rfl) (by kernel_rfl) (by kernel_rfl) ?hyx6x26 ?restx6x26
          case hyx6x26 => first | (refine StepS.read (by rfl) (fun wx hSw => ?_); (try dsimp only at hSw); obtain ⟨hRw, hroww, hHw⟩ := hSw; have q0 := cell_of_row _ bt 0 _ _ _ hroww; have q1 := cell_of_row _ bt 1 _ _ _ hroww; go_simp; first | done | with_reducible rfl) | exact Or.inr ⟨by rfl, rfl⟩
          try simp only [List.getElem_toArray, List.getElem_cons_succ, List.getElem_cons_zero, Act.put, List.setIfInBounds_toArray, List.set_cons_zero, List.set_cons_succ]
          refine anyS_take (i := 27) (v := ?vx6x27) rfl (by kernel_rfl) (by kernel_rfl) (by kernel_rfl) ?hyx6x27 ?restx6x27
          case hyx6x27 => first | (refine StepS.read (by rfl) (fun wx hSw => ?_); (try dsimp only at hSw); obtain ⟨hRw, hroww, hHw⟩ := hSw; have q0 := cell_of_row _ bt 0 _ _ _ hroww; have q1 := cell_of_row _ bt 1 _ _ _ hroww; go_simp; first | done | with_reducible rfl) | exact Or.inr ⟨by rfl, rfl⟩
          try simp only [List.getElem_toArray, List.getElem_cons_succ, List.getElem_cons_zero, Act.put, List.setIfInBounds_toArray, List.set_cons_zero, List.set_cons_succ]
          refine anyS_take (i := 28) (v := .int .i64 3) rfl (by kernel_rfl) (by kernel_rfl) (by kernel_rfl) ?hyx6x28 ?restx6x28
          case hyx6x28 => (refine Or.inl ⟨by rfl, fun wx hSw => ?_⟩; (try dsimp only at hSw); have hSk := hSw; obtain ⟨hRw, hroww, hHw⟩ := hSw; go_simp; refine Or.inr ⟨_, _, _, rfl, ?_⟩; (with_reducible refine (num05_err _ _ (Held.handle (w0 := w) hHw)).mono ?_); rintro e w' ⟨rfl, hb'⟩; exact ⟨rfl, FtS.step hSk hb'⟩)
          try simp only [List.getElem_toArray, List.getElem_cons_succ, List.getElem_cons_zero, Act.put, List.setIfInBounds_toArray, List.set_cons_zero, List.set_cons_succ]
          refine anyS_take (i := 29) (v := ?vx6x29) rfl (by kernel_rfl) (by kernel_rfl) (by kernel_rfl) ?hyx6x29 ?restx6x29
          case hyx6x29 => first | (refine StepS.read (by rfl) (fun wx hSw => ?_); (try dsimp only at hSw); obtain ⟨hRw, hroww, hHw⟩ := hSw; have q0 := cell_of_row _ bt 0 _ _ _ hroww; have q1 := cell_of_row _ bt 1 _ _ _ hroww; go_simp; first | done | with_reducible rfl) | exact Or.inr ⟨by rfl, rfl⟩
          try simp only [List.getElem_toArray, List.getElem_cons_succ, List.getElem_cons_zero, Act.put, List.setIfInBounds_toArray, List.set_cons_zero, List.set_cons_succ]
          refine anyS_take (i := 30) (v := ?vx6x30) rfl (by kernel_rfl) (by kernel_rfl) (by kernel_rfl) ?hyx6x30 ?restx6x30
          case hyx6x30 => first | (refine StepS.read (by rfl) (fun wx hSw => ?_); (try dsimp only at hSw); obtain ⟨hRw, hroww, hHw⟩ := hSw; have q0 := cell_of_row _ bt 0 _ _ _ hroww; have q1 := cell_of_row _ bt 1 _ _ _ hroww; go_simp; first | done | with_reducible rfl) | exact Or.inr ⟨by rfl, rfl⟩
          try simp only [List.getElem_toArray, List.getElem_cons_succ, List.getElem_cons_zero, Act.put, List.setIfInBounds_toArray, List.set_cons_zero, List.set_cons_succ]
          refine anyS_take (i := 31) (v := ?vx6x31) rfl (by kernel_rfl) (by kernel_rfl) (by kernel_rfl) ?hyx6x31 ?restx6x31
          case hyx6x31 => first | (refine StepS.read (by rfl) (fun wx hSw => ?_); (try dsimp only at hSw); obtain ⟨hRw, hroww, hHw⟩ := hSw; have q0 := cell_of_row _ bt 0 _ _ _ hroww; have q1 := cell_of_row _ bt 1 _ _ _ hroww; go_simp; first | done | with_reducible rfl) | exact Or.inr ⟨by rfl, rfl⟩
          try simp only [List.getElem_toArray, List.getElem_cons_succ, List.getElem_cons_zero, Act.put, List.setIfInBounds_toArray, List.set_cons_zero, List.set_cons_succ]
          refine anyS_done (by kernel_rfl) (fun wx hSw => ?_) _
          (try dsimp only at hSw)
          go_wp2_with (fail)
          go_roundg (lb.length - (m + 1))
          case measure => omega
          case rel => exact ⟨m + 1, l', sh', rfl, by omega, by simp, ⟨hSw.1, ⟨A5, c5, hSw.2.1, hRA5, hAc5, hlc5⟩, hbad', hSw.2.2, by omega, hgw, hgb⟩⟩
      · go_wp2_with (fail)
        (with_reducible refine (get8_c _ _ _ _ (by exact hR) (by omega)).mono ?_)
        rintro e w4 ⟨rfl, hR4, hg4⟩
        have hb4 : Below w.heap.size w w4 := hHx.below.grown hg4 hHx.below.size (fun k e => by cases e; exact hgw2)
        have hrow4 := (hg4.block bt (Array.getElem?_eq_some_iff.1 hrow).1 (by intro e; injection e with e; omega)).trans hrow
        have kq0 := cell_of_row w4 bt 0 _ _ _ hrow4
        have kq1 := cell_of_row w4 bt 1 _ _ _ hrow4
        clear kr0 kr1 hcx
        have hv := getV_lt l 8
        have hvE : 256 ^ 8 = 18446744073709551616 := by decide
        rw [hvE] at hv
        clear hvE
        have hcv : IntKind.u64.wrap (wrap64 (getV l 8 : Nat)) = (getV l 8 : Nat) := by exact u64_wrap64 _ hv
        go_wp2_with (fail)
        (with_reducible refine (rtake_n w A' c' _ l _ sh _ _ 8 _ _ (by exact hRA) (by exact hb4) (by exact hlc) (by exact hbad) (by simp) (by simp) (by omega) (by decide) (by decide) rfl rfl rfl).mono ?_)
        rintro e w5 ⟨A5, c5, rfl, hRA5, hAc5, hlc5, HB5⟩
        have hb5 : Below w.heap.size w w5 := hb4.trans (HB5.mono hb4.size)
        have hrow5 := (HB5.block bt (Array.getElem?_eq_some_iff.1 hrow4).1).trans hrow4
        have hR5 := hR4.below HB5
        have kr0 := cell_of_row w5 bt 0 _ _ _ hrow5
        have kr1 := cell_of_row w5 bt 1 _ _ _ hrow5
        have kf0 := frozen_of_row w5 bt 0 _ _ hrow5
        have kf1 := frozen_of_row w5 bt 1 _ _ hrow5
        have hS6 := FtS.of A5 c5 hg hR5 hrow5 hb5 hgb hbw
        have hbad' := bad_keeps l sh 8 hbad
        have hle := getL_le l 8
        clear hR4 hg4 hR kq0 kq1 hb4 HB5 hrow4
        generalize getL l 8 = l' at *
        generalize getS l sh 8 = sh' at *
        generalize getV l 8 = V at *
        go_wp2_with (fail)
        generalize (w5.setCell ⟨bt, 0, none⟩ (.slice A5 l'.length c5)).setCell ⟨bt, 1, none⟩ (.bool sh') = w6 at *
        clear kr0 kr1 kf0 kf1 hR5 hrow5 hb5
        have hR6 := hS6.1
        (with_reducible refine (ft_done _ _ l' _ (by exact hR6) (by omega)).mono ?_)
        rintro e w7 ⟨rfl, rfl⟩
        by_cases hd : sh' = false ∧ l' = []
        · have hdv : doneV l' sh' = .nilIface := if_pos hd
          have hrd := Lib.hid (show (!sh' && decide (l' = [])) = true by simp [hd.1, hd.2])
          clear hd
          rw [hdv]
          go_upto_region 28 with (fail)
          refine wp_region_S (S := (fun wx => FtS w g bt l' sh' A5 c5 wx)) (by kernel_rfl) (FtS.step hS6 (Below.refl _ _).drew) ?_
          refine anyS_take (i := 0) (v := ?vx7x0) rfl (by kernel_rfl) (by kernel_rfl) (by kernel_rfl) ?hyx7x0 ?restx7x0
          case hyx7x0 => first | (refine StepS.read (by rfl) (fun wx hSw => ?_); (try dsimp only at hSw); obtain ⟨hRw, hroww, hHw⟩ := hSw; have q0 := cell_of_row _ bt 0 _ _ _ hroww; have q1 := cell_of_row _ bt 1 _ _ _ hroww; go_simp; first | done | with_reducible rfl) | exact Or.inr ⟨by rfl, rfl⟩
          try simp only [List.getElem_toArray, List.getElem_cons_succ, List.getElem_cons_zero, Act.put, List.setIfInBounds_toArray, List.set_cons_zero, List.set_cons_succ]
          refine anyS_take (i := 1) (v := ?vx7x1) rfl (by kernel_rfl) (by kernel_rfl) (by kernel_rfl) ?hyx7x1 ?restx7x1
          case hyx7x1 => first | (refine StepS.read (by rfl) (fun wx hSw => ?_); (try dsimp only at hSw); obtain ⟨hRw, hroww, hHw⟩ := hSw; have q0 := cell_of_row _ bt 0 _ _ _ hroww; have q1 := cell_of_row _ bt 1 _ _ _ hroww; go_simp; first | done | with_reducible rfl) | exact Or.inr ⟨by rfl, rfl⟩
          try simp only [List.getElem_toArray, List.getElem_cons_succ, List.getElem_cons_zero, Act.put, List.setIfInBounds_toArray, List.set_cons_zero, List.set_cons_succ]
          refine anyS_take (i := 2) (v := ?vx7x2) rfl (by kernel_rfl) (by kernel_rfl) (by kernel_rfl) ?hyx7x2 ?restx7x2
          case hyx7x2 => first | (refine StepS.read (by rfl) (fun wx hSw => ?_); (try dsimp only at hSw); obtain ⟨hRw, hroww, hHw⟩ := hSw; have q0 := cell_of_row _ bt 0 _ _ _ hroww; have q1 := cell_of_row _ bt 1 _ _ _ hroww; go_simp; first | done | with_reducible rfl) | exact Or.inr ⟨by rfl, rfl⟩
          try simp only [List.getElem_toArray, List.getElem_cons_succ, List.getElem_cons_zero, Act.put, List.setIfInBounds_toArray, List.set_cons_zero, List.set_cons_succ]
          refine anyS_take (i := 3) (v := ?vx7x3) rfl (by kernel_rfl) (by kernel_rfl) (by kernel_rfl) ?hyx7x3 ?restx7x3
          case hyx7x3 => first | (refine StepS.read (by rfl) (fun wx hSw => ?_); (try dsimp only at hSw); obtain ⟨hRw, hroww, hHw⟩ := hSw; have q0 := cell_of_row _ bt 0 _ _ _ hroww; have q1 := cell_of_row _ bt 1 _ _ _ hroww; go_simp; first | done | with_reducible rfl) | exact Or.inr ⟨by rfl, rfl⟩
          try simp only [List.getElem_toArray, List.getElem_cons_succ, List.getElem_cons_zero, Act.put, List.setIfInBounds_toArray, List.set_cons_zero, List.set_cons_succ]
          refine anyS_take (i := 4) (v := ?vx7x4) rfl (by kernel_rfl) (by kernel_rfl) (by kernel_rfl) ?hyx7x4 ?restx7x4
          case hyx7x4 => first | (refine StepS.read (by rfl) (fun wx hSw => ?_); (try dsimp only at hSw); obtain ⟨hRw, hroww, hHw⟩ := hSw; have q0 := cell_of_row _ bt 0 _ _ _ hroww; have q1 := cell_of_row _ bt 1 _ _ _ hroww; go_simp; first | done | with_reducible rfl) | exact Or.inr ⟨by rfl, rfl⟩
          try simp only [List.getElem_toArray, List.getElem_cons_succ, List.getElem_cons_zero, Act.put, List.setIfInBounds_toArray, List.set_cons_zero, List.set_cons_succ]
          refine anyS_take (i := 5) (v := ?vx7x5) rfl (by kernel_rfl) (by kernel_rfl) (by kernel_rfl) ?hyx7x5 ?restx7x5
          case hyx7x5 => first | (refine StepS.read (by rfl) (fun wx hSw => ?_); (try dsimp only at hSw); obtain ⟨hRw, hroww, hHw⟩ := hSw; have q0 := cell_of_row _ bt 0 _ _ _ hroww; have q1 := cell_of_row _ bt 1 _ _ _ hroww; go_simp; first | done | with_reducible rfl) | exact Or.inr ⟨by rfl, rfl⟩
          try simp only [List.getElem_toArray, List.getElem_cons_succ, List.getElem_cons_zero, Act.put, List.setIfInBounds_toArray, List.set_cons_zero, List.set_cons_succ]
          refine anyS_take (i := 6) (v := ?vx7x6) rfl (by kernel_rfl) (by kernel_rfl) (by kernel_rfl) ?hyx7x6 ?restx7x6
          case hyx7x6 => first | (refine StepS.read (by rfl) (fun wx hSw => ?_); (try dsimp only at hSw); obtain ⟨hRw, hroww, hHw⟩ := hSw; have q0 := cell_of_row _ bt 0 _ _ _ hroww; have q1 := cell_of_row _ bt 1 _ _ _ hroww; go_simp; first | done | with_reducible rfl) | exact Or.inr ⟨by rfl, rfl⟩
          try simp only [List.getElem_toArray, List.getElem_cons_succ, List.getElem_cons_zero, Act.put, List.setIfInBounds_toArray, List.set_cons_zero, List.set_cons_succ]
          refine anyS_take (i := 7) (v := ?vx7x7) rfl (by kernel_rfl) (by kernel_rfl) (by kernel_rfl) ?hyx7x7 ?restx7x7
          case hyx7x7 => first | (refine StepS.read (by rfl) (fun wx hSw => ?_); (try dsimp only at hSw); obtain ⟨hRw, hroww, hHw⟩ := hSw; have q0 := cell_of_row _ bt 0 _ _ _ hroww; have q1 := cell_of_row _ bt 1 _ _ _ hroww; go_simp; first | done | with_reducible rfl) | exact Or.inr ⟨by rfl, rfl⟩
          try simp only [List.getElem_toArray, List.getElem_cons_succ, List.getElem_cons_zero, Act.put, List.setIfInBounds_toArray, List.set_cons_zero, List.set_cons_succ]
          refine anyS_take (i := 8) (v := ?vx7x8) rfl (by kernel_rfl) (by kernel_rfl) (by kernel_rfl) ?hyx7x8 ?restx7x8
          case hyx7x8 => first | (refine StepS.read (by rfl) (fun wx hSw => ?_); (try dsimp only at hSw); obtain ⟨hRw, hroww, hHw⟩ := hSw; have q0 := cell_of_row _ bt 0 _ _ _ hroww; have q1 := cell_of_row _ bt 1 _ _ _ hroww; go_simp; first | done | with_reducible rfl) | exact Or.inr ⟨by rfl, rfl⟩
          try simp only [List.getElem_toArray, List.getElem_cons_succ, List.getElem_cons_zero, Act.put, List.setIfInBounds_toArray, List.set_cons_zero, List.set_cons_succ]
          refine anyS_take (i := 9) (v := ?vx7x9) rfl (by kernel_rfl) (by kernel_rfl) (by kernel_rfl) ?hyx7x9 ?restx7x9
          case hyx7x9 => first | (refine StepS.read (by rfl) (fun wx hSw => ?_); (try dsimp only at hSw); obtain ⟨hRw, hroww, hHw⟩ := hSw; have q0 := cell_of_row _ bt 0 _ _ _ hroww; have q1 := cell_of_row _ bt 1 _ _ _ hroww; go_simp; first | done | with_reducible rfl) | exact Or.inr ⟨by rfl, rfl⟩
          try simp only [List.getElem_toArray, List.getElem_cons_succ, List.getElem_cons_zero, Act.put, List.setIfInBounds_toArray, List.set_cons_zero, List.set_cons_succ]
          refine anyS_take (i := 10) (v := (.int .i64 (l'.length : Int))) rfl (by kernel_rfl) (by kernel_rfl) (by kernel_rfl) ?hyx7x10 ?restx7x10
          case hyx7x10 => (refine Or.inl ⟨by rfl, fun wx hSw => ?_⟩; (try dsimp only at hSw); have hSk := hSw; obtain ⟨hRw, hroww, hHw⟩ := hSw; go_simp; refine Or.inr ⟨_, _, _, rfl, ?_⟩; (with_reducible refine (left_c _ _ _ _ (by exact hRw)).mono ?_); rintro e w' ⟨rfl, rfl⟩; exact ⟨rfl, hSk⟩)
          try simp only [List.getElem_toArray, List.getElem_cons_succ, List.getElem_cons_zero, Act.put, List.setIfInBounds_toArray, List.set_cons_zero, List.set_cons_succ]
          refine anyS_take (i := 11) (v := ?vx7x11) rfl (by kernel_rfl) (by kernel_rfl) (by kernel_rfl) ?hyx7x11 ?restx7x11
          case hyx7x11 => first | (refine StepS.read (by rfl) (fun wx hSw => ?_); (try dsimp only at hSw); obtain ⟨hRw, hroww, hHw⟩ := hSw; have q0 := cell_of_row _ bt 0 _ _ _ hroww; have q1 := cell_of_row _ bt 1 _ _ _ hroww; go_simp; first | done | with_reducible rfl) | exact Or.inr ⟨by rfl, rfl⟩
          try simp only [List.getElem_toArray, List.getElem_cons_succ, List.getElem_cons_zero, Act.put, List.setIfInBounds_toArray, List.set_cons_zero, List.set_cons_succ]
          refine anyS_take (i := 12) (v := ?vx7x12) rfl (by kernel_rfl) (by kernel_rfl) (by kernel_rfl) ?hyx7x12 ?restx7x12
          case hyx7x12 => first | (refine StepS.read (by rfl) (fun wx hSw => ?_); (try dsimp only at hSw); obtain ⟨hRw, hroww, hHw⟩ := hSw; have q0 := cell_of_row _ bt 0 _ _ _ hroww; have q1 := cell_of_row _ bt 1 _ _ _ hroww; go_simp; first | done | with_reducible rfl) | exact Or.inr ⟨by rfl, rfl⟩
          try simp only [List.getElem_toArray, List.getElem_cons_succ, List.getElem_cons_zero, Act.put, List.setIfInBounds_toArray, List.set_cons_zero, List.set_cons_succ]
          refine anyS_take (i := 13) (v := ?vx7x13) rfl (by kernel_rfl) (by kernel_rfl) (by kernel_rfl) ?hyx7x13 ?restx7x13
          case hyx7x13 => first | (refine StepS.read (by rfl) (fun wx hSw => ?_); (try dsimp only at hSw); obtain ⟨hRw, hroww, hHw⟩ := hSw; have q0 := cell_of_row _ bt 0 _ _ _ hroww; have q1 := cell_of_row _ bt 1 _ _ _ hroww; go_simp; first | done | with_reducible rfl) | exact Or.inr ⟨by rfl, rfl⟩
          try simp only [List.getElem_toArray, List.getElem_cons_succ, List.getElem_cons_zero, Act.put, List.setIfInBounds_toArray, List.set_cons_zero, List.set_cons_succ]
          refine anyS_take (i := 14) (v := ?vx7x14) rfl (by kernel_rfl) (by kernel_rfl) (by kernel_rfl) ?hyx7x14 ?restx7x14
          case hyx7x14 => first | (refine StepS.read (by rfl) (fun wx hSw => ?_); (try dsimp only at hSw); obtain ⟨hRw, hroww, hHw⟩ := hSw; have q0 := cell_of_row _ bt 0 _ _ _ hroww; have q1 := cell_of_row _ bt 1 _ _ _ hroww; go_simp; first | done | with_reducible rfl) | exact Or.inr ⟨by rfl, rfl⟩
          try simp only [List.getElem_toArray, List.getElem_cons_succ, List.getElem_cons_zero, Act.put, List.setIfInBounds_toArray, List.set_cons_zero, List.set_cons_succ]
          refine anyS_take (i := 15) (v := ?vx7x15) rfl (by kernel_rfl) (by kernel_rfl) (by kernel_rfl) ?hyx7x15 ?restx7x15
          case hyx7x15 => first | (refine StepS.read (by rfl) (fun wx hSw => ?_); (try dsimp only at hSw); obtain ⟨hRw, hroww, hHw⟩ := hSw; have q0 := cell_of_row _ bt 0 _ _ _ hroww; have q1 := cell_of_row _ bt 1 _ _ _ hroww; go_simp; first | done | with_reducible rfl) | exact Or.inr ⟨by rfl, rfl⟩
          try simp only [List.getElem_toArray, List.getElem_cons_succ, List.getElem_cons_zero, Act.put, List.setIfInBounds_toArray, List.set_cons_zero, List.set_cons_succ]
          refine anyS_take (i := 16) (v := ?vx7x16) rfl (by kernel_rfl) (by kernel_rfl) (by kernel_rfl) ?hyx7x16 ?restx7x16
          case hyx7x16 => first | (refine StepS.read (by rfl) (fun wx hSw => ?_); (try dsimp only at hSw); obtain ⟨hRw, hroww, hHw⟩ := hSw; have q0 := cell_of_row _ bt 0 _ _ _ hroww; have q1 := cell_of_row _ bt 1 _ _ _ hroww; go_simp; first | done | with_reducible rfl) | exact Or.inr ⟨by rfl, rfl⟩
          try simp only [List.getElem_toArray, List.getElem_cons_succ, List.getElem_cons_zero, Act.put, List.setIfInBounds_toArray, List.set_cons_zero, List.set_cons_succ]
          refine anyS_take (i := 17) (v := ?vx7x17) rfl (by kernel_rfl) (by kernel_rfl) (by kernel_rfl) ?hyx7x17 ?restx7x17
          case hyx7x17 => first | (refine StepS.read (by rfl) (fun wx hSw => ?_); (try dsimp only at hSw); obtain ⟨hRw, hroww, hHw⟩ := hSw; have q0 := cell_of_row _ bt 0 _ _ _ hroww; have q1 := cell_of_row _ bt 1 _ _ _ hroww; go_simp; first | done | with_reducible rfl) | exact Or.inr ⟨by rfl, rfl⟩
          try simp only [List.getElem_toArray, List.getElem_cons_succ, List.getElem_cons_zero, Act.put, List.setIfInBounds_toArray, List.set_cons_zero, List.set_cons_succ]
          refine anyS_take (i := 18) (v := ?vx7x18) rfl (by kernel_rfl) (by kernel_rfl) (by kernel_rfl) ?hyx7x18 ?restx7x18
          case hyx7x18 => first | (refine StepS.read (by rfl) (fun wx hSw => ?_); (try dsimp only at hSw); obtain ⟨hRw, hroww, hHw⟩ := hSw; have q0 := cell_of_row _ bt 0 _ _ _ hroww; have q1 := cell_of_row _ bt 1 _ _ _ hroww; go_simp; first | done | with_reducible rfl) | exact Or.inr ⟨by rfl, rfl⟩
          try simp only [List.getElem_toArray, List.getElem_cons_succ, List.getElem_cons_zero, Act.put, List.setIfInBounds_toArray, List.set_cons_zero, List.set_cons_succ]
          refine anyS_take (i := 19) (v := ?vx7x19) rfl (by kernel_rfl) (by kernel_rfl) (by kernel_rfl) ?hyx7x19 ?restx7x19
          case hyx7x19 => first | (refine StepS.read (by rfl) (fun wx hSw => ?_); (try dsimp only at hSw); obtain ⟨hRw, hroww, hHw⟩ := hSw; have q0 := cell_of_row _ bt 0 _ _ _ hroww; have q1 := cell_of_row _ bt 1 _ _ _ hroww; go_simp; first | done | with_reducible rfl) | exact Or.inr ⟨by rfl, rfl⟩
          try simp only [List.getElem_toArray, List.getElem_cons_succ, List.getElem_cons_zero, Act.put, List.setIfInBounds_toArray, List.set_cons_zero, List.set_cons_succ]
          refine anyS_take (i := 20) (v := .bool true) rfl (by kernel_rfl) (by kernel_rfl) (by kernel_rfl) ?hyx7x20 ?restx7x20
          case hyx7x20 => (refine Or.inl ⟨by rfl, fun wx hSw => ?_⟩; (try dsimp only at hSw); have hSk := hSw; obtain ⟨hRw, hroww, hHw⟩ := hSw; go_simp; refine Or.inr ⟨_, _, _, rfl, ?_⟩; (with_reducible refine (rdone_n _ _ _ l' _ true _ (by simp) (by exact hrd.out)).mono ?_); rintro e w' ⟨rfl, hb'⟩; exact ⟨rfl, FtS.step hSk hb'⟩)
          try simp only [List.getElem_toArray, List.getElem_cons_succ, List.getElem_cons_zero, Act.put, List.setIfInBounds_toArray, List.set_cons_zero, List.set_cons_succ]
          refine anyS_take (i := 21) (v := ?vx7x21) rfl (by kernel_rfl) (by kernel_rfl) (by kernel_rfl) ?hyx7x21 ?restx7x21
          case hyx7x21 => first | (refine StepS.read (by rfl) (fun wx hSw => ?_); (try dsimp only at hSw); obtain ⟨hRw, hroww, hHw⟩ := hSw; have q0 := cell_of_row _ bt 0 _ _ _ hroww; have q1 := cell_of_row _ bt 1 _ _ _ hroww; go_simp; first | done | with_reducible rfl) | exact Or.inr ⟨by rfl, rfl⟩
          try simp only [List.getElem_toArray, List.getElem_cons_succ, List.getElem_cons_zero, Act.put, List.setIfInBounds_toArray, List.set_cons_zero, List.set_cons_succ]
          refine anyS_take (i := 22) (v := ?vx7x22) rfl (by kernel_rfl) (by kernel_rfl) (by kernel_rfl) ?hyx7x22 ?restx7x22
          case hyx7x22 => first | (refine StepS.read (by rfl) (fun wx hSw => ?_); (try dsimp only at hSw); obtain ⟨hRw, hroww, hHw⟩ := hSw; have q0 := cell_of_row _ bt 0 _ _ _ hroww; have q1 := cell_of_row _ bt 1 _ _ _ hroww; go_simp; first | done | with_reducible rfl) | exact Or.inr ⟨by rfl, rfl⟩
          try simp only [List.getElem_toArray, List.getElem_cons_succ, List.getElem_cons_zero, Act.put, List.setIfInBounds_toArray, List.set_cons_zero, List.set_cons_succ]
          refine anyS_take (i := 23) (v := ?vx7x23) rfl (by kernel_rfl) (by kernel_rfl) (by kernel_rfl) ?hyx7x23 ?restx7x23
          case hyx7x23 => first | (refine StepS.read (by rfl) (fun wx hSw => ?_); (try dsimp only at hSw); obtain ⟨hRw, hroww, hHw⟩ := hSw; have q0 := cell_of_row _ bt 0 _ _ _ hroww; have q1 := cell_of_row _ bt 1 _ _ _ hroww; go_simp; first | done | with_reducible rfl) | exact Or.inr ⟨by rfl, rfl⟩
          try simp only [List.getElem_toArray, List.getElem_cons_succ, List.getElem_cons_zero, Act.put, List.setIfInBounds_toArray, List.set_cons_zero, List.set_cons_succ]
          refine anyS_take (i := 24) (v := ?vx7x24) rfl (by kernel_rfl) (by kernel_rfl) (by kernel_rfl) ?hyx7x24 ?restx7x24
          case hyx7x24 => first | (refine StepS.read (by rfl) (fun wx hSw => ?_); (try dsimp only at hSw); obtain ⟨hRw, hroww, hHw⟩ := hSw; have q0 := cell_of_row _ bt 0 _ _ _ hroww; have q1 := cell_of_row _ bt 1 _ _ _ hroww; go_simp; first | done | with_reducible rfl) | exact Or.inr ⟨by rfl, rfl⟩
          try simp only [List.getElem_toArray, List.getElem_cons_succ, List.getElem_cons_zero, Act.put, List.setIfInBounds_toArray, List.set_cons_zero, List.set_cons_succ]
          refine anyS_take (i := 25) (v := ?vx7x25) rfl (by kernel_rfl) (by kernel_rfl) (by kernel_rfl) ?hyx7x25 ?restx7x25
          case hyx7x25 => first | (refine StepS.read (by rfl) (fun wx hSw => ?_); (try dsimp only at hSw); obtain ⟨hRw, hroww, hHw⟩ := hSw; have q0 := cell_of_row _ bt 0 _ _ _ hroww; have q1 := cell_of_row _ bt 1 _ _ _ hroww; go_simp; first | done | with_reducible rfl) | exact Or.inr ⟨by rfl, rfl⟩
          try simp only [List.getElem_toArray, List.getElem_cons_succ, List.getElem_cons_zero, Act.put, List.setIfInBounds_toArray, List.set_cons_zero, List.set_cons_succ]
          refine anyS_take (i := 26) (v := ?vx7x26) rfl (by kernel_rfl) (by kernel_rfl) (by kernel_rfl) ?hyx7x26 ?restx7x26
          case hyx7x26 => first | (refine StepS.read (by rfl) (fun wx hSw => ?_); (try dsimp only at hSw); obtain ⟨hRw, hroww, hHw⟩ := hSw; have q0 := cell_of_row _ bt 0 _ _ _ hroww; have q1 := cell_of_row _ bt 1 _ _ _ hroww; go_simp; first | done | with_reducible rfl) | exact Or.inr ⟨by rfl, rfl⟩
          try simp only [List.getElem_toArray, List.getElem_cons_succ, List.getElem_cons_zero, Act.put, List.setIfInBounds_toArray, List.set_cons_zero, List.set_cons_succ]
          refine anyS_take (i := 27) (v := undef) rfl (by kernel_rfl) (by kernel_rfl) (by kernel_rfl) (Or.inr ⟨by kernel_rfl, rfl⟩) ?restx7x27
          try simp only [List.getElem_toArray, List.getElem_cons_succ, List.getElem_cons_zero, Act.put, List.setIfInBounds_toArray, List.set_cons_zero, List.set_cons_succ]
          refine anyS_take (i := 28) (v := undef) rfl (by kernel_rfl) (by kernel_rfl) (by kernel_rfl) (Or.inr ⟨by kernel_rfl, rfl⟩) ?restx7x28
          try simp only [List.getElem_toArray, List.getElem_cons_succ, List.getElem_cons_zero, Act.put, List.setIfInBounds_toArray, List.set_cons_zero, List.set_cons_succ]
          refine anyS_take (i := 29) (v := undef) rfl (by kernel_rfl) (by kernel_rfl) (by kernel_rfl) (Or.inr ⟨by kernel_rfl, rfl⟩) ?restx7x29
          try simp only [List.getElem_toArray, List.getElem_cons_succ, List.getElem_cons_zero, Act.put, List.setIfInBounds_toArray, List.set_cons_zero, List.set_cons_succ]
          refine anyS_take (i := 30) (v := ?vx7x30) rfl (by kernel_rfl) (by kernel_rfl) (by kernel_rfl) ?hyx7x30 ?restx7x30
          case hyx7x30 => first | (refine StepS.read (by rfl) (fun wx hSw => ?_); (try dsimp only at hSw); obtain ⟨hRw, hroww, hHw⟩ := hSw; have q0 := cell_of_row _ bt 0 _ _ _ hroww; have q1 := cell_of_row _ bt 1 _ _ _ hroww; go_simp; first | done | with_reducible rfl) | exact Or.inr ⟨by rfl, rfl⟩
          try simp only [List.getElem_toArray, List.getElem_cons_succ, List.getElem_cons_zero, Act.put, List.setIfInBounds_toArray, List.set_cons_zero, List.set_cons_succ]
          refine anyS_take (i := 31) (v := ?vx7x31) rfl (by kernel_rfl) (by kernel_rfl) (by kernel_rfl) ?hyx7x31 ?restx7x31
          case hyx7x31 => first | (refine StepS.read (by rfl) (fun wx hSw => ?_); (try dsimp only at hSw); obtain ⟨hRw, hroww, hHw⟩ := hSw; have q0 := cell_of_row _ bt 0 _ _ _ hroww; have q1 := cell_of_row _ bt 1 _ _ _ hroww; go_simp; first | done | with_reducible rfl) | exact Or.inr ⟨by rfl, rfl⟩
          try simp only [List.getElem_toArray, List.getElem_cons_succ, List.getElem_cons_zero, Act.put, List.setIfInBounds_toArray, List.set_cons_zero, List.set_cons_succ]
          refine anyS_done (by kernel_rfl) (fun wx hSw => ?_) _
          (try dsimp only at hSw)
          go_wp2_with (fail)
          go_roundg (lb.length - (m + 1))
          case measure => omega
          case rel => exact ⟨m + 1, l', sh', rfl, by omega, by simp, ⟨hSw.1, ⟨A5, c5, hSw.2.1, hRA5, hAc5, hlc5⟩, hbad', hSw.2.2, by omega, hgw, hgb⟩⟩
        · have hdv : doneV l' sh' = errV 3 := if_neg hd
          have hrd := Lib.hid (show (!sh' && decide (l' = [])) = false by revert hd; cases sh' <;> simp)
          clear hd
          rw [hdv]
          go_upto_region 28 with (fail)
          refine wp_region_S (S := (fun wx => FtS w g bt l' sh' A5 c5 wx)) (by kernel_rfl) (FtS.step hS6 (Below.refl _ _).drew) ?_
          refine anyS_take (i := 0) (v := ?vx8x0) rfl (by kernel_rfl) (by kernel_rfl) (by kernel_rfl) ?hyx8x0 ?restx8x0
          case hyx8x0 => first | (refine StepS.read (by rfl) (fun wx hSw => ?_); (try dsimp only at hSw); obtain ⟨hRw, hroww, hHw⟩ := hSw; have q0 := cell_of_row _ bt 0 _ _ _ hroww; have q1 := cell_of_row _ bt 1 _ _ _ hroww; go_simp; first | done | with_reducible rfl) | exact Or.inr ⟨by rfl, rfl⟩
          try simp only [List.getElem_toArray, List.getElem_cons_succ, List.getElem_cons_zero, Act.put, List.setIfInBounds_toArray, List.set_cons_zero, List.set_cons_succ]
          refine anyS_take (i := 1) (v := ?vx8x1) rfl (by kernel_rfl) (by kernel_rfl) (by kernel_rfl) ?hyx8x1 ?restx8x1
          case hyx8x1 => first | (refine StepS.read (by rfl) (fun wx hSw => ?_); (try dsimp only at hSw); obtain ⟨hRw, hroww, hHw⟩ := hSw; have q0 := cell_of_row _ bt 0 _ _ _ hroww; have q1 := cell_of_row _ bt 1 _ _ _ hroww; go_simp; first | done | with_reducible rfl) | exact Or.inr ⟨by rfl, rfl⟩
          try simp only [List.getElem_toArray, List.getElem_cons_succ, List.getElem_cons_zero, Act.put, List.setIfInBounds_toArray, List.set_cons_zero, List.set_cons_succ]
          refine anyS_take (i := 2) (v := ?vx8x2) rfl (by kernel_rfl) (by kernel_rfl) (by kernel_rfl) ?hyx8x2 ?restx8x2
          case hyx8x2 => first | (refine StepS.read (by rfl) (fun wx hSw => ?_); (try dsimp only at hSw); obtain ⟨hRw, hroww, hHw⟩ := hSw; have q0 := cell_of_row _ bt 0 _ _ _ hroww; have q1 := cell_of_row _ bt 1 _ _ _ hroww; go_simp; first | done | with_reducible rfl) | exact Or.inr ⟨by rfl, rfl⟩
          try simp only [List.getElem_toArray, List.getElem_cons_succ, List.getElem_cons_zero, Act.put, List.setIfInBounds_toArray, List.set_cons_zero, List.set_cons_succ]
          refine anyS_take (i := 3) (v := ?vx8x3) rfl (by kernel_rfl) (by kernel_rfl) (by kernel_rfl) ?hyx8x3 ?restx8x3
          case hyx8x3 => first | (refine StepS.read (by rfl) (fun wx hSw => ?_); (try dsimp only at hSw); obtain ⟨hRw, hroww, hHw⟩ := hSw; have q0 := cell_of_row _ bt 0 _ _ _ hroww; have q1 := cell_of_row _ bt 1 _ _ _ hroww; go_simp; first | done | with_reducible rfl) | exact Or.inr ⟨by rfl, rfl⟩
          try simp only [List.getElem_toArray, List.getElem_cons_succ, List.getElem_cons_zero, Act.put, List.setIfInBounds_toArray, List.set_cons_zero, List.set_cons_succ]
          refine anyS_take (i := 4) (v := ?vx8x4) rfl (by kernel_rfl) (by kernel_rfl) (by kernel_rfl) ?hyx8x4 ?restx8x4
          case hyx8x4 => first | (refine StepS.read (by rfl) (fun wx hSw => ?_); (try dsimp only at hSw); obtain ⟨hRw, hroww, hHw⟩ := hSw; have q0 := cell_of_row _ bt 0 _ _ _ hroww; have q1 := cell_of_row _ bt 1 _ _ _ hroww; go_simp; first | done | with_reducible rfl) | exact Or.inr ⟨by rfl, rfl⟩
          try simp only [List.getElem_toArray, List.getElem_cons_succ, List.getElem_cons_zero, Act.put, List.setIfInBounds_toArray, List.set_cons_zero, List.set_cons_succ]
          refine anyS_take (i := 5) (v := ?vx8x5) rfl (by kernel_rfl) (by kernel_rfl) (by kernel_rfl) ?hyx8x5 ?restx8x5
          case hyx8x5 => first | (refine StepS.read (by rfl) (fun wx hSw => ?_); (try dsimp only at hSw); obtain ⟨hRw, hroww, hHw⟩ := hSw; have q0 := cell_of_row _ bt 0 _ _ _ hroww; have q1 := cell_of_row _ bt 1 _ _ _ hroww; go_simp; first | done | with_reducible rfl) | exact Or.inr ⟨by rfl, rfl⟩
          try simp only [List.getElem_toArray, List.getElem_cons_succ, List.getElem_cons_zero, Act.put, List.setIfInBounds_toArray, List.set_cons_zero, List.set_cons_succ]
          refine anyS_take (i := 6) (v := ?vx8x6) rfl (by kernel_rfl) (by kernel_rfl) (by kernel_rfl) ?hyx8x6 ?restx8x6
          case hyx8x6 => first | (refine StepS.read (by rfl) (fun wx hSw => ?_); (try dsimp only at hSw); obtain ⟨hRw, hroww, hHw⟩ := hSw; have q0 := cell_of_row _ bt 0 _ _ _ hroww; have q1 := cell_of_row _ bt 1 _ _ _ hroww; go_simp; first | done | with_reducible rfl) | exact Or.inr ⟨by rfl, rfl⟩
          try simp only [List.getElem_toArray, List.getElem_cons_succ, List.getElem_cons_zero, Act.put, List.setIfInBounds_toArray, List.set_cons_zero, List.set_cons_succ]
          refine anyS_take (i := 7) (v := ?vx8x7) rfl (by kernel_rfl) (by kernel_rfl) (by kernel_rfl) ?hyx8x7 ?restx8x7
          case hyx8x7 => first | (refine StepS.read (by rfl) (fun wx hSw => ?_); (try dsimp only at hSw); obtain ⟨hRw, hroww, hHw⟩ := hSw; have q0 := cell_of_row _ bt 0 _ _ _ hroww; have q1 := cell_of_row _ bt 1 _ _ _ hroww; go_simp; first | done | with_reducible rfl) | exact Or.inr ⟨by rfl, rfl⟩
          try simp only [List.getElem_toArray, List.getElem_cons_succ, List.getElem_cons_zero, Act.put, List.setIfInBounds_toArray, List.set_cons_zero, List.set_cons_succ]
          refine anyS_take (i := 8) (v := ?vx8x8) rfl (by kernel_rfl) (by kernel_rfl) (by kernel_rfl) ?hyx8x8 ?restx8x8
          case hyx8x8 => first | (refine StepS.read (by rfl) (fun wx hSw => ?_); (try dsimp only at hSw); obtain ⟨hRw, hroww, hHw⟩ := hSw; have q0 := cell_of_row _ bt 0 _ _ _ hroww; have q1 := cell_of_row _ bt 1 _ _ _ hroww; go_simp; first | done | with_reducible rfl) | exact Or.inr ⟨by rfl, rfl⟩
          try simp only [List.getElem_toArray, List.getElem_cons_succ, List.getElem_cons_zero, Act.put, List.setIfInBounds_toArray, List.set_cons_zero, List.set_cons_succ]
          refine anyS_take (i := 9) (v := ?vx8x9) rfl (by kernel_rfl) (by kernel_rfl) (by kernel_rfl) ?hyx8x9 ?restx8x9
          case hyx8x9 => first | (refine StepS.read (by rfl) (fun wx hSw => ?_); (try dsimp only at hSw); obtain ⟨hRw, hroww, hHw⟩ := hSw; have q0 := cell_of_row _ bt 0 _ _ _ hroww; have q1 := cell_of_row _ bt 1 _ _ _ hroww; go_simp; first | done | with_reducible rfl) | exact Or.inr ⟨by rfl, rfl⟩
          try simp only [List.getElem_toArray, List.getElem_cons_succ, List.getElem_cons_zero, Act.put, List.setIfInBounds_toArray, List.set_cons_zero, List.set_cons_succ]
          refine anyS_take (i := 10) (v := (.int .i64 (l'.length : Int))) rfl (by kernel_rfl) (by kernel_rfl) (by kernel_rfl) ?hyx8x10 ?restx8x10
          case hyx8x10 => (refine Or.inl ⟨by rfl, fun wx hSw => ?_⟩; (try dsimp only at hSw); have hSk := hSw; obtain ⟨hRw, hroww, hHw⟩ := hSw; go_simp; refine Or.inr ⟨_, _, _, rfl, ?_⟩; (with_reducible refine (left_c _ _ _ _ (by exact hRw)).mono ?_); rintro e w' ⟨rfl, rfl⟩; exact ⟨rfl, hSk⟩)
          try simp only [List.getElem_toArray, List.getElem_cons_succ, List.getElem_cons_zero, Act.put, List.setIfInBounds_toArray, List.set_cons_zero, List.set_cons_succ]
          refine anyS_take (i := 11) (v := ?vx8x11) rfl (by kernel_rfl) (by kernel_rfl) (by kernel_rfl) ?hyx8x11 ?restx8x11
          case hyx8x11 => first | (refine StepS.read (by rfl) (fun wx hSw => ?_); (try dsimp only at hSw); obtain ⟨hRw, hroww, hHw⟩ := hSw; have q0 := cell_of_row _ bt 0 _ _ _ hroww; have q1 := cell_of_row _ bt 1 _ _ _ hroww; go_simp; first | done | with_reducible rfl) | exact Or.inr ⟨by rfl, rfl⟩
          try simp only [List.getElem_toArray, List.getElem_cons_succ, List.getElem_cons_zero, Act.put, List.setIfInBounds_toArray, List.set_cons_zero, List.set_cons_succ]
          refine anyS_take (i := 12) (v := ?vx8x12) rfl (by kernel_rfl) (by kernel_rfl) (by kernel_rfl) ?hyx8x12 ?restx8x12
          case hyx8x12 => first | (refine StepS.read (by rfl) (fun wx hSw => ?_); (try dsimp only at hSw); obtain ⟨hRw, hroww, hHw⟩ := hSw; have q0 := cell_of_row _ bt 0 _ _ _ hroww; have q1 := cell_of_row _ bt 1 _ _ _ hroww; go_simp; first | done | with_reducible rfl) | exact Or.inr ⟨by rfl, rfl⟩
          try simp only [List.getElem_toArray, List.getElem_cons_succ, List.getElem_cons_zero, Act.put, List.setIfInBounds_toArray, List.set_cons_zero, List.set_cons_succ]
          refine anyS_take (i := 13) (v := ?vx8x13) rfl (by kernel_rfl) (by kernel_rfl) (by kernel_rfl) ?hyx8x13 ?restx8x13
          case hyx8x13 => first | (refine StepS.read (by rfl) (fun wx hSw => ?_); (try dsimp only at hSw); obtain ⟨hRw, hroww, hHw⟩ := hSw; have q0 := cell_of_row _ bt 0 _ _ _ hroww; have q1 := cell_of_row _ bt 1 _ _ _ hroww; go_simp; first | done | with_reducible rfl) | exact Or.inr ⟨by rfl, rfl⟩
          try simp only [List.getElem_toArray, List.getElem_cons_succ, List.getElem_cons_zero, Act.put, List.setIfInBounds_toArray, List.set_cons_zero, List.set_cons_succ]
          refine anyS_take (i := 14) (v := ?vx8x14) rfl (by kernel_rfl) (by kernel_rfl) (by kernel_rfl) ?hyx8x14 ?restx8x14
          case hyx8x14 => first | (refine StepS.read (by rfl) (fun wx hSw => ?_); (try dsimp only at hSw); obtain ⟨hRw, hroww, hHw⟩ := hSw; have q0 := cell_of_row _ bt 0 _ _ _ hroww; have q1 := cell_of_row _ bt 1 _ _ _ hroww; go_simp; first | done | with_reducible rfl) | exact Or.inr ⟨by rfl, rfl⟩
          try simp only [List.getElem_toArray, List.getElem_cons_succ, List.getElem_cons_zero, Act.put, List.setIfInBounds_toArray, List.set_cons_zero, List.set_cons_succ]
          refine anyS_take (i := 15) (v := ?vx8x15) rfl (by kernel_rfl) (by kernel_rfl) (by kernel_rfl) ?hyx8x15 ?restx8x15
          case hyx8x15 => first | (refine StepS.read (by rfl) (fun wx hSw => ?_); (try dsimp only at hSw); obtain ⟨hRw, hroww, hHw⟩ := hSw; have q0 := cell_of_row _ bt 0 _ _ _ hroww; have q1 := cell_of_row _ bt 1 _ _ _ hroww; go_simp; first | done | with_reducible rfl) | exact Or.inr ⟨by rfl, rfl⟩
          try simp only [List.getElem_toArray, List.getElem_cons_succ, List.getElem_cons_zero, Act.put, List.setIfInBounds_toArray, List.set_cons_zero, List.set_cons_succ]
          refine anyS_take (i := 16) (v := ?vx8x16) rfl (by kernel_rfl) (by kernel_rfl) (by kernel_rfl) ?hyx8x16 ?restx8x16
          case hyx8x16 => first | (refine StepS.read (by rfl) (fun wx hSw => ?_); (try dsimp only at hSw); obtain ⟨hRw, hroww, hHw⟩ := hSw; have q0 := cell_of_row _ bt 0 _ _ _ hroww; have q1 := cell_of_row _ bt 1 _ _ _ hroww; go_simp; first | done | with_reducible rfl) | exact Or.inr ⟨by rfl, rfl⟩
          try simp only [List.getElem_toArray, List.getElem_cons_succ, List.getElem_cons_zero, Act.put, List.setIfInBounds_toArray, List.set_cons_zero, List.set_cons_succ]
          refine anyS_take (i := 17) (v := ?vx8x17) rfl (by kernel_rfl) (by kernel_rfl) (by kernel_rfl) ?hyx8x17 ?restx8x17
          case hyx8x17 => first | (refine StepS.read (by rfl) (fun wx hSw => ?_); (try dsimp only at hSw); obtain ⟨hRw, hroww, hHw⟩ := hSw; have q0 := cell_of_row _ bt 0 _ _ _ hroww; have q1 := cell_of_row _ bt 1 _ _ _ hroww; go_simp; first | done | with_reducible rfl) | exact Or.inr ⟨by rfl, rfl⟩
          try simp only [List.getElem_toArray, List.getElem_cons_succ, List.getElem_cons_zero, Act.put, List.setIfInBounds_toArray, List.set_cons_zero, List.set_cons_succ]
          refine anyS_take (i := 18) (v := ?vx8x18) rfl (by kernel_rfl) (by kernel_rfl) (by kernel_rfl) ?hyx8x18 ?restx8x18
          case hyx8x18 => first | (refine StepS.read (by rfl) (fun wx hSw => ?_); (try dsimp only at hSw); obtain ⟨hRw, hroww, hHw⟩ := hSw; have q0 := cell_of_row _ bt 0 _ _ _ hroww; have q1 := cell_of_row _ bt 1 _ _ _ hroww; go_simp; first | done | with_reducible rfl) | exact Or.inr ⟨by rfl, rfl⟩
          try simp only [List.getElem_toArray, List.getElem_cons_succ, List.getElem_cons_zero, Act.put, List.setIfInBounds_toArray, List.set_cons_zero, List.set_cons_succ]
          refine anyS_take (i := 19) (v := ?vx8x19) rfl (by kernel_rfl) (by kernel_rfl) (by kernel_rfl) ?hyx8x19 ?restx8x19
          case hyx8x19 => first | (refine StepS.read (by rfl) (fun wx hSw => ?_); (try dsimp only at hSw); obtain ⟨hRw, hroww, hHw⟩ := hSw; have q0 := cell_of_row _ bt 0 _ _ _ hroww; have q1 := cell_of_row _ bt 1 _ _ _ hroww; go_simp; first | done | with_reducible rfl) | exact Or.inr ⟨by rfl, rfl⟩
          try simp only [List.getElem_toArray, List.getElem_cons_succ, List.getElem_cons_zero, Act.put, List.setIfInBounds_toArray, List.set_cons_zero, List.set_cons_succ]
          refine anyS_take (i := 20) (v := .bool false) rfl (by kernel_rfl) (by kernel_rfl) (by kernel_rfl) ?hyx8x20 ?restx8x20
          case hyx8x20 => (refine Or.inl ⟨by rfl, fun wx hSw => ?_⟩; (try dsimp only at hSw); have hSk := hSw; obtain ⟨hRw, hroww, hHw⟩ := hSw; go_simp; refine Or.inr ⟨_, _, _, rfl, ?_⟩; (with_reducible refine (rdone_n _ _ _ l' _ false _ (by simp) (by exact hrd.out)).mono ?_); rintro e w' ⟨rfl, hb'⟩; exact ⟨rfl, FtS.step hSk hb'⟩)
          try simp only [List.getElem_toArray, List.getElem_cons_succ, List.getElem_cons_zero, Act.put, List.setIfInBounds_toArray, List.set_cons_zero, List.set_cons_succ]
          refine anyS_take (i := 21) (v := ?vx8x21) rfl (by kernel_rfl) (by kernel_rfl) (by kernel_rfl) ?hyx8x21 ?restx8x21
          case hyx8x21 => first | (refine StepS.read (by rfl) (fun wx hSw => ?_); (try dsimp only at hSw); obtain ⟨hRw, hroww, hHw⟩ := hSw; have q0 := cell_of_row _ bt 0 _ _ _ hroww; have q1 := cell_of_row _ bt 1 _ _ _ hroww; go_simp; first | done | with_reducible rfl) | exact Or.inr ⟨by rfl, rfl⟩
          try simp only [List.getElem_toArray, List.getElem_cons_succ, List.getElem_cons_zero, Act.put, List.setIfInBounds_toArray, List.set_cons_zero, List.set_cons_succ]
          refine anyS_take (i := 22) (v := ?vx8x22) rfl (by kernel_rfl) (by kernel_rfl) (by kernel_rfl) ?hyx8x22 ?restx8x22
          case hyx8x22 => first | (refine StepS.read (by rfl) (fun wx hSw => ?_); (try dsimp only at hSw); obtain ⟨hRw, hroww, hHw⟩ := hSw; have q0 := cell_of_row _ bt 0 _ _ _ hroww; have q1 := cell_of_row _ bt 1 _ _ _ hroww; go_simp; first | done | with_reducible rfl) | exact Or.inr ⟨by rfl, rfl⟩
          try simp only [List.getElem_toArray, List.getElem_cons_succ, List.getElem_cons_zero, Act.put, List.setIfInBounds_toArray, List.set_cons_zero, List.set_cons_succ]
          refine anyS_take (i := 23) (v := ?vx8x23) rfl (by kernel_rfl) (by kernel_rfl) (by kernel_rfl) ?hyx8x23 ?restx8x23
          case hyx8x23 => first | (refine StepS.read (by rfl) (fun wx hSw => ?_); (try dsimp only at hSw); obtain ⟨hRw, hroww, hHw⟩ := hSw; have q0 := cell_of_row _ bt 0 _ _ _ hroww; have q1 := cell_of_row _ bt 1 _ _ _ hroww; go_simp; first | done | with_reducible rfl) | exact Or.inr ⟨by rfl, rfl⟩
          try simp only [List.getElem_toArray, List.getElem_cons_succ, List.getElem_cons_zero, Act.put, List.setIfInBounds_toArray, List.set_cons_zero, List.set_cons_succ]
          refine anyS_take (i := 24) (v := ?vx8x24) rfl (by kernel_rfl) (by kernel_rfl) (by kernel_rfl) ?hyx8x24 ?restx8x24
          case hyx8x24 => first | (refine StepS.read (by rfl) (fun wx hSw => ?_); (try dsimp only at hSw); obtain ⟨hRw, hroww, hHw⟩ := hSw; have q0 := cell_of_row _ bt 0 _ _ _ hroww; have q1 := cell_of_row _ bt 1 _ _ _ hroww; go_simp; first | done | with_reducible rfl) | exact Or.inr ⟨by rfl, rfl⟩
          try simp only [List.getElem_toArray, List.getElem_cons_succ, List.getElem_cons_zero, Act.put, List.setIfInBounds_toArray, List.set_cons_zero, List.set_cons_succ]
          refine anyS_take (i := 25) (v := ?vx8x25) rfl (by kernel_rfl) (by kernel_rfl) (by kernel_rfl) ?hyx8x25 ?restx8x25
          case hyx8x25 => first | (refine StepS.read (by rfl) (fun wx hSw => ?_); (try dsimp only at hSw); obtain ⟨hRw, hroww, hHw⟩ := hSw; have q0 := cell_of_row _ bt 0 _ _ _ hroww; have q1 := cell_of_row _ bt 1 _ _ _ hroww; go_simp; first | done | with_reducible rfl) | exact Or.inr ⟨by rfl, rfl⟩
          try simp only [List.getElem_toArray, List.getElem_cons_succ, List.getElem_cons_zero, Act.put, List.setIfInBounds_toArray, List.set_cons_zero, List.set_cons_succ]
          refine anyS_take (i := 26) (v := ?vx8x26) rfl (by kernel_rfl) (by kernel_rfl) (by kernel_rfl) ?hyx8x26 ?restx8x26
          case hyx8x26 => first | (refine StepS.read (by rfl) (fun wx hSw => ?_); (try dsimp only at hSw); obtain ⟨hRw, hroww, hHw⟩ := hSw; have q0 := cell_of_row _ bt 0 _ _ _ hroww; have q1 := cell_of_row _ bt 1 _ _ _ hroww; go_simp; first | done | with_reducible rfl) | exact Or.inr ⟨by rfl, rfl⟩
          try simp only [List.getElem_toArray, List.getElem_cons_succ, List.getElem_cons_zero, Act.put, List.setIfInBounds_toArray, List.set_cons_zero, List.set_cons_succ]
          refine anyS_take (i := 27) (v := ?vx8x27) rfl (by kernel_rfl) (by kernel_rfl) (by kernel_rfl) ?hyx8x27 ?restx8x27
          case hyx8x27 => first | (refine StepS.read (by rfl) (fun wx hSw => ?_); (try dsimp only at hSw); obtain ⟨hRw, hroww, hHw⟩ := hSw; have q0 := cell_of_row _ bt 0 _ _ _ hroww; have q1 := cell_of_row _ bt 1 _ _ _ hroww; go_simp; first | done | with_reducible rfl) | exact Or.inr ⟨by rfl, rfl⟩
          try simp only [List.getElem_toArray, List.getElem_cons_succ, List.getElem_cons_zero, Act.put, List.setIfInBounds_toArray, List.set_cons_zero, List.set_cons_succ]
          refine anyS_take (i := 28) (v := .int .i64 3) rfl (by kernel_rfl) (by kernel_rfl) (by kernel_rfl) ?hyx8x28 ?restx8x28
          case hyx8x28 => (refine Or.inl ⟨by rfl, fun wx hSw => ?_⟩; (try dsimp only at hSw); have hSk := hSw; obtain ⟨hRw, hroww, hHw⟩ := hSw; go_simp; refine Or.inr ⟨_, _, _, rfl, ?_⟩; (with_reducible refine (num05_err _ _ (Held.handle (w0 := w) hHw)).mono ?_); rintro e w' ⟨rfl, hb'⟩; exact ⟨rfl, FtS.step hSk hb'⟩)
          try simp only [List.getElem_toArray, List.getElem_cons_succ, List.getElem_cons_zero, Act.put, List.setIfInBounds_toArray, List.set_cons_zero, List.set_cons_succ]
          refine anyS_take (i := 29) (v := ?vx8x29) rfl (by kernel_rfl) (by kernel_rfl) (by kernel_rfl) ?hyx8x29 ?restx8x29
          case hyx8x29 => first | (refine StepS.read (by rfl) (fun wx hSw => ?_); (try dsimp only at hSw); obtain ⟨hRw, hroww, hHw⟩ := hSw; have q0 := cell_of_row _ bt 0 _ _ _ hroww; have q1 := cell_of_row _ bt 1 _ _ _ hroww; go_simp; first | done | with_reducible rfl) | exact Or.inr ⟨by rfl, rfl⟩
          try simp only [List.getElem_toArray, List.getElem_cons_succ, List.getElem_cons_zero, Act.put, List.setIfInBounds_toArray, List.set_cons_zero, List.set_cons_succ]
          refine anyS_take (i := 30) (v := ?vx8x30) rfl (by kernel_rfl) (by kernel_rfl) (by kernel_rfl) ?hyx8x30 ?restx8x30
          case hyx8x30 => first | (refine StepS.read (by rfl) (fun wx hSw => ?_); (try dsimp only at hSw); obtain ⟨hRw, hroww, hHw⟩ := hSw; have q0 := cell_of_row _ bt 0 _ _ _ hroww; have q1 := cell_of_row _ bt 1 _ _ _ hroww; go_simp; first | done | with_reducible rfl) | exact Or.inr ⟨by rfl, rfl⟩
          try simp only [List.getElem_toArray, List.getElem_cons_succ, List.getElem_cons_zero, Act.put, List.setIfInBounds_toArray, List.set_cons_zero, List.set_cons_succ]
          refine anyS_take (i := 31) (v := ?vx8x31) rfl (by kernel_rfl) (by kernel_rfl) (by kernel_rfl) ?hyx8x31 ?restx8x31
          case hyx8x31 => first | (refine StepS.read (by rfl) (fun wx hSw => ?_); (try dsimp only at hSw); obtain ⟨hRw, hroww, hHw⟩ := hSw; have q0 := cell_of_row _ bt 0 _ _ _ hroww; have q1 := cell_of_row _ bt 1 _ _ _ hroww; go_simp; first | done | with_reducible rfl) | exact Or.inr ⟨by rfl, rfl⟩
          try simp only [List.getElem_toArray, List.getElem_cons_succ, List.getElem_cons_zero, Act.put, List.setIfInBounds_toArray, List.set_cons_zero, List.set_cons_succ]
          refine anyS_done (by kernel_rfl) (fun wx hSw => ?_) _
          (try dsimp only at hSw)
          go_wp2_with (fail)
          go_roundg (lb.length - (m + 1))
          case measure => omega
          case rel => exact ⟨m + 1, l', sh', rfl, by omega, by simp, ⟨hSw.1, ⟨A5, c5, hSw.2.1, hRA5, hAc5, hlc5⟩, hbad', hSw.2.2, by omega, hgw, hgb⟩⟩
      · go_wp2_with (fail)
        (with_reducible refine (getT_c _ _ _ _ (by exact hR) (by omega)).mono ?_)
        rintro e w4 ⟨rfl, hR4, hg4⟩
        have hb4 : Below w.heap.size w w4 := hHx.below.grown hg4 hHx.below.size (fun k e => by cases e; exact hgw2)
        have hrow4 := (hg4.block bt (Array.getElem?_eq_some_iff.1 hrow).1 (by intro e; injection e with e; omega)).trans hrow
        have kq0 := cell_of_row w4 bt 0 _ _ _ hrow4
        have kq1 := cell_of_row w4 bt 1 _ _ _ hrow4
        clear kr0 kr1 hcx
        go_wp2_with (fail)
        (with_reducible refine (rwords_n w A' c' _ l _ _ sh _ _ (by exact hRA) (by exact hb4) (by exact hlc) (by exact hbad) (by simp) (by omega) rfl rfl rfl).mono ?_)
        rintro e w5 ⟨A5, c5, rfl, hRA5, hAc5, hlc5, HB5⟩
        have hb5 : Below w.heap.size w w5 := hb4.trans (HB5.mono hb4.size)
        have hrow5 := (HB5.block bt (Array.getElem?_eq_some_iff.1 hrow4).1).trans hrow4
        have hR5 := hR4.below HB5
        have kr0 := cell_of_row w5 bt 0 _ _ _ hrow5
        have kr1 := cell_of_row w5 bt 1 _ _ _ hrow5
        have kf0 := frozen_of_row w5 bt 0 _ _ hrow5
        have kf1 := frozen_of_row w5 bt 1 _ _ hrow5
        have hS6 := FtS.of A5 c5 hg hR5 hrow5 hb5 hgb hbw
        have hbad' := bad_keepsT l sh hbad
        have hle := getTL_le l
        clear hR4 hg4 hR kq0 kq1 hb4 HB5 hrow4
        generalize getTL l = l' at *
        generalize getTS l sh = sh' at *
        generalize getT l = tx at *
        go_wp2_with (fail)
        generalize (w5.setCell ⟨bt, 0, none⟩ (.slice A5 l'.length c5)).setCell ⟨bt, 1, none⟩ (.bool sh') = w6 at *
        clear kr0 kr1 kf0 kf1 hR5 hrow5 hb5
        have hR6 := hS6.1
        (with_reducible refine (ft_done _ _ l' _ (by exact hR6) (by omega)).mono ?_)
        rintro e w7 ⟨rfl, rfl⟩
        by_cases hd : sh' = false ∧ l' = []
        · have hdv : doneV l' sh' = .nilIface := if_pos hd
          have hrd := Lib.hid (show (!sh' && decide (l' = [])) = true by simp [hd.1, hd.2])
          clear hd
          rw [hdv]
          go_upto_region 28 with (fail)
          refine wp_region_S (S := (fun wx => FtS w g bt l' sh' A5 c5 wx)) (by kernel_rfl) (FtS.step hS6 (Below.refl _ _).drew) ?_
          refine anyS_take (i := 0) (v := ?vx9x0) rfl (by kernel_rfl) (by kernel_rfl) (by kernel_rfl) ?hyx9x0 ?restx9x0
          case hyx9x0 => first | (refine StepS.read (by rfl) (fun wx hSw => ?_); (try dsimp only at hSw); obtain ⟨hRw, hroww, hHw⟩ := hSw; have q0 := cell_of_row _ bt 0 _ _ _ hroww; have q1 := cell_of_row _ bt 1 _ _ _ hroww; go_simp; first | done | with_reducible rfl) | exact Or.inr ⟨by rfl, rfl⟩
          try simp only [List.getElem_toArray, List.getElem_cons_succ, List.getElem_cons_zero, Act.put, List.setIfInBounds_toArray, List.set_cons_zero, List.set_cons_succ]
          refine anyS_take (i := 1) (v := ?vx9x1) rfl (by kernel_rfl) (by kernel_rfl) (by kernel_rfl) ?hyx9x1 ?restx9x1
          case hyx9x1 => first | (refine StepS.read (by rfl) (fun wx hSw => ?_); (try dsimp only at hSw); obtain ⟨hRw, hroww, hHw⟩ := hSw; have q0 := cell_of_row _ bt 0 _ _ _ hroww; have q1 := cell_of_row _ bt 1 _ _ _ hroww; go_simp; first | done | with_reducible rfl) | exact Or.inr ⟨by rfl, rfl⟩
          try simp only [List.getElem_toArray, List.getElem_cons_succ, List.getElem_cons_zero, Act.put, List.setIfInBounds_toArray, List.set_cons_zero, List.set_cons_succ]
          refine anyS_take (i := 2) (v := ?vx9x2) rfl (by kernel_rfl) (by kernel_rfl) (by kernel_rfl) ?hyx9x2 ?restx9x2
          case hyx9x2 => first | (refine StepS.read (by rfl) (fun wx hSw => ?_); (try dsimp only at hSw); obtain ⟨hRw, hroww, hHw⟩ := hSw; have q0 := cell_of_row _ bt 0 _ _ _ hroww; have q1 := cell_of_row _ bt 1 _ _ _ hroww; go_simp; first | done | with_reducible rfl) | exact Or.inr ⟨by rfl, rfl⟩
          try simp only [List.getElem_toArray, List.getElem_cons_succ, List.getElem_cons_zero, Act.put, List.setIfInBounds_toArray, List.set_cons_zero, List.set_cons_succ]
          refine anyS_take (i := 3) (v := ?vx9x3) rfl (by kernel_rfl) (by kernel_rfl) (by kernel_rfl) ?hyx9x3 ?restx9x3
          case hyx9x3 => first | (refine StepS.read (by rfl) (fun wx hSw => ?_); (try dsimp only at hSw); obtain ⟨hRw, hroww, hHw⟩ := hSw; have q0 := cell_of_row _ bt 0 _ _ _ hroww; have q1 := cell_of_row _ bt 1 _ _ _ hroww; go_simp; first | done | with_reducible rfl) | exact Or.inr ⟨by rfl, rfl⟩
          try simp only [List.getElem_toArray, List.getElem_cons_succ, List.getElem_cons_zero, Act.put, List.setIfInBounds_toArray, List.set_cons_zero, List.set_cons_succ]
          refine anyS_take (i := 4) (v := ?vx9x4) rfl (by kernel_rfl) (by kernel_rfl) (by kernel_rfl) ?hyx9x4 ?restx9x4
          case hyx9x4 => first | (refine StepS.read (by rfl) (fun wx hSw => ?_); (try dsimp only at hSw); obtain ⟨hRw, hroww, hHw⟩ := hSw; have q0 := cell_of_row _ bt 0 _ _ _ hroww; have q1 := cell_of_row _ bt 1 _ _ _ hroww; go_simp; first | done | with_reducible rfl) | exact Or.inr ⟨by rfl, rfl⟩
          try simp only [List.getElem_toArray, List.getElem_cons_succ, List.getElem_cons_zero, Act.put, List.setIfInBounds_toArray, List.set_cons_zero, List.set_cons_succ]
          refine anyS_take (i := 5) (v := ?vx9x5) rfl (by kernel_rfl) (by kernel_rfl) (by kernel_rfl) ?hyx9x5 ?restx9x5
          case hyx9x5 => first | (refine StepS.read (by rfl) (fun wx hSw => ?_); (try dsimp only at hSw); obtain ⟨hRw, hroww, hHw⟩ := hSw; have q0 := cell_of_row _ bt 0 _ _ _ hroww; have q1 := cell_of_row _ bt 1 _ _ _ hroww; go_simp; first | done | with_reducible rfl) | exact Or.inr ⟨by rfl, rfl⟩
          try simp only [List.getElem_toArray, List.getElem_cons_succ, List.getElem_cons_zero, Act.put, List.setIfInBounds_toArray, List.set_cons_zero, List.set_cons_succ]
          refine anyS_take (i := 6) (v := ?vx9x6) rfl (by kernel_rfl) (by kernel_rfl) (by kernel_rfl) ?hyx9x6 ?restx9x6
          case hyx9x6 => first | (refine StepS.read (by rfl) (fun wx hSw => ?_); (try dsimp only at hSw); obtain ⟨hRw, hroww, hHw⟩ := hSw; have q0 := cell_of_row _ bt 0 _ _ _ hroww; have q1 := cell_of_row _ bt 1 _ _ _ hroww; go_simp; first | done | with_reducible rfl) | exact Or.inr ⟨by rfl, rfl⟩
          try simp only [List.getElem_toArray, List.getElem_cons_succ, List.getElem_cons_zero, Act.put, List.setIfInBounds_toArray, List.set_cons_zero, List.set_cons_succ]
          refine anyS_take (i := 7) (v := ?vx9x7) rfl (by kernel_rfl) (by kernel_rfl) (by kernel_rfl) ?hyx9x7 ?restx9x7
          case hyx9x7 => first | (refine StepS.read (by rfl) (fun wx hSw => ?_); (try dsimp only at hSw); obtain ⟨hRw, hroww, hHw⟩ := hSw; have q0 := cell_of_row _ bt 0 _ _ _ hroww; have q1 := cell_of_row _ bt 1 _ _ _ hroww; go_simp; first | done | with_reducible rfl) | exact Or.inr ⟨by rfl, rfl⟩
          try simp only [List.getElem_toArray, List.getElem_cons_succ, List.getElem_cons_zero, Act.put, List.setIfInBounds_toArray, List.set_cons_zero, List.set_cons_succ]
          refine anyS_take (i := 8) (v := ?vx9x8) rfl (by kernel_rfl) (by kernel_rfl) (by kernel_rfl) ?hyx9x8 ?restx9x8
          case hyx9x8 => first | (refine StepS.read (by rfl) (fun wx hSw => ?_); (try dsimp only at hSw); obtain ⟨hRw, hroww, hHw⟩ := hSw; have q0 := cell_of_row _ bt 0 _ _ _ hroww; have q1 := cell_of_row _ bt 1 _ _ _ hroww; go_simp; first | done | with_reducible rfl) | exact Or.inr ⟨by rfl, rfl⟩
          try simp only [List.getElem_toArray, List.getElem_cons_succ, List.getElem_cons_zero, Act.put, List.setIfInBounds_toArray, List.set_cons_zero, List.set_cons_succ]
          refine anyS_take (i := 9) (v := ?vx9x9) rfl (by kernel_rfl) (by kernel_rfl) (by kernel_rfl) ?hyx9x9 ?restx9x9
          case hyx9x9 => first | (refine StepS.read (by rfl) (fun wx hSw => ?_); (try dsimp only at hSw); obtain ⟨hRw, hroww, hHw⟩ := hSw; have q0 := cell_of_row _ bt 0 _ _ _ hroww; have q1 := cell_of_row _ bt 1 _ _ _ hroww; go_simp; first | done | with_reducible rfl) | exact Or.inr ⟨by rfl, rfl⟩
          try simp only [List.getElem_toArray, List.getElem_cons_succ, List.getElem_cons_zero, Act.put, List.setIfInBounds_toArray, List.set_cons_zero, List.set_cons_succ]
          refine anyS_take (i := 10) (v := (.int .i64 (l'.length : Int))) rfl (by kernel_rfl) (by kernel_rfl) (by kernel_rfl) ?hyx9x10 ?restx9x10
          case hyx9x10 => (refine Or.inl ⟨by rfl, fun wx hSw => ?_⟩; (try dsimp only at hSw); have hSk := hSw; obtain ⟨hRw, hroww, hHw⟩ := hSw; go_simp; refine Or.inr ⟨_, _, _, rfl, ?_⟩; (with_reducible refine (left_c _ _ _ _ (by exact hRw)).mono ?_); rintro e w' ⟨rfl, rfl⟩; exact ⟨rfl, hSk⟩)
          try simp only [List.getElem_toArray, List.getElem_cons_succ, List.getElem_cons_zero, Act.put, List.setIfInBounds_toArray, List.set_cons_zero, List.set_cons_succ]
          refine anyS_take (i := 11) (v := ?vx9x11) rfl (by kernel_rfl) (by kernel_rfl) (by kernel_rfl) ?hyx9x11 ?restx9x11
          case hyx9x11 => first | (refine StepS.read (by rfl) (fun wx hSw => ?_); (try dsimp only at hSw); obtain ⟨hRw, hroww, hHw⟩ := hSw; have q0 := cell_of_row _ bt 0 _ _ _ hroww; have q1 := cell_of_row _ bt 1 _ _ _ hroww; go_simp; first | done | with_reducible rfl) | exact Or.inr ⟨by rfl, rfl⟩
          try simp only [List.getElem_toArray, List.getElem_cons_succ, List.getElem_cons_zero, Act.put, List.setIfInBounds_toArray, List.set_cons_zero, List.set_cons_succ]
          refine anyS_take (i := 12) (v := ?vx9x12) rfl (by kernel_rfl) (by kernel_rfl) (by kernel_rfl) ?hyx9x12 ?restx9x12
          case hyx9x12 => first | (refine StepS.read (by rfl) (fun wx hSw => ?_); (try dsimp only at hSw); obtain ⟨hRw, hroww, hHw⟩ := hSw; have q0 := cell_of_row _ bt 0 _ _ _ hroww; have q1 := cell_of_row _ bt 1 _ _ _ hroww; go_simp; first | done | with_reducible rfl) | exact Or.inr ⟨by rfl, rfl⟩
          try simp only [List.getElem_toArray, List.getElem_cons_succ, List.getElem_cons_zero, Act.put, List.setIfInBounds_toArray, List.set_cons_zero, List.set_cons_succ]
          refine anyS_take (i := 13) (v := ?vx9x13) rfl (by kernel_rfl) (by kernel_rfl) (by kernel_rfl) ?hyx9x13 ?restx9x13
          case hyx9x13 => first | (refine StepS.read (by rfl) (fun wx hSw => ?_); (try dsimp only at hSw); obtain ⟨hRw, hroww, hHw⟩ := hSw; have q0 := cell_of_row _ bt 0 _ _ _ hroww; have q1 := cell_of_row _ bt 1 _ _ _ hroww; go_simp; first | done | with_reducible rfl) | exact Or.inr ⟨by rfl, rfl⟩
          try simp only [List.getElem_toArray, List.getElem_cons_succ, List.getElem_cons_zero, Act.put, List.setIfInBounds_toArray, List.set_cons_zero, List.set_cons_succ]
          refine anyS_take (i := 14) (v := ?vx9x14) rfl (by kernel_rfl) (by kernel_rfl) (by kernel_rfl) ?hyx9x14 ?restx9x14
          case hyx9x14 => first | (refine StepS.read (by rfl) (fun wx hSw => ?_); (try dsimp only at hSw); obtain ⟨hRw, hroww, hHw⟩ := hSw; have q0 := cell_of_row _ bt 0 _ _ _ hroww; have q1 := cell_of_row _ bt 1 _ _ _ hroww; go_simp; first | done | with_reducible rfl) | exact Or.inr ⟨by rfl, rfl⟩
          try simp only [List.getElem_toArray, List.getElem_cons_succ, List.getElem_cons_zero, Act.put, List.setIfInBounds_toArray, List.set_cons_zero, List.set_cons_succ]
          refine anyS_take (i := 15) (v := ?vx9x15) rfl (by kernel_rfl) (by kernel_rfl) (by kernel_rfl) ?hyx9x15 ?restx9x15
          case hyx9x15 => first | (refine StepS.read (by rfl) (fun wx hSw => ?_); (try dsimp only at hSw); obtain ⟨hRw, hroww, hHw⟩ := hSw; have q0 := cell_of_row _ bt 0 _ _ _ hroww; have q1 := cell_of_row _ bt 1 _ _ _ hroww; go_simp; first | done | with_reducible rfl) | exact Or.inr ⟨by rfl, rfl⟩
          try simp only [List.getElem_toArray, List.getElem_cons_succ, List.getElem_cons_zero, Act.put, List.setIfInBounds_toArray, List.set_cons_zero, List.set_cons_succ]
          refine anyS_take (i := 16) (v := ?vx9x16) rfl (by kernel_rfl) (by kernel_rfl) (by kernel_rfl) ?hyx9x16 ?restx9x16
          case hyx9x16 => first | (refine StepS.read (by rfl) (fun wx hSw => ?_); (try dsimp only at hSw); obtain ⟨hRw, hroww, hHw⟩ := hSw; have q0 := cell_of_row _ bt 0 _ _ _ hroww; have q1 := cell_of_row _ bt 1 _ _ _ hroww; go_simp; first | done | with_reducible rfl) | exact Or.inr ⟨by rfl, rfl⟩
          try simp only [List.getElem_toArray, List.getElem_cons_succ, List.getElem_cons_zero, Act.put, List.setIfInBounds_toArray, List.set_cons_zero, List.set_cons_succ]
          refine anyS_take (i := 17) (v := ?vx9x17) rfl (by kernel_rfl) (by kernel_rfl) (by kernel_rfl) ?hyx9x17 ?restx9x17
          case hyx9x17 => first | (refine StepS.read (by rfl) (fun wx hSw => ?_); (try dsimp only at hSw); obtain ⟨hRw, hroww, hHw⟩ := hSw; have q0 := cell_of_row _ bt 0 _ _ _ hroww; have q1 := cell_of_row _ bt 1 _ _ _ hroww; go_simp; first | done | with_reducible rfl) | exact Or.inr ⟨by rfl, rfl⟩
          try simp only [List.getElem_toArray, List.getElem_cons_succ, List.getElem_cons_zero, Act.put, List.setIfInBounds_toArray, List.set_cons_zero, List.set_cons_succ]
          refine anyS_take (i := 18) (v := ?vx9x18) rfl (by kernel_rfl) (by kernel_rfl) (by kernel_rfl) ?hyx9x18 ?restx9x18
          case hyx9x18 => first | (refine StepS.read (by rfl) (fun wx hSw => ?_); (try dsimp only at hSw); obtain ⟨hRw, hroww, hHw⟩ := hSw; have q0 := cell_of_row _ bt 0 _ _ _ hroww; have q1 := cell_of_row _ bt 1 _ _ _ hroww; go_simp; first | done | with_reducible rfl) | exact Or.inr ⟨by rfl, rfl⟩
          try simp only [List.getElem_toArray, List.getElem_cons_succ, List.getElem_cons_zero, Act.put, List.setIfInBounds_toArray, List.set_cons_zero, List.set_cons_succ]
          refine anyS_take (i := 19) (v := ?vx9x19) rfl (by kernel_rfl) (by kernel_rfl) (by kernel_rfl) ?hyx9x19 ?restx9x19
          case hyx9x19 => first | (refine StepS.read (by rfl) (fun wx hSw => ?_); (try dsimp only at hSw); obtain ⟨hRw, hroww, hHw⟩ := hSw; have q0 := cell_of_row _ bt 0 _ _ _ hroww; have q1 := cell_of_row _ bt 1 _ _ _ hroww; go_simp; first | done | with_reducible rfl) | exact Or.inr ⟨by rfl, rfl⟩
          try simp only [List.getElem_toArray, List.getElem_cons_succ, List.getElem_cons_zero, Act.put, List.setIfInBounds_toArray, List.set_cons_zero, List.set_cons_succ]
          refine anyS_take (i := 20) (v := .bool true) rfl (by kernel_rfl) (by kernel_rfl) (by kernel_rfl) ?hyx9x20 ?restx9x20
          case hyx9x20 => (refine Or.inl ⟨by rfl, fun wx hSw => ?_⟩; (try dsimp only at hSw); have hSk := hSw; obtain ⟨hRw, hroww, hHw⟩ := hSw; go_simp; refine Or.inr ⟨_, _, _, rfl, ?_⟩; (with_reducible refine (rdone_n _ _ _ l' _ true _ (by simp) (by exact hrd.out)).mono ?_); rintro e w' ⟨rfl, hb'⟩; exact ⟨rfl, FtS.step hSk hb'⟩)
          try simp only [List.getElem_toArray, List.getElem_cons_succ, List.getElem_cons_zero, Act.put, List.setIfInBounds_toArray, List.set_cons_zero, List.set_cons_succ]
          refine anyS_take (i := 21) (v := ?vx9x21) rfl (by kernel_rfl) (by kernel_rfl) (by kernel_rfl) ?hyx9x21 ?restx9x21
          case hyx9x21 => first | (refine StepS.read (by rfl) (fun wx hSw => ?_); (try dsimp only at hSw); obtain ⟨hRw, hroww, hHw⟩ := hSw; have q0 := cell_of_row _ bt 0 _ _ _ hroww; have q1 := cell_of_row _ bt 1 _ _ _ hroww; go_simp; first | done | with_reducible rfl) | exact Or.inr ⟨by rfl, rfl⟩
          try simp only [List.getElem_toArray, List.getElem_cons_succ, List.getElem_cons_zero, Act.put, List.setIfInBounds_toArray, List.set_cons_zero, List.set_cons_succ]
          refine anyS_take (i := 22) (v := ?vx9x22) rfl (by kernel_rfl) (by kernel_rfl) (by kernel_rfl) ?hyx9x22 ?restx9x22
          case hyx9x22 => first | (refine StepS.read (by rfl) (fun wx hSw => ?_); (try dsimp only at hSw); obtain ⟨hRw, hroww, hHw⟩ := hSw; have q0 := cell_of_row _ bt 0 _ _ _ hroww; have q1 := cell_of_row _ bt 1 _ _ _ hroww; go_simp; first | done | with_reducible rfl) | exact Or.inr ⟨by rfl, rfl⟩
          try simp only [List.getElem_toArray, List.getElem_cons_succ, List.getElem_cons_zero, Act.put, List.setIfInBounds_toArray, List.set_cons_zero, List.set_cons_succ]
          refine anyS_take (i := 23) (v := ?vx9x23) rfl (by kernel_rfl) (by kernel_rfl) (by kernel_rfl) ?hyx9x23 ?restx9x23
          case hyx9x23 => first | (refine StepS.read (by rfl) (fun wx hSw => ?_); (try dsimp only at hSw); obtain ⟨hRw, hroww, hHw⟩ := hSw; have q0 := cell_of_row _ bt 0 _ _ _ hroww; have q1 := cell_of_row _ bt 1 _ _ _ hroww; go_simp; first | done | with_reducible rfl) | exact Or.inr ⟨by rfl, rfl⟩
          try simp only [List.getElem_toArray, List.getElem_cons_succ, List.getElem_cons_zero, Act.put, List.setIfInBounds_toArray, List.set_cons_zero, List.set_cons_succ]
          refine anyS_take (i := 24) (v := ?vx9x24) rfl (by kernel_rfl) (by kernel_rfl) (by kernel_rfl) ?hyx9x24 ?restx9x24
          case hyx9x24 => first | (refine StepS.read (by rfl) (fun wx hSw => ?_); (try dsimp only at hSw); obtain ⟨hRw, hroww, hHw⟩ := hSw; have q0 := cell_of_row _ bt 0 _ _ _ hroww; have q1 := cell_of_row _ bt 1 _ _ _ hroww; go_simp; first | done | with_reducible rfl) | exact Or.inr ⟨by rfl, rfl⟩
          try simp only [List.getElem_toArray, List.getElem_cons_succ, List.getElem_cons_zero, Act.put, List.setIfInBounds_toArray, List.set_cons_zero, List.set_cons_succ]
          refine anyS_take (i := 25) (v := ?vx9x25) rfl (by kernel_rfl) (by kernel_rfl) (by kernel_rfl) ?hyx9x25 ?restx9x25
          case hyx9x25 => first | (refine StepS.read (by rfl) (fun wx hSw => ?_); (try dsimp only at hSw); obtain ⟨hRw, hroww, hHw⟩ := hSw; have q0 := cell_of_row _ bt 0 _ _ _ hroww; have q1 := cell_of_row _ bt 1 _ _ _ hroww; go_simp; first | done | with_reducible rfl) | exact Or.inr ⟨by rfl, rfl⟩
          try simp only [List.getElem_toArray, List.getElem_cons_succ, List.getElem_cons_zero, Act.put, List.setIfInBounds_toArray, List.set_cons_zero, List.set_cons_succ]
          refine anyS_take (i := 26) (v := ?vx9x26) rfl (by kernel_rfl) (by kernel_rfl) (by kernel_rfl) ?hyx9x26 ?restx9x26
          case hyx9x26 => first | (refine StepS.read (by rfl) (fun wx hSw => ?_); (try dsimp only at hSw); obtain ⟨hRw, hroww, hHw⟩ := hSw; have q0 := cell_of_row _ bt 0 _ _ _ hroww; have q1 := cell_of_row _ bt 1 _ _ _ hroww; go_simp; first | done | with_reducible rfl) | exact Or.inr ⟨by rfl, rfl⟩
          try simp only [List.getElem_toArray, List.getElem_cons_succ, List.getElem_cons_zero, Act.put, List.setIfInBounds_toArray, List.set_cons_zero, List.set_cons_succ]
          refine anyS_take (i := 27) (v := undef) rfl (by kernel_rfl) (by kernel_rfl) (by kernel_rfl) (Or.inr ⟨by kernel_rfl, rfl⟩) ?restx9x27
          try simp only [List.getElem_toArray, List.getElem_cons_succ, List.getElem_cons_zero, Act.put, List.setIfInBounds_toArray, List.set_cons_zero, List.set_cons_succ]
          refine anyS_take (i := 28) (v := undef) rfl (by kernel_rfl) (by kernel_rfl) (by kernel_rfl) (Or.inr ⟨by kernel_rfl, rfl⟩) ?restx9x28
          try simp only [List.getElem_toArray, List.getElem_cons_succ, List.getElem_cons_zero, Act.put, List.setIfInBounds_toArray, List.set_cons_zero, List.set_cons_succ]
          refine anyS_take (i := 29) (v := undef) rfl (by kernel_rfl) (by kernel_rfl) (by kernel_rfl) (Or.inr ⟨by kernel_rfl, rfl⟩) ?restx9x29
          try simp only [List.getElem_toArray, List.getElem_cons_succ, List.getElem_cons_zero, Act.put, List.setIfInBounds_toArray, List.set_cons_zero, List.set_cons_succ]
          refine anyS_take (i := 30) (v := ?vx9x30) rfl (by kernel_rfl) (by kernel_rfl) (by kernel_rfl) ?hyx9x30 ?restx9x30
          case hyx9x30 => first | (refine StepS.read (by rfl) (fun wx hSw => ?_); (try dsimp only at hSw); obtain ⟨hRw, hroww, hHw⟩ := hSw; have q0 := cell_of_row _ bt 0 _ _ _ hroww; have q1 := cell_of_row _ bt 1 _ _ _ hroww; go_simp; first | done | with_reducible rfl) | exact Or.inr ⟨by rfl, rfl⟩
          try simp only [List.getElem_toArray, List.getElem_cons_succ, List.getElem_cons_zero, Act.put, List.setIfInBounds_toArray, List.set_cons_zero, List.set_cons_succ]
          refine anyS_take (i := 31) (v := ?vx9x31) rfl (by kernel_rfl) (by kernel_rfl) (by kernel_rfl) ?hyx9x31 ?restx9x31
          case hyx9x31 => first | (refine StepS.read (by rfl) (fun wx hSw => ?_); (try dsimp only at hSw); obtain ⟨hRw, hroww, hHw⟩ := hSw; have q0 := cell_of_row _ bt 0 _ _ _ hroww; have q1 := cell_of_row _ bt 1 _ _ _ hroww; go_simp; first | done | with_reducible rfl) | exact Or.inr ⟨by rfl, rfl⟩
          try simp only [List.getElem_toArray, List.getElem_cons_succ, List.getElem_cons_zero, Act.put, List.setIfInBounds_toArray, List.set_cons_zero, List.set_cons_succ]
          refine anyS_done (by kernel_rfl) (fun wx hSw => ?_) _
          (try dsimp only at hSw)
          go_wp2_with (fail)
          go_roundg (lb.length - (m + 1))
          case measure => omega
          case rel => exact ⟨m + 1, l', sh', rfl, by omega, by simp, ⟨hSw.1, ⟨A5, c5, hSw.2.1, hRA5, hAc5, hlc5⟩, hbad', hSw.2.2, by omega, hgw, hgb⟩⟩
        · have hdv : doneV l' sh' = errV 3 := if_neg hd
          have hrd := Lib.hid (show (!sh' && decide (l' = [])) = false by revert hd; cases sh' <;> simp)
          clear hd
          rw [hdv]
          go_upto_region 28 with (fail)
          refine wp_region_S (S := (fun wx => FtS w g bt l' sh' A5 c5 wx)) (by kernel_rfl) (FtS.step hS6 (Below.refl _ _).drew) ?_
          refine anyS_take (i := 0) (v := ?vx10x0) rfl (by kernel_rfl) (by kernel_rfl) (by kernel_rfl) ?hyx10x0 ?restx10x0
          case hyx10x0 => first | (refine StepS.read (by rfl) (fun wx hSw => ?_); (try dsimp only at hSw); obtain ⟨hRw, hroww, hHw⟩ := hSw; have q0 := cell_of_row _ bt 0 _ _ _ hroww; have q1 := cell_of_row _ bt 1 _ _ _ hroww; go_simp; first | done | with_reducible rfl) | exact Or.inr ⟨by rfl, rfl⟩
          try simp only [List.getElem_toArray, List.getElem_cons_succ, List.getElem_cons_zero, Act.put, List.setIfInBounds_toArray, List.set_cons_zero, List.set_cons_succ]
          refine anyS_take (i := 1) (v := ?vx10x1) rfl (by kernel_rfl) (by kernel_rfl) (by kernel_rfl) ?hyx10x1 ?restx10x1
          case hyx10x1 => first | (refine StepS.read (by rfl) (fun wx hSw => ?_); (try dsimp only at hSw); obtain ⟨hRw, hroww, hHw⟩ := hSw; have q0 := cell_of_row _ bt 0 _ _ _ hroww; have q1 := cell_of_row _ bt 1 _ _ _ hroww; go_simp; first | done | with_reducible rfl) | exact Or.inr ⟨by rfl, rfl⟩
          try simp only [List.getElem_toArray, List.getElem_cons_succ, List.getElem_cons_zero, Act.put, List.setIfInBounds_toArray, List.set_cons_zero, List.set_cons_succ]
          refine anyS_take (i := 2) (v := ?vx10x2) rfl (by kernel_rfl) (by kernel_rfl) (by kernel_rfl) ?hyx10x2 ?restx10x2
          case hyx10x2 => first | (refine StepS.read (by rfl) (fun wx hSw => ?_); (try dsimp only at hSw); obtain ⟨hRw, hroww, hHw⟩ := hSw; have q0 := cell_of_row _ bt 0 _ _ _ hroww; have q1 := cell_of_row _ bt 1 _ _ _ hroww; go_simp; first | done | with_reducible rfl) | exact Or.inr ⟨by rfl, rfl⟩
          try simp only [List.getElem_toArray, List.getElem_cons_succ, List.getElem_cons_zero, Act.put, List.setIfInBounds_toArray, List.set_cons_zero, List.set_cons_succ]
          refine anyS_take (i := 3) (v := ?vx10x3) rfl (by kernel_rfl) (by kernel_rfl) (by kernel_rfl) ?hyx10x3 ?restx10x3
          case hyx10x3 => first | (refine StepS.read (by rfl) (fun wx hSw => ?_); (try dsimp only at hSw); obtain ⟨hRw, hroww, hHw⟩ := hSw; have q0 := cell_of_row _ bt 0 _ _ _ hroww; have q1 := cell_of_row _ bt 1 _ _ _ hroww; go_simp; first | done | with_reducible rfl) | exact Or.inr ⟨by rfl, rfl⟩
          try simp only [List.getElem_toArray, List.getElem_cons_succ, List.getElem_cons_zero, Act.put, List.setIfInBounds_toArray, List.set_cons_zero, List.set_cons_succ]
          refine anyS_take (i := 4) (v := ?vx10x4) rfl (by kernel_rfl) (by kernel_rfl) (by kernel_rfl) ?hyx10x4 ?restx10x4
          case hyx10x4 => first | (refine StepS.read (by rfl) (fun wx hSw => ?_); (try dsimp only at hSw); obtain ⟨hRw, hroww, hHw⟩ := hSw; have q0 := cell_of_row _ bt 0 _ _ _ hroww; have q1 := cell_of_row _ bt 1 _ _ _ hroww; go_simp; first | done | with_reducible rfl) | exact Or.inr ⟨by rfl, rfl⟩
          try simp only [List.getElem_toArray, List.getElem_cons_succ, List.getElem_cons_zero, Act.put, List.setIfInBounds_toArray, List.set_cons_zero, List.set_cons_succ]
          refine anyS_take (i := 5) (v := ?vx10x5) rfl (by kernel_rfl) (by kernel_rfl) (by kernel_rfl) ?hyx10x5 ?restx10x5
          case hyx10x5 => first | (refine StepS.read (by rfl) (fun wx hSw => ?_); (try dsimp only at hSw); obtain ⟨hRw, hroww, hHw⟩ := hSw; have q0 := cell_of_row _ bt 0 _ _ _ hroww; have q1 := cell_of_row _ bt 1 _ _ _ hroww; go_simp; first | done | with_reducible rfl) | exact Or.inr ⟨by rfl, rfl⟩
          try simp only [List.getElem_toArray, List.getElem_cons_succ, List.getElem_cons_zero, Act.put, List.setIfInBounds_toArray, List.set_cons_zero, List.set_cons_succ]
          refine anyS_take (i := 6) (v := ?vx10x6) rfl (by kernel_rfl) (by kernel_rfl) (by kernel_rfl) ?hyx10x6 ?restx10x6
          case hyx10x6 => first | (refine StepS.read (by rfl) (fun wx hSw => ?_); (try dsimp only at hSw); obtain ⟨hRw, hroww, hHw⟩ := hSw; have q0 := cell_of_row _ bt 0 _ _ _ hroww; have q1 := cell_of_row _ bt 1 _ _ _ hroww; go_simp; first | done | with_reducible rfl) | exact Or.inr ⟨by rfl, rfl⟩
          try simp only [List.getElem_toArray, List.getElem_cons_succ, List.getElem_cons_zero, Act.put, List.setIfInBounds_toArray, List.set_cons_zero, List.set_cons_succ]
          refine anyS_take (i := 7) (v := ?vx10x7) rfl (by kernel_rfl) (by kernel_rfl) (by kernel_rfl) ?hyx10x7 ?restx10x7
          case hyx10x7 => first | (refine StepS.read (by rfl) (fun wx hSw => ?_); (try dsimp only at hSw); obtain ⟨hRw, hroww, hHw⟩ := hSw; have q0 := cell_of_row _ bt 0 _ _ _ hroww; have q1 := cell_of_row _ bt 1 _ _ _ hroww; go_simp; first | done | with_reducible rfl) | exact Or.inr ⟨by rfl, rfl⟩
          try simp only [List.getElem_toArray, List.getElem_cons_succ, List.getElem_cons_zero, Act.put, List.setIfInBounds_toArray, List.set_cons_zero, List.set_cons_succ]
          refine anyS_take (i := 8) (v := ?vx10x8) rfl (by kernel_rfl) (by kernel_rfl) (by kernel_rfl) ?hyx10x8 ?restx10x8
          case hyx10x8 => first | (refine StepS.read (by rfl) (fun wx hSw => ?_); (try dsimp only at hSw); obtain ⟨hRw, hroww, hHw⟩ := hSw; have q0 := cell_of_row _ bt 0 _ _ _ hroww; have q1 := cell_of_row _ bt 1 _ _ _ hroww; go_simp; first | done | with_reducible rfl) | exact Or.inr ⟨by rfl, rfl⟩
          try simp only [List.getElem_toArray, List.getElem_cons_succ, List.getElem_cons_zero, Act.put, List.setIfInBounds_toArray, List.set_cons_zero, List.set_cons_succ]
          refine anyS_take (i := 9) (v := ?vx10x9) rfl (by kernel_rfl) (by kernel_rfl) (by kernel_rfl) ?hyx10x9 ?restx10x9
          case hyx10x9 => first | (refine StepS.read (by rfl) (fun wx hSw => ?_); (try dsimp only at hSw); obtain ⟨hRw, hroww, hHw⟩ := hSw; have q0 := cell_of_row _ bt 0 _ _ _ hroww; have q1 := cell_of_row _ bt 1 _ _ _ hroww; go_simp; first | done | with_reducible rfl) | exact Or.inr ⟨by rfl, rfl⟩
          try simp only [List.getElem_toArray, List.getElem_cons_succ, List.getElem_cons_zero, Act.put, List.setIfInBounds_toArray, List.set_cons_zero, List.set_cons_succ]
          refine anyS_take (i := 10) (v := (.int .i64 (l'.length : Int))) rfl (by kernel_rfl) (by kernel_rfl) (by kernel_rfl) ?hyx10x10 ?restx10x10
          case hyx10x10 => (refine Or.inl ⟨by rfl, fun wx hSw => ?_⟩; (try dsimp only at hSw); have hSk := hSw; obtain ⟨hRw, hroww, hHw⟩ := hSw; go_simp; refine Or.inr ⟨_, _, _, rfl, ?_⟩; (with_reducible refine (left_c _ _ _ _ (by exact hRw)).mono ?_); rintro e w' ⟨rfl, rfl⟩; exact ⟨rfl, hSk⟩)
          try simp only [List.getElem_toArray, List.getElem_cons_succ, List.getElem_cons_zero, Act.put, List.setIfInBounds_toArray, List.set_cons_zero, List.set_cons_succ]
          refine anyS_take (i := 11) (v := ?vx10x11) rfl (by kernel_rfl) (by kernel_rfl) (by kernel_rfl) ?hyx10x11 ?restx10x11
          case hyx10x11 => first | (refine StepS.read (by rfl) (fun wx hSw => ?_); (try dsimp only at hSw); obtain ⟨hRw, hroww, hHw⟩ := hSw; have q0 := cell_of_row _ bt 0 _ _ _ hroww; have q1 := cell_of_row _ bt 1 _ _ _ hroww; go_simp; first | done | with_reducible rfl) | exact Or.inr ⟨by rfl, rfl⟩
          try simp only [List.getElem_toArray, List.getElem_cons_succ, List.getElem_cons_zero, Act.put, List.setIfInBounds_toArray, List.set_cons_zero, List.set_cons_succ]
          refine anyS_take (i := 12) (v := ?vx10x12) rfl (by kernel_rfl) (by kernel_rfl) (by kernel_rfl) ?hyx10x12 ?restx10x12
          case hyx10x12 => first | (refine StepS.read (by rfl) (fun wx hSw => ?_); (try dsimp only at hSw); obtain ⟨hRw, hroww, hHw⟩ := hSw; have q0 := cell_of_row _ bt 0 _ _ _ hroww; have q1 := cell_of_row _ bt 1 _ _ _ hroww; go_simp; first | done | with_reducible rfl) | exact Or.inr ⟨by rfl, rfl⟩
          try simp only [List.getElem_toArray, List.getElem_cons_succ, List.getElem_cons_zero, Act.put, List.setIfInBounds_toArray, List.set_cons_zero, List.set_cons_succ]
          refine anyS_take (i := 13) (v := ?vx10x13) rfl (by kernel_rfl) (by kernel_rfl) (by kernel_rfl) ?hyx10x13 ?restx10x13
          case hyx10x13 => first | (refine StepS.read (by rfl) (fun wx hSw => ?_); (try dsimp only at hSw); obtain ⟨hRw, hroww, hHw⟩ := hSw; have q0 := cell_of_row _ bt 0 _ _ _ hroww; have q1 := cell_of_row _ bt 1 _ _ _ hroww; go_simp; first | done | with_reducible rfl) | exact Or.inr ⟨by rfl, rfl⟩
          try simp only [List.getElem_toArray, List.getElem_cons_succ, List.getElem_cons_zero, Act.put, List.setIfInBounds_toArray, List.set_cons_zero, List.set_cons_succ]
          refine anyS_take (i := 14) (v := ?vx10x14) rfl (by kernel_rfl) (by kernel_rfl) (by kernel_rfl) ?hyx10x14 ?restx10x14
          case hyx10x14 => first | (refine StepS.read (by rfl) (fun wx hSw => ?_); (try dsimp only at hSw); obtain ⟨hRw, hroww, hHw⟩ := hSw; have q0 := cell_of_row _ bt 0 _ _ _ hroww; have q1 := cell_of_row _ bt 1 _ _ _ hroww; go_simp; first | done | with_reducible rfl) | exact Or.inr ⟨by rfl, rfl⟩
          try simp only [List.getElem_toArray, List.getElem_cons_succ, List.getElem_cons_zero, Act.put, List.setIfInBounds_toArray, List.set_cons_zero, List.set_cons_succ]
          refine anyS_take (i := 15) (v := ?vx10x15) rfl (by kernel_rfl) (by kernel_rfl) (by kernel_rfl) ?hyx10x15 ?restx10x15
          case hyx10x15 => first | (refine StepS.read (by rfl) (fun wx hSw => ?_); (try dsimp only at hSw); obtain ⟨hRw, hroww, hHw⟩ := hSw; have q0 := cell_of_row _ bt 0 _ _ _ hroww; have q1 := cell_of_row _ bt 1 _ _ _ hroww; go_simp; first | done | with_reducible rfl) | exact Or.inr ⟨by rfl, rfl⟩
          try simp only [List.getElem_toArray, List.getElem_cons_succ, List.getElem_cons_zero, Act.put, List.setIfInBounds_toArray, List.set_cons_zero, List.set_cons_succ]
          refine anyS_take (i := 16) (v := ?vx10x16) rfl (by kernel_rfl) (by kernel_rfl) (by kernel_rfl) ?hyx10x16 ?restx10x16
          case hyx10x16 => first | (refine StepS.read (by rfl) (fun wx hSw => ?_); (try dsimp only at hSw); obtain ⟨hRw, hroww, hHw⟩ := hSw; have q0 := cell_of_row _ bt 0 _ _ _ hroww; have q1 := cell_of_row _ bt 1 _ _ _ hroww; go_simp; first | done | with_reducible rfl) | exact Or.inr ⟨by rfl, rfl⟩
          try simp only [List.getElem_toArray, List.getElem_cons_succ, List.getElem_cons_zero, Act.put, List.setIfInBounds_toArray, List.set_cons_zero, List.set_cons_succ]
          refine anyS_take (i := 17) (v := ?vx10x17) rfl (by kernel_rfl) (by kernel_rfl) (by kernel_rfl) ?hyx10x17 ?restx10x17
          case hyx10x17 => first | (refine StepS.read (by rfl) (fun wx hSw => ?_); (try dsimp only at hSw); obtain ⟨hRw, hroww, hHw⟩ := hSw; have q0 := cell_of_row _ bt 0 _ _ _ hroww; have q1 := cell_of_row _ bt 1 _ _ _ hroww; go_simp; first | done | with_reducible rfl) | exact Or.inr ⟨by rfl, rfl⟩
          try simp only [List.getElem_toArray, List.getElem_cons_succ, List.getElem_cons_zero, Act.put, List.setIfInBounds_toArray, List.set_cons_zero, List.set_cons_succ]
          refine anyS_take (i := 18) (v := ?vx10x18) rfl (by kernel_rfl) (by kernel_rfl) (by kernel_rfl) ?hyx10x18 ?restx10x18
          case hyx10x18 => first | (refine StepS.read (by rfl) (fun wx hSw => ?_); (try dsimp only at hSw); obtain ⟨hRw, hroww, hHw⟩ := hSw; have q0 := cell_of_row _ bt 0 _ _ _ hroww; have q1 := cell_of_row _ bt 1 _ _ _ hroww; go_simp; first | done | with_reducible rfl) | exact Or.inr ⟨by rfl, rfl⟩
          try simp only [List.getElem_toArray, List.getElem_cons_succ, List.getElem_cons_zero, Act.put, List.setIfInBounds_toArray, List.set_cons_zero, List.set_cons_succ]
          refine anyS_take (i := 19) (v := ?vx10x19) rfl (by kernel_rfl) (by kernel_rfl) (by kernel_rfl) ?hyx10x19 ?restx10x19
          case hyx10x19 => first | (refine StepS.read (by rfl) (fun wx hSw => ?_); (try dsimp only at hSw); obtain ⟨hRw, hroww, hHw⟩ := hSw; have q0 := cell_of_row _ bt 0 _ _ _ hroww; have q1 := cell_of_row _ bt 1 _ _ _ hroww; go_simp; first | done | with_reducible rfl) | exact Or.inr ⟨by rfl, rfl⟩
          try simp only [List.getElem_toArray, List.getElem_cons_succ, List.getElem_cons_zero, Act.put, List.setIfInBounds_toArray, List.set_cons_zero, List.set_cons_succ]
          refine anyS_take (i := 20) (v := .bool false) rfl (by kernel_rfl) (by kernel_rfl) (by kernel_rfl) ?hyx10x20 ?restx10x20
          case hyx10x20 => (refine Or.inl ⟨by rfl, fun wx hSw => ?_⟩; (try dsimp only at hSw); have hSk := hSw; obtain ⟨hRw, hroww, hHw⟩ := hSw; go_simp; refine Or.inr ⟨_, _, _, rfl, ?_⟩; (with_reducible refine (rdone_n _ _ _ l' _ false _ (by simp) (by exact hrd.out)).mono ?_); rintro e w' ⟨rfl, hb'⟩; exact ⟨rfl, FtS.step hSk hb'⟩)
          try simp only [List.getElem_toArray, List.getElem_cons_succ, List.getElem_cons_zero, Act.put, List.setIfInBounds_toArray, List.set_cons_zero, List.set_cons_succ]
          refine anyS_take (i := 21) (v := ?vx10x21) rfl (by kernel_rfl) (by kernel_rfl) (by kernel_rfl) ?hyx10x21 ?restx10x21
          case hyx10x21 => first | (refine StepS.read (by rfl) (fun wx hSw => ?_); (try dsimp only at hSw); obtain ⟨hRw, hroww, hHw⟩ := hSw; have q0 := cell_of_row _ bt 0 _ _ _ hroww; have q1 := cell_of_row _ bt 1 _ _ _ hroww; go_simp; first | done | with_reducible rfl) | exact Or.inr ⟨by rfl, rfl⟩
          try simp only [List.getElem_toArray, List.getElem_cons_succ, List.getElem_cons_zero, Act.put, List.setIfInBounds_toArray, List.set_cons_zero, List.set_cons_succ]
          refine anyS_take (i := 22) (v := ?vx10x22) rfl (by kernel_rfl) (by kernel_rfl) (by kernel_rfl) ?hyx10x22 ?restx10x22
          case hyx10x22 => first | (refine StepS.read (by rfl) (fun wx hSw => ?_); (try dsimp only at hSw); obtain ⟨hRw, hroww, hHw⟩ := hSw; have q0 := cell_of_row _ bt 0 _ _ _ hroww; have q1 := cell_of_row _ bt 1 _ _ _ hroww; go_simp; first | done | with_reducible rfl) | exact Or.inr ⟨by rfl, rfl⟩
          try simp only [List.getElem_toArray, List.getElem_cons_succ, List.getElem_cons_zero, Act.put, List.setIfInBounds_toArray, List.set_cons_zero, List.set_cons_succ]
          refine anyS_take (i := 23) (v := ?vx10x23) rfl (by kernel_rfl) (by kernel_rfl) (by kernel_rfl) ?hyx10x23 ?restx10x23
          case hyx10x23 => first | (refine StepS.read (by rfl) (fun wx hSw => ?_); (try dsimp only at hSw); obtain ⟨hRw, hroww, hHw⟩ := hSw; have q0 := cell_of_row _ bt 0 _ _ _ hroww; have q1 := cell_of_row _ bt 1 _ _ _ hroww; go_simp; first | done | with_reducible rfl) | exact Or.inr ⟨by rfl, rfl⟩
          try simp only [List.getElem_toArray, List.getElem_cons_succ, List.getElem_cons_zero, Act.put, List.setIfInBounds_toArray, List.set_cons_zero, List.set_cons_succ]
          refine anyS_take (i := 24) (v := ?vx10x24) rfl (by kernel_rfl) (by kernel_rfl) (by kernel_rfl) ?hyx10x24 ?restx10x24
          case hyx10x24 => first | (refine StepS.read (by rfl) (fun wx hSw => ?_); (try dsimp only at hSw); obtain ⟨hRw, hroww, hHw⟩ := hSw; have q0 := cell_of_row _ bt 0 _ _ _ hroww; have q1 := cell_of_row _ bt 1 _ _ _ hroww; go_simp; first | done | with_reducible rfl) | exact Or.inr ⟨by rfl, rfl⟩
          try simp only [List.getElem_toArray, List.getElem_cons_succ, List.getElem_cons_zero, Act.put, List.setIfInBounds_toArray, List.set_cons_zero, List.set_cons_succ]
          refine anyS_take (i := 25) (v := ?vx10x25) rfl (by kernel_rfl) (by kernel_rfl) (by kernel_rfl) ?hyx10x25 ?restx10x25
          case hyx10x25 => first | (refine StepS.read (by rfl) (fun wx hSw => ?_); (try dsimp only at hSw); obtain ⟨hRw, hroww, hHw⟩ := hSw; have q0 := cell_of_row _ bt 0 _ _ _ hroww; have q1 := cell_of_row _ bt 1 _ _ _ hroww; go_simp; first | done | with_reducible rfl) | exact Or.inr ⟨by rfl, rfl⟩
          try simp only [List.getElem_toArray, List.getElem_cons_succ, List.getElem_cons_zero, Act.put, List.setIfInBounds_toArray, List.set_cons_zero, List.set_cons_succ]
          refine anyS_take (i := 26) (v := ?vx10x26) rfl (by kernel_rfl) (by kernel_rfl) (by kernel_rfl) ?hyx10x26 ?restx10x26
          case hyx10x26 => first | (refine StepS.read (by rfl) (fun wx hSw => ?_); (try dsimp only at hSw); obtain ⟨hRw, hroww, hHw⟩ := hSw; have q0 := cell_of_row _ bt 0 _ _ _ hroww; have q1 := cell_of_row _ bt 1 _ _ _ hroww; go_simp; first | done | with_reducible rfl) | exact Or.inr ⟨by rfl, rfl⟩
          try simp only [List.getElem_toArray, List.getElem_cons_succ, List.getElem_cons_zero, Act.put, List.setIfInBounds_toArray, List.set_cons_zero, List.set_cons_succ]
          refine anyS_take (i := 27) (v := ?vx10x27) rfl (by kernel_rfl) (by kernel_rfl) (by kernel_rfl) ?hyx10x27 ?restx10x27
          case hyx10x27 => first | (refine StepS.read (by rfl) (fun wx hSw => ?_); (try dsimp only at hSw); obtain ⟨hRw, hroww, hHw⟩ := hSw; have q0 := cell_of_row _ bt 0 _ _ _ hroww; have q1 := cell_of_row _ bt 1 _ _ _ hroww; go_simp; first | done | with_reducible rfl) | exact Or.inr ⟨by rfl, rfl⟩
          try simp only [List.getElem_toArray, List.getElem_cons_succ, List.getElem_cons_zero, Act.put, List.setIfInBounds_toArray, List.set_cons_zero, List.set_cons_succ]
          refine anyS_take (i := 28) (v := .int .i64 3) rfl (by kernel_rfl) (by kernel_rfl) (by kernel_rfl) ?hyx10x28 ?restx10x28
          case hyx10x28 => (refine Or.inl ⟨by rfl, fun wx hSw => ?_⟩; (try dsimp only at hSw); have hSk := hSw; obtain ⟨hRw, hroww, hHw⟩ := hSw; go_simp; refine Or.inr ⟨_, _, _, rfl, ?_⟩; (with_reducible refine (num05_err _ _ (Held.handle (w0 := w) hHw)).mono ?_); rintro e w' ⟨rfl, hb'⟩; exact ⟨rfl, FtS.step hSk hb'⟩)
          try simp only [List.getElem_toArray, List.getElem_cons_succ, List.getElem_cons_zero, Act.put, List.setIfInBounds_toArray, List.set_cons_zero, List.set_cons_succ]
          refine anyS_take (i := 29) (v := ?vx10x29) rfl (by kernel_rfl) (by kernel_rfl) (by kernel_rfl) ?hyx10x29 ?restx10x29
          case hyx10x29 => first | (refine StepS.read (by rfl) (fun wx hSw => ?_); (try dsimp only at hSw); obtain ⟨hRw, hroww, hHw⟩ := hSw; have q0 := cell_of_row _ bt 0 _ _ _ hroww; have q1 := cell_of_row _ bt 1 _ _ _ hroww; go_simp; first | done | with_reducible rfl) | exact Or.inr ⟨by rfl, rfl⟩
          try simp only [List.getElem_toArray, List.getElem_cons_succ, List.getElem_cons_zero, Act.put, List.setIfInBounds_toArray, List.set_cons_zero, List.set_cons_succ]
          refine anyS_take (i := 30) (v := ?vx10x30) rfl (by kernel_rfl) (by kernel_rfl) (by kernel_rfl) ?hyx10x30 ?restx10x30
          case hyx10x30 => first | (refine StepS.read (by rfl) (fun wx hSw => ?_); (try dsimp only at hSw); obtain ⟨hRw, hroww, hHw⟩ := hSw; have q0 := cell_of_row _ bt 0 _ _ _ hroww; have q1 := cell_of_row _ bt 1 _ _ _ hroww; go_simp; first | done | with_reducible rfl) | exact Or.inr ⟨by rfl, rfl⟩
          try simp only [List.getElem_toArray, List.getElem_cons_succ, List.getElem_cons_zero, Act.put, List.setIfInBounds_toArray, List.set_cons_zero, List.set_cons_succ]
          refine anyS_take (i := 31) (v := ?vx10x31) rfl (by kernel_rfl) (by kernel_rfl) (by kernel_rfl) ?hyx10x31 ?restx10x31
          case hyx10x31 => first | (refine StepS.read (by rfl) (fun wx hSw => ?_); (try dsimp only at hSw); obtain ⟨hRw, hroww, hHw⟩ := hSw; have q0 := cell_of_row _ bt 0 _ _ _ hroww; have q1 := cell_of_row _ bt 1 _ _ _ hroww; go_simp; first | done | with_reducible rfl) | exact Or.inr ⟨by rfl, rfl⟩
          try simp only [List.getElem_toArray, List.getElem_cons_succ, List.getElem_cons_zero, Act.put, List.setIfInBounds_toArray, List.set_cons_zero, List.set_cons_succ]
          refine anyS_done (by kernel_rfl) (fun wx hSw => ?_) _
          (try dsimp only at hSw)
          go_wp2_with (fail)
          go_roundg (lb.length - (m + 1))
          case measure => omega
          case rel => exact ⟨m + 1, l', sh', rfl, by omega, by simp, ⟨hSw.1, ⟨A5, c5, hSw.2.1, hRA5, hAc5, hlc5⟩, hbad', hSw.2.2, by omega, hgw, hgb⟩⟩
    · have hHx := hI.2.2.2.1
      go_wp2_with (go_at_call 64; (with_reducible refine (sure05 _ (Held.handle (w0 := w) (by assumption))).mono ?_); rintro e w' ⟨rfl, hb'⟩; have hH' := Held.step (w0 := w) (by assumption) hb'; clear hb')
      go_ret
      exact ⟨rfl, Held.below (w0 := w) (by assumption)⟩
theorem walkFieldsTake {w : World} (A : Option Addr) (c : Nat) (la : List UInt8) (B : Option Addr) (d : Nat) (lb : List UInt8) (hA : Rd w A la) (hAc : A = none → c = 0) (hlc : la.length ≤ c) (hB : Rd w B lb) (hg : w.cell? ⟨0, 0, none⟩ = some asHandle) :
    Calls Tryd.prog 12 #[.slice A la.length c, .slice B lb.length d] w fun e w' => e = .returned (.bool true) ∧ Below w.heap.size w w' := by
  by_cases h : 600 < la.length ∨ 200 < lb.length
  · exact ft_big A c la B d lb w h hg
  · exact ft_small A c la B d lb w hA hAc hlc hB (by omega) (by omega) hg
end Go.Proofs.YtffdglhdklmjoaaDoor
