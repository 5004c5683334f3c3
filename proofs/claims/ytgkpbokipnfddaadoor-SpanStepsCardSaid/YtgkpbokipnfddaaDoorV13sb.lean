/-
  Layer 13: SpanSteps, some cases.
-/
import Derived.Test.YtgkpbokipnfddaaDoorV13s
namespace Go.Proofs.YtgkpbokipnfddaaDoor
open Go.RowKit Go.Extern.Stop Go.Stop Go.Extern
set_option linter.unusedVariables false
set_option linter.unusedSimpArgs false
set_option maxRecDepth 100000 in
set_option maxHeartbeats 8000000 in
theorem steps_C1_neg (a0 a1 b0 b1 n : Int) (i1 : InR a0) (i2 : InR a1) (i3 : InR b0) (i4 : InR b1) (i5 : InR n) (h1 : a0 ≤ a1) (h2 : b0 ≤ b1) (h3 : b1 < a0) (g1 : n < 0) (w : World) (hg : w.cell? ⟨0, 0, none⟩ = some asHandle) :
    Calls Tryd.prog 3 #[.agg #[.int .i64 a0, .int .i64 a1], .agg #[.int .i64 b0, .int .i64 b1], .int .i64 n] w fun e w' => e = .returned (.bool true) ∧ Below w.heap.size w w' := by
  have hH0 := Held.start hg
  obtain ⟨M, hM⟩ : ∃ M, a0 + (a1 - a0) / 2 = M := ⟨_, rfl⟩
  obtain ⟨Z, hZ⟩ : ∃ Z, sat (a1 - M) = Z := ⟨_, rfl⟩
  have hmid : ∀ w : World, Calls Tryd.prog 16 #[.agg #[.int .i64 a0, .int .i64 a1]] w fun e w' => e = .returned (.tuple #[.int .i64 M, .int .i64 Z, .nilIface]) ∧ Below w.heap.size w w' := fun w => by have h := sp_mid a0 a1 w h1 i1 i2; rw [hM, hZ] at h; exact h
  have hrmid : ∀ w : World, Calls Tryd.prog 21 #[.agg #[.int .i64 a0, .int .i64 a1]] w fun e w' => e = .returned (.tuple #[.int .i64 M, .int .i64 Z]) ∧ Below w.heap.size w w' := fun w => by have h := rmid a0 a1 w h1 i1 i2; rw [hM, hZ] at h; exact h
  have HMD := Lib.hid hmid
  have HRM := Lib.hid hrmid
  clear hM hZ hmid hrmid
  go_enter Tryd.func3, Tryd.ntmps3
  go_upto_region 1 with (fail)
  go_cut [7, 8] from 19 to 20 (fun x y wx => RX w a0 a1 b0 b1 x y wx)
  case first =>
    go_region
    all_goals
      go_wp2_with (fail)
      go_meet
      exact ⟨_, _, rfl, rfl, (by repeat (first | assumption | refine Held.alloc ?_ _ | refine Held.drew ?_)), ⟨(by first | omega | (simp; done) | (simp; omega)), by go_simp, by go_simp⟩, ⟨(by first | omega | (simp; done) | (simp; omega)), by go_simp, by go_simp⟩, ⟨(by first | omega | (simp; done) | (simp; omega)), by go_simp, by go_simp⟩, ⟨(by first | omega | (simp; done) | (simp; omega)), by go_simp, by go_simp⟩⟩
  case rest =>
    obtain ⟨bx, bY, rfl, rfl, hH, Ka0, Kb0, Kx0, Ky0⟩ := hcut
    obtain ⟨wA, rfl⟩ : ∃ x, x = wc := ⟨_, rfl⟩
    have Ka := Lib.hid Ka0
    have Kb := Lib.hid Kb0
    have Kx := Lib.hid Kx0
    have Ky := Lib.hid Ky0
    clear Ka0 Kb0 Kx0 Ky0
    obtain ⟨za, ca0, ca1⟩ := Ka.out
    obtain ⟨zb, cb0, cb1⟩ := Kb.out
    obtain ⟨zx, cx0, cx1⟩ := Kx.out
    obtain ⟨zy, cy0, cy1⟩ := Ky.out
    go_wp2_with (fail)
    go_at_call 14
    (with_reducible refine (sp_meet_cc a0 a1 b0 b1 _ h1 h2 (meet_no1 h3)).mono ?_)
    rintro e w1 ⟨rfl, HB⟩
    have HBB := Below.trans (show Below wA.heap.size wA _ from by repeat (first | with_reducible assumption | exact Below.refl _ _ | refine Below.drew ?_ | refine Below.setCell ?_ (by first | omega | (simp; done) | (simp; omega)) _ | refine Below.alloc ?_ (by first | omega | (simp; done) | (simp; omega)) _)) (Below.mono (B' := wA.heap.size) HB (by first | omega | (simp; done) | (simp; omega)))
    clear za ca0 ca1 zb cb0 cb1 zx cx0 cx1 zy cy0 cy1
    replace Ka := Lib.hid (B2.step Ka.out HBB)
    replace Kb := Lib.hid (B2.step Kb.out HBB)
    replace Kx := Lib.hid (B2.step Kx.out HBB)
    replace Ky := Lib.hid (B2.step Ky.out HBB)
    replace hH := Held.step (w0 := w) hH HBB
    have hz1 := HBB.size
    obtain ⟨hc1, hf1⟩ := bcell HB
    clear HB HBB
    obtain ⟨za, ca0, ca1⟩ := Ka.out
    obtain ⟨zb, cb0, cb1⟩ := Kb.out
    obtain ⟨zx, cx0, cx1⟩ := Kx.out
    obtain ⟨zy, cy0, cy1⟩ := Ky.out
    go_wp2_with (fail)
    go_at_call 15
    (with_reducible refine (sp_grow_neg _ _ _ _ h1 g1).mono ?_)
    rintro e w2 ⟨rfl, HB⟩
    have Km := Lib.hid (B2.step (show B2 (w1.heap.size) (.int .i64 0) (.int .i64 0) _ from ⟨(by first | omega | (simp; done) | (simp; omega)), by go_simp, by go_simp⟩) HB)
    have HBB := Below.trans (show Below w1.heap.size w1 _ from by repeat (first | with_reducible assumption | exact Below.refl _ _ | refine Below.drew ?_ | refine Below.setCell ?_ (by first | omega | (simp; done) | (simp; omega)) _ | refine Below.alloc ?_ (by first | omega | (simp; done) | (simp; omega)) _)) (Below.mono (B' := w1.heap.size) HB (by first | omega | (simp; done) | (simp; omega)))
    clear za ca0 ca1 zb cb0 cb1 zx cx0 cx1 zy cy0 cy1
    replace Ka := Lib.hid (B2.step Ka.out HBB)
    replace Kb := Lib.hid (B2.step Kb.out HBB)
    replace Kx := Lib.hid (B2.step Kx.out HBB)
    replace Ky := Lib.hid (B2.step Ky.out HBB)
    replace hH := Held.step (w0 := w) hH HBB
    have hz2 := HBB.size
    obtain ⟨hc2, hf2⟩ := bcell HB
    clear HB HBB
    clear hc1 hf1
    obtain ⟨za, ca0, ca1⟩ := Ka.out
    obtain ⟨zb, cb0, cb1⟩ := Kb.out
    obtain ⟨zx, cx0, cx1⟩ := Kx.out
    obtain ⟨zy, cy0, cy1⟩ := Ky.out
    obtain ⟨zm, cm0, cm1⟩ := Km.out
    go_wp2_with (fail)
    go_at_call 16
    (with_reducible refine (HMD.out _).mono ?_)
    rintro e w3 ⟨rfl, HB⟩
    have Kg := Lib.hid (B2.step (show B2 (w2.heap.size) (.int .i64 0) (.int .i64 0) _ from ⟨(by first | omega | (simp; done) | (simp; omega)), by go_simp, by go_simp⟩) HB)
    have HBB := Below.trans (show Below w2.heap.size w2 _ from by repeat (first | with_reducible assumption | exact Below.refl _ _ | refine Below.drew ?_ | refine Below.setCell ?_ (by first | omega | (simp; done) | (simp; omega)) _ | refine Below.alloc ?_ (by first | omega | (simp; done) | (simp; omega)) _)) (Below.mono (B' := w2.heap.size) HB (by first | omega | (simp; done) | (simp; omega)))
    clear za ca0 ca1 zb cb0 cb1 zx cx0 cx1 zy cy0 cy1 zm cm0 cm1
    replace Ka := Lib.hid (B2.step Ka.out HBB)
    replace Kb := Lib.hid (B2.step Kb.out HBB)
    replace Kx := Lib.hid (B2.step Kx.out HBB)
    replace Ky := Lib.hid (B2.step Ky.out HBB)
    replace Km := Lib.hid (B2.step Km.out HBB)
    replace hH := Held.step (w0 := w) hH HBB
    have hz3 := HBB.size
    obtain ⟨hc3, hf3⟩ := bcell HB
    clear HB HBB
    clear hc2 hf2
    obtain ⟨za, ca0, ca1⟩ := Ka.out
    obtain ⟨zb, cb0, cb1⟩ := Kb.out
    obtain ⟨zx, cx0, cx1⟩ := Kx.out
    obtain ⟨zy, cy0, cy1⟩ := Ky.out
    obtain ⟨zm, cm0, cm1⟩ := Km.out
    obtain ⟨zg, cg0, cg1⟩ := Kg.out
    go_upto_region 5 with (fail)
    have hS0 : SS w (w.heap.size) (.int .i64 a0) (.int .i64 a1) (w.heap.size + 1) (.int .i64 b0) (.int .i64 b1) (bx) (.int .i64 a0) (.int .i64 a1) (bY) (.int .i64 b0) (.int .i64 b1) (w1.heap.size) (.int .i64 0) (.int .i64 0) (w2.heap.size) (.int .i64 0) (.int .i64 0) w3 := ⟨hH, Ka.out, Kb.out, Kx.out, Ky.out, Km.out, Kg.out⟩
    clear hc3 hf3 za ca0 ca1 zb cb0 cb1 zx cx0 cx1 zy cy0 cy1 zm cm0 cm1 zg cg0 cg1 Ka Kb Kx Ky Km Kg hH
    go_cut [63] from 39 to 62 (fun c wx => c = .bool false ∧ SS w (w.heap.size) (.int .i64 a0) (.int .i64 a1) (w.heap.size + 1) (.int .i64 b0) (.int .i64 b1) (bx) (.int .i64 a0) (.int .i64 a1) (bY) (.int .i64 b0) (.int .i64 b1) (w1.heap.size) (.int .i64 0) (.int .i64 0) (w2.heap.size) (.int .i64 0) (.int .i64 0) wx)
    case first =>
      have hva := h1
      have hdv : decide (a0 ≤ a1) = true := decide_eq_true h1
      by_cases hn0 : a0 ≤ n
      · have hd1 : decide (a0 ≤ n) = true := decide_eq_true hn0
        by_cases hn1 : n ≤ a1
        · have hd2 : decide (n ≤ a1) = true := decide_eq_true hn1
          have hin : a0 ≤ n ∧ n ≤ a1 := ⟨hn0, hn1⟩
          refine wp_region_S (S := (fun wx => SS w (w.heap.size) (.int .i64 a0) (.int .i64 a1) (w.heap.size + 1) (.int .i64 b0) (.int .i64 b1) (bx) (.int .i64 a0) (.int .i64 a1) (bY) (.int .i64 b0) (.int .i64 b1) (w1.heap.size) (.int .i64 0) (.int .i64 0) (w2.heap.size) (.int .i64 0) (.int .i64 0) wx)) (by kernel_rfl) (SS.drew hS0) ?_
          refine anyS_take (i := 0) (v := ?vinx0) rfl (by kernel_rfl) (by kernel_rfl) (by kernel_rfl) ?hyinx0 ?restinx0
          case hyinx0 => first | (refine StepS.read (by rfl) (fun wx hSw => ?_); (try dsimp only at hSw); obtain ⟨hHx, ⟨c00, c01, c02⟩, ⟨c10, c11, c12⟩, ⟨c20, c21, c22⟩, ⟨c30, c31, c32⟩, ⟨c40, c41, c42⟩, c50, c51, c52⟩ := hSw; go_simp; first | done | with_reducible rfl) | exact Or.inr ⟨by rfl, rfl⟩
          try simp only [List.getElem_toArray, List.getElem_cons_succ, List.getElem_cons_zero, Act.put, List.setIfInBounds_toArray, List.set_cons_zero, List.set_cons_succ]
          refine anyS_take (i := 1) (v := ?vinx1) rfl (by kernel_rfl) (by kernel_rfl) (by kernel_rfl) ?hyinx1 ?restinx1
          case hyinx1 => first | (refine StepS.read (by rfl) (fun wx hSw => ?_); (try dsimp only at hSw); obtain ⟨hHx, ⟨c00, c01, c02⟩, ⟨c10, c11, c12⟩, ⟨c20, c21, c22⟩, ⟨c30, c31, c32⟩, ⟨c40, c41, c42⟩, c50, c51, c52⟩ := hSw; go_simp; first | done | with_reducible rfl) | exact Or.inr ⟨by rfl, rfl⟩
          try simp only [List.getElem_toArray, List.getElem_cons_succ, List.getElem_cons_zero, Act.put, List.setIfInBounds_toArray, List.set_cons_zero, List.set_cons_succ]
          refine anyS_take (i := 2) (v := .bool true) rfl (by kernel_rfl) (by kernel_rfl) (by kernel_rfl) ?hyinx2 ?restinx2
          case hyinx2 => (refine Or.inl ⟨by rfl, fun wx hSw => ?_⟩; (try dsimp only at hSw); have hSk := hSw; obtain ⟨hHx, ⟨c00, c01, c02⟩, ⟨c10, c11, c12⟩, ⟨c20, c21, c22⟩, ⟨c30, c31, c32⟩, ⟨c40, c41, c42⟩, c50, c51, c52⟩ := hSw; go_simp; refine Or.inr ⟨_, _, _, rfl, ?_⟩; (with_reducible refine (sp_has_is _ _ _ _ hin).mono ?_); rintro e w' ⟨rfl, hb'⟩; exact ⟨rfl, SS.step hSk hb'⟩)
          try simp only [List.getElem_toArray, List.getElem_cons_succ, List.getElem_cons_zero, Act.put, List.setIfInBounds_toArray, List.set_cons_zero, List.set_cons_succ]
          refine anyS_take (i := 3) (v := ?vinx3) rfl (by kernel_rfl) (by kernel_rfl) (by kernel_rfl) ?hyinx3 ?restinx3
          case hyinx3 => first | (refine StepS.read (by rfl) (fun wx hSw => ?_); (try dsimp only at hSw); obtain ⟨hHx, ⟨c00, c01, c02⟩, ⟨c10, c11, c12⟩, ⟨c20, c21, c22⟩, ⟨c30, c31, c32⟩, ⟨c40, c41, c42⟩, c50, c51, c52⟩ := hSw; go_simp; first | done | with_reducible rfl) | exact Or.inr ⟨by rfl, rfl⟩
          try simp only [List.getElem_toArray, List.getElem_cons_succ, List.getElem_cons_zero, Act.put, List.setIfInBounds_toArray, List.set_cons_zero, List.set_cons_succ]
          refine anyS_take (i := 4) (v := ?vinx4) rfl (by kernel_rfl) (by kernel_rfl) (by kernel_rfl) ?hyinx4 ?restinx4
          case hyinx4 => first | (refine StepS.read (by rfl) (fun wx hSw => ?_); (try dsimp only at hSw); obtain ⟨hHx, ⟨c00, c01, c02⟩, ⟨c10, c11, c12⟩, ⟨c20, c21, c22⟩, ⟨c30, c31, c32⟩, ⟨c40, c41, c42⟩, c50, c51, c52⟩ := hSw; go_simp; first | done | with_reducible rfl) | exact Or.inr ⟨by rfl, rfl⟩
          try simp only [List.getElem_toArray, List.getElem_cons_succ, List.getElem_cons_zero, Act.put, List.setIfInBounds_toArray, List.set_cons_zero, List.set_cons_succ]
          refine anyS_take (i := 5) (v := ?vinx5) rfl (by kernel_rfl) (by kernel_rfl) (by kernel_rfl) ?hyinx5 ?restinx5
          case hyinx5 => first | (refine StepS.read (by rfl) (fun wx hSw => ?_); (try dsimp only at hSw); obtain ⟨hHx, ⟨c00, c01, c02⟩, ⟨c10, c11, c12⟩, ⟨c20, c21, c22⟩, ⟨c30, c31, c32⟩, ⟨c40, c41, c42⟩, c50, c51, c52⟩ := hSw; go_simp; first | done | with_reducible rfl) | exact Or.inr ⟨by rfl, rfl⟩
          try simp only [List.getElem_toArray, List.getElem_cons_succ, List.getElem_cons_zero, Act.put, List.setIfInBounds_toArray, List.set_cons_zero, List.set_cons_succ]
          refine anyS_take (i := 6) (v := ?vinx6) rfl (by kernel_rfl) (by kernel_rfl) (by kernel_rfl) ?hyinx6 ?restinx6
          case hyinx6 => first | (refine StepS.read (by rfl) (fun wx hSw => ?_); (try dsimp only at hSw); obtain ⟨hHx, ⟨c00, c01, c02⟩, ⟨c10, c11, c12⟩, ⟨c20, c21, c22⟩, ⟨c30, c31, c32⟩, ⟨c40, c41, c42⟩, c50, c51, c52⟩ := hSw; go_simp; first | done | with_reducible rfl) | exact Or.inr ⟨by rfl, rfl⟩
          try simp only [List.getElem_toArray, List.getElem_cons_succ, List.getElem_cons_zero, Act.put, List.setIfInBounds_toArray, List.set_cons_zero, List.set_cons_succ]
          refine anyS_take (i := 7) (v := ?vinx7) rfl (by kernel_rfl) (by kernel_rfl) (by kernel_rfl) ?hyinx7 ?restinx7
          case hyinx7 => first | (refine StepS.read (by rfl) (fun wx hSw => ?_); (try dsimp only at hSw); obtain ⟨hHx, ⟨c00, c01, c02⟩, ⟨c10, c11, c12⟩, ⟨c20, c21, c22⟩, ⟨c30, c31, c32⟩, ⟨c40, c41, c42⟩, c50, c51, c52⟩ := hSw; go_simp; first | done | with_reducible rfl) | exact Or.inr ⟨by rfl, rfl⟩
          try simp only [List.getElem_toArray, List.getElem_cons_succ, List.getElem_cons_zero, Act.put, List.setIfInBounds_toArray, List.set_cons_zero, List.set_cons_succ]
          refine anyS_take (i := 8) (v := ?vinx8) rfl (by kernel_rfl) (by kernel_rfl) (by kernel_rfl) ?hyinx8 ?restinx8
          case hyinx8 => first | (refine StepS.read (by rfl) (fun wx hSw => ?_); (try dsimp only at hSw); obtain ⟨hHx, ⟨c00, c01, c02⟩, ⟨c10, c11, c12⟩, ⟨c20, c21, c22⟩, ⟨c30, c31, c32⟩, ⟨c40, c41, c42⟩, c50, c51, c52⟩ := hSw; go_simp; first | done | with_reducible rfl) | exact Or.inr ⟨by rfl, rfl⟩
          try simp only [List.getElem_toArray, List.getElem_cons_succ, List.getElem_cons_zero, Act.put, List.setIfInBounds_toArray, List.set_cons_zero, List.set_cons_succ]
          refine anyS_take (i := 9) (v := ?vinx9) rfl (by kernel_rfl) (by kernel_rfl) (by kernel_rfl) ?hyinx9 ?restinx9
          case hyinx9 => first | (refine StepS.read (by rfl) (fun wx hSw => ?_); (try dsimp only at hSw); obtain ⟨hHx, ⟨c00, c01, c02⟩, ⟨c10, c11, c12⟩, ⟨c20, c21, c22⟩, ⟨c30, c31, c32⟩, ⟨c40, c41, c42⟩, c50, c51, c52⟩ := hSw; go_simp; first | done | with_reducible rfl) | exact Or.inr ⟨by rfl, rfl⟩
          try simp only [List.getElem_toArray, List.getElem_cons_succ, List.getElem_cons_zero, Act.put, List.setIfInBounds_toArray, List.set_cons_zero, List.set_cons_succ]
          refine anyS_take (i := 10) (v := ?vinx10) rfl (by kernel_rfl) (by kernel_rfl) (by kernel_rfl) ?hyinx10 ?restinx10
          case hyinx10 => first | (refine StepS.read (by rfl) (fun wx hSw => ?_); (try dsimp only at hSw); obtain ⟨hHx, ⟨c00, c01, c02⟩, ⟨c10, c11, c12⟩, ⟨c20, c21, c22⟩, ⟨c30, c31, c32⟩, ⟨c40, c41, c42⟩, c50, c51, c52⟩ := hSw; go_simp; first | done | with_reducible rfl) | exact Or.inr ⟨by rfl, rfl⟩
          try simp only [List.getElem_toArray, List.getElem_cons_succ, List.getElem_cons_zero, Act.put, List.setIfInBounds_toArray, List.set_cons_zero, List.set_cons_succ]
          refine anyS_take (i := 11) (v := ?vinx11) rfl (by kernel_rfl) (by kernel_rfl) (by kernel_rfl) ?hyinx11 ?restinx11
          case hyinx11 => first | (refine StepS.read (by rfl) (fun wx hSw => ?_); (try dsimp only at hSw); obtain ⟨hHx, ⟨c00, c01, c02⟩, ⟨c10, c11, c12⟩, ⟨c20, c21, c22⟩, ⟨c30, c31, c32⟩, ⟨c40, c41, c42⟩, c50, c51, c52⟩ := hSw; go_simp; first | done | with_reducible rfl) | exact Or.inr ⟨by rfl, rfl⟩
          try simp only [List.getElem_toArray, List.getElem_cons_succ, List.getElem_cons_zero, Act.put, List.setIfInBounds_toArray, List.set_cons_zero, List.set_cons_succ]
          refine anyS_take (i := 12) (v := ?vinx12) rfl (by kernel_rfl) (by kernel_rfl) (by kernel_rfl) ?hyinx12 ?restinx12
          case hyinx12 => first | (refine StepS.read (by rfl) (fun wx hSw => ?_); (try dsimp only at hSw); obtain ⟨hHx, ⟨c00, c01, c02⟩, ⟨c10, c11, c12⟩, ⟨c20, c21, c22⟩, ⟨c30, c31, c32⟩, ⟨c40, c41, c42⟩, c50, c51, c52⟩ := hSw; go_simp; first | done | with_reducible rfl) | exact Or.inr ⟨by rfl, rfl⟩
          try simp only [List.getElem_toArray, List.getElem_cons_succ, List.getElem_cons_zero, Act.put, List.setIfInBounds_toArray, List.set_cons_zero, List.set_cons_succ]
          refine anyS_take (i := 13) (v := ?vinx13) rfl (by kernel_rfl) (by kernel_rfl) (by kernel_rfl) ?hyinx13 ?restinx13
          case hyinx13 => first | (refine StepS.read (by rfl) (fun wx hSw => ?_); (try dsimp only at hSw); obtain ⟨hHx, ⟨c00, c01, c02⟩, ⟨c10, c11, c12⟩, ⟨c20, c21, c22⟩, ⟨c30, c31, c32⟩, ⟨c40, c41, c42⟩, c50, c51, c52⟩ := hSw; go_simp; first | done | with_reducible rfl) | exact Or.inr ⟨by rfl, rfl⟩
          try simp only [List.getElem_toArray, List.getElem_cons_succ, List.getElem_cons_zero, Act.put, List.setIfInBounds_toArray, List.set_cons_zero, List.set_cons_succ]
          refine anyS_take (i := 14) (v := ?vinx14) rfl (by kernel_rfl) (by kernel_rfl) (by kernel_rfl) ?hyinx14 ?restinx14
          case hyinx14 => first | (refine StepS.read (by rfl) (fun wx hSw => ?_); (try dsimp only at hSw); obtain ⟨hHx, ⟨c00, c01, c02⟩, ⟨c10, c11, c12⟩, ⟨c20, c21, c22⟩, ⟨c30, c31, c32⟩, ⟨c40, c41, c42⟩, c50, c51, c52⟩ := hSw; go_simp; first | done | with_reducible rfl) | exact Or.inr ⟨by rfl, rfl⟩
          try simp only [List.getElem_toArray, List.getElem_cons_succ, List.getElem_cons_zero, Act.put, List.setIfInBounds_toArray, List.set_cons_zero, List.set_cons_succ]
          refine anyS_take (i := 15) (v := ?vinx15) rfl (by kernel_rfl) (by kernel_rfl) (by kernel_rfl) ?hyinx15 ?restinx15
          case hyinx15 => first | (refine StepS.read (by rfl) (fun wx hSw => ?_); (try dsimp only at hSw); obtain ⟨hHx, ⟨c00, c01, c02⟩, ⟨c10, c11, c12⟩, ⟨c20, c21, c22⟩, ⟨c30, c31, c32⟩, ⟨c40, c41, c42⟩, c50, c51, c52⟩ := hSw; go_simp; first | done | with_reducible rfl) | exact Or.inr ⟨by rfl, rfl⟩
          try simp only [List.getElem_toArray, List.getElem_cons_succ, List.getElem_cons_zero, Act.put, List.setIfInBounds_toArray, List.set_cons_zero, List.set_cons_succ]
          refine anyS_take (i := 16) (v := .nilIface) rfl (by kernel_rfl) (by kernel_rfl) (by kernel_rfl) ?hyinx16 ?restinx16
          case hyinx16 => (refine Or.inl ⟨by rfl, fun wx hSw => ?_⟩; (try dsimp only at hSw); have hSk := hSw; obtain ⟨hHx, ⟨c00, c01, c02⟩, ⟨c10, c11, c12⟩, ⟨c20, c21, c22⟩, ⟨c30, c31, c32⟩, ⟨c40, c41, c42⟩, c50, c51, c52⟩ := hSw; go_simp; refine Or.inr ⟨_, _, _, rfl, ?_⟩; (with_reducible refine (sp_check_ok _ _ _ hva).mono ?_); rintro e w' ⟨rfl, hb'⟩; exact ⟨rfl, SS.step hSk hb'⟩)
          try simp only [List.getElem_toArray, List.getElem_cons_succ, List.getElem_cons_zero, Act.put, List.setIfInBounds_toArray, List.set_cons_zero, List.set_cons_succ]
          refine anyS_take (i := 17) (v := ?vinx17) rfl (by kernel_rfl) (by kernel_rfl) (by kernel_rfl) ?hyinx17 ?restinx17
          case hyinx17 => first | (refine StepS.read (by rfl) (fun wx hSw => ?_); (try dsimp only at hSw); obtain ⟨hHx, ⟨c00, c01, c02⟩, ⟨c10, c11, c12⟩, ⟨c20, c21, c22⟩, ⟨c30, c31, c32⟩, ⟨c40, c41, c42⟩, c50, c51, c52⟩ := hSw; go_simp; first | done | with_reducible rfl) | exact Or.inr ⟨by rfl, rfl⟩
          try simp only [List.getElem_toArray, List.getElem_cons_succ, List.getElem_cons_zero, Act.put, List.setIfInBounds_toArray, List.set_cons_zero, List.set_cons_succ]
          refine anyS_take (i := 18) (v := ?vinx18) rfl (by kernel_rfl) (by kernel_rfl) (by kernel_rfl) ?hyinx18 ?restinx18
          case hyinx18 => first | (refine StepS.read (by rfl) (fun wx hSw => ?_); (try dsimp only at hSw); obtain ⟨hHx, ⟨c00, c01, c02⟩, ⟨c10, c11, c12⟩, ⟨c20, c21, c22⟩, ⟨c30, c31, c32⟩, ⟨c40, c41, c42⟩, c50, c51, c52⟩ := hSw; go_simp; first | done | with_reducible rfl) | exact Or.inr ⟨by rfl, rfl⟩
          try simp only [List.getElem_toArray, List.getElem_cons_succ, List.getElem_cons_zero, Act.put, List.setIfInBounds_toArray, List.set_cons_zero, List.set_cons_succ]
          refine anyS_take (i := 19) (v := ?vinx19) rfl (by kernel_rfl) (by kernel_rfl) (by kernel_rfl) ?hyinx19 ?restinx19
          case hyinx19 => first | (refine StepS.read (by rfl) (fun wx hSw => ?_); (try dsimp only at hSw); obtain ⟨hHx, ⟨c00, c01, c02⟩, ⟨c10, c11, c12⟩, ⟨c20, c21, c22⟩, ⟨c30, c31, c32⟩, ⟨c40, c41, c42⟩, c50, c51, c52⟩ := hSw; go_simp; first | done | with_reducible rfl) | exact Or.inr ⟨by rfl, rfl⟩
          try simp only [List.getElem_toArray, List.getElem_cons_succ, List.getElem_cons_zero, Act.put, List.setIfInBounds_toArray, List.set_cons_zero, List.set_cons_succ]
          refine anyS_take (i := 20) (v := ?vinx20) rfl (by kernel_rfl) (by kernel_rfl) (by kernel_rfl) ?hyinx20 ?restinx20
          case hyinx20 => first | (refine StepS.read (by rfl) (fun wx hSw => ?_); (try dsimp only at hSw); obtain ⟨hHx, ⟨c00, c01, c02⟩, ⟨c10, c11, c12⟩, ⟨c20, c21, c22⟩, ⟨c30, c31, c32⟩, ⟨c40, c41, c42⟩, c50, c51, c52⟩ := hSw; go_simp; first | done | with_reducible rfl) | exact Or.inr ⟨by rfl, rfl⟩
          try simp only [List.getElem_toArray, List.getElem_cons_succ, List.getElem_cons_zero, Act.put, List.setIfInBounds_toArray, List.set_cons_zero, List.set_cons_succ]
          refine anyS_take (i := 21) (v := ?vinx21) rfl (by kernel_rfl) (by kernel_rfl) (by kernel_rfl) ?hyinx21 ?restinx21
          case hyinx21 => first | (refine StepS.read (by rfl) (fun wx hSw => ?_); (try dsimp only at hSw); obtain ⟨hHx, ⟨c00, c01, c02⟩, ⟨c10, c11, c12⟩, ⟨c20, c21, c22⟩, ⟨c30, c31, c32⟩, ⟨c40, c41, c42⟩, c50, c51, c52⟩ := hSw; go_simp; first | done | with_reducible rfl) | exact Or.inr ⟨by rfl, rfl⟩
          try simp only [List.getElem_toArray, List.getElem_cons_succ, List.getElem_cons_zero, Act.put, List.setIfInBounds_toArray, List.set_cons_zero, List.set_cons_succ]
          refine anyS_take (i := 22) (v := ?vinx22) rfl (by kernel_rfl) (by kernel_rfl) (by kernel_rfl) ?hyinx22 ?restinx22
          case hyinx22 => first | (refine StepS.read (by rfl) (fun wx hSw => ?_); (try dsimp only at hSw); obtain ⟨hHx, ⟨c00, c01, c02⟩, ⟨c10, c11, c12⟩, ⟨c20, c21, c22⟩, ⟨c30, c31, c32⟩, ⟨c40, c41, c42⟩, c50, c51, c52⟩ := hSw; go_simp; first | done | with_reducible rfl) | exact Or.inr ⟨by rfl, rfl⟩
          try simp only [List.getElem_toArray, List.getElem_cons_succ, List.getElem_cons_zero, Act.put, List.setIfInBounds_toArray, List.set_cons_zero, List.set_cons_succ]
          refine anyS_take (i := 23) (v := ?vinx23) rfl (by kernel_rfl) (by kernel_rfl) (by kernel_rfl) ?hyinx23 ?restinx23
          case hyinx23 => first | (refine StepS.read (by rfl) (fun wx hSw => ?_); (try dsimp only at hSw); obtain ⟨hHx, ⟨c00, c01, c02⟩, ⟨c10, c11, c12⟩, ⟨c20, c21, c22⟩, ⟨c30, c31, c32⟩, ⟨c40, c41, c42⟩, c50, c51, c52⟩ := hSw; go_simp; first | done | with_reducible rfl) | exact Or.inr ⟨by rfl, rfl⟩
          try simp only [List.getElem_toArray, List.getElem_cons_succ, List.getElem_cons_zero, Act.put, List.setIfInBounds_toArray, List.set_cons_zero, List.set_cons_succ]
          refine anyS_take (i := 24) (v := ?vinx24) rfl (by kernel_rfl) (by kernel_rfl) (by kernel_rfl) ?hyinx24 ?restinx24
          case hyinx24 => first | (refine StepS.read (by rfl) (fun wx hSw => ?_); (try dsimp only at hSw); obtain ⟨hHx, ⟨c00, c01, c02⟩, ⟨c10, c11, c12⟩, ⟨c20, c21, c22⟩, ⟨c30, c31, c32⟩, ⟨c40, c41, c42⟩, c50, c51, c52⟩ := hSw; go_simp; first | done | with_reducible rfl) | exact Or.inr ⟨by rfl, rfl⟩
          try simp only [List.getElem_toArray, List.getElem_cons_succ, List.getElem_cons_zero, Act.put, List.setIfInBounds_toArray, List.set_cons_zero, List.set_cons_succ]
          refine anyS_done (by kernel_rfl) (fun wx hSw => ?_) _
          (try dsimp only at hSw)
          go_wp2_with (fail)
          go_meet
          exact ⟨rfl, hSw⟩
        · have hd2 : decide (n ≤ a1) = false := decide_eq_false hn1
          have hin : ¬ (a0 ≤ n ∧ n ≤ a1) := fun h => hn1 h.2
          refine wp_region_S (S := (fun wx => SS w (w.heap.size) (.int .i64 a0) (.int .i64 a1) (w.heap.size + 1) (.int .i64 b0) (.int .i64 b1) (bx) (.int .i64 a0) (.int .i64 a1) (bY) (.int .i64 b0) (.int .i64 b1) (w1.heap.size) (.int .i64 0) (.int .i64 0) (w2.heap.size) (.int .i64 0) (.int .i64 0) wx)) (by kernel_rfl) (SS.drew hS0) ?_
          refine anyS_take (i := 0) (v := ?vhix0) rfl (by kernel_rfl) (by kernel_rfl) (by kernel_rfl) ?hyhix0 ?resthix0
          case hyhix0 => first | (refine StepS.read (by rfl) (fun wx hSw => ?_); (try dsimp only at hSw); obtain ⟨hHx, ⟨c00, c01, c02⟩, ⟨c10, c11, c12⟩, ⟨c20, c21, c22⟩, ⟨c30, c31, c32⟩, ⟨c40, c41, c42⟩, c50, c51, c52⟩ := hSw; go_simp; first | done | with_reducible rfl) | exact Or.inr ⟨by rfl, rfl⟩
          try simp only [List.getElem_toArray, List.getElem_cons_succ, List.getElem_cons_zero, Act.put, List.setIfInBounds_toArray, List.set_cons_zero, List.set_cons_succ]
          refine anyS_take (i := 1) (v := ?vhix1) rfl (by kernel_rfl) (by kernel_rfl) (by kernel_rfl) ?hyhix1 ?resthix1
          case hyhix1 => first | (refine StepS.read (by rfl) (fun wx hSw => ?_); (try dsimp only at hSw); obtain ⟨hHx, ⟨c00, c01, c02⟩, ⟨c10, c11, c12⟩, ⟨c20, c21, c22⟩, ⟨c30, c31, c32⟩, ⟨c40, c41, c42⟩, c50, c51, c52⟩ := hSw; go_simp; first | done | with_reducible rfl) | exact Or.inr ⟨by rfl, rfl⟩
          try simp only [List.getElem_toArray, List.getElem_cons_succ, List.getElem_cons_zero, Act.put, List.setIfInBounds_toArray, List.set_cons_zero, List.set_cons_succ]
          refine anyS_take (i := 2) (v := .bool false) rfl (by kernel_rfl) (by kernel_rfl) (by kernel_rfl) ?hyhix2 ?resthix2
          case hyhix2 => (refine Or.inl ⟨by rfl, fun wx hSw => ?_⟩; (try dsimp only at hSw); have hSk := hSw; obtain ⟨hHx, ⟨c00, c01, c02⟩, ⟨c10, c11, c12⟩, ⟨c20, c21, c22⟩, ⟨c30, c31, c32⟩, ⟨c40, c41, c42⟩, c50, c51, c52⟩ := hSw; go_simp; refine Or.inr ⟨_, _, _, rfl, ?_⟩; (with_reducible refine (sp_has_not _ _ _ _ hin).mono ?_); rintro e w' ⟨rfl, hb'⟩; exact ⟨rfl, SS.step hSk hb'⟩)
          try simp only [List.getElem_toArray, List.getElem_cons_succ, List.getElem_cons_zero, Act.put, List.setIfInBounds_toArray, List.set_cons_zero, List.set_cons_succ]
          refine anyS_take (i := 3) (v := ?vhix3) rfl (by kernel_rfl) (by kernel_rfl) (by kernel_rfl) ?hyhix3 ?resthix3
          case hyhix3 => first | (refine StepS.read (by rfl) (fun wx hSw => ?_); (try dsimp only at hSw); obtain ⟨hHx, ⟨c00, c01, c02⟩, ⟨c10, c11, c12⟩, ⟨c20, c21, c22⟩, ⟨c30, c31, c32⟩, ⟨c40, c41, c42⟩, c50, c51, c52⟩ := hSw; go_simp; first | done | with_reducible rfl) | exact Or.inr ⟨by rfl, rfl⟩
          try simp only [List.getElem_toArray, List.getElem_cons_succ, List.getElem_cons_zero, Act.put, List.setIfInBounds_toArray, List.set_cons_zero, List.set_cons_succ]
          refine anyS_take (i := 4) (v := ?vhix4) rfl (by kernel_rfl) (by kernel_rfl) (by kernel_rfl) ?hyhix4 ?resthix4
          case hyhix4 => first | (refine StepS.read (by rfl) (fun wx hSw => ?_); (try dsimp only at hSw); obtain ⟨hHx, ⟨c00, c01, c02⟩, ⟨c10, c11, c12⟩, ⟨c20, c21, c22⟩, ⟨c30, c31, c32⟩, ⟨c40, c41, c42⟩, c50, c51, c52⟩ := hSw; go_simp; first | done | with_reducible rfl) | exact Or.inr ⟨by rfl, rfl⟩
          try simp only [List.getElem_toArray, List.getElem_cons_succ, List.getElem_cons_zero, Act.put, List.setIfInBounds_toArray, List.set_cons_zero, List.set_cons_succ]
          refine anyS_take (i := 5) (v := ?vhix5) rfl (by kernel_rfl) (by kernel_rfl) (by kernel_rfl) ?hyhix5 ?resthix5
          case hyhix5 => first | (refine StepS.read (by rfl) (fun wx hSw => ?_); (try dsimp only at hSw); obtain ⟨hHx, ⟨c00, c01, c02⟩, ⟨c10, c11, c12⟩, ⟨c20, c21, c22⟩, ⟨c30, c31, c32⟩, ⟨c40, c41, c42⟩, c50, c51, c52⟩ := hSw; go_simp; first | done | with_reducible rfl) | exact Or.inr ⟨by rfl, rfl⟩
          try simp only [List.getElem_toArray, List.getElem_cons_succ, List.getElem_cons_zero, Act.put, List.setIfInBounds_toArray, List.set_cons_zero, List.set_cons_succ]
          refine anyS_take (i := 6) (v := ?vhix6) rfl (by kernel_rfl) (by kernel_rfl) (by kernel_rfl) ?hyhix6 ?resthix6
          case hyhix6 => first | (refine StepS.read (by rfl) (fun wx hSw => ?_); (try dsimp only at hSw); obtain ⟨hHx, ⟨c00, c01, c02⟩, ⟨c10, c11, c12⟩, ⟨c20, c21, c22⟩, ⟨c30, c31, c32⟩, ⟨c40, c41, c42⟩, c50, c51, c52⟩ := hSw; go_simp; first | done | with_reducible rfl) | exact Or.inr ⟨by rfl, rfl⟩
          try simp only [List.getElem_toArray, List.getElem_cons_succ, List.getElem_cons_zero, Act.put, List.setIfInBounds_toArray, List.set_cons_zero, List.set_cons_succ]
          refine anyS_take (i := 7) (v := ?vhix7) rfl (by kernel_rfl) (by kernel_rfl) (by kernel_rfl) ?hyhix7 ?resthix7
          case hyhix7 => first | (refine StepS.read (by rfl) (fun wx hSw => ?_); (try dsimp only at hSw); obtain ⟨hHx, ⟨c00, c01, c02⟩, ⟨c10, c11, c12⟩, ⟨c20, c21, c22⟩, ⟨c30, c31, c32⟩, ⟨c40, c41, c42⟩, c50, c51, c52⟩ := hSw; go_simp; first | done | with_reducible rfl) | exact Or.inr ⟨by rfl, rfl⟩
          try simp only [List.getElem_toArray, List.getElem_cons_succ, List.getElem_cons_zero, Act.put, List.setIfInBounds_toArray, List.set_cons_zero, List.set_cons_succ]
          refine anyS_take (i := 8) (v := ?vhix8) rfl (by kernel_rfl) (by kernel_rfl) (by kernel_rfl) ?hyhix8 ?resthix8
          case hyhix8 => first | (refine StepS.read (by rfl) (fun wx hSw => ?_); (try dsimp only at hSw); obtain ⟨hHx, ⟨c00, c01, c02⟩, ⟨c10, c11, c12⟩, ⟨c20, c21, c22⟩, ⟨c30, c31, c32⟩, ⟨c40, c41, c42⟩, c50, c51, c52⟩ := hSw; go_simp; first | done | with_reducible rfl) | exact Or.inr ⟨by rfl, rfl⟩
          try simp only [List.getElem_toArray, List.getElem_cons_succ, List.getElem_cons_zero, Act.put, List.setIfInBounds_toArray, List.set_cons_zero, List.set_cons_succ]
          refine anyS_take (i := 9) (v := ?vhix9) rfl (by kernel_rfl) (by kernel_rfl) (by kernel_rfl) ?hyhix9 ?resthix9
          case hyhix9 => first | (refine StepS.read (by rfl) (fun wx hSw => ?_); (try dsimp only at hSw); obtain ⟨hHx, ⟨c00, c01, c02⟩, ⟨c10, c11, c12⟩, ⟨c20, c21, c22⟩, ⟨c30, c31, c32⟩, ⟨c40, c41, c42⟩, c50, c51, c52⟩ := hSw; go_simp; first | done | with_reducible rfl) | exact Or.inr ⟨by rfl, rfl⟩
          try simp only [List.getElem_toArray, List.getElem_cons_succ, List.getElem_cons_zero, Act.put, List.setIfInBounds_toArray, List.set_cons_zero, List.set_cons_succ]
          refine anyS_take (i := 10) (v := ?vhix10) rfl (by kernel_rfl) (by kernel_rfl) (by kernel_rfl) ?hyhix10 ?resthix10
          case hyhix10 => first | (refine StepS.read (by rfl) (fun wx hSw => ?_); (try dsimp only at hSw); obtain ⟨hHx, ⟨c00, c01, c02⟩, ⟨c10, c11, c12⟩, ⟨c20, c21, c22⟩, ⟨c30, c31, c32⟩, ⟨c40, c41, c42⟩, c50, c51, c52⟩ := hSw; go_simp; first | done | with_reducible rfl) | exact Or.inr ⟨by rfl, rfl⟩
          try simp only [List.getElem_toArray, List.getElem_cons_succ, List.getElem_cons_zero, Act.put, List.setIfInBounds_toArray, List.set_cons_zero, List.set_cons_succ]
          refine anyS_take (i := 11) (v := ?vhix11) rfl (by kernel_rfl) (by kernel_rfl) (by kernel_rfl) ?hyhix11 ?resthix11
          case hyhix11 => first | (refine StepS.read (by rfl) (fun wx hSw => ?_); (try dsimp only at hSw); obtain ⟨hHx, ⟨c00, c01, c02⟩, ⟨c10, c11, c12⟩, ⟨c20, c21, c22⟩, ⟨c30, c31, c32⟩, ⟨c40, c41, c42⟩, c50, c51, c52⟩ := hSw; go_simp; first | done | with_reducible rfl) | exact Or.inr ⟨by rfl, rfl⟩
          try simp only [List.getElem_toArray, List.getElem_cons_succ, List.getElem_cons_zero, Act.put, List.setIfInBounds_toArray, List.set_cons_zero, List.set_cons_succ]
          refine anyS_take (i := 12) (v := ?vhix12) rfl (by kernel_rfl) (by kernel_rfl) (by kernel_rfl) ?hyhix12 ?resthix12
          case hyhix12 => first | (refine StepS.read (by rfl) (fun wx hSw => ?_); (try dsimp only at hSw); obtain ⟨hHx, ⟨c00, c01, c02⟩, ⟨c10, c11, c12⟩, ⟨c20, c21, c22⟩, ⟨c30, c31, c32⟩, ⟨c40, c41, c42⟩, c50, c51, c52⟩ := hSw; go_simp; first | done | with_reducible rfl) | exact Or.inr ⟨by rfl, rfl⟩
          try simp only [List.getElem_toArray, List.getElem_cons_succ, List.getElem_cons_zero, Act.put, List.setIfInBounds_toArray, List.set_cons_zero, List.set_cons_succ]
          refine anyS_take (i := 13) (v := ?vhix13) rfl (by kernel_rfl) (by kernel_rfl) (by kernel_rfl) ?hyhix13 ?resthix13
          case hyhix13 => first | (refine StepS.read (by rfl) (fun wx hSw => ?_); (try dsimp only at hSw); obtain ⟨hHx, ⟨c00, c01, c02⟩, ⟨c10, c11, c12⟩, ⟨c20, c21, c22⟩, ⟨c30, c31, c32⟩, ⟨c40, c41, c42⟩, c50, c51, c52⟩ := hSw; go_simp; first | done | with_reducible rfl) | exact Or.inr ⟨by rfl, rfl⟩
          try simp only [List.getElem_toArray, List.getElem_cons_succ, List.getElem_cons_zero, Act.put, List.setIfInBounds_toArray, List.set_cons_zero, List.set_cons_succ]
          refine anyS_take (i := 14) (v := ?vhix14) rfl (by kernel_rfl) (by kernel_rfl) (by kernel_rfl) ?hyhix14 ?resthix14
          case hyhix14 => first | (refine StepS.read (by rfl) (fun wx hSw => ?_); (try dsimp only at hSw); obtain ⟨hHx, ⟨c00, c01, c02⟩, ⟨c10, c11, c12⟩, ⟨c20, c21, c22⟩, ⟨c30, c31, c32⟩, ⟨c40, c41, c42⟩, c50, c51, c52⟩ := hSw; go_simp; first | done | with_reducible rfl) | exact Or.inr ⟨by rfl, rfl⟩
          try simp only [List.getElem_toArray, List.getElem_cons_succ, List.getElem_cons_zero, Act.put, List.setIfInBounds_toArray, List.set_cons_zero, List.set_cons_succ]
          refine anyS_take (i := 15) (v := ?vhix15) rfl (by kernel_rfl) (by kernel_rfl) (by kernel_rfl) ?hyhix15 ?resthix15
          case hyhix15 => first | (refine StepS.read (by rfl) (fun wx hSw => ?_); (try dsimp only at hSw); obtain ⟨hHx, ⟨c00, c01, c02⟩, ⟨c10, c11, c12⟩, ⟨c20, c21, c22⟩, ⟨c30, c31, c32⟩, ⟨c40, c41, c42⟩, c50, c51, c52⟩ := hSw; go_simp; first | done | with_reducible rfl) | exact Or.inr ⟨by rfl, rfl⟩
          try simp only [List.getElem_toArray, List.getElem_cons_succ, List.getElem_cons_zero, Act.put, List.setIfInBounds_toArray, List.set_cons_zero, List.set_cons_succ]
          refine anyS_take (i := 16) (v := .nilIface) rfl (by kernel_rfl) (by kernel_rfl) (by kernel_rfl) ?hyhix16 ?resthix16
          case hyhix16 => (refine Or.inl ⟨by rfl, fun wx hSw => ?_⟩; (try dsimp only at hSw); have hSk := hSw; obtain ⟨hHx, ⟨c00, c01, c02⟩, ⟨c10, c11, c12⟩, ⟨c20, c21, c22⟩, ⟨c30, c31, c32⟩, ⟨c40, c41, c42⟩, c50, c51, c52⟩ := hSw; go_simp; refine Or.inr ⟨_, _, _, rfl, ?_⟩; (with_reducible refine (sp_check_ok _ _ _ hva).mono ?_); rintro e w' ⟨rfl, hb'⟩; exact ⟨rfl, SS.step hSk hb'⟩)
          try simp only [List.getElem_toArray, List.getElem_cons_succ, List.getElem_cons_zero, Act.put, List.setIfInBounds_toArray, List.set_cons_zero, List.set_cons_succ]
          refine anyS_take (i := 17) (v := ?vhix17) rfl (by kernel_rfl) (by kernel_rfl) (by kernel_rfl) ?hyhix17 ?resthix17
          case hyhix17 => first | (refine StepS.read (by rfl) (fun wx hSw => ?_); (try dsimp only at hSw); obtain ⟨hHx, ⟨c00, c01, c02⟩, ⟨c10, c11, c12⟩, ⟨c20, c21, c22⟩, ⟨c30, c31, c32⟩, ⟨c40, c41, c42⟩, c50, c51, c52⟩ := hSw; go_simp; first | done | with_reducible rfl) | exact Or.inr ⟨by rfl, rfl⟩
          try simp only [List.getElem_toArray, List.getElem_cons_succ, List.getElem_cons_zero, Act.put, List.setIfInBounds_toArray, List.set_cons_zero, List.set_cons_succ]
          refine anyS_take (i := 18) (v := ?vhix18) rfl (by kernel_rfl) (by kernel_rfl) (by kernel_rfl) ?hyhix18 ?resthix18
          case hyhix18 => first | (refine StepS.read (by rfl) (fun wx hSw => ?_); (try dsimp only at hSw); obtain ⟨hHx, ⟨c00, c01, c02⟩, ⟨c10, c11, c12⟩, ⟨c20, c21, c22⟩, ⟨c30, c31, c32⟩, ⟨c40, c41, c42⟩, c50, c51, c52⟩ := hSw; go_simp; first | done | with_reducible rfl) | exact Or.inr ⟨by rfl, rfl⟩
          try simp only [List.getElem_toArray, List.getElem_cons_succ, List.getElem_cons_zero, Act.put, List.setIfInBounds_toArray, List.set_cons_zero, List.set_cons_succ]
          refine anyS_take (i := 19) (v := ?vhix19) rfl (by kernel_rfl) (by kernel_rfl) (by kernel_rfl) ?hyhix19 ?resthix19
          case hyhix19 => first | (refine StepS.read (by rfl) (fun wx hSw => ?_); (try dsimp only at hSw); obtain ⟨hHx, ⟨c00, c01, c02⟩, ⟨c10, c11, c12⟩, ⟨c20, c21, c22⟩, ⟨c30, c31, c32⟩, ⟨c40, c41, c42⟩, c50, c51, c52⟩ := hSw; go_simp; first | done | with_reducible rfl) | exact Or.inr ⟨by rfl, rfl⟩
          try simp only [List.getElem_toArray, List.getElem_cons_succ, List.getElem_cons_zero, Act.put, List.setIfInBounds_toArray, List.set_cons_zero, List.set_cons_succ]
          refine anyS_take (i := 20) (v := ?vhix20) rfl (by kernel_rfl) (by kernel_rfl) (by kernel_rfl) ?hyhix20 ?resthix20
          case hyhix20 => first | (refine StepS.read (by rfl) (fun wx hSw => ?_); (try dsimp only at hSw); obtain ⟨hHx, ⟨c00, c01, c02⟩, ⟨c10, c11, c12⟩, ⟨c20, c21, c22⟩, ⟨c30, c31, c32⟩, ⟨c40, c41, c42⟩, c50, c51, c52⟩ := hSw; go_simp; first | done | with_reducible rfl) | exact Or.inr ⟨by rfl, rfl⟩
          try simp only [List.getElem_toArray, List.getElem_cons_succ, List.getElem_cons_zero, Act.put, List.setIfInBounds_toArray, List.set_cons_zero, List.set_cons_succ]
          refine anyS_take (i := 21) (v := ?vhix21) rfl (by kernel_rfl) (by kernel_rfl) (by kernel_rfl) ?hyhix21 ?resthix21
          case hyhix21 => first | (refine StepS.read (by rfl) (fun wx hSw => ?_); (try dsimp only at hSw); obtain ⟨hHx, ⟨c00, c01, c02⟩, ⟨c10, c11, c12⟩, ⟨c20, c21, c22⟩, ⟨c30, c31, c32⟩, ⟨c40, c41, c42⟩, c50, c51, c52⟩ := hSw; go_simp; first | done | with_reducible rfl) | exact Or.inr ⟨by rfl, rfl⟩
          try simp only [List.getElem_toArray, List.getElem_cons_succ, List.getElem_cons_zero, Act.put, List.setIfInBounds_toArray, List.set_cons_zero, List.set_cons_succ]
          refine anyS_take (i := 22) (v := ?vhix22) rfl (by kernel_rfl) (by kernel_rfl) (by kernel_rfl) ?hyhix22 ?resthix22
          case hyhix22 => first | (refine StepS.read (by rfl) (fun wx hSw => ?_); (try dsimp only at hSw); obtain ⟨hHx, ⟨c00, c01, c02⟩, ⟨c10, c11, c12⟩, ⟨c20, c21, c22⟩, ⟨c30, c31, c32⟩, ⟨c40, c41, c42⟩, c50, c51, c52⟩ := hSw; go_simp; first | done | with_reducible rfl) | exact Or.inr ⟨by rfl, rfl⟩
          try simp only [List.getElem_toArray, List.getElem_cons_succ, List.getElem_cons_zero, Act.put, List.setIfInBounds_toArray, List.set_cons_zero, List.set_cons_succ]
          refine anyS_take (i := 23) (v := ?vhix23) rfl (by kernel_rfl) (by kernel_rfl) (by kernel_rfl) ?hyhix23 ?resthix23
          case hyhix23 => first | (refine StepS.read (by rfl) (fun wx hSw => ?_); (try dsimp only at hSw); obtain ⟨hHx, ⟨c00, c01, c02⟩, ⟨c10, c11, c12⟩, ⟨c20, c21, c22⟩, ⟨c30, c31, c32⟩, ⟨c40, c41, c42⟩, c50, c51, c52⟩ := hSw; go_simp; first | done | with_reducible rfl) | exact Or.inr ⟨by rfl, rfl⟩
          try simp only [List.getElem_toArray, List.getElem_cons_succ, List.getElem_cons_zero, Act.put, List.setIfInBounds_toArray, List.set_cons_zero, List.set_cons_succ]
          refine anyS_take (i := 24) (v := ?vhix24) rfl (by kernel_rfl) (by kernel_rfl) (by kernel_rfl) ?hyhix24 ?resthix24
          case hyhix24 => first | (refine StepS.read (by rfl) (fun wx hSw => ?_); (try dsimp only at hSw); obtain ⟨hHx, ⟨c00, c01, c02⟩, ⟨c10, c11, c12⟩, ⟨c20, c21, c22⟩, ⟨c30, c31, c32⟩, ⟨c40, c41, c42⟩, c50, c51, c52⟩ := hSw; go_simp; first | done | with_reducible rfl) | exact Or.inr ⟨by rfl, rfl⟩
          try simp only [List.getElem_toArray, List.getElem_cons_succ, List.getElem_cons_zero, Act.put, List.setIfInBounds_toArray, List.set_cons_zero, List.set_cons_succ]
          refine anyS_done (by kernel_rfl) (fun wx hSw => ?_) _
          (try dsimp only at hSw)
          go_wp2_with (fail)
          go_meet
          exact ⟨rfl, hSw⟩
      · have hd1 : decide (a0 ≤ n) = false := decide_eq_false hn0
        have hin : ¬ (a0 ≤ n ∧ n ≤ a1) := fun h => hn0 h.1
        refine wp_region_S (S := (fun wx => SS w (w.heap.size) (.int .i64 a0) (.int .i64 a1) (w.heap.size + 1) (.int .i64 b0) (.int .i64 b1) (bx) (.int .i64 a0) (.int .i64 a1) (bY) (.int .i64 b0) (.int .i64 b1) (w1.heap.size) (.int .i64 0) (.int .i64 0) (w2.heap.size) (.int .i64 0) (.int .i64 0) wx)) (by kernel_rfl) (SS.drew hS0) ?_
        refine anyS_take (i := 0) (v := ?vlox0) rfl (by kernel_rfl) (by kernel_rfl) (by kernel_rfl) ?hylox0 ?restlox0
        case hylox0 => first | (refine StepS.read (by rfl) (fun wx hSw => ?_); (try dsimp only at hSw); obtain ⟨hHx, ⟨c00, c01, c02⟩, ⟨c10, c11, c12⟩, ⟨c20, c21, c22⟩, ⟨c30, c31, c32⟩, ⟨c40, c41, c42⟩, c50, c51, c52⟩ := hSw; go_simp; first | done | with_reducible rfl) | exact Or.inr ⟨by rfl, rfl⟩
        try simp only [List.getElem_toArray, List.getElem_cons_succ, List.getElem_cons_zero, Act.put, List.setIfInBounds_toArray, List.set_cons_zero, List.set_cons_succ]
        refine anyS_take (i := 1) (v := ?vlox1) rfl (by kernel_rfl) (by kernel_rfl) (by kernel_rfl) ?hylox1 ?restlox1
        case hylox1 => first | (refine StepS.read (by rfl) (fun wx hSw => ?_); (try dsimp only at hSw); obtain ⟨hHx, ⟨c00, c01, c02⟩, ⟨c10, c11, c12⟩, ⟨c20, c21, c22⟩, ⟨c30, c31, c32⟩, ⟨c40, c41, c42⟩, c50, c51, c52⟩ := hSw; go_simp; first | done | with_reducible rfl) | exact Or.inr ⟨by rfl, rfl⟩
        try simp only [List.getElem_toArray, List.getElem_cons_succ, List.getElem_cons_zero, Act.put, List.setIfInBounds_toArray, List.set_cons_zero, List.set_cons_succ]
        refine anyS_take (i := 2) (v := .bool false) rfl (by kernel_rfl) (by kernel_rfl) (by kernel_rfl) ?hylox2 ?restlox2
        case hylox2 => (refine Or.inl ⟨by rfl, fun wx hSw => ?_⟩; (try dsimp only at hSw); have hSk := hSw; obtain ⟨hHx, ⟨c00, c01, c02⟩, ⟨c10, c11, c12⟩, ⟨c20, c21, c22⟩, ⟨c30, c31, c32⟩, ⟨c40, c41, c42⟩, c50, c51, c52⟩ := hSw; go_simp; refine Or.inr ⟨_, _, _, rfl, ?_⟩; (with_reducible refine (sp_has_not _ _ _ _ hin).mono ?_); rintro e w' ⟨rfl, hb'⟩; exact ⟨rfl, SS.step hSk hb'⟩)
        try simp only [List.getElem_toArray, List.getElem_cons_succ, List.getElem_cons_zero, Act.put, List.setIfInBounds_toArray, List.set_cons_zero, List.set_cons_succ]
        refine anyS_take (i := 3) (v := ?vlox3) rfl (by kernel_rfl) (by kernel_rfl) (by kernel_rfl) ?hylox3 ?restlox3
        case hylox3 => first | (refine StepS.read (by rfl) (fun wx hSw => ?_); (try dsimp only at hSw); obtain ⟨hHx, ⟨c00, c01, c02⟩, ⟨c10, c11, c12⟩, ⟨c20, c21, c22⟩, ⟨c30, c31, c32⟩, ⟨c40, c41, c42⟩, c50, c51, c52⟩ := hSw; go_simp; first | done | with_reducible rfl) | exact Or.inr ⟨by rfl, rfl⟩
        try simp only [List.getElem_toArray, List.getElem_cons_succ, List.getElem_cons_zero, Act.put, List.setIfInBounds_toArray, List.set_cons_zero, List.set_cons_succ]
        refine anyS_take (i := 4) (v := ?vlox4) rfl (by kernel_rfl) (by kernel_rfl) (by kernel_rfl) ?hylox4 ?restlox4
        case hylox4 => first | (refine StepS.read (by rfl) (fun wx hSw => ?_); (try dsimp only at hSw); obtain ⟨hHx, ⟨c00, c01, c02⟩, ⟨c10, c11, c12⟩, ⟨c20, c21, c22⟩, ⟨c30, c31, c32⟩, ⟨c40, c41, c42⟩, c50, c51, c52⟩ := hSw; go_simp; first | done | with_reducible rfl) | exact Or.inr ⟨by rfl, rfl⟩
        try simp only [List.getElem_toArray, List.getElem_cons_succ, List.getElem_cons_zero, Act.put, List.setIfInBounds_toArray, List.set_cons_zero, List.set_cons_succ]
        refine anyS_take (i := 5) (v := ?vlox5) rfl (by kernel_rfl) (by kernel_rfl) (by kernel_rfl) ?hylox5 ?restlox5
        case hylox5 => first | (refine StepS.read (by rfl) (fun wx hSw => ?_); (try dsimp only at hSw); obtain ⟨hHx, ⟨c00, c01, c02⟩, ⟨c10, c11, c12⟩, ⟨c20, c21, c22⟩, ⟨c30, c31, c32⟩, ⟨c40, c41, c42⟩, c50, c51, c52⟩ := hSw; go_simp; first | done | with_reducible rfl) | exact Or.inr ⟨by rfl, rfl⟩
        try simp only [List.getElem_toArray, List.getElem_cons_succ, List.getElem_cons_zero, Act.put, List.setIfInBounds_toArray, List.set_cons_zero, List.set_cons_succ]
        refine anyS_take (i := 6) (v := ?vlox6) rfl (by kernel_rfl) (by kernel_rfl) (by kernel_rfl) ?hylox6 ?restlox6
        case hylox6 => first | (refine StepS.read (by rfl) (fun wx hSw => ?_); (try dsimp only at hSw); obtain ⟨hHx, ⟨c00, c01, c02⟩, ⟨c10, c11, c12⟩, ⟨c20, c21, c22⟩, ⟨c30, c31, c32⟩, ⟨c40, c41, c42⟩, c50, c51, c52⟩ := hSw; go_simp; first | done | with_reducible rfl) | exact Or.inr ⟨by rfl, rfl⟩
        try simp only [List.getElem_toArray, List.getElem_cons_succ, List.getElem_cons_zero, Act.put, List.setIfInBounds_toArray, List.set_cons_zero, List.set_cons_succ]
        refine anyS_take (i := 7) (v := ?vlox7) rfl (by kernel_rfl) (by kernel_rfl) (by kernel_rfl) ?hylox7 ?restlox7
        case hylox7 => first | (refine StepS.read (by rfl) (fun wx hSw => ?_); (try dsimp only at hSw); obtain ⟨hHx, ⟨c00, c01, c02⟩, ⟨c10, c11, c12⟩, ⟨c20, c21, c22⟩, ⟨c30, c31, c32⟩, ⟨c40, c41, c42⟩, c50, c51, c52⟩ := hSw; go_simp; first | done | with_reducible rfl) | exact Or.inr ⟨by rfl, rfl⟩
        try simp only [List.getElem_toArray, List.getElem_cons_succ, List.getElem_cons_zero, Act.put, List.setIfInBounds_toArray, List.set_cons_zero, List.set_cons_succ]
        refine anyS_take (i := 8) (v := undef) rfl (by kernel_rfl) (by kernel_rfl) (by kernel_rfl) (Or.inr ⟨by kernel_rfl, rfl⟩) ?restlox8
        try simp only [List.getElem_toArray, List.getElem_cons_succ, List.getElem_cons_zero, Act.put, List.setIfInBounds_toArray, List.set_cons_zero, List.set_cons_succ]
        refine anyS_take (i := 9) (v := undef) rfl (by kernel_rfl) (by kernel_rfl) (by kernel_rfl) (Or.inr ⟨by kernel_rfl, rfl⟩) ?restlox9
        try simp only [List.getElem_toArray, List.getElem_cons_succ, List.getElem_cons_zero, Act.put, List.setIfInBounds_toArray, List.set_cons_zero, List.set_cons_succ]
        refine anyS_take (i := 10) (v := undef) rfl (by kernel_rfl) (by kernel_rfl) (by kernel_rfl) (Or.inr ⟨by kernel_rfl, rfl⟩) ?restlox10
        try simp only [List.getElem_toArray, List.getElem_cons_succ, List.getElem_cons_zero, Act.put, List.setIfInBounds_toArray, List.set_cons_zero, List.set_cons_succ]
        refine anyS_take (i := 11) (v := undef) rfl (by kernel_rfl) (by kernel_rfl) (by kernel_rfl) (Or.inr ⟨by kernel_rfl, rfl⟩) ?restlox11
        try simp only [List.getElem_toArray, List.getElem_cons_succ, List.getElem_cons_zero, Act.put, List.setIfInBounds_toArray, List.set_cons_zero, List.set_cons_succ]
        refine anyS_take (i := 12) (v := ?vlox12) rfl (by kernel_rfl) (by kernel_rfl) (by kernel_rfl) ?hylox12 ?restlox12
        case hylox12 => first | (refine StepS.read (by rfl) (fun wx hSw => ?_); (try dsimp only at hSw); obtain ⟨hHx, ⟨c00, c01, c02⟩, ⟨c10, c11, c12⟩, ⟨c20, c21, c22⟩, ⟨c30, c31, c32⟩, ⟨c40, c41, c42⟩, c50, c51, c52⟩ := hSw; go_simp; first | done | with_reducible rfl) | exact Or.inr ⟨by rfl, rfl⟩
        try simp only [List.getElem_toArray, List.getElem_cons_succ, List.getElem_cons_zero, Act.put, List.setIfInBounds_toArray, List.set_cons_zero, List.set_cons_succ]
        refine anyS_take (i := 13) (v := ?vlox13) rfl (by kernel_rfl) (by kernel_rfl) (by kernel_rfl) ?hylox13 ?restlox13
        case hylox13 => first | (refine StepS.read (by rfl) (fun wx hSw => ?_); (try dsimp only at hSw); obtain ⟨hHx, ⟨c00, c01, c02⟩, ⟨c10, c11, c12⟩, ⟨c20, c21, c22⟩, ⟨c30, c31, c32⟩, ⟨c40, c41, c42⟩, c50, c51, c52⟩ := hSw; go_simp; first | done | with_reducible rfl) | exact Or.inr ⟨by rfl, rfl⟩
        try simp only [List.getElem_toArray, List.getElem_cons_succ, List.getElem_cons_zero, Act.put, List.setIfInBounds_toArray, List.set_cons_zero, List.set_cons_succ]
        refine anyS_take (i := 14) (v := ?vlox14) rfl (by kernel_rfl) (by kernel_rfl) (by kernel_rfl) ?hylox14 ?restlox14
        case hylox14 => first | (refine StepS.read (by rfl) (fun wx hSw => ?_); (try dsimp only at hSw); obtain ⟨hHx, ⟨c00, c01, c02⟩, ⟨c10, c11, c12⟩, ⟨c20, c21, c22⟩, ⟨c30, c31, c32⟩, ⟨c40, c41, c42⟩, c50, c51, c52⟩ := hSw; go_simp; first | done | with_reducible rfl) | exact Or.inr ⟨by rfl, rfl⟩
        try simp only [List.getElem_toArray, List.getElem_cons_succ, List.getElem_cons_zero, Act.put, List.setIfInBounds_toArray, List.set_cons_zero, List.set_cons_succ]
        refine anyS_take (i := 15) (v := ?vlox15) rfl (by kernel_rfl) (by kernel_rfl) (by kernel_rfl) ?hylox15 ?restlox15
        case hylox15 => first | (refine StepS.read (by rfl) (fun wx hSw => ?_); (try dsimp only at hSw); obtain ⟨hHx, ⟨c00, c01, c02⟩, ⟨c10, c11, c12⟩, ⟨c20, c21, c22⟩, ⟨c30, c31, c32⟩, ⟨c40, c41, c42⟩, c50, c51, c52⟩ := hSw; go_simp; first | done | with_reducible rfl) | exact Or.inr ⟨by rfl, rfl⟩
        try simp only [List.getElem_toArray, List.getElem_cons_succ, List.getElem_cons_zero, Act.put, List.setIfInBounds_toArray, List.set_cons_zero, List.set_cons_succ]
        refine anyS_take (i := 16) (v := .nilIface) rfl (by kernel_rfl) (by kernel_rfl) (by kernel_rfl) ?hylox16 ?restlox16
        case hylox16 => (refine Or.inl ⟨by rfl, fun wx hSw => ?_⟩; (try dsimp only at hSw); have hSk := hSw; obtain ⟨hHx, ⟨c00, c01, c02⟩, ⟨c10, c11, c12⟩, ⟨c20, c21, c22⟩, ⟨c30, c31, c32⟩, ⟨c40, c41, c42⟩, c50, c51, c52⟩ := hSw; go_simp; refine Or.inr ⟨_, _, _, rfl, ?_⟩; (with_reducible refine (sp_check_ok _ _ _ hva).mono ?_); rintro e w' ⟨rfl, hb'⟩; exact ⟨rfl, SS.step hSk hb'⟩)
        try simp only [List.getElem_toArray, List.getElem_cons_succ, List.getElem_cons_zero, Act.put, List.setIfInBounds_toArray, List.set_cons_zero, List.set_cons_succ]
        refine anyS_take (i := 17) (v := ?vlox17) rfl (by kernel_rfl) (by kernel_rfl) (by kernel_rfl) ?hylox17 ?restlox17
        case hylox17 => first | (refine StepS.read (by rfl) (fun wx hSw => ?_); (try dsimp only at hSw); obtain ⟨hHx, ⟨c00, c01, c02⟩, ⟨c10, c11, c12⟩, ⟨c20, c21, c22⟩, ⟨c30, c31, c32⟩, ⟨c40, c41, c42⟩, c50, c51, c52⟩ := hSw; go_simp; first | done | with_reducible rfl) | exact Or.inr ⟨by rfl, rfl⟩
        try simp only [List.getElem_toArray, List.getElem_cons_succ, List.getElem_cons_zero, Act.put, List.setIfInBounds_toArray, List.set_cons_zero, List.set_cons_succ]
        refine anyS_take (i := 18) (v := ?vlox18) rfl (by kernel_rfl) (by kernel_rfl) (by kernel_rfl) ?hylox18 ?restlox18
        case hylox18 => first | (refine StepS.read (by rfl) (fun wx hSw => ?_); (try dsimp only at hSw); obtain ⟨hHx, ⟨c00, c01, c02⟩, ⟨c10, c11, c12⟩, ⟨c20, c21, c22⟩, ⟨c30, c31, c32⟩, ⟨c40, c41, c42⟩, c50, c51, c52⟩ := hSw; go_simp; first | done | with_reducible rfl) | exact Or.inr ⟨by rfl, rfl⟩
        try simp only [List.getElem_toArray, List.getElem_cons_succ, List.getElem_cons_zero, Act.put, List.setIfInBounds_toArray, List.set_cons_zero, List.set_cons_succ]
        refine anyS_take (i := 19) (v := ?vlox19) rfl (by kernel_rfl) (by kernel_rfl) (by kernel_rfl) ?hylox19 ?restlox19
        case hylox19 => first | (refine StepS.read (by rfl) (fun wx hSw => ?_); (try dsimp only at hSw); obtain ⟨hHx, ⟨c00, c01, c02⟩, ⟨c10, c11, c12⟩, ⟨c20, c21, c22⟩, ⟨c30, c31, c32⟩, ⟨c40, c41, c42⟩, c50, c51, c52⟩ := hSw; go_simp; first | done | with_reducible rfl) | exact Or.inr ⟨by rfl, rfl⟩
        try simp only [List.getElem_toArray, List.getElem_cons_succ, List.getElem_cons_zero, Act.put, List.setIfInBounds_toArray, List.set_cons_zero, List.set_cons_succ]
        refine anyS_take (i := 20) (v := ?vlox20) rfl (by kernel_rfl) (by kernel_rfl) (by kernel_rfl) ?hylox20 ?restlox20
        case hylox20 => first | (refine StepS.read (by rfl) (fun wx hSw => ?_); (try dsimp only at hSw); obtain ⟨hHx, ⟨c00, c01, c02⟩, ⟨c10, c11, c12⟩, ⟨c20, c21, c22⟩, ⟨c30, c31, c32⟩, ⟨c40, c41, c42⟩, c50, c51, c52⟩ := hSw; go_simp; first | done | with_reducible rfl) | exact Or.inr ⟨by rfl, rfl⟩
        try simp only [List.getElem_toArray, List.getElem_cons_succ, List.getElem_cons_zero, Act.put, List.setIfInBounds_toArray, List.set_cons_zero, List.set_cons_succ]
        refine anyS_take (i := 21) (v := ?vlox21) rfl (by kernel_rfl) (by kernel_rfl) (by kernel_rfl) ?hylox21 ?restlox21
        case hylox21 => first | (refine StepS.read (by rfl) (fun wx hSw => ?_); (try dsimp only at hSw); obtain ⟨hHx, ⟨c00, c01, c02⟩, ⟨c10, c11, c12⟩, ⟨c20, c21, c22⟩, ⟨c30, c31, c32⟩, ⟨c40, c41, c42⟩, c50, c51, c52⟩ := hSw; go_simp; first | done | with_reducible rfl) | exact Or.inr ⟨by rfl, rfl⟩
        try simp only [List.getElem_toArray, List.getElem_cons_succ, List.getElem_cons_zero, Act.put, List.setIfInBounds_toArray, List.set_cons_zero, List.set_cons_succ]
        refine anyS_take (i := 22) (v := ?vlox22) rfl (by kernel_rfl) (by kernel_rfl) (by kernel_rfl) ?hylox22 ?restlox22
        case hylox22 => first | (refine StepS.read (by rfl) (fun wx hSw => ?_); (try dsimp only at hSw); obtain ⟨hHx, ⟨c00, c01, c02⟩, ⟨c10, c11, c12⟩, ⟨c20, c21, c22⟩, ⟨c30, c31, c32⟩, ⟨c40, c41, c42⟩, c50, c51, c52⟩ := hSw; go_simp; first | done | with_reducible rfl) | exact Or.inr ⟨by rfl, rfl⟩
        try simp only [List.getElem_toArray, List.getElem_cons_succ, List.getElem_cons_zero, Act.put, List.setIfInBounds_toArray, List.set_cons_zero, List.set_cons_succ]
        refine anyS_take (i := 23) (v := ?vlox23) rfl (by kernel_rfl) (by kernel_rfl) (by kernel_rfl) ?hylox23 ?restlox23
        case hylox23 => first | (refine StepS.read (by rfl) (fun wx hSw => ?_); (try dsimp only at hSw); obtain ⟨hHx, ⟨c00, c01, c02⟩, ⟨c10, c11, c12⟩, ⟨c20, c21, c22⟩, ⟨c30, c31, c32⟩, ⟨c40, c41, c42⟩, c50, c51, c52⟩ := hSw; go_simp; first | done | with_reducible rfl) | exact Or.inr ⟨by rfl, rfl⟩
        try simp only [List.getElem_toArray, List.getElem_cons_succ, List.getElem_cons_zero, Act.put, List.setIfInBounds_toArray, List.set_cons_zero, List.set_cons_succ]
        refine anyS_take (i := 24) (v := ?vlox24) rfl (by kernel_rfl) (by kernel_rfl) (by kernel_rfl) ?hylox24 ?restlox24
        case hylox24 => first | (refine StepS.read (by rfl) (fun wx hSw => ?_); (try dsimp only at hSw); obtain ⟨hHx, ⟨c00, c01, c02⟩, ⟨c10, c11, c12⟩, ⟨c20, c21, c22⟩, ⟨c30, c31, c32⟩, ⟨c40, c41, c42⟩, c50, c51, c52⟩ := hSw; go_simp; first | done | with_reducible rfl) | exact Or.inr ⟨by rfl, rfl⟩
        try simp only [List.getElem_toArray, List.getElem_cons_succ, List.getElem_cons_zero, Act.put, List.setIfInBounds_toArray, List.set_cons_zero, List.set_cons_succ]
        refine anyS_done (by kernel_rfl) (fun wx hSw => ?_) _
        (try dsimp only at hSw)
        go_wp2_with (fail)
        go_meet
        exact ⟨rfl, hSw⟩
    case rest =>
      obtain ⟨rfl, hS⟩ := hcut
      obtain ⟨wB, rfl⟩ : ∃ x, x = wc := ⟨_, rfl⟩
      obtain ⟨hH, Ka0, Kb0, Kx0, Ky0, Km0, Kg0⟩ := hS
      have Ka := Lib.hid Ka0
      have Kb := Lib.hid Kb0
      have Kx := Lib.hid Kx0
      have Ky := Lib.hid Ky0
      have Km := Lib.hid Km0
      have Kg := Lib.hid Kg0
      clear Ka0 Kb0 Kx0 Ky0 Km0 Kg0
      obtain ⟨za, ca0, ca1⟩ := Ka.out
      obtain ⟨zb, cb0, cb1⟩ := Kb.out
      obtain ⟨zx, cx0, cx1⟩ := Kx.out
      obtain ⟨zy, cy0, cy1⟩ := Ky.out
      obtain ⟨zm, cm0, cm1⟩ := Km.out
      obtain ⟨zg, cg0, cg1⟩ := Kg.out
      have hda0a1 : decide (a0 ≤ a1) = true := decide_eq_true (by omega)
      have hdb0b1 : decide (b0 ≤ b1) = true := decide_eq_true (by omega)
      have hda0b1 : decide (a0 ≤ b1) = false := decide_eq_false (by omega)
      go_wp2_with (fail)
      go_at_call 21
      (with_reducible refine (HRM.out _).mono ?_)
      rintro e w4 ⟨rfl, HB⟩
      have HBB := Below.trans (show Below wB.heap.size wB _ from by repeat (first | with_reducible assumption | exact Below.refl _ _ | refine Below.drew ?_ | refine Below.setCell ?_ (by first | omega | (simp; done) | (simp; omega)) _ | refine Below.alloc ?_ (by first | omega | (simp; done) | (simp; omega)) _)) (Below.mono (B' := wB.heap.size) HB (by first | omega | (simp; done) | (simp; omega)))
      clear za ca0 ca1 zb cb0 cb1 zx cx0 cx1 zy cy0 cy1 zm cm0 cm1 zg cg0 cg1
      replace Ka := Lib.hid (B2.step Ka.out HBB)
      replace Kb := Lib.hid (B2.step Kb.out HBB)
      replace Kx := Lib.hid (B2.step Kx.out HBB)
      replace Ky := Lib.hid (B2.step Ky.out HBB)
      replace Km := Lib.hid (B2.step Km.out HBB)
      replace Kg := Lib.hid (B2.step Kg.out HBB)
      replace hH := Held.step (w0 := w) hH HBB
      have hz4 := HBB.size
      obtain ⟨hc4, hf4⟩ := bcell HB
      clear HB HBB
      obtain ⟨za, ca0, ca1⟩ := Ka.out
      obtain ⟨zb, cb0, cb1⟩ := Kb.out
      obtain ⟨zx, cx0, cx1⟩ := Kx.out
      obtain ⟨zy, cy0, cy1⟩ := Ky.out
      obtain ⟨zm, cm0, cm1⟩ := Km.out
      obtain ⟨zg, cg0, cg1⟩ := Kg.out
      go_wp2_with (fail)
      go_at_call 19
      (with_reducible refine (num13_err _ _ (Held.handle (w0 := w) (by repeat (first | assumption | refine Held.alloc ?_ _ | refine Held.drew ?_)))).mono ?_)
      rintro e w5 ⟨rfl, HB⟩
      have HBB := Below.trans (show Below w4.heap.size w4 _ from by repeat (first | with_reducible assumption | exact Below.refl _ _ | refine Below.drew ?_ | refine Below.setCell ?_ (by first | omega | (simp; done) | (simp; omega)) _ | refine Below.alloc ?_ (by first | omega | (simp; done) | (simp; omega)) _)) (Below.mono (B' := w4.heap.size) HB (by first | omega | (simp; done) | (simp; omega)))
      clear za ca0 ca1 zb cb0 cb1 zx cx0 cx1 zy cy0 cy1 zm cm0 cm1 zg cg0 cg1
      replace Ka := Lib.hid (B2.step Ka.out HBB)
      replace Kb := Lib.hid (B2.step Kb.out HBB)
      replace Kx := Lib.hid (B2.step Kx.out HBB)
      replace Ky := Lib.hid (B2.step Ky.out HBB)
      replace Km := Lib.hid (B2.step Km.out HBB)
      replace Kg := Lib.hid (B2.step Kg.out HBB)
      replace hH := Held.step (w0 := w) hH HBB
      have hz5 := HBB.size
      obtain ⟨hc5, hf5⟩ := bcell HB
      clear HB HBB
      clear hc4 hf4
      obtain ⟨za, ca0, ca1⟩ := Ka.out
      obtain ⟨zb, cb0, cb1⟩ := Kb.out
      obtain ⟨zx, cx0, cx1⟩ := Kx.out
      obtain ⟨zy, cy0, cy1⟩ := Ky.out
      obtain ⟨zm, cm0, cm1⟩ := Km.out
      obtain ⟨zg, cg0, cg1⟩ := Kg.out
      go_wp2_with (fail)
      go_at_call 20
      (with_reducible refine (sure13 _ (Held.handle (w0 := w) (by repeat (first | assumption | refine Held.alloc ?_ _ | refine Held.drew ?_)))).mono ?_)
      rintro e w6 ⟨rfl, HB⟩
      have HBB := Below.trans (show Below w5.heap.size w5 _ from by repeat (first | with_reducible assumption | exact Below.refl _ _ | refine Below.drew ?_ | refine Below.setCell ?_ (by first | omega | (simp; done) | (simp; omega)) _ | refine Below.alloc ?_ (by first | omega | (simp; done) | (simp; omega)) _)) (Below.mono (B' := w5.heap.size) HB (by first | omega | (simp; done) | (simp; omega)))
      clear za ca0 ca1 zb cb0 cb1 zx cx0 cx1 zy cy0 cy1 zm cm0 cm1 zg cg0 cg1
      replace Ka := Lib.hid (B2.step Ka.out HBB)
      replace Kb := Lib.hid (B2.step Kb.out HBB)
      replace Kx := Lib.hid (B2.step Kx.out HBB)
      replace Ky := Lib.hid (B2.step Ky.out HBB)
      replace Km := Lib.hid (B2.step Km.out HBB)
      replace Kg := Lib.hid (B2.step Kg.out HBB)
      replace hH := Held.step (w0 := w) hH HBB
      have hz6 := HBB.size
      obtain ⟨hc6, hf6⟩ := bcell HB
      clear HB HBB
      clear hc5 hf5
      obtain ⟨za, ca0, ca1⟩ := Ka.out
      obtain ⟨zb, cb0, cb1⟩ := Kb.out
      obtain ⟨zx, cx0, cx1⟩ := Kx.out
      obtain ⟨zy, cy0, cy1⟩ := Ky.out
      obtain ⟨zm, cm0, cm1⟩ := Km.out
      obtain ⟨zg, cg0, cg1⟩ := Kg.out
      go_wp2_with (fail)
      go_ret
      exact ⟨rfl, Held.below (w0 := w) (by repeat (first | assumption | refine Held.alloc ?_ _ | refine Held.drew ?_))⟩
set_option maxRecDepth 100000 in
set_option maxHeartbeats 8000000 in
theorem steps_C1_pos (a0 a1 b0 b1 n : Int) (i1 : InR a0) (i2 : InR a1) (i3 : InR b0) (i4 : InR b1) (i5 : InR n) (h1 : a0 ≤ a1) (h2 : b0 ≤ b1) (h3 : b1 < a0) (g1 : 0 ≤ n) (w : World) (hg : w.cell? ⟨0, 0, none⟩ = some asHandle) :
    Calls Tryd.prog 3 #[.agg #[.int .i64 a0, .int .i64 a1], .agg #[.int .i64 b0, .int .i64 b1], .int .i64 n] w fun e w' => e = .returned (.bool true) ∧ Below w.heap.size w w' := by
  have hH0 := Held.start hg
  obtain ⟨M, hM⟩ : ∃ M, a0 + (a1 - a0) / 2 = M := ⟨_, rfl⟩
  obtain ⟨Z, hZ⟩ : ∃ Z, sat (a1 - M) = Z := ⟨_, rfl⟩
  have hmid : ∀ w : World, Calls Tryd.prog 16 #[.agg #[.int .i64 a0, .int .i64 a1]] w fun e w' => e = .returned (.tuple #[.int .i64 M, .int .i64 Z, .nilIface]) ∧ Below w.heap.size w w' := fun w => by have h := sp_mid a0 a1 w h1 i1 i2; rw [hM, hZ] at h; exact h
  have hrmid : ∀ w : World, Calls Tryd.prog 21 #[.agg #[.int .i64 a0, .int .i64 a1]] w fun e w' => e = .returned (.tuple #[.int .i64 M, .int .i64 Z]) ∧ Below w.heap.size w w' := fun w => by have h := rmid a0 a1 w h1 i1 i2; rw [hM, hZ] at h; exact h
  have HMD := Lib.hid hmid
  have HRM := Lib.hid hrmid
  clear hM hZ hmid hrmid
  go_enter Tryd.func3, Tryd.ntmps3
  go_upto_region 1 with (fail)
  go_cut [7, 8] from 19 to 20 (fun x y wx => RX w a0 a1 b0 b1 x y wx)
  case first =>
    go_region
    all_goals
      go_wp2_with (fail)
      go_meet
      exact ⟨_, _, rfl, rfl, (by repeat (first | assumption | refine Held.alloc ?_ _ | refine Held.drew ?_)), ⟨(by first | omega | (simp; done) | (simp; omega)), by go_simp, by go_simp⟩, ⟨(by first | omega | (simp; done) | (simp; omega)), by go_simp, by go_simp⟩, ⟨(by first | omega | (simp; done) | (simp; omega)), by go_simp, by go_simp⟩, ⟨(by first | omega | (simp; done) | (simp; omega)), by go_simp, by go_simp⟩⟩
  case rest =>
    obtain ⟨bx, bY, rfl, rfl, hH, Ka0, Kb0, Kx0, Ky0⟩ := hcut
    obtain ⟨wA, rfl⟩ : ∃ x, x = wc := ⟨_, rfl⟩
    have Ka := Lib.hid Ka0
    have Kb := Lib.hid Kb0
    have Kx := Lib.hid Kx0
    have Ky := Lib.hid Ky0
    clear Ka0 Kb0 Kx0 Ky0
    obtain ⟨za, ca0, ca1⟩ := Ka.out
    obtain ⟨zb, cb0, cb1⟩ := Kb.out
    obtain ⟨zx, cx0, cx1⟩ := Kx.out
    obtain ⟨zy, cy0, cy1⟩ := Ky.out
    go_wp2_with (fail)
    go_at_call 14
    (with_reducible refine (sp_meet_cc a0 a1 b0 b1 _ h1 h2 (meet_no1 h3)).mono ?_)
    rintro e w1 ⟨rfl, HB⟩
    have HBB := Below.trans (show Below wA.heap.size wA _ from by repeat (first | with_reducible assumption | exact Below.refl _ _ | refine Below.drew ?_ | refine Below.setCell ?_ (by first | omega | (simp; done) | (simp; omega)) _ | refine Below.alloc ?_ (by first | omega | (simp; done) | (simp; omega)) _)) (Below.mono (B' := wA.heap.size) HB (by first | omega | (simp; done) | (simp; omega)))
    clear za ca0 ca1 zb cb0 cb1 zx cx0 cx1 zy cy0 cy1
    replace Ka := Lib.hid (B2.step Ka.out HBB)
    replace Kb := Lib.hid (B2.step Kb.out HBB)
    replace Kx := Lib.hid (B2.step Kx.out HBB)
    replace Ky := Lib.hid (B2.step Ky.out HBB)
    replace hH := Held.step (w0 := w) hH HBB
    have hz1 := HBB.size
    obtain ⟨hc1, hf1⟩ := bcell HB
    clear HB HBB
    obtain ⟨za, ca0, ca1⟩ := Ka.out
    obtain ⟨zb, cb0, cb1⟩ := Kb.out
    obtain ⟨zx, cx0, cx1⟩ := Kx.out
    obtain ⟨zy, cy0, cy1⟩ := Ky.out
    go_wp2_with (fail)
    go_at_call 15
    (with_reducible refine (sp_grow _ _ _ _ h1 g1 i1 i2 i5).mono ?_)
    rintro e w2 ⟨rfl, HB⟩
    have Km := Lib.hid (B2.step (show B2 (w1.heap.size) (.int .i64 0) (.int .i64 0) _ from ⟨(by first | omega | (simp; done) | (simp; omega)), by go_simp, by go_simp⟩) HB)
    have HBB := Below.trans (show Below w1.heap.size w1 _ from by repeat (first | with_reducible assumption | exact Below.refl _ _ | refine Below.drew ?_ | refine Below.setCell ?_ (by first | omega | (simp; done) | (simp; omega)) _ | refine Below.alloc ?_ (by first | omega | (simp; done) | (simp; omega)) _)) (Below.mono (B' := w1.heap.size) HB (by first | omega | (simp; done) | (simp; omega)))
    clear za ca0 ca1 zb cb0 cb1 zx cx0 cx1 zy cy0 cy1
    replace Ka := Lib.hid (B2.step Ka.out HBB)
    replace Kb := Lib.hid (B2.step Kb.out HBB)
    replace Kx := Lib.hid (B2.step Kx.out HBB)
    replace Ky := Lib.hid (B2.step Ky.out HBB)
    replace hH := Held.step (w0 := w) hH HBB
    have hz2 := HBB.size
    obtain ⟨hc2, hf2⟩ := bcell HB
    clear HB HBB
    clear hc1 hf1
    obtain ⟨za, ca0, ca1⟩ := Ka.out
    obtain ⟨zb, cb0, cb1⟩ := Kb.out
    obtain ⟨zx, cx0, cx1⟩ := Kx.out
    obtain ⟨zy, cy0, cy1⟩ := Ky.out
    obtain ⟨zm, cm0, cm1⟩ := Km.out
    go_wp2_with (fail)
    go_at_call 16
    (with_reducible refine (HMD.out _).mono ?_)
    rintro e w3 ⟨rfl, HB⟩
    have Kg := Lib.hid (B2.step (show B2 (w2.heap.size) (.int .i64 (sat (a0 - n))) (.int .i64 (sat (a1 + n))) _ from ⟨(by first | omega | (simp; done) | (simp; omega)), by go_simp, by go_simp⟩) HB)
    have HBB := Below.trans (show Below w2.heap.size w2 _ from by repeat (first | with_reducible assumption | exact Below.refl _ _ | refine Below.drew ?_ | refine Below.setCell ?_ (by first | omega | (simp; done) | (simp; omega)) _ | refine Below.alloc ?_ (by first | omega | (simp; done) | (simp; omega)) _)) (Below.mono (B' := w2.heap.size) HB (by first | omega | (simp; done) | (simp; omega)))
    clear za ca0 ca1 zb cb0 cb1 zx cx0 cx1 zy cy0 cy1 zm cm0 cm1
    replace Ka := Lib.hid (B2.step Ka.out HBB)
    replace Kb := Lib.hid (B2.step Kb.out HBB)
    replace Kx := Lib.hid (B2.step Kx.out HBB)
    replace Ky := Lib.hid (B2.step Ky.out HBB)
    replace Km := Lib.hid (B2.step Km.out HBB)
    replace hH := Held.step (w0 := w) hH HBB
    have hz3 := HBB.size
    obtain ⟨hc3, hf3⟩ := bcell HB
    clear HB HBB
    clear hc2 hf2
    obtain ⟨za, ca0, ca1⟩ := Ka.out
    obtain ⟨zb, cb0, cb1⟩ := Kb.out
    obtain ⟨zx, cx0, cx1⟩ := Kx.out
    obtain ⟨zy, cy0, cy1⟩ := Ky.out
    obtain ⟨zm, cm0, cm1⟩ := Km.out
    obtain ⟨zg, cg0, cg1⟩ := Kg.out
    go_upto_region 5 with (fail)
    have hS0 : SS w (w.heap.size) (.int .i64 a0) (.int .i64 a1) (w.heap.size + 1) (.int .i64 b0) (.int .i64 b1) (bx) (.int .i64 a0) (.int .i64 a1) (bY) (.int .i64 b0) (.int .i64 b1) (w1.heap.size) (.int .i64 0) (.int .i64 0) (w2.heap.size) (.int .i64 (sat (a0 - n))) (.int .i64 (sat (a1 + n))) w3 := ⟨hH, Ka.out, Kb.out, Kx.out, Ky.out, Km.out, Kg.out⟩
    clear hc3 hf3 za ca0 ca1 zb cb0 cb1 zx cx0 cx1 zy cy0 cy1 zm cm0 cm1 zg cg0 cg1 Ka Kb Kx Ky Km Kg hH
    go_cut [63] from 39 to 62 (fun c wx => c = .bool false ∧ SS w (w.heap.size) (.int .i64 a0) (.int .i64 a1) (w.heap.size + 1) (.int .i64 b0) (.int .i64 b1) (bx) (.int .i64 a0) (.int .i64 a1) (bY) (.int .i64 b0) (.int .i64 b1) (w1.heap.size) (.int .i64 0) (.int .i64 0) (w2.heap.size) (.int .i64 (sat (a0 - n))) (.int .i64 (sat (a1 + n))) wx)
    case first =>
      have hva := h1
      have hdv : decide (a0 ≤ a1) = true := decide_eq_true h1
      by_cases hn0 : a0 ≤ n
      · have hd1 : decide (a0 ≤ n) = true := decide_eq_true hn0
        by_cases hn1 : n ≤ a1
        · have hd2 : decide (n ≤ a1) = true := decide_eq_true hn1
          have hin : a0 ≤ n ∧ n ≤ a1 := ⟨hn0, hn1⟩
          refine wp_region_S (S := (fun wx => SS w (w.heap.size) (.int .i64 a0) (.int .i64 a1) (w.heap.size + 1) (.int .i64 b0) (.int .i64 b1) (bx) (.int .i64 a0) (.int .i64 a1) (bY) (.int .i64 b0) (.int .i64 b1) (w1.heap.size) (.int .i64 0) (.int .i64 0) (w2.heap.size) (.int .i64 (sat (a0 - n))) (.int .i64 (sat (a1 + n))) wx)) (by kernel_rfl) (SS.drew hS0) ?_
          refine anyS_take (i := 0) (v := ?vinx0) rfl (by kernel_rfl) (by kernel_rfl) (by kernel_rfl) ?hyinx0 ?restinx0
          case hyinx0 => first | (refine StepS.read (by rfl) (fun wx hSw => ?_); (try dsimp only at hSw); obtain ⟨hHx, ⟨c00, c01, c02⟩, ⟨c10, c11, c12⟩, ⟨c20, c21, c22⟩, ⟨c30, c31, c32⟩, ⟨c40, c41, c42⟩, c50, c51, c52⟩ := hSw; go_simp; first | done | with_reducible rfl) | exact Or.inr ⟨by rfl, rfl⟩
          try simp only [List.getElem_toArray, List.getElem_cons_succ, List.getElem_cons_zero, Act.put, List.setIfInBounds_toArray, List.set_cons_zero, List.set_cons_succ]
          refine anyS_take (i := 1) (v := ?vinx1) rfl (by kernel_rfl) (by kernel_rfl) (by kernel_rfl) ?hyinx1 ?restinx1
          case hyinx1 => first | (refine StepS.read (by rfl) (fun wx hSw => ?_); (try dsimp only at hSw); obtain ⟨hHx, ⟨c00, c01, c02⟩, ⟨c10, c11, c12⟩, ⟨c20, c21, c22⟩, ⟨c30, c31, c32⟩, ⟨c40, c41, c42⟩, c50, c51, c52⟩ := hSw; go_simp; first | done | with_reducible rfl) | exact Or.inr ⟨by rfl, rfl⟩
          try simp only [List.getElem_toArray, List.getElem_cons_succ, List.getElem_cons_zero, Act.put, List.setIfInBounds_toArray, List.set_cons_zero, List.set_cons_succ]
          refine anyS_take (i := 2) (v := .bool true) rfl (by kernel_rfl) (by kernel_rfl) (by kernel_rfl) ?hyinx2 ?restinx2
          case hyinx2 => (refine Or.inl ⟨by rfl, fun wx hSw => ?_⟩; (try dsimp only at hSw); have hSk := hSw; obtain ⟨hHx, ⟨c00, c01, c02⟩, ⟨c10, c11, c12⟩, ⟨c20, c21, c22⟩, ⟨c30, c31, c32⟩, ⟨c40, c41, c42⟩, c50, c51, c52⟩ := hSw; go_simp; refine Or.inr ⟨_, _, _, rfl, ?_⟩; (with_reducible refine (sp_has_is _ _ _ _ hin).mono ?_); rintro e w' ⟨rfl, hb'⟩; exact ⟨rfl, SS.step hSk hb'⟩)
          try simp only [List.getElem_toArray, List.getElem_cons_succ, List.getElem_cons_zero, Act.put, List.setIfInBounds_toArray, List.set_cons_zero, List.set_cons_succ]
          refine anyS_take (i := 3) (v := ?vinx3) rfl (by kernel_rfl) (by kernel_rfl) (by kernel_rfl) ?hyinx3 ?restinx3
          case hyinx3 => first | (refine StepS.read (by rfl) (fun wx hSw => ?_); (try dsimp only at hSw); obtain ⟨hHx, ⟨c00, c01, c02⟩, ⟨c10, c11, c12⟩, ⟨c20, c21, c22⟩, ⟨c30, c31, c32⟩, ⟨c40, c41, c42⟩, c50, c51, c52⟩ := hSw; go_simp; first | done | with_reducible rfl) | exact Or.inr ⟨by rfl, rfl⟩
          try simp only [List.getElem_toArray, List.getElem_cons_succ, List.getElem_cons_zero, Act.put, List.setIfInBounds_toArray, List.set_cons_zero, List.set_cons_succ]
          refine anyS_take (i := 4) (v := ?vinx4) rfl (by kernel_rfl) (by kernel_rfl) (by kernel_rfl) ?hyinx4 ?restinx4
          case hyinx4 => first | (refine StepS.read (by rfl) (fun wx hSw => ?_); (try dsimp only at hSw); obtain ⟨hHx, ⟨c00, c01, c02⟩, ⟨c10, c11, c12⟩, ⟨c20, c21, c22⟩, ⟨c30, c31, c32⟩, ⟨c40, c41, c42⟩, c50, c51, c52⟩ := hSw; go_simp; first | done | with_reducible rfl) | exact Or.inr ⟨by rfl, rfl⟩
          try simp only [List.getElem_toArray, List.getElem_cons_succ, List.getElem_cons_zero, Act.put, List.setIfInBounds_toArray, List.set_cons_zero, List.set_cons_succ]
          refine anyS_take (i := 5) (v := ?vinx5) rfl (by kernel_rfl) (by kernel_rfl) (by kernel_rfl) ?hyinx5 ?restinx5
          case hyinx5 => first | (refine StepS.read (by rfl) (fun wx hSw => ?_); (try dsimp only at hSw); obtain ⟨hHx, ⟨c00, c01, c02⟩, ⟨c10, c11, c12⟩, ⟨c20, c21, c22⟩, ⟨c30, c31, c32⟩, ⟨c40, c41, c42⟩, c50, c51, c52⟩ := hSw; go_simp; first | done | with_reducible rfl) | exact Or.inr ⟨by rfl, rfl⟩
          try simp only [List.getElem_toArray, List.getElem_cons_succ, List.getElem_cons_zero, Act.put, List.setIfInBounds_toArray, List.set_cons_zero, List.set_cons_succ]
          refine anyS_take (i := 6) (v := ?vinx6) rfl (by kernel_rfl) (by kernel_rfl) (by kernel_rfl) ?hyinx6 ?restinx6
          case hyinx6 => first | (refine StepS.read (by rfl) (fun wx hSw => ?_); (try dsimp only at hSw); obtain ⟨hHx, ⟨c00, c01, c02⟩, ⟨c10, c11, c12⟩, ⟨c20, c21, c22⟩, ⟨c30, c31, c32⟩, ⟨c40, c41, c42⟩, c50, c51, c52⟩ := hSw; go_simp; first | done | with_reducible rfl) | exact Or.inr ⟨by rfl, rfl⟩
          try simp only [List.getElem_toArray, List.getElem_cons_succ, List.getElem_cons_zero, Act.put, List.setIfInBounds_toArray, List.set_cons_zero, List.set_cons_succ]
          refine anyS_take (i := 7) (v := ?vinx7) rfl (by kernel_rfl) (by kernel_rfl) (by kernel_rfl) ?hyinx7 ?restinx7
          case hyinx7 => first | (refine StepS.read (by rfl) (fun wx hSw => ?_); (try dsimp only at hSw); obtain ⟨hHx, ⟨c00, c01, c02⟩, ⟨c10, c11, c12⟩, ⟨c20, c21, c22⟩, ⟨c30, c31, c32⟩, ⟨c40, c41, c42⟩, c50, c51, c52⟩ := hSw; go_simp; first | done | with_reducible rfl) | exact Or.inr ⟨by rfl, rfl⟩
          try simp only [List.getElem_toArray, List.getElem_cons_succ, List.getElem_cons_zero, Act.put, List.setIfInBounds_toArray, List.set_cons_zero, List.set_cons_succ]
          refine anyS_take (i := 8) (v := ?vinx8) rfl (by kernel_rfl) (by kernel_rfl) (by kernel_rfl) ?hyinx8 ?restinx8
          case hyinx8 => first | (refine StepS.read (by rfl) (fun wx hSw => ?_); (try dsimp only at hSw); obtain ⟨hHx, ⟨c00, c01, c02⟩, ⟨c10, c11, c12⟩, ⟨c20, c21, c22⟩, ⟨c30, c31, c32⟩, ⟨c40, c41, c42⟩, c50, c51, c52⟩ := hSw; go_simp; first | done | with_reducible rfl) | exact Or.inr ⟨by rfl, rfl⟩
          try simp only [List.getElem_toArray, List.getElem_cons_succ, List.getElem_cons_zero, Act.put, List.setIfInBounds_toArray, List.set_cons_zero, List.set_cons_succ]
          refine anyS_take (i := 9) (v := ?vinx9) rfl (by kernel_rfl) (by kernel_rfl) (by kernel_rfl) ?hyinx9 ?restinx9
          case hyinx9 => first | (refine StepS.read (by rfl) (fun wx hSw => ?_); (try dsimp only at hSw); obtain ⟨hHx, ⟨c00, c01, c02⟩, ⟨c10, c11, c12⟩, ⟨c20, c21, c22⟩, ⟨c30, c31, c32⟩, ⟨c40, c41, c42⟩, c50, c51, c52⟩ := hSw; go_simp; first | done | with_reducible rfl) | exact Or.inr ⟨by rfl, rfl⟩
          try simp only [List.getElem_toArray, List.getElem_cons_succ, List.getElem_cons_zero, Act.put, List.setIfInBounds_toArray, List.set_cons_zero, List.set_cons_succ]
          refine anyS_take (i := 10) (v := ?vinx10) rfl (by kernel_rfl) (by kernel_rfl) (by kernel_rfl) ?hyinx10 ?restinx10
          case hyinx10 => first | (refine StepS.read (by rfl) (fun wx hSw => ?_); (try dsimp only at hSw); obtain ⟨hHx, ⟨c00, c01, c02⟩, ⟨c10, c11, c12⟩, ⟨c20, c21, c22⟩, ⟨c30, c31, c32⟩, ⟨c40, c41, c42⟩, c50, c51, c52⟩ := hSw; go_simp; first | done | with_reducible rfl) | exact Or.inr ⟨by rfl, rfl⟩
          try simp only [List.getElem_toArray, List.getElem_cons_succ, List.getElem_cons_zero, Act.put, List.setIfInBounds_toArray, List.set_cons_zero, List.set_cons_succ]
          refine anyS_take (i := 11) (v := ?vinx11) rfl (by kernel_rfl) (by kernel_rfl) (by kernel_rfl) ?hyinx11 ?restinx11
          case hyinx11 => first | (refine StepS.read (by rfl) (fun wx hSw => ?_); (try dsimp only at hSw); obtain ⟨hHx, ⟨c00, c01, c02⟩, ⟨c10, c11, c12⟩, ⟨c20, c21, c22⟩, ⟨c30, c31, c32⟩, ⟨c40, c41, c42⟩, c50, c51, c52⟩ := hSw; go_simp; first | done | with_reducible rfl) | exact Or.inr ⟨by rfl, rfl⟩
          try simp only [List.getElem_toArray, List.getElem_cons_succ, List.getElem_cons_zero, Act.put, List.setIfInBounds_toArray, List.set_cons_zero, List.set_cons_succ]
          refine anyS_take (i := 12) (v := ?vinx12) rfl (by kernel_rfl) (by kernel_rfl) (by kernel_rfl) ?hyinx12 ?restinx12
          case hyinx12 => first | (refine StepS.read (by rfl) (fun wx hSw => ?_); (try dsimp only at hSw); obtain ⟨hHx, ⟨c00, c01, c02⟩, ⟨c10, c11, c12⟩, ⟨c20, c21, c22⟩, ⟨c30, c31, c32⟩, ⟨c40, c41, c42⟩, c50, c51, c52⟩ := hSw; go_simp; first | done | with_reducible rfl) | exact Or.inr ⟨by rfl, rfl⟩
          try simp only [List.getElem_toArray, List.getElem_cons_succ, List.getElem_cons_zero, Act.put, List.setIfInBounds_toArray, List.set_cons_zero, List.set_cons_succ]
          refine anyS_take (i := 13) (v := ?vinx13) rfl (by kernel_rfl) (by kernel_rfl) (by kernel_rfl) ?hyinx13 ?restinx13
          case hyinx13 => first | (refine StepS.read (by rfl) (fun wx hSw => ?_); (try dsimp only at hSw); obtain ⟨hHx, ⟨c00, c01, c02⟩, ⟨c10, c11, c12⟩, ⟨c20, c21, c22⟩, ⟨c30, c31, c32⟩, ⟨c40, c41, c42⟩, c50, c51, c52⟩ := hSw; go_simp; first | done | with_reducible rfl) | exact Or.inr ⟨by rfl, rfl⟩
          try simp only [List.getElem_toArray, List.getElem_cons_succ, List.getElem_cons_zero, Act.put, List.setIfInBounds_toArray, List.set_cons_zero, List.set_cons_succ]
          refine anyS_take (i := 14) (v := ?vinx14) rfl (by kernel_rfl) (by kernel_rfl) (by kernel_rfl) ?hyinx14 ?restinx14
          case hyinx14 => first | (refine StepS.read (by rfl) (fun wx hSw => ?_); (try dsimp only at hSw); obtain ⟨hHx, ⟨c00, c01, c02⟩, ⟨c10, c11, c12⟩, ⟨c20, c21, c22⟩, ⟨c30, c31, c32⟩, ⟨c40, c41, c42⟩, c50, c51, c52⟩ := hSw; go_simp; first | done | with_reducible rfl) | exact Or.inr ⟨by rfl, rfl⟩
          try simp only [List.getElem_toArray, List.getElem_cons_succ, List.getElem_cons_zero, Act.put, List.setIfInBounds_toArray, List.set_cons_zero, List.set_cons_succ]
          refine anyS_take (i := 15) (v := ?vinx15) rfl (by kernel_rfl) (by kernel_rfl) (by kernel_rfl) ?hyinx15 ?restinx15
          case hyinx15 => first | (refine StepS.read (by rfl) (fun wx hSw => ?_); (try dsimp only at hSw); obtain ⟨hHx, ⟨c00, c01, c02⟩, ⟨c10, c11, c12⟩, ⟨c20, c21, c22⟩, ⟨c30, c31, c32⟩, ⟨c40, c41, c42⟩, c50, c51, c52⟩ := hSw; go_simp; first | done | with_reducible rfl) | exact Or.inr ⟨by rfl, rfl⟩
          try simp only [List.getElem_toArray, List.getElem_cons_succ, List.getElem_cons_zero, Act.put, List.setIfInBounds_toArray, List.set_cons_zero, List.set_cons_succ]
          refine anyS_take (i := 16) (v := .nilIface) rfl (by kernel_rfl) (by kernel_rfl) (by kernel_rfl) ?hyinx16 ?restinx16
          case hyinx16 => (refine Or.inl ⟨by rfl, fun wx hSw => ?_⟩; (try dsimp only at hSw); have hSk := hSw; obtain ⟨hHx, ⟨c00, c01, c02⟩, ⟨c10, c11, c12⟩, ⟨c20, c21, c22⟩, ⟨c30, c31, c32⟩, ⟨c40, c41, c42⟩, c50, c51, c52⟩ := hSw; go_simp; refine Or.inr ⟨_, _, _, rfl, ?_⟩; (with_reducible refine (sp_check_ok _ _ _ hva).mono ?_); rintro e w' ⟨rfl, hb'⟩; exact ⟨rfl, SS.step hSk hb'⟩)
          try simp only [List.getElem_toArray, List.getElem_cons_succ, List.getElem_cons_zero, Act.put, List.setIfInBounds_toArray, List.set_cons_zero, List.set_cons_succ]
          refine anyS_take (i := 17) (v := ?vinx17) rfl (by kernel_rfl) (by kernel_rfl) (by kernel_rfl) ?hyinx17 ?restinx17
          case hyinx17 => first | (refine StepS.read (by rfl) (fun wx hSw => ?_); (try dsimp only at hSw); obtain ⟨hHx, ⟨c00, c01, c02⟩, ⟨c10, c11, c12⟩, ⟨c20, c21, c22⟩, ⟨c30, c31, c32⟩, ⟨c40, c41, c42⟩, c50, c51, c52⟩ := hSw; go_simp; first | done | with_reducible rfl) | exact Or.inr ⟨by rfl, rfl⟩
          try simp only [List.getElem_toArray, List.getElem_cons_succ, List.getElem_cons_zero, Act.put, List.setIfInBounds_toArray, List.set_cons_zero, List.set_cons_succ]
          refine anyS_take (i := 18) (v := ?vinx18) rfl (by kernel_rfl) (by kernel_rfl) (by kernel_rfl) ?hyinx18 ?restinx18
          case hyinx18 => first | (refine StepS.read (by rfl) (fun wx hSw => ?_); (try dsimp only at hSw); obtain ⟨hHx, ⟨c00, c01, c02⟩, ⟨c10, c11, c12⟩, ⟨c20, c21, c22⟩, ⟨c30, c31, c32⟩, ⟨c40, c41, c42⟩, c50, c51, c52⟩ := hSw; go_simp; first | done | with_reducible rfl) | exact Or.inr ⟨by rfl, rfl⟩
          try simp only [List.getElem_toArray, List.getElem_cons_succ, List.getElem_cons_zero, Act.put, List.setIfInBounds_toArray, List.set_cons_zero, List.set_cons_succ]
          refine anyS_take (i := 19) (v := ?vinx19) rfl (by kernel_rfl) (by kernel_rfl) (by kernel_rfl) ?hyinx19 ?restinx19
          case hyinx19 => first | (refine StepS.read (by rfl) (fun wx hSw => ?_); (try dsimp only at hSw); obtain ⟨hHx, ⟨c00, c01, c02⟩, ⟨c10, c11, c12⟩, ⟨c20, c21, c22⟩, ⟨c30, c31, c32⟩, ⟨c40, c41, c42⟩, c50, c51, c52⟩ := hSw; go_simp; first | done | with_reducible rfl) | exact Or.inr ⟨by rfl, rfl⟩
          try simp only [List.getElem_toArray, List.getElem_cons_succ, List.getElem_cons_zero, Act.put, List.setIfInBounds_toArray, List.set_cons_zero, List.set_cons_succ]
          refine anyS_take (i := 20) (v := ?vinx20) rfl (by kernel_rfl) (by kernel_rfl) (by kernel_rfl) ?hyinx20 ?restinx20
          case hyinx20 => first | (refine StepS.read (by rfl) (fun wx hSw => ?_); (try dsimp only at hSw); obtain ⟨hHx, ⟨c00, c01, c02⟩, ⟨c10, c11, c12⟩, ⟨c20, c21, c22⟩, ⟨c30, c31, c32⟩, ⟨c40, c41, c42⟩, c50, c51, c52⟩ := hSw; go_simp; first | done | with_reducible rfl) | exact Or.inr ⟨by rfl, rfl⟩
          try simp only [List.getElem_toArray, List.getElem_cons_succ, List.getElem_cons_zero, Act.put, List.setIfInBounds_toArray, List.set_cons_zero, List.set_cons_succ]
          refine anyS_take (i := 21) (v := ?vinx21) rfl (by kernel_rfl) (by kernel_rfl) (by kernel_rfl) ?hyinx21 ?restinx21
          case hyinx21 => first | (refine StepS.read (by rfl) (fun wx hSw => ?_); (try dsimp only at hSw); obtain ⟨hHx, ⟨c00, c01, c02⟩, ⟨c10, c11, c12⟩, ⟨c20, c21, c22⟩, ⟨c30, c31, c32⟩, ⟨c40, c41, c42⟩, c50, c51, c52⟩ := hSw; go_simp; first | done | with_reducible rfl) | exact Or.inr ⟨by rfl, rfl⟩
          try simp only [List.getElem_toArray, List.getElem_cons_succ, List.getElem_cons_zero, Act.put, List.setIfInBounds_toArray, List.set_cons_zero, List.set_cons_succ]
          refine anyS_take (i := 22) (v := ?vinx22) rfl (by kernel_rfl) (by kernel_rfl) (by kernel_rfl) ?hyinx22 ?restinx22
          case hyinx22 => first | (refine StepS.read (by rfl) (fun wx hSw => ?_); (try dsimp only at hSw); obtain ⟨hHx, ⟨c00, c01, c02⟩, ⟨c10, c11, c12⟩, ⟨c20, c21, c22⟩, ⟨c30, c31, c32⟩, ⟨c40, c41, c42⟩, c50, c51, c52⟩ := hSw; go_simp; first | done | with_reducible rfl) | exact Or.inr ⟨by rfl, rfl⟩
          try simp only [List.getElem_toArray, List.getElem_cons_succ, List.getElem_cons_zero, Act.put, List.setIfInBounds_toArray, List.set_cons_zero, List.set_cons_succ]
          refine anyS_take (i := 23) (v := ?vinx23) rfl (by kernel_rfl) (by kernel_rfl) (by kernel_rfl) ?hyinx23 ?restinx23
          case hyinx23 => first | (refine StepS.read (by rfl) (fun wx hSw => ?_); (try dsimp only at hSw); obtain ⟨hHx, ⟨c00, c01, c02⟩, ⟨c10, c11, c12⟩, ⟨c20, c21, c22⟩, ⟨c30, c31, c32⟩, ⟨c40, c41, c42⟩, c50, c51, c52⟩ := hSw; go_simp; first | done | with_reducible rfl) | exact Or.inr ⟨by rfl, rfl⟩
          try simp only [List.getElem_toArray, List.getElem_cons_succ, List.getElem_cons_zero, Act.put, List.setIfInBounds_toArray, List.set_cons_zero, List.set_cons_succ]
          refine anyS_take (i := 24) (v := ?vinx24) rfl (by kernel_rfl) (by kernel_rfl) (by kernel_rfl) ?hyinx24 ?restinx24
          case hyinx24 => first | (refine StepS.read (by rfl) (fun wx hSw => ?_); (try dsimp only at hSw); obtain ⟨hHx, ⟨c00, c01, c02⟩, ⟨c10, c11, c12⟩, ⟨c20, c21, c22⟩, ⟨c30, c31, c32⟩, ⟨c40, c41, c42⟩, c50, c51, c52⟩ := hSw; go_simp; first | done | with_reducible rfl) | exact Or.inr ⟨by rfl, rfl⟩
          try simp only [List.getElem_toArray, List.getElem_cons_succ, List.getElem_cons_zero, Act.put, List.setIfInBounds_toArray, List.set_cons_zero, List.set_cons_succ]
          refine anyS_done (by kernel_rfl) (fun wx hSw => ?_) _
          (try dsimp only at hSw)
          go_wp2_with (fail)
          go_meet
          exact ⟨rfl, hSw⟩
        · have hd2 : decide (n ≤ a1) = false := decide_eq_false hn1
          have hin : ¬ (a0 ≤ n ∧ n ≤ a1) := fun h => hn1 h.2
          refine wp_region_S (S := (fun wx => SS w (w.heap.size) (.int .i64 a0) (.int .i64 a1) (w.heap.size + 1) (.int .i64 b0) (.int .i64 b1) (bx) (.int .i64 a0) (.int .i64 a1) (bY) (.int .i64 b0) (.int .i64 b1) (w1.heap.size) (.int .i64 0) (.int .i64 0) (w2.heap.size) (.int .i64 (sat (a0 - n))) (.int .i64 (sat (a1 + n))) wx)) (by kernel_rfl) (SS.drew hS0) ?_
          refine anyS_take (i := 0) (v := ?vhix0) rfl (by kernel_rfl) (by kernel_rfl) (by kernel_rfl) ?hyhix0 ?resthix0
          case hyhix0 => first | (refine StepS.read (by rfl) (fun wx hSw => ?_); (try dsimp only at hSw); obtain ⟨hHx, ⟨c00, c01, c02⟩, ⟨c10, c11, c12⟩, ⟨c20, c21, c22⟩, ⟨c30, c31, c32⟩, ⟨c40, c41, c42⟩, c50, c51, c52⟩ := hSw; go_simp; first | done | with_reducible rfl) | exact Or.inr ⟨by rfl, rfl⟩
          try simp only [List.getElem_toArray, List.getElem_cons_succ, List.getElem_cons_zero, Act.put, List.setIfInBounds_toArray, List.set_cons_zero, List.set_cons_succ]
          refine anyS_take (i := 1) (v := ?vhix1) rfl (by kernel_rfl) (by kernel_rfl) (by kernel_rfl) ?hyhix1 ?resthix1
          case hyhix1 => first | (refine StepS.read (by rfl) (fun wx hSw => ?_); (try dsimp only at hSw); obtain ⟨hHx, ⟨c00, c01, c02⟩, ⟨c10, c11, c12⟩, ⟨c20, c21, c22⟩, ⟨c30, c31, c32⟩, ⟨c40, c41, c42⟩, c50, c51, c52⟩ := hSw; go_simp; first | done | with_reducible rfl) | exact Or.inr ⟨by rfl, rfl⟩
          try simp only [List.getElem_toArray, List.getElem_cons_succ, List.getElem_cons_zero, Act.put, List.setIfInBounds_toArray, List.set_cons_zero, List.set_cons_succ]
          refine anyS_take (i := 2) (v := .bool false) rfl (by kernel_rfl) (by kernel_rfl) (by kernel_rfl) ?hyhix2 ?resthix2
          case hyhix2 => (refine Or.inl ⟨by rfl, fun wx hSw => ?_⟩; (try dsimp only at hSw); have hSk := hSw; obtain ⟨hHx, ⟨c00, c01, c02⟩, ⟨c10, c11, c12⟩, ⟨c20, c21, c22⟩, ⟨c30, c31, c32⟩, ⟨c40, c41, c42⟩, c50, c51, c52⟩ := hSw; go_simp; refine Or.inr ⟨_, _, _, rfl, ?_⟩; (with_reducible refine (sp_has_not _ _ _ _ hin).mono ?_); rintro e w' ⟨rfl, hb'⟩; exact ⟨rfl, SS.step hSk hb'⟩)
          try simp only [List.getElem_toArray, List.getElem_cons_succ, List.getElem_cons_zero, Act.put, List.setIfInBounds_toArray, List.set_cons_zero, List.set_cons_succ]
          refine anyS_take (i := 3) (v := ?vhix3) rfl (by kernel_rfl) (by kernel_rfl) (by kernel_rfl) ?hyhix3 ?resthix3
          case hyhix3 => first | (refine StepS.read (by rfl) (fun wx hSw => ?_); (try dsimp only at hSw); obtain ⟨hHx, ⟨c00, c01, c02⟩, ⟨c10, c11, c12⟩, ⟨c20, c21, c22⟩, ⟨c30, c31, c32⟩, ⟨c40, c41, c42⟩, c50, c51, c52⟩ := hSw; go_simp; first | done | with_reducible rfl) | exact Or.inr ⟨by rfl, rfl⟩
          try simp only [List.getElem_toArray, List.getElem_cons_succ, List.getElem_cons_zero, Act.put, List.setIfInBounds_toArray, List.set_cons_zero, List.set_cons_succ]
          refine anyS_take (i := 4) (v := ?vhix4) rfl (by kernel_rfl) (by kernel_rfl) (by kernel_rfl) ?hyhix4 ?resthix4
          case hyhix4 => first | (refine StepS.read (by rfl) (fun wx hSw => ?_); (try dsimp only at hSw); obtain ⟨hHx, ⟨c00, c01, c02⟩, ⟨c10, c11, c12⟩, ⟨c20, c21, c22⟩, ⟨c30, c31, c32⟩, ⟨c40, c41, c42⟩, c50, c51, c52⟩ := hSw; go_simp; first | done | with_reducible rfl) | exact Or.inr ⟨by rfl, rfl⟩
          try simp only [List.getElem_toArray, List.getElem_cons_succ, List.getElem_cons_zero, Act.put, List.setIfInBounds_toArray, List.set_cons_zero, List.set_cons_succ]
          refine anyS_take (i := 5) (v := ?vhix5) rfl (by kernel_rfl) (by kernel_rfl) (by kernel_rfl) ?hyhix5 ?resthix5
          case hyhix5 => first | (refine StepS.read (by rfl) (fun wx hSw => ?_); (try dsimp only at hSw); obtain ⟨hHx, ⟨c00, c01, c02⟩, ⟨c10, c11, c12⟩, ⟨c20, c21, c22⟩, ⟨c30, c31, c32⟩, ⟨c40, c41, c42⟩, c50, c51, c52⟩ := hSw; go_simp; first | done | with_reducible rfl) | exact Or.inr ⟨by rfl, rfl⟩
          try simp only [List.getElem_toArray, List.getElem_cons_succ, List.getElem_cons_zero, Act.put, List.setIfInBounds_toArray, List.set_cons_zero, List.set_cons_succ]
          refine anyS_take (i := 6) (v := ?vhix6) rfl (by kernel_rfl) (by kernel_rfl) (by kernel_rfl) ?hyhix6 ?resthix6
          case hyhix6 => first | (refine StepS.read (by rfl) (fun wx hSw => ?_); (try dsimp only at hSw); obtain ⟨hHx, ⟨c00, c01, c02⟩, ⟨c10, c11, c12⟩, ⟨c20, c21, c22⟩, ⟨c30, c31, c32⟩, ⟨c40, c41, c42⟩, c50, c51, c52⟩ := hSw; go_simp; first | done | with_reducible rfl) | exact Or.inr ⟨by rfl, rfl⟩
          try simp only [List.getElem_toArray, List.getElem_cons_succ, List.getElem_cons_zero, Act.put, List.setIfInBounds_toArray, List.set_cons_zero, List.set_cons_succ]
          refine anyS_take (i := 7) (v := ?vhix7) rfl (by kernel_rfl) (by kernel_rfl) (by kernel_rfl) ?hyhix7 ?resthix7
          case hyhix7 => first | (refine StepS.read (by rfl) (fun wx hSw => ?_); (try dsimp only at hSw); obtain ⟨hHx, ⟨c00, c01, c02⟩, ⟨c10, c11, c12⟩, ⟨c20, c21, c22⟩, ⟨c30, c31, c32⟩, ⟨c40, c41, c42⟩, c50, c51, c52⟩ := hSw; go_simp; first | done | with_reducible rfl) | exact Or.inr ⟨by rfl, rfl⟩
          try simp only [List.getElem_toArray, List.getElem_cons_succ, List.getElem_cons_zero, Act.put, List.setIfInBounds_toArray, List.set_cons_zero, List.set_cons_succ]
          refine anyS_take (i := 8) (v := ?vhix8) rfl (by kernel_rfl) (by kernel_rfl) (by kernel_rfl) ?hyhix8 ?resthix8
          case hyhix8 => first | (refine StepS.read (by rfl) (fun wx hSw => ?_); (try dsimp only at hSw); obtain ⟨hHx, ⟨c00, c01, c02⟩, ⟨c10, c11, c12⟩, ⟨c20, c21, c22⟩, ⟨c30, c31, c32⟩, ⟨c40, c41, c42⟩, c50, c51, c52⟩ := hSw; go_simp; first | done | with_reducible rfl) | exact Or.inr ⟨by rfl, rfl⟩
          try simp only [List.getElem_toArray, List.getElem_cons_succ, List.getElem_cons_zero, Act.put, List.setIfInBounds_toArray, List.set_cons_zero, List.set_cons_succ]
          refine anyS_take (i := 9) (v := ?vhix9) rfl (by kernel_rfl) (by kernel_rfl) (by kernel_rfl) ?hyhix9 ?resthix9
          case hyhix9 => first | (refine StepS.read (by rfl) (fun wx hSw => ?_); (try dsimp only at hSw); obtain ⟨hHx, ⟨c00, c01, c02⟩, ⟨c10, c11, c12⟩, ⟨c20, c21, c22⟩, ⟨c30, c31, c32⟩, ⟨c40, c41, c42⟩, c50, c51, c52⟩ := hSw; go_simp; first | done | with_reducible rfl) | exact Or.inr ⟨by rfl, rfl⟩
          try simp only [List.getElem_toArray, List.getElem_cons_succ, List.getElem_cons_zero, Act.put, List.setIfInBounds_toArray, List.set_cons_zero, List.set_cons_succ]
          refine anyS_take (i := 10) (v := ?vhix10) rfl (by kernel_rfl) (by kernel_rfl) (by kernel_rfl) ?hyhix10 ?resthix10
          case hyhix10 => first | (refine StepS.read (by rfl) (fun wx hSw => ?_); (try dsimp only at hSw); obtain ⟨hHx, ⟨c00, c01, c02⟩, ⟨c10, c11, c12⟩, ⟨c20, c21, c22⟩, ⟨c30, c31, c32⟩, ⟨c40, c41, c42⟩, c50, c51, c52⟩ := hSw; go_simp; first | done | with_reducible rfl) | exact Or.inr ⟨by rfl, rfl⟩
          try simp only [List.getElem_toArray, List.getElem_cons_succ, List.getElem_cons_zero, Act.put, List.setIfInBounds_toArray, List.set_cons_zero, List.set_cons_succ]
          refine anyS_take (i := 11) (v := ?vhix11) rfl (by kernel_rfl) (by kernel_rfl) (by kernel_rfl) ?hyhix11 ?resthix11
          case hyhix11 => first | (refine StepS.read (by rfl) (fun wx hSw => ?_); (try dsimp only at hSw); obtain ⟨hHx, ⟨c00, c01, c02⟩, ⟨c10, c11, c12⟩, ⟨c20, c21, c22⟩, ⟨c30, c31, c32⟩, ⟨c40, c41, c42⟩, c50, c51, c52⟩ := hSw; go_simp; first | done | with_reducible rfl) | exact Or.inr ⟨by rfl, rfl⟩
          try simp only [List.getElem_toArray, List.getElem_cons_succ, List.getElem_cons_zero, Act.put, List.setIfInBounds_toArray, List.set_cons_zero, List.set_cons_succ]
          refine anyS_take (i := 12) (v := ?vhix12) rfl (by kernel_rfl) (by kernel_rfl) (by kernel_rfl) ?hyhix12 ?resthix12
          case hyhix12 => first | (refine StepS.read (by rfl) (fun wx hSw => ?_); (try dsimp only at hSw); obtain ⟨hHx, ⟨c00, c01, c02⟩, ⟨c10, c11, c12⟩, ⟨c20, c21, c22⟩, ⟨c30, c31, c32⟩, ⟨c40, c41, c42⟩, c50, c51, c52⟩ := hSw; go_simp; first | done | with_reducible rfl) | exact Or.inr ⟨by rfl, rfl⟩
          try simp only [List.getElem_toArray, List.getElem_cons_succ, List.getElem_cons_zero, Act.put, List.setIfInBounds_toArray, List.set_cons_zero, List.set_cons_succ]
          refine anyS_take (i := 13) (v := ?vhix13) rfl (by kernel_rfl) (by kernel_rfl) (by kernel_rfl) ?hyhix13 ?resthix13
          case hyhix13 => first | (refine StepS.read (by rfl) (fun wx hSw => ?_); (try dsimp only at hSw); obtain ⟨hHx, ⟨c00, c01, c02⟩, ⟨c10, c11, c12⟩, ⟨c20, c21, c22⟩, ⟨c30, c31, c32⟩, ⟨c40, c41, c42⟩, c50, c51, c52⟩ := hSw; go_simp; first | done | with_reducible rfl) | exact Or.inr ⟨by rfl, rfl⟩
          try simp only [List.getElem_toArray, List.getElem_cons_succ, List.getElem_cons_zero, Act.put, List.setIfInBounds_toArray, List.set_cons_zero, List.set_cons_succ]
          refine anyS_take (i := 14) (v := ?vhix14) rfl (by kernel_rfl) (by kernel_rfl) (by kernel_rfl) ?hyhix14 ?resthix14
          case hyhix14 => first | (refine StepS.read (by rfl) (fun wx hSw => ?_); (try dsimp only at hSw); obtain ⟨hHx, ⟨c00, c01, c02⟩, ⟨c10, c11, c12⟩, ⟨c20, c21, c22⟩, ⟨c30, c31, c32⟩, ⟨c40, c41, c42⟩, c50, c51, c52⟩ := hSw; go_simp; first | done | with_reducible rfl) | exact Or.inr ⟨by rfl, rfl⟩
          try simp only [List.getElem_toArray, List.getElem_cons_succ, List.getElem_cons_zero, Act.put, List.setIfInBounds_toArray, List.set_cons_zero, List.set_cons_succ]
          refine anyS_take (i := 15) (v := ?vhix15) rfl (by kernel_rfl) (by kernel_rfl) (by kernel_rfl) ?hyhix15 ?resthix15
          case hyhix15 => first | (refine StepS.read (by rfl) (fun wx hSw => ?_); (try dsimp only at hSw); obtain ⟨hHx, ⟨c00, c01, c02⟩, ⟨c10, c11, c12⟩, ⟨c20, c21, c22⟩, ⟨c30, c31, c32⟩, ⟨c40, c41, c42⟩, c50, c51, c52⟩ := hSw; go_simp; first | done | with_reducible rfl) | exact Or.inr ⟨by rfl, rfl⟩
          try simp only [List.getElem_toArray, List.getElem_cons_succ, List.getElem_cons_zero, Act.put, List.setIfInBounds_toArray, List.set_cons_zero, List.set_cons_succ]
          refine anyS_take (i := 16) (v := .nilIface) rfl (by kernel_rfl) (by kernel_rfl) (by kernel_rfl) ?hyhix16 ?resthix16
          case hyhix16 => (refine Or.inl ⟨by rfl, fun wx hSw => ?_⟩; (try dsimp only at hSw); have hSk := hSw; obtain ⟨hHx, ⟨c00, c01, c02⟩, ⟨c10, c11, c12⟩, ⟨c20, c21, c22⟩, ⟨c30, c31, c32⟩, ⟨c40, c41, c42⟩, c50, c51, c52⟩ := hSw; go_simp; refine Or.inr ⟨_, _, _, rfl, ?_⟩; (with_reducible refine (sp_check_ok _ _ _ hva).mono ?_); rintro e w' ⟨rfl, hb'⟩; exact ⟨rfl, SS.step hSk hb'⟩)
          try simp only [List.getElem_toArray, List.getElem_cons_succ, List.getElem_cons_zero, Act.put, List.setIfInBounds_toArray, List.set_cons_zero, List.set_cons_succ]
          refine anyS_take (i := 17) (v := ?vhix17) rfl (by kernel_rfl) (by kernel_rfl) (by kernel_rfl) ?hyhix17 ?resthix17
          case hyhix17 => first | (refine StepS.read (by rfl) (fun wx hSw => ?_); (try dsimp only at hSw); obtain ⟨hHx, ⟨c00, c01, c02⟩, ⟨c10, c11, c12⟩, ⟨c20, c21, c22⟩, ⟨c30, c31, c32⟩, ⟨c40, c41, c42⟩, c50, c51, c52⟩ := hSw; go_simp; first | done | with_reducible rfl) | exact Or.inr ⟨by rfl, rfl⟩
          try simp only [List.getElem_toArray, List.getElem_cons_succ, List.getElem_cons_zero, Act.put, List.setIfInBounds_toArray, List.set_cons_zero, List.set_cons_succ]
          refine anyS_take (i := 18) (v := ?vhix18) rfl (by kernel_rfl) (by kernel_rfl) (by kernel_rfl) ?hyhix18 ?resthix18
          case hyhix18 => first | (refine StepS.read (by rfl) (fun wx hSw => ?_); (try dsimp only at hSw); obtain ⟨hHx, ⟨c00, c01, c02⟩, ⟨c10, c11, c12⟩, ⟨c20, c21, c22⟩, ⟨c30, c31, c32⟩, ⟨c40, c41, c42⟩, c50, c51, c52⟩ := hSw; go_simp; first | done | with_reducible rfl) | exact Or.inr ⟨by rfl, rfl⟩
          try simp only [List.getElem_toArray, List.getElem_cons_succ, List.getElem_cons_zero, Act.put, List.setIfInBounds_toArray, List.set_cons_zero, List.set_cons_succ]
          refine anyS_take (i := 19) (v := ?vhix19) rfl (by kernel_rfl) (by kernel_rfl) (by kernel_rfl) ?hyhix19 ?resthix19
          case hyhix19 => first | (refine StepS.read (by rfl) (fun wx hSw => ?_); (try dsimp only at hSw); obtain ⟨hHx, ⟨c00, c01, c02⟩, ⟨c10, c11, c12⟩, ⟨c20, c21, c22⟩, ⟨c30, c31, c32⟩, ⟨c40, c41, c42⟩, c50, c51, c52⟩ := hSw; go_simp; first | done | with_reducible rfl) | exact Or.inr ⟨by rfl, rfl⟩
          try simp only [List.getElem_toArray, List.getElem_cons_succ, List.getElem_cons_zero, Act.put, List.setIfInBounds_toArray, List.set_cons_zero, List.set_cons_succ]
          refine anyS_take (i := 20) (v := ?vhix20) rfl (by kernel_rfl) (by kernel_rfl) (by kernel_rfl) ?hyhix20 ?resthix20
          case hyhix20 => first | (refine StepS.read (by rfl) (fun wx hSw => ?_); (try dsimp only at hSw); obtain ⟨hHx, ⟨c00, c01, c02⟩, ⟨c10, c11, c12⟩, ⟨c20, c21, c22⟩, ⟨c30, c31, c32⟩, ⟨c40, c41, c42⟩, c50, c51, c52⟩ := hSw; go_simp; first | done | with_reducible rfl) | exact Or.inr ⟨by rfl, rfl⟩
          try simp only [List.getElem_toArray, List.getElem_cons_succ, List.getElem_cons_zero, Act.put, List.setIfInBounds_toArray, List.set_cons_zero, List.set_cons_succ]
          refine anyS_take (i := 21) (v := ?vhix21) rfl (by kernel_rfl) (by kernel_rfl) (by kernel_rfl) ?hyhix21 ?resthix21
          case hyhix21 => first | (refine StepS.read (by rfl) (fun wx hSw => ?_); (try dsimp only at hSw); obtain ⟨hHx, ⟨c00, c01, c02⟩, ⟨c10, c11, c12⟩, ⟨c20, c21, c22⟩, ⟨c30, c31, c32⟩, ⟨c40, c41, c42⟩, c50, c51, c52⟩ := hSw; go_simp; first | done | with_reducible rfl) | exact Or.inr ⟨by rfl, rfl⟩
          try simp only [List.getElem_toArray, List.getElem_cons_succ, List.getElem_cons_zero, Act.put, List.setIfInBounds_toArray, List.set_cons_zero, List.set_cons_succ]
          refine anyS_take (i := 22) (v := ?vhix22) rfl (by kernel_rfl) (by kernel_rfl) (by kernel_rfl) ?hyhix22 ?resthix22
          case hyhix22 => first | (refine StepS.read (by rfl) (fun wx hSw => ?_); (try dsimp only at hSw); obtain ⟨hHx, ⟨c00, c01, c02⟩, ⟨c10, c11, c12⟩, ⟨c20, c21, c22⟩, ⟨c30, c31, c32⟩, ⟨c40, c41, c42⟩, c50, c51, c52⟩ := hSw; go_simp; first | done | with_reducible rfl) | exact Or.inr ⟨by rfl, rfl⟩
          try simp only [List.getElem_toArray, List.getElem_cons_succ, List.getElem_cons_zero, Act.put, List.setIfInBounds_toArray, List.set_cons_zero, List.set_cons_succ]
          refine anyS_take (i := 23) (v := ?vhix23) rfl (by kernel_rfl) (by kernel_rfl) (by kernel_rfl) ?hyhix23 ?resthix23
          case hyhix23 => first | (refine StepS.read (by rfl) (fun wx hSw => ?_); (try dsimp only at hSw); obtain ⟨hHx, ⟨c00, c01, c02⟩, ⟨c10, c11, c12⟩, ⟨c20, c21, c22⟩, ⟨c30, c31, c32⟩, ⟨c40, c41, c42⟩, c50, c51, c52⟩ := hSw; go_simp; first | done | with_reducible rfl) | exact Or.inr ⟨by rfl, rfl⟩
          try simp only [List.getElem_toArray, List.getElem_cons_succ, List.getElem_cons_zero, Act.put, List.setIfInBounds_toArray, List.set_cons_zero, List.set_cons_succ]
          refine anyS_take (i := 24) (v := ?vhix24) rfl (by kernel_rfl) (by kernel_rfl) (by kernel_rfl) ?hyhix24 ?resthix24
          case hyhix24 => first | (refine StepS.read (by rfl) (fun wx hSw => ?_); (try dsimp only at hSw); obtain ⟨hHx, ⟨c00, c01, c02⟩, ⟨c10, c11, c12⟩, ⟨c20, c21, c22⟩, ⟨c30, c31, c32⟩, ⟨c40, c41, c42⟩, c50, c51, c52⟩ := hSw; go_simp; first | done | with_reducible rfl) | exact Or.inr ⟨by rfl, rfl⟩
          try simp only [List.getElem_toArray, List.getElem_cons_succ, List.getElem_cons_zero, Act.put, List.setIfInBounds_toArray, List.set_cons_zero, List.set_cons_succ]
          refine anyS_done (by kernel_rfl) (fun wx hSw => ?_) _
          (try dsimp only at hSw)
          go_wp2_with (fail)
          go_meet
          exact ⟨rfl, hSw⟩
      · have hd1 : decide (a0 ≤ n) = false := decide_eq_false hn0
        have hin : ¬ (a0 ≤ n ∧ n ≤ a1) := fun h => hn0 h.1
        refine wp_region_S (S := (fun wx => SS w (w.heap.size) (.int .i64 a0) (.int .i64 a1) (w.heap.size + 1) (.int .i64 b0) (.int .i64 b1) (bx) (.int .i64 a0) (.int .i64 a1) (bY) (.int .i64 b0) (.int .i64 b1) (w1.heap.size) (.int .i64 0) (.int .i64 0) (w2.heap.size) (.int .i64 (sat (a0 - n))) (.int .i64 (sat (a1 + n))) wx)) (by kernel_rfl) (SS.drew hS0) ?_
        refine anyS_take (i := 0) (v := ?vlox0) rfl (by kernel_rfl) (by kernel_rfl) (by kernel_rfl) ?hylox0 ?restlox0
        case hylox0 => first | (refine StepS.read (by rfl) (fun wx hSw => ?_); (try dsimp only at hSw); obtain ⟨hHx, ⟨c00, c01, c02⟩, ⟨c10, c11, c12⟩, ⟨c20, c21, c22⟩, ⟨c30, c31, c32⟩, ⟨c40, c41, c42⟩, c50, c51, c52⟩ := hSw; go_simp; first | done | with_reducible rfl) | exact Or.inr ⟨by rfl, rfl⟩
        try simp only [List.getElem_toArray, List.getElem_cons_succ, List.getElem_cons_zero, Act.put, List.setIfInBounds_toArray, List.set_cons_zero, List.set_cons_succ]
        refine anyS_take (i := 1) (v := ?vlox1) rfl (by kernel_rfl) (by kernel_rfl) (by kernel_rfl) ?hylox1 ?restlox1
        case hylox1 => first | (refine StepS.read (by rfl) (fun wx hSw => ?_); (try dsimp only at hSw); obtain ⟨hHx, ⟨c00, c01, c02⟩, ⟨c10, c11, c12⟩, ⟨c20, c21, c22⟩, ⟨c30, c31, c32⟩, ⟨c40, c41, c42⟩, c50, c51, c52⟩ := hSw; go_simp; first | done | with_reducible rfl) | exact Or.inr ⟨by rfl, rfl⟩
        try simp only [List.getElem_toArray, List.getElem_cons_succ, List.getElem_cons_zero, Act.put, List.setIfInBounds_toArray, List.set_cons_zero, List.set_cons_succ]
        refine anyS_take (i := 2) (v := .bool false) rfl (by kernel_rfl) (by kernel_rfl) (by kernel_rfl) ?hylox2 ?restlox2
        case hylox2 => (refine Or.inl ⟨by rfl, fun wx hSw => ?_⟩; (try dsimp only at hSw); have hSk := hSw; obtain ⟨hHx, ⟨c00, c01, c02⟩, ⟨c10, c11, c12⟩, ⟨c20, c21, c22⟩, ⟨c30, c31, c32⟩, ⟨c40, c41, c42⟩, c50, c51, c52⟩ := hSw; go_simp; refine Or.inr ⟨_, _, _, rfl, ?_⟩; (with_reducible refine (sp_has_not _ _ _ _ hin).mono ?_); rintro e w' ⟨rfl, hb'⟩; exact ⟨rfl, SS.step hSk hb'⟩)
        try simp only [List.getElem_toArray, List.getElem_cons_succ, List.getElem_cons_zero, Act.put, List.setIfInBounds_toArray, List.set_cons_zero, List.set_cons_succ]
        refine anyS_take (i := 3) (v := ?vlox3) rfl (by kernel_rfl) (by kernel_rfl) (by kernel_rfl) ?hylox3 ?restlox3
        case hylox3 => first | (refine StepS.read (by rfl) (fun wx hSw => ?_); (try dsimp only at hSw); obtain ⟨hHx, ⟨c00, c01, c02⟩, ⟨c10, c11, c12⟩, ⟨c20, c21, c22⟩, ⟨c30, c31, c32⟩, ⟨c40, c41, c42⟩, c50, c51, c52⟩ := hSw; go_simp; first | done | with_reducible rfl) | exact Or.inr ⟨by rfl, rfl⟩
        try simp only [List.getElem_toArray, List.getElem_cons_succ, List.getElem_cons_zero, Act.put, List.setIfInBounds_toArray, List.set_cons_zero, List.set_cons_succ]
        refine anyS_take (i := 4) (v := ?vlox4) rfl (by kernel_rfl) (by kernel_rfl) (by kernel_rfl) ?hylox4 ?restlox4
        case hylox4 => first | (refine StepS.read (by rfl) (fun wx hSw => ?_); (try dsimp only at hSw); obtain ⟨hHx, ⟨c00, c01, c02⟩, ⟨c10, c11, c12⟩, ⟨c20, c21, c22⟩, ⟨c30, c31, c32⟩, ⟨c40, c41, c42⟩, c50, c51, c52⟩ := hSw; go_simp; first | done | with_reducible rfl) | exact Or.inr ⟨by rfl, rfl⟩
        try simp only [List.getElem_toArray, List.getElem_cons_succ, List.getElem_cons_zero, Act.put, List.setIfInBounds_toArray, List.set_cons_zero, List.set_cons_succ]
        refine anyS_take (i := 5) (v := ?vlox5) rfl (by kernel_rfl) (by kernel_rfl) (by kernel_rfl) ?hylox5 ?restlox5
        case hylox5 => first | (refine StepS.read (by rfl) (fun wx hSw => ?_); (try dsimp only at hSw); obtain ⟨hHx, ⟨c00, c01, c02⟩, ⟨c10, c11, c12⟩, ⟨c20, c21, c22⟩, ⟨c30, c31, c32⟩, ⟨c40, c41, c42⟩, c50, c51, c52⟩ := hSw; go_simp; first | done | with_reducible rfl) | exact Or.inr ⟨by rfl, rfl⟩
        try simp only [List.getElem_toArray, List.getElem_cons_succ, List.getElem_cons_zero, Act.put, List.setIfInBounds_toArray, List.set_cons_zero, List.set_cons_succ]
        refine anyS_take (i := 6) (v := ?vlox6) rfl (by kernel_rfl) (by kernel_rfl) (by kernel_rfl) ?hylox6 ?restlox6
        case hylox6 => first | (refine StepS.read (by rfl) (fun wx hSw => ?_); (try dsimp only at hSw); obtain ⟨hHx, ⟨c00, c01, c02⟩, ⟨c10, c11, c12⟩, ⟨c20, c21, c22⟩, ⟨c30, c31, c32⟩, ⟨c40, c41, c42⟩, c50, c51, c52⟩ := hSw; go_simp; first | done | with_reducible rfl) | exact Or.inr ⟨by rfl, rfl⟩
        try simp only [List.getElem_toArray, List.getElem_cons_succ, List.getElem_cons_zero, Act.put, List.setIfInBounds_toArray, List.set_cons_zero, List.set_cons_succ]
        refine anyS_take (i := 7) (v := ?vlox7) rfl (by kernel_rfl) (by kernel_rfl) (by kernel_rfl) ?hylox7 ?restlox7
        case hylox7 => first | (refine StepS.read (by rfl) (fun wx hSw => ?_); (try dsimp only at hSw); obtain ⟨hHx, ⟨c00, c01, c02⟩, ⟨c10, c11, c12⟩, ⟨c20, c21, c22⟩, ⟨c30, c31, c32⟩, ⟨c40, c41, c42⟩, c50, c51, c52⟩ := hSw; go_simp; first | done | with_reducible rfl) | exact Or.inr ⟨by rfl, rfl⟩
        try simp only [List.getElem_toArray, List.getElem_cons_succ, List.getElem_cons_zero, Act.put, List.setIfInBounds_toArray, List.set_cons_zero, List.set_cons_succ]
        refine anyS_take (i := 8) (v := undef) rfl (by kernel_rfl) (by kernel_rfl) (by kernel_rfl) (Or.inr ⟨by kernel_rfl, rfl⟩) ?restlox8
        try simp only [List.getElem_toArray, List.getElem_cons_succ, List.getElem_cons_zero, Act.put, List.setIfInBounds_toArray, List.set_cons_zero, List.set_cons_succ]
        refine anyS_take (i := 9) (v := undef) rfl (by kernel_rfl) (by kernel_rfl) (by kernel_rfl) (Or.inr ⟨by kernel_rfl, rfl⟩) ?restlox9
        try simp only [List.getElem_toArray, List.getElem_cons_succ, List.getElem_cons_zero, Act.put, List.setIfInBounds_toArray, List.set_cons_zero, List.set_cons_succ]
        refine anyS_take (i := 10) (v := undef) rfl (by kernel_rfl) (by kernel_rfl) (by kernel_rfl) (Or.inr ⟨by kernel_rfl, rfl⟩) ?restlox10
        try simp only [List.getElem_toArray, List.getElem_cons_succ, List.getElem_cons_zero, Act.put, List.setIfInBounds_toArray, List.set_cons_zero, List.set_cons_succ]
        refine anyS_take (i := 11) (v := undef) rfl (by kernel_rfl) (by kernel_rfl) (by kernel_rfl) (Or.inr ⟨by kernel_rfl, rfl⟩) ?restlox11
        try simp only [List.getElem_toArray, List.getElem_cons_succ, List.getElem_cons_zero, Act.put, List.setIfInBounds_toArray, List.set_cons_zero, List.set_cons_succ]
        refine anyS_take (i := 12) (v := ?vlox12) rfl (by kernel_rfl) (by kernel_rfl) (by kernel_rfl) ?hylox12 ?restlox12
        case hylox12 => first | (refine StepS.read (by rfl) (fun wx hSw => ?_); (try dsimp only at hSw); obtain ⟨hHx, ⟨c00, c01, c02⟩, ⟨c10, c11, c12⟩, ⟨c20, c21, c22⟩, ⟨c30, c31, c32⟩, ⟨c40, c41, c42⟩, c50, c51, c52⟩ := hSw; go_simp; first | done | with_reducible rfl) | exact Or.inr ⟨by rfl, rfl⟩
        try simp only [List.getElem_toArray, List.getElem_cons_succ, List.getElem_cons_zero, Act.put, List.setIfInBounds_toArray, List.set_cons_zero, List.set_cons_succ]
        refine anyS_take (i := 13) (v := ?vlox13) rfl (by kernel_rfl) (by kernel_rfl) (by kernel_rfl) ?hylox13 ?restlox13
        case hylox13 => first | (refine StepS.read (by rfl) (fun wx hSw => ?_); (try dsimp only at hSw); obtain ⟨hHx, ⟨c00, c01, c02⟩, ⟨c10, c11, c12⟩, ⟨c20, c21, c22⟩, ⟨c30, c31, c32⟩, ⟨c40, c41, c42⟩, c50, c51, c52⟩ := hSw; go_simp; first | done | with_reducible rfl) | exact Or.inr ⟨by rfl, rfl⟩
        try simp only [List.getElem_toArray, List.getElem_cons_succ, List.getElem_cons_zero, Act.put, List.setIfInBounds_toArray, List.set_cons_zero, List.set_cons_succ]
        refine anyS_take (i := 14) (v := ?vlox14) rfl (by kernel_rfl) (by kernel_rfl) (by kernel_rfl) ?hylox14 ?restlox14
        case hylox14 => first | (refine StepS.read (by rfl) (fun wx hSw => ?_); (try dsimp only at hSw); obtain ⟨hHx, ⟨c00, c01, c02⟩, ⟨c10, c11, c12⟩, ⟨c20, c21, c22⟩, ⟨c30, c31, c32⟩, ⟨c40, c41, c42⟩, c50, c51, c52⟩ := hSw; go_simp; first | done | with_reducible rfl) | exact Or.inr ⟨by rfl, rfl⟩
        try simp only [List.getElem_toArray, List.getElem_cons_succ, List.getElem_cons_zero, Act.put, List.setIfInBounds_toArray, List.set_cons_zero, List.set_cons_succ]
        refine anyS_take (i := 15) (v := ?vlox15) rfl (by kernel_rfl) (by kernel_rfl) (by kernel_rfl) ?hylox15 ?restlox15
        case hylox15 => first | (refine StepS.read (by rfl) (fun wx hSw => ?_); (try dsimp only at hSw); obtain ⟨hHx, ⟨c00, c01, c02⟩, ⟨c10, c11, c12⟩, ⟨c20, c21, c22⟩, ⟨c30, c31, c32⟩, ⟨c40, c41, c42⟩, c50, c51, c52⟩ := hSw; go_simp; first | done | with_reducible rfl) | exact Or.inr ⟨by rfl, rfl⟩
        try simp only [List.getElem_toArray, List.getElem_cons_succ, List.getElem_cons_zero, Act.put, List.setIfInBounds_toArray, List.set_cons_zero, List.set_cons_succ]
        refine anyS_take (i := 16) (v := .nilIface) rfl (by kernel_rfl) (by kernel_rfl) (by kernel_rfl) ?hylox16 ?restlox16
        case hylox16 => (refine Or.inl ⟨by rfl, fun wx hSw => ?_⟩; (try dsimp only at hSw); have hSk := hSw; obtain ⟨hHx, ⟨c00, c01, c02⟩, ⟨c10, c11, c12⟩, ⟨c20, c21, c22⟩, ⟨c30, c31, c32⟩, ⟨c40, c41, c42⟩, c50, c51, c52⟩ := hSw; go_simp; refine Or.inr ⟨_, _, _, rfl, ?_⟩; (with_reducible refine (sp_check_ok _ _ _ hva).mono ?_); rintro e w' ⟨rfl, hb'⟩; exact ⟨rfl, SS.step hSk hb'⟩)
        try simp only [List.getElem_toArray, List.getElem_cons_succ, List.getElem_cons_zero, Act.put, List.setIfInBounds_toArray, List.set_cons_zero, List.set_cons_succ]
        refine anyS_take (i := 17) (v := ?vlox17) rfl (by kernel_rfl) (by kernel_rfl) (by kernel_rfl) ?hylox17 ?restlox17
        case hylox17 => first | (refine StepS.read (by rfl) (fun wx hSw => ?_); (try dsimp only at hSw); obtain ⟨hHx, ⟨c00, c01, c02⟩, ⟨c10, c11, c12⟩, ⟨c20, c21, c22⟩, ⟨c30, c31, c32⟩, ⟨c40, c41, c42⟩, c50, c51, c52⟩ := hSw; go_simp; first | done | with_reducible rfl) | exact Or.inr ⟨by rfl, rfl⟩
        try simp only [List.getElem_toArray, List.getElem_cons_succ, List.getElem_cons_zero, Act.put, List.setIfInBounds_toArray, List.set_cons_zero, List.set_cons_succ]
        refine anyS_take (i := 18) (v := ?vlox18) rfl (by kernel_rfl) (by kernel_rfl) (by kernel_rfl) ?hylox18 ?restlox18
        case hylox18 => first | (refine StepS.read (by rfl) (fun wx hSw => ?_); (try dsimp only at hSw); obtain ⟨hHx, ⟨c00, c01, c02⟩, ⟨c10, c11, c12⟩, ⟨c20, c21, c22⟩, ⟨c30, c31, c32⟩, ⟨c40, c41, c42⟩, c50, c51, c52⟩ := hSw; go_simp; first | done | with_reducible rfl) | exact Or.inr ⟨by rfl, rfl⟩
        try simp only [List.getElem_toArray, List.getElem_cons_succ, List.getElem_cons_zero, Act.put, List.setIfInBounds_toArray, List.set_cons_zero, List.set_cons_succ]
        refine anyS_take (i := 19) (v := ?vlox19) rfl (by kernel_rfl) (by kernel_rfl) (by kernel_rfl) ?hylox19 ?restlox19
        case hylox19 => first | (refine StepS.read (by rfl) (fun wx hSw => ?_); (try dsimp only at hSw); obtain ⟨hHx, ⟨c00, c01, c02⟩, ⟨c10, c11, c12⟩, ⟨c20, c21, c22⟩, ⟨c30, c31, c32⟩, ⟨c40, c41, c42⟩, c50, c51, c52⟩ := hSw; go_simp; first | done | with_reducible rfl) | exact Or.inr ⟨by rfl, rfl⟩
        try simp only [List.getElem_toArray, List.getElem_cons_succ, List.getElem_cons_zero, Act.put, List.setIfInBounds_toArray, List.set_cons_zero, List.set_cons_succ]
        refine anyS_take (i := 20) (v := ?vlox20) rfl (by kernel_rfl) (by kernel_rfl) (by kernel_rfl) ?hylox20 ?restlox20
        case hylox20 => first | (refine StepS.read (by rfl) (fun wx hSw => ?_); (try dsimp only at hSw); obtain ⟨hHx, ⟨c00, c01, c02⟩, ⟨c10, c11, c12⟩, ⟨c20, c21, c22⟩, ⟨c30, c31, c32⟩, ⟨c40, c41, c42⟩, c50, c51, c52⟩ := hSw; go_simp; first | done | with_reducible rfl) | exact Or.inr ⟨by rfl, rfl⟩
        try simp only [List.getElem_toArray, List.getElem_cons_succ, List.getElem_cons_zero, Act.put, List.setIfInBounds_toArray, List.set_cons_zero, List.set_cons_succ]
        refine anyS_take (i := 21) (v := ?vlox21) rfl (by kernel_rfl) (by kernel_rfl) (by kernel_rfl) ?hylox21 ?restlox21
        case hylox21 => first | (refine StepS.read (by rfl) (fun wx hSw => ?_); (try dsimp only at hSw); obtain ⟨hHx, ⟨c00, c01, c02⟩, ⟨c10, c11, c12⟩, ⟨c20, c21, c22⟩, ⟨c30, c31, c32⟩, ⟨c40, c41, c42⟩, c50, c51, c52⟩ := hSw; go_simp; first | done | with_reducible rfl) | exact Or.inr ⟨by rfl, rfl⟩
        try simp only [List.getElem_toArray, List.getElem_cons_succ, List.getElem_cons_zero, Act.put, List.setIfInBounds_toArray, List.set_cons_zero, List.set_cons_succ]
        refine anyS_take (i := 22) (v := ?vlox22) rfl (by kernel_rfl) (by kernel_rfl) (by kernel_rfl) ?hylox22 ?restlox22
        case hylox22 => first | (refine StepS.read (by rfl) (fun wx hSw => ?_); (try dsimp only at hSw); obtain ⟨hHx, ⟨c00, c01, c02⟩, ⟨c10, c11, c12⟩, ⟨c20, c21, c22⟩, ⟨c30, c31, c32⟩, ⟨c40, c41, c42⟩, c50, c51, c52⟩ := hSw; go_simp; first | done | with_reducible rfl) | exact Or.inr ⟨by rfl, rfl⟩
        try simp only [List.getElem_toArray, List.getElem_cons_succ, List.getElem_cons_zero, Act.put, List.setIfInBounds_toArray, List.set_cons_zero, List.set_cons_succ]
        refine anyS_take (i := 23) (v := ?vlox23) rfl (by kernel_rfl) (by kernel_rfl) (by kernel_rfl) ?hylox23 ?restlox23
        case hylox23 => first | (refine StepS.read (by rfl) (fun wx hSw => ?_); (try dsimp only at hSw); obtain ⟨hHx, ⟨c00, c01, c02⟩, ⟨c10, c11, c12⟩, ⟨c20, c21, c22⟩, ⟨c30, c31, c32⟩, ⟨c40, c41, c42⟩, c50, c51, c52⟩ := hSw; go_simp; first | done | with_reducible rfl) | exact Or.inr ⟨by rfl, rfl⟩
        try simp only [List.getElem_toArray, List.getElem_cons_succ, List.getElem_cons_zero, Act.put, List.setIfInBounds_toArray, List.set_cons_zero, List.set_cons_succ]
        refine anyS_take (i := 24) (v := ?vlox24) rfl (by kernel_rfl) (by kernel_rfl) (by kernel_rfl) ?hylox24 ?restlox24
        case hylox24 => first | (refine StepS.read (by rfl) (fun wx hSw => ?_); (try dsimp only at hSw); obtain ⟨hHx, ⟨c00, c01, c02⟩, ⟨c10, c11, c12⟩, ⟨c20, c21, c22⟩, ⟨c30, c31, c32⟩, ⟨c40, c41, c42⟩, c50, c51, c52⟩ := hSw; go_simp; first | done | with_reducible rfl) | exact Or.inr ⟨by rfl, rfl⟩
        try simp only [List.getElem_toArray, List.getElem_cons_succ, List.getElem_cons_zero, Act.put, List.setIfInBounds_toArray, List.set_cons_zero, List.set_cons_succ]
        refine anyS_done (by kernel_rfl) (fun wx hSw => ?_) _
        (try dsimp only at hSw)
        go_wp2_with (fail)
        go_meet
        exact ⟨rfl, hSw⟩
    case rest =>
      obtain ⟨rfl, hS⟩ := hcut
      obtain ⟨wB, rfl⟩ : ∃ x, x = wc := ⟨_, rfl⟩
      obtain ⟨hH, Ka0, Kb0, Kx0, Ky0, Km0, Kg0⟩ := hS
      have Ka := Lib.hid Ka0
      have Kb := Lib.hid Kb0
      have Kx := Lib.hid Kx0
      have Ky := Lib.hid Ky0
      have Km := Lib.hid Km0
      have Kg := Lib.hid Kg0
      clear Ka0 Kb0 Kx0 Ky0 Km0 Kg0
      obtain ⟨za, ca0, ca1⟩ := Ka.out
      obtain ⟨zb, cb0, cb1⟩ := Kb.out
      obtain ⟨zx, cx0, cx1⟩ := Kx.out
      obtain ⟨zy, cy0, cy1⟩ := Ky.out
      obtain ⟨zm, cm0, cm1⟩ := Km.out
      obtain ⟨zg, cg0, cg1⟩ := Kg.out
      have hda0a1 : decide (a0 ≤ a1) = true := decide_eq_true (by omega)
      have hdb0b1 : decide (b0 ≤ b1) = true := decide_eq_true (by omega)
      have hda0b1 : decide (a0 ≤ b1) = false := decide_eq_false (by omega)
      go_wp2_with (fail)
      go_at_call 21
      (with_reducible refine (HRM.out _).mono ?_)
      rintro e w4 ⟨rfl, HB⟩
      have HBB := Below.trans (show Below wB.heap.size wB _ from by repeat (first | with_reducible assumption | exact Below.refl _ _ | refine Below.drew ?_ | refine Below.setCell ?_ (by first | omega | (simp; done) | (simp; omega)) _ | refine Below.alloc ?_ (by first | omega | (simp; done) | (simp; omega)) _)) (Below.mono (B' := wB.heap.size) HB (by first | omega | (simp; done) | (simp; omega)))
      clear za ca0 ca1 zb cb0 cb1 zx cx0 cx1 zy cy0 cy1 zm cm0 cm1 zg cg0 cg1
      replace Ka := Lib.hid (B2.step Ka.out HBB)
      replace Kb := Lib.hid (B2.step Kb.out HBB)
      replace Kx := Lib.hid (B2.step Kx.out HBB)
      replace Ky := Lib.hid (B2.step Ky.out HBB)
      replace Km := Lib.hid (B2.step Km.out HBB)
      replace Kg := Lib.hid (B2.step Kg.out HBB)
      replace hH := Held.step (w0 := w) hH HBB
      have hz4 := HBB.size
      obtain ⟨hc4, hf4⟩ := bcell HB
      clear HB HBB
      obtain ⟨za, ca0, ca1⟩ := Ka.out
      obtain ⟨zb, cb0, cb1⟩ := Kb.out
      obtain ⟨zx, cx0, cx1⟩ := Kx.out
      obtain ⟨zy, cy0, cy1⟩ := Ky.out
      obtain ⟨zm, cm0, cm1⟩ := Km.out
      obtain ⟨zg, cg0, cg1⟩ := Kg.out
      go_upto_region 17 with (fail)
      have hS0 : SS w (w.heap.size) (.int .i64 a0) (.int .i64 a1) (w.heap.size + 1) (.int .i64 b0) (.int .i64 b1) (bx) (.int .i64 a0) (.int .i64 a1) (bY) (.int .i64 b0) (.int .i64 b1) (w1.heap.size) (.int .i64 0) (.int .i64 0) (w2.heap.size) (.int .i64 (sat (a0 - n))) (.int .i64 (sat (a1 + n))) w4 := ⟨hH, Ka.out, Kb.out, Kx.out, Ky.out, Km.out, Kg.out⟩
      clear hc4 hf4 za ca0 ca1 zb cb0 cb1 zx cx0 cx1 zy cy0 cy1 zm cm0 cm1 zg cg0 cg1 Ka Kb Kx Ky Km Kg hH
      refine wp_region_S (S := (fun wx => SS w (w.heap.size) (.int .i64 a0) (.int .i64 a1) (w.heap.size + 1) (.int .i64 b0) (.int .i64 b1) (bx) (.int .i64 a0) (.int .i64 a1) (bY) (.int .i64 b0) (.int .i64 b1) (w1.heap.size) (.int .i64 0) (.int .i64 0) (w2.heap.size) (.int .i64 (sat (a0 - n))) (.int .i64 (sat (a1 + n))) wx)) (by kernel_rfl) (SS.drew hS0) ?_
      refine anyS_take (i := 0) (v := ?vzx0) rfl (by kernel_rfl) (by kernel_rfl) (by kernel_rfl) ?hyzx0 ?restzx0
      case hyzx0 => first | (refine StepS.read (by rfl) (fun wx hSw => ?_); (try dsimp only at hSw); obtain ⟨hHx, ⟨c00, c01, c02⟩, ⟨c10, c11, c12⟩, ⟨c20, c21, c22⟩, ⟨c30, c31, c32⟩, ⟨c40, c41, c42⟩, c50, c51, c52⟩ := hSw; go_simp; first | done | with_reducible rfl) | exact Or.inr ⟨by rfl, rfl⟩
      try simp only [List.getElem_toArray, List.getElem_cons_succ, List.getElem_cons_zero, Act.put, List.setIfInBounds_toArray, List.set_cons_zero, List.set_cons_succ]
      refine anyS_take (i := 1) (v := ?vzx1) rfl (by kernel_rfl) (by kernel_rfl) (by kernel_rfl) ?hyzx1 ?restzx1
      case hyzx1 => first | (refine StepS.read (by rfl) (fun wx hSw => ?_); (try dsimp only at hSw); obtain ⟨hHx, ⟨c00, c01, c02⟩, ⟨c10, c11, c12⟩, ⟨c20, c21, c22⟩, ⟨c30, c31, c32⟩, ⟨c40, c41, c42⟩, c50, c51, c52⟩ := hSw; go_simp; first | done | with_reducible rfl) | exact Or.inr ⟨by rfl, rfl⟩
      try simp only [List.getElem_toArray, List.getElem_cons_succ, List.getElem_cons_zero, Act.put, List.setIfInBounds_toArray, List.set_cons_zero, List.set_cons_succ]
      refine anyS_take (i := 2) (v := ?vzx2) rfl (by kernel_rfl) (by kernel_rfl) (by kernel_rfl) ?hyzx2 ?restzx2
      case hyzx2 => first | (refine StepS.read (by rfl) (fun wx hSw => ?_); (try dsimp only at hSw); obtain ⟨hHx, ⟨c00, c01, c02⟩, ⟨c10, c11, c12⟩, ⟨c20, c21, c22⟩, ⟨c30, c31, c32⟩, ⟨c40, c41, c42⟩, c50, c51, c52⟩ := hSw; go_simp; first | done | with_reducible rfl) | exact Or.inr ⟨by rfl, rfl⟩
      try simp only [List.getElem_toArray, List.getElem_cons_succ, List.getElem_cons_zero, Act.put, List.setIfInBounds_toArray, List.set_cons_zero, List.set_cons_succ]
      refine anyS_take (i := 3) (v := ?vzx3) rfl (by kernel_rfl) (by kernel_rfl) (by kernel_rfl) ?hyzx3 ?restzx3
      case hyzx3 => first | (refine StepS.read (by rfl) (fun wx hSw => ?_); (try dsimp only at hSw); obtain ⟨hHx, ⟨c00, c01, c02⟩, ⟨c10, c11, c12⟩, ⟨c20, c21, c22⟩, ⟨c30, c31, c32⟩, ⟨c40, c41, c42⟩, c50, c51, c52⟩ := hSw; go_simp; first | done | with_reducible rfl) | exact Or.inr ⟨by rfl, rfl⟩
      try simp only [List.getElem_toArray, List.getElem_cons_succ, List.getElem_cons_zero, Act.put, List.setIfInBounds_toArray, List.set_cons_zero, List.set_cons_succ]
      refine anyS_take (i := 4) (v := ?vzx4) rfl (by kernel_rfl) (by kernel_rfl) (by kernel_rfl) ?hyzx4 ?restzx4
      case hyzx4 => first | (refine StepS.read (by rfl) (fun wx hSw => ?_); (try dsimp only at hSw); obtain ⟨hHx, ⟨c00, c01, c02⟩, ⟨c10, c11, c12⟩, ⟨c20, c21, c22⟩, ⟨c30, c31, c32⟩, ⟨c40, c41, c42⟩, c50, c51, c52⟩ := hSw; go_simp; first | done | with_reducible rfl) | exact Or.inr ⟨by rfl, rfl⟩
      try simp only [List.getElem_toArray, List.getElem_cons_succ, List.getElem_cons_zero, Act.put, List.setIfInBounds_toArray, List.set_cons_zero, List.set_cons_succ]
      refine anyS_take (i := 5) (v := ?vzx5) rfl (by kernel_rfl) (by kernel_rfl) (by kernel_rfl) ?hyzx5 ?restzx5
      case hyzx5 => first | (refine StepS.read (by rfl) (fun wx hSw => ?_); (try dsimp only at hSw); obtain ⟨hHx, ⟨c00, c01, c02⟩, ⟨c10, c11, c12⟩, ⟨c20, c21, c22⟩, ⟨c30, c31, c32⟩, ⟨c40, c41, c42⟩, c50, c51, c52⟩ := hSw; go_simp; first | done | with_reducible rfl) | exact Or.inr ⟨by rfl, rfl⟩
      try simp only [List.getElem_toArray, List.getElem_cons_succ, List.getElem_cons_zero, Act.put, List.setIfInBounds_toArray, List.set_cons_zero, List.set_cons_succ]
      refine anyS_take (i := 6) (v := .agg #[.int .i64 (sat (a0 - n)), .int .i64 (sat (a1 + n))]) rfl (by kernel_rfl) (by kernel_rfl) (by kernel_rfl) ?hyzx6 ?restzx6
      case hyzx6 => (refine Or.inl ⟨by rfl, fun wx hSw => ?_⟩; (try dsimp only at hSw); have hSk := hSw; obtain ⟨hHx, ⟨c00, c01, c02⟩, ⟨c10, c11, c12⟩, ⟨c20, c21, c22⟩, ⟨c30, c31, c32⟩, ⟨c40, c41, c42⟩, c50, c51, c52⟩ := hSw; go_simp; refine Or.inr ⟨_, _, _, rfl, ?_⟩; (with_reducible refine (rgrow13 a0 a1 n _ g1 i1 i2 i5).mono ?_); rintro e w' ⟨rfl, hb'⟩; exact ⟨rfl, SS.step hSk hb'⟩)
      try simp only [List.getElem_toArray, List.getElem_cons_succ, List.getElem_cons_zero, Act.put, List.setIfInBounds_toArray, List.set_cons_zero, List.set_cons_succ]
      refine anyS_take (i := 7) (v := ?vzx7) rfl (by kernel_rfl) (by kernel_rfl) (by kernel_rfl) ?hyzx7 ?restzx7
      case hyzx7 => first | (refine StepS.read (by rfl) (fun wx hSw => ?_); (try dsimp only at hSw); obtain ⟨hHx, ⟨c00, c01, c02⟩, ⟨c10, c11, c12⟩, ⟨c20, c21, c22⟩, ⟨c30, c31, c32⟩, ⟨c40, c41, c42⟩, c50, c51, c52⟩ := hSw; go_simp; first | done | with_reducible rfl) | exact Or.inr ⟨by rfl, rfl⟩
      try simp only [List.getElem_toArray, List.getElem_cons_succ, List.getElem_cons_zero, Act.put, List.setIfInBounds_toArray, List.set_cons_zero, List.set_cons_succ]
      refine anyS_take (i := 8) (v := ?vzx8) rfl (by kernel_rfl) (by kernel_rfl) (by kernel_rfl) ?hyzx8 ?restzx8
      case hyzx8 => first | (refine StepS.read (by rfl) (fun wx hSw => ?_); (try dsimp only at hSw); obtain ⟨hHx, ⟨c00, c01, c02⟩, ⟨c10, c11, c12⟩, ⟨c20, c21, c22⟩, ⟨c30, c31, c32⟩, ⟨c40, c41, c42⟩, c50, c51, c52⟩ := hSw; go_simp; first | done | with_reducible rfl) | exact Or.inr ⟨by rfl, rfl⟩
      try simp only [List.getElem_toArray, List.getElem_cons_succ, List.getElem_cons_zero, Act.put, List.setIfInBounds_toArray, List.set_cons_zero, List.set_cons_succ]
      refine anyS_take (i := 9) (v := ?vzx9) rfl (by kernel_rfl) (by kernel_rfl) (by kernel_rfl) ?hyzx9 ?restzx9
      case hyzx9 => first | (refine StepS.read (by rfl) (fun wx hSw => ?_); (try dsimp only at hSw); obtain ⟨hHx, ⟨c00, c01, c02⟩, ⟨c10, c11, c12⟩, ⟨c20, c21, c22⟩, ⟨c30, c31, c32⟩, ⟨c40, c41, c42⟩, c50, c51, c52⟩ := hSw; go_simp; first | done | with_reducible rfl) | exact Or.inr ⟨by rfl, rfl⟩
      try simp only [List.getElem_toArray, List.getElem_cons_succ, List.getElem_cons_zero, Act.put, List.setIfInBounds_toArray, List.set_cons_zero, List.set_cons_succ]
      refine anyS_take (i := 10) (v := .bool true) rfl (by kernel_rfl) (by kernel_rfl) (by kernel_rfl) ?hyzx10 ?restzx10
      case hyzx10 => (refine Or.inl ⟨by rfl, fun wx hSw => ?_⟩; (try dsimp only at hSw); have hSk := hSw; obtain ⟨hHx, ⟨c00, c01, c02⟩, ⟨c10, c11, c12⟩, ⟨c20, c21, c22⟩, ⟨c30, c31, c32⟩, ⟨c40, c41, c42⟩, c50, c51, c52⟩ := hSw; go_simp; refine Or.inr ⟨_, _, _, rfl, ?_⟩; (with_reducible refine (sure13 _ (Held.handle (w0 := w) (SS.held hSk))).mono ?_); rintro e w' ⟨rfl, hb'⟩; exact ⟨rfl, SS.step hSk hb'⟩)
      try simp only [List.getElem_toArray, List.getElem_cons_succ, List.getElem_cons_zero, Act.put, List.setIfInBounds_toArray, List.set_cons_zero, List.set_cons_succ]
      refine anyS_take (i := 11) (v := ?vzx11) rfl (by kernel_rfl) (by kernel_rfl) (by kernel_rfl) ?hyzx11 ?restzx11
      case hyzx11 => first | (refine StepS.read (by rfl) (fun wx hSw => ?_); (try dsimp only at hSw); obtain ⟨hHx, ⟨c00, c01, c02⟩, ⟨c10, c11, c12⟩, ⟨c20, c21, c22⟩, ⟨c30, c31, c32⟩, ⟨c40, c41, c42⟩, c50, c51, c52⟩ := hSw; go_simp; first | done | with_reducible rfl) | exact Or.inr ⟨by rfl, rfl⟩
      try simp only [List.getElem_toArray, List.getElem_cons_succ, List.getElem_cons_zero, Act.put, List.setIfInBounds_toArray, List.set_cons_zero, List.set_cons_succ]
      refine anyS_take (i := 12) (v := ?vzx12) rfl (by kernel_rfl) (by kernel_rfl) (by kernel_rfl) ?hyzx12 ?restzx12
      case hyzx12 => first | (refine StepS.read (by rfl) (fun wx hSw => ?_); (try dsimp only at hSw); obtain ⟨hHx, ⟨c00, c01, c02⟩, ⟨c10, c11, c12⟩, ⟨c20, c21, c22⟩, ⟨c30, c31, c32⟩, ⟨c40, c41, c42⟩, c50, c51, c52⟩ := hSw; go_simp; first | done | with_reducible rfl) | exact Or.inr ⟨by rfl, rfl⟩
      try simp only [List.getElem_toArray, List.getElem_cons_succ, List.getElem_cons_zero, Act.put, List.setIfInBounds_toArray, List.set_cons_zero, List.set_cons_succ]
      refine anyS_done (by kernel_rfl) (fun wx hSw => ?_) _
      (try dsimp only at hSw)
      go_wp2_with (fail)
      go_ret
      exact ⟨rfl, Held.below (w0 := w) (SS.held hSw)⟩
set_option maxRecDepth 100000 in
set_option maxHeartbeats 8000000 in
theorem steps_C2_neg (a0 a1 b0 b1 n : Int) (i1 : InR a0) (i2 : InR a1) (i3 : InR b0) (i4 : InR b1) (i5 : InR n) (h1 : a0 ≤ a1) (h2 : b0 ≤ b1) (h3 : a0 ≤ b1) (h4 : a1 < b0) (g1 : n < 0) (w : World) (hg : w.cell? ⟨0, 0, none⟩ = some asHandle) :
    Calls Tryd.prog 3 #[.agg #[.int .i64 a0, .int .i64 a1], .agg #[.int .i64 b0, .int .i64 b1], .int .i64 n] w fun e w' => e = .returned (.bool true) ∧ Below w.heap.size w w' := by
  have hH0 := Held.start hg
  obtain ⟨M, hM⟩ : ∃ M, a0 + (a1 - a0) / 2 = M := ⟨_, rfl⟩
  obtain ⟨Z, hZ⟩ : ∃ Z, sat (a1 - M) = Z := ⟨_, rfl⟩
  have hmid : ∀ w : World, Calls Tryd.prog 16 #[.agg #[.int .i64 a0, .int .i64 a1]] w fun e w' => e = .returned (.tuple #[.int .i64 M, .int .i64 Z, .nilIface]) ∧ Below w.heap.size w w' := fun w => by have h := sp_mid a0 a1 w h1 i1 i2; rw [hM, hZ] at h; exact h
  have hrmid : ∀ w : World, Calls Tryd.prog 21 #[.agg #[.int .i64 a0, .int .i64 a1]] w fun e w' => e = .returned (.tuple #[.int .i64 M, .int .i64 Z]) ∧ Below w.heap.size w w' := fun w => by have h := rmid a0 a1 w h1 i1 i2; rw [hM, hZ] at h; exact h
  have HMD := Lib.hid hmid
  have HRM := Lib.hid hrmid
  clear hM hZ hmid hrmid
  go_enter Tryd.func3, Tryd.ntmps3
  go_upto_region 1 with (fail)
  go_cut [7, 8] from 19 to 20 (fun x y wx => RX w a0 a1 b0 b1 x y wx)
  case first =>
    go_region
    all_goals
      go_wp2_with (fail)
      go_meet
      exact ⟨_, _, rfl, rfl, (by repeat (first | assumption | refine Held.alloc ?_ _ | refine Held.drew ?_)), ⟨(by first | omega | (simp; done) | (simp; omega)), by go_simp, by go_simp⟩, ⟨(by first | omega | (simp; done) | (simp; omega)), by go_simp, by go_simp⟩, ⟨(by first | omega | (simp; done) | (simp; omega)), by go_simp, by go_simp⟩, ⟨(by first | omega | (simp; done) | (simp; omega)), by go_simp, by go_simp⟩⟩
  case rest =>
    obtain ⟨bx, bY, rfl, rfl, hH, Ka0, Kb0, Kx0, Ky0⟩ := hcut
    obtain ⟨wA, rfl⟩ : ∃ x, x = wc := ⟨_, rfl⟩
    have Ka := Lib.hid Ka0
    have Kb := Lib.hid Kb0
    have Kx := Lib.hid Kx0
    have Ky := Lib.hid Ky0
    clear Ka0 Kb0 Kx0 Ky0
    obtain ⟨za, ca0, ca1⟩ := Ka.out
    obtain ⟨zb, cb0, cb1⟩ := Kb.out
    obtain ⟨zx, cx0, cx1⟩ := Kx.out
    obtain ⟨zy, cy0, cy1⟩ := Ky.out
    go_wp2_with (fail)
    go_at_call 14
    (with_reducible refine (sp_meet_cc a0 a1 b0 b1 _ h1 h2 (meet_no2 h4)).mono ?_)
    rintro e w1 ⟨rfl, HB⟩
    have HBB := Below.trans (show Below wA.heap.size wA _ from by repeat (first | with_reducible assumption | exact Below.refl _ _ | refine Below.drew ?_ | refine Below.setCell ?_ (by first | omega | (simp; done) | (simp; omega)) _ | refine Below.alloc ?_ (by first | omega | (simp; done) | (simp; omega)) _)) (Below.mono (B' := wA.heap.size) HB (by first | omega | (simp; done) | (simp; omega)))
    clear za ca0 ca1 zb cb0 cb1 zx cx0 cx1 zy cy0 cy1
    replace Ka := Lib.hid (B2.step Ka.out HBB)
    replace Kb := Lib.hid (B2.step Kb.out HBB)
    replace Kx := Lib.hid (B2.step Kx.out HBB)
    replace Ky := Lib.hid (B2.step Ky.out HBB)
    replace hH := Held.step (w0 := w) hH HBB
    have hz1 := HBB.size
    obtain ⟨hc1, hf1⟩ := bcell HB
    clear HB HBB
    obtain ⟨za, ca0, ca1⟩ := Ka.out
    obtain ⟨zb, cb0, cb1⟩ := Kb.out
    obtain ⟨zx, cx0, cx1⟩ := Kx.out
    obtain ⟨zy, cy0, cy1⟩ := Ky.out
    go_wp2_with (fail)
    go_at_call 15
    (with_reducible refine (sp_grow_neg _ _ _ _ h1 g1).mono ?_)
    rintro e w2 ⟨rfl, HB⟩
    have Km := Lib.hid (B2.step (show B2 (w1.heap.size) (.int .i64 0) (.int .i64 0) _ from ⟨(by first | omega | (simp; done) | (simp; omega)), by go_simp, by go_simp⟩) HB)
    have HBB := Below.trans (show Below w1.heap.size w1 _ from by repeat (first | with_reducible assumption | exact Below.refl _ _ | refine Below.drew ?_ | refine Below.setCell ?_ (by first | omega | (simp; done) | (simp; omega)) _ | refine Below.alloc ?_ (by first | omega | (simp; done) | (simp; omega)) _)) (Below.mono (B' := w1.heap.size) HB (by first | omega | (simp; done) | (simp; omega)))
    clear za ca0 ca1 zb cb0 cb1 zx cx0 cx1 zy cy0 cy1
    replace Ka := Lib.hid (B2.step Ka.out HBB)
    replace Kb := Lib.hid (B2.step Kb.out HBB)
    replace Kx := Lib.hid (B2.step Kx.out HBB)
    replace Ky := Lib.hid (B2.step Ky.out HBB)
    replace hH := Held.step (w0 := w) hH HBB
    have hz2 := HBB.size
    obtain ⟨hc2, hf2⟩ := bcell HB
    clear HB HBB
    clear hc1 hf1
    obtain ⟨za, ca0, ca1⟩ := Ka.out
    obtain ⟨zb, cb0, cb1⟩ := Kb.out
    obtain ⟨zx, cx0, cx1⟩ := Kx.out
    obtain ⟨zy, cy0, cy1⟩ := Ky.out
    obtain ⟨zm, cm0, cm1⟩ := Km.out
    go_wp2_with (fail)
    go_at_call 16
    (with_reducible refine (HMD.out _).mono ?_)
    rintro e w3 ⟨rfl, HB⟩
    have Kg := Lib.hid (B2.step (show B2 (w2.heap.size) (.int .i64 0) (.int .i64 0) _ from ⟨(by first | omega | (simp; done) | (simp; omega)), by go_simp, by go_simp⟩) HB)
    have HBB := Below.trans (show Below w2.heap.size w2 _ from by repeat (first | with_reducible assumption | exact Below.refl _ _ | refine Below.drew ?_ | refine Below.setCell ?_ (by first | omega | (simp; done) | (simp; omega)) _ | refine Below.alloc ?_ (by first | omega | (simp; done) | (simp; omega)) _)) (Below.mono (B' := w2.heap.size) HB (by first | omega | (simp; done) | (simp; omega)))
    clear za ca0 ca1 zb cb0 cb1 zx cx0 cx1 zy cy0 cy1 zm cm0 cm1
    replace Ka := Lib.hid (B2.step Ka.out HBB)
    replace Kb := Lib.hid (B2.step Kb.out HBB)
    replace Kx := Lib.hid (B2.step Kx.out HBB)
    replace Ky := Lib.hid (B2.step Ky.out HBB)
    replace Km := Lib.hid (B2.step Km.out HBB)
    replace hH := Held.step (w0 := w) hH HBB
    have hz3 := HBB.size
    obtain ⟨hc3, hf3⟩ := bcell HB
    clear HB HBB
    clear hc2 hf2
    obtain ⟨za, ca0, ca1⟩ := Ka.out
    obtain ⟨zb, cb0, cb1⟩ := Kb.out
    obtain ⟨zx, cx0, cx1⟩ := Kx.out
    obtain ⟨zy, cy0, cy1⟩ := Ky.out
    obtain ⟨zm, cm0, cm1⟩ := Km.out
    obtain ⟨zg, cg0, cg1⟩ := Kg.out
    go_upto_region 5 with (fail)
    have hS0 : SS w (w.heap.size) (.int .i64 a0) (.int .i64 a1) (w.heap.size + 1) (.int .i64 b0) (.int .i64 b1) (bx) (.int .i64 a0) (.int .i64 a1) (bY) (.int .i64 b0) (.int .i64 b1) (w1.heap.size) (.int .i64 0) (.int .i64 0) (w2.heap.size) (.int .i64 0) (.int .i64 0) w3 := ⟨hH, Ka.out, Kb.out, Kx.out, Ky.out, Km.out, Kg.out⟩
    clear hc3 hf3 za ca0 ca1 zb cb0 cb1 zx cx0 cx1 zy cy0 cy1 zm cm0 cm1 zg cg0 cg1 Ka Kb Kx Ky Km Kg hH
    go_cut [63] from 39 to 62 (fun c wx => c = .bool false ∧ SS w (w.heap.size) (.int .i64 a0) (.int .i64 a1) (w.heap.size + 1) (.int .i64 b0) (.int .i64 b1) (bx) (.int .i64 a0) (.int .i64 a1) (bY) (.int .i64 b0) (.int .i64 b1) (w1.heap.size) (.int .i64 0) (.int .i64 0) (w2.heap.size) (.int .i64 0) (.int .i64 0) wx)
    case first =>
      have hva := h1
      have hdv : decide (a0 ≤ a1) = true := decide_eq_true h1
      by_cases hn0 : a0 ≤ n
      · have hd1 : decide (a0 ≤ n) = true := decide_eq_true hn0
        by_cases hn1 : n ≤ a1
        · have hd2 : decide (n ≤ a1) = true := decide_eq_true hn1
          have hin : a0 ≤ n ∧ n ≤ a1 := ⟨hn0, hn1⟩
          refine wp_region_S (S := (fun wx => SS w (w.heap.size) (.int .i64 a0) (.int .i64 a1) (w.heap.size + 1) (.int .i64 b0) (.int .i64 b1) (bx) (.int .i64 a0) (.int .i64 a1) (bY) (.int .i64 b0) (.int .i64 b1) (w1.heap.size) (.int .i64 0) (.int .i64 0) (w2.heap.size) (.int .i64 0) (.int .i64 0) wx)) (by kernel_rfl) (SS.drew hS0) ?_
          refine anyS_take (i := 0) (v := ?vinx0) rfl (by kernel_rfl) (by kernel_rfl) (by kernel_rfl) ?hyinx0 ?restinx0
          case hyinx0 => first | (refine StepS.read (by rfl) (fun wx hSw => ?_); (try dsimp only at hSw); obtain ⟨hHx, ⟨c00, c01, c02⟩, ⟨c10, c11, c12⟩, ⟨c20, c21, c22⟩, ⟨c30, c31, c32⟩, ⟨c40, c41, c42⟩, c50, c51, c52⟩ := hSw; go_simp; first | done | with_reducible rfl) | exact Or.inr ⟨by rfl, rfl⟩
          try simp only [List.getElem_toArray, List.getElem_cons_succ, List.getElem_cons_zero, Act.put, List.setIfInBounds_toArray, List.set_cons_zero, List.set_cons_succ]
          refine anyS_take (i := 1) (v := ?vinx1) rfl (by kernel_rfl) (by kernel_rfl) (by kernel_rfl) ?hyinx1 ?restinx1
          case hyinx1 => first | (refine StepS.read (by rfl) (fun wx hSw => ?_); (try dsimp only at hSw); obtain ⟨hHx, ⟨c00, c01, c02⟩, ⟨c10, c11, c12⟩, ⟨c20, c21, c22⟩, ⟨c30, c31, c32⟩, ⟨c40, c41, c42⟩, c50, c51, c52⟩ := hSw; go_simp; first | done | with_reducible rfl) | exact Or.inr ⟨by rfl, rfl⟩
          try simp only [List.getElem_toArray, List.getElem_cons_succ, List.getElem_cons_zero, Act.put, List.setIfInBounds_toArray, List.set_cons_zero, List.set_cons_succ]
          refine anyS_take (i := 2) (v := .bool true) rfl (by kernel_rfl) (by kernel_rfl) (by kernel_rfl) ?hyinx2 ?restinx2
          case hyinx2 => (refine Or.inl ⟨by rfl, fun wx hSw => ?_⟩; (try dsimp only at hSw); have hSk := hSw; obtain ⟨hHx, ⟨c00, c01, c02⟩, ⟨c10, c11, c12⟩, ⟨c20, c21, c22⟩, ⟨c30, c31, c32⟩, ⟨c40, c41, c42⟩, c50, c51, c52⟩ := hSw; go_simp; refine Or.inr ⟨_, _, _, rfl, ?_⟩; (with_reducible refine (sp_has_is _ _ _ _ hin).mono ?_); rintro e w' ⟨rfl, hb'⟩; exact ⟨rfl, SS.step hSk hb'⟩)
          try simp only [List.getElem_toArray, List.getElem_cons_succ, List.getElem_cons_zero, Act.put, List.setIfInBounds_toArray, List.set_cons_zero, List.set_cons_succ]
          refine anyS_take (i := 3) (v := ?vinx3) rfl (by kernel_rfl) (by kernel_rfl) (by kernel_rfl) ?hyinx3 ?restinx3
          case hyinx3 => first | (refine StepS.read (by rfl) (fun wx hSw => ?_); (try dsimp only at hSw); obtain ⟨hHx, ⟨c00, c01, c02⟩, ⟨c10, c11, c12⟩, ⟨c20, c21, c22⟩, ⟨c30, c31, c32⟩, ⟨c40, c41, c42⟩, c50, c51, c52⟩ := hSw; go_simp; first | done | with_reducible rfl) | exact Or.inr ⟨by rfl, rfl⟩
          try simp only [List.getElem_toArray, List.getElem_cons_succ, List.getElem_cons_zero, Act.put, List.setIfInBounds_toArray, List.set_cons_zero, List.set_cons_succ]
          refine anyS_take (i := 4) (v := ?vinx4) rfl (by kernel_rfl) (by kernel_rfl) (by kernel_rfl) ?hyinx4 ?restinx4
          case hyinx4 => first | (refine StepS.read (by rfl) (fun wx hSw => ?_); (try dsimp only at hSw); obtain ⟨hHx, ⟨c00, c01, c02⟩, ⟨c10, c11, c12⟩, ⟨c20, c21, c22⟩, ⟨c30, c31, c32⟩, ⟨c40, c41, c42⟩, c50, c51, c52⟩ := hSw; go_simp; first | done | with_reducible rfl) | exact Or.inr ⟨by rfl, rfl⟩
          try simp only [List.getElem_toArray, List.getElem_cons_succ, List.getElem_cons_zero, Act.put, List.setIfInBounds_toArray, List.set_cons_zero, List.set_cons_succ]
          refine anyS_take (i := 5) (v := ?vinx5) rfl (by kernel_rfl) (by kernel_rfl) (by kernel_rfl) ?hyinx5 ?restinx5
          case hyinx5 => first | (refine StepS.read (by rfl) (fun wx hSw => ?_); (try dsimp only at hSw); obtain ⟨hHx, ⟨c00, c01, c02⟩, ⟨c10, c11, c12⟩, ⟨c20, c21, c22⟩, ⟨c30, c31, c32⟩, ⟨c40, c41, c42⟩, c50, c51, c52⟩ := hSw; go_simp; first | done | with_reducible rfl) | exact Or.inr ⟨by rfl, rfl⟩
          try simp only [List.getElem_toArray, List.getElem_cons_succ, List.getElem_cons_zero, Act.put, List.setIfInBounds_toArray, List.set_cons_zero, List.set_cons_succ]
          refine anyS_take (i := 6) (v := ?vinx6) rfl (by kernel_rfl) (by kernel_rfl) (by kernel_rfl) ?hyinx6 ?restinx6
          case hyinx6 => first | (refine StepS.read (by rfl) (fun wx hSw => ?_); (try dsimp only at hSw); obtain ⟨hHx, ⟨c00, c01, c02⟩, ⟨c10, c11, c12⟩, ⟨c20, c21, c22⟩, ⟨c30, c31, c32⟩, ⟨c40, c41, c42⟩, c50, c51, c52⟩ := hSw; go_simp; first | done | with_reducible rfl) | exact Or.inr ⟨by rfl, rfl⟩
          try simp only [List.getElem_toArray, List.getElem_cons_succ, List.getElem_cons_zero, Act.put, List.setIfInBounds_toArray, List.set_cons_zero, List.set_cons_succ]
          refine anyS_take (i := 7) (v := ?vinx7) rfl (by kernel_rfl) (by kernel_rfl) (by kernel_rfl) ?hyinx7 ?restinx7
          case hyinx7 => first | (refine StepS.read (by rfl) (fun wx hSw => ?_); (try dsimp only at hSw); obtain ⟨hHx, ⟨c00, c01, c02⟩, ⟨c10, c11, c12⟩, ⟨c20, c21, c22⟩, ⟨c30, c31, c32⟩, ⟨c40, c41, c42⟩, c50, c51, c52⟩ := hSw; go_simp; first | done | with_reducible rfl) | exact Or.inr ⟨by rfl, rfl⟩
          try simp only [List.getElem_toArray, List.getElem_cons_succ, List.getElem_cons_zero, Act.put, List.setIfInBounds_toArray, List.set_cons_zero, List.set_cons_succ]
          refine anyS_take (i := 8) (v := ?vinx8) rfl (by kernel_rfl) (by kernel_rfl) (by kernel_rfl) ?hyinx8 ?restinx8
          case hyinx8 => first | (refine StepS.read (by rfl) (fun wx hSw => ?_); (try dsimp only at hSw); obtain ⟨hHx, ⟨c00, c01, c02⟩, ⟨c10, c11, c12⟩, ⟨c20, c21, c22⟩, ⟨c30, c31, c32⟩, ⟨c40, c41, c42⟩, c50, c51, c52⟩ := hSw; go_simp; first | done | with_reducible rfl) | exact Or.inr ⟨by rfl, rfl⟩
          try simp only [List.getElem_toArray, List.getElem_cons_succ, List.getElem_cons_zero, Act.put, List.setIfInBounds_toArray, List.set_cons_zero, List.set_cons_succ]
          refine anyS_take (i := 9) (v := ?vinx9) rfl (by kernel_rfl) (by kernel_rfl) (by kernel_rfl) ?hyinx9 ?restinx9
          case hyinx9 => first | (refine StepS.read (by rfl) (fun wx hSw => ?_); (try dsimp only at hSw); obtain ⟨hHx, ⟨c00, c01, c02⟩, ⟨c10, c11, c12⟩, ⟨c20, c21, c22⟩, ⟨c30, c31, c32⟩, ⟨c40, c41, c42⟩, c50, c51, c52⟩ := hSw; go_simp; first | done | with_reducible rfl) | exact Or.inr ⟨by rfl, rfl⟩
          try simp only [List.getElem_toArray, List.getElem_cons_succ, List.getElem_cons_zero, Act.put, List.setIfInBounds_toArray, List.set_cons_zero, List.set_cons_succ]
          refine anyS_take (i := 10) (v := ?vinx10) rfl (by kernel_rfl) (by kernel_rfl) (by kernel_rfl) ?hyinx10 ?restinx10
          case hyinx10 => first | (refine StepS.read (by rfl) (fun wx hSw => ?_); (try dsimp only at hSw); obtain ⟨hHx, ⟨c00, c01, c02⟩, ⟨c10, c11, c12⟩, ⟨c20, c21, c22⟩, ⟨c30, c31, c32⟩, ⟨c40, c41, c42⟩, c50, c51, c52⟩ := hSw; go_simp; first | done | with_reducible rfl) | exact Or.inr ⟨by rfl, rfl⟩
          try simp only [List.getElem_toArray, List.getElem_cons_succ, List.getElem_cons_zero, Act.put, List.setIfInBounds_toArray, List.set_cons_zero, List.set_cons_succ]
          refine anyS_take (i := 11) (v := ?vinx11) rfl (by kernel_rfl) (by kernel_rfl) (by kernel_rfl) ?hyinx11 ?restinx11
          case hyinx11 => first | (refine StepS.read (by rfl) (fun wx hSw => ?_); (try dsimp only at hSw); obtain ⟨hHx, ⟨c00, c01, c02⟩, ⟨c10, c11, c12⟩, ⟨c20, c21, c22⟩, ⟨c30, c31, c32⟩, ⟨c40, c41, c42⟩, c50, c51, c52⟩ := hSw; go_simp; first | done | with_reducible rfl) | exact Or.inr ⟨by rfl, rfl⟩
          try simp only [List.getElem_toArray, List.getElem_cons_succ, List.getElem_cons_zero, Act.put, List.setIfInBounds_toArray, List.set_cons_zero, List.set_cons_succ]
          refine anyS_take (i := 12) (v := ?vinx12) rfl (by kernel_rfl) (by kernel_rfl) (by kernel_rfl) ?hyinx12 ?restinx12
          case hyinx12 => first | (refine StepS.read (by rfl) (fun wx hSw => ?_); (try dsimp only at hSw); obtain ⟨hHx, ⟨c00, c01, c02⟩, ⟨c10, c11, c12⟩, ⟨c20, c21, c22⟩, ⟨c30, c31, c32⟩, ⟨c40, c41, c42⟩, c50, c51, c52⟩ := hSw; go_simp; first | done | with_reducible rfl) | exact Or.inr ⟨by rfl, rfl⟩
          try simp only [List.getElem_toArray, List.getElem_cons_succ, List.getElem_cons_zero, Act.put, List.setIfInBounds_toArray, List.set_cons_zero, List.set_cons_succ]
          refine anyS_take (i := 13) (v := ?vinx13) rfl (by kernel_rfl) (by kernel_rfl) (by kernel_rfl) ?hyinx13 ?restinx13
          case hyinx13 => first | (refine StepS.read (by rfl) (fun wx hSw => ?_); (try dsimp only at hSw); obtain ⟨hHx, ⟨c00, c01, c02⟩, ⟨c10, c11, c12⟩, ⟨c20, c21, c22⟩, ⟨c30, c31, c32⟩, ⟨c40, c41, c42⟩, c50, c51, c52⟩ := hSw; go_simp; first | done | with_reducible rfl) | exact Or.inr ⟨by rfl, rfl⟩
          try simp only [List.getElem_toArray, List.getElem_cons_succ, List.getElem_cons_zero, Act.put, List.setIfInBounds_toArray, List.set_cons_zero, List.set_cons_succ]
          refine anyS_take (i := 14) (v := ?vinx14) rfl (by kernel_rfl) (by kernel_rfl) (by kernel_rfl) ?hyinx14 ?restinx14
          case hyinx14 => first | (refine StepS.read (by rfl) (fun wx hSw => ?_); (try dsimp only at hSw); obtain ⟨hHx, ⟨c00, c01, c02⟩, ⟨c10, c11, c12⟩, ⟨c20, c21, c22⟩, ⟨c30, c31, c32⟩, ⟨c40, c41, c42⟩, c50, c51, c52⟩ := hSw; go_simp; first | done | with_reducible rfl) | exact Or.inr ⟨by rfl, rfl⟩
          try simp only [List.getElem_toArray, List.getElem_cons_succ, List.getElem_cons_zero, Act.put, List.setIfInBounds_toArray, List.set_cons_zero, List.set_cons_succ]
          refine anyS_take (i := 15) (v := ?vinx15) rfl (by kernel_rfl) (by kernel_rfl) (by kernel_rfl) ?hyinx15 ?restinx15
          case hyinx15 => first | (refine StepS.read (by rfl) (fun wx hSw => ?_); (try dsimp only at hSw); obtain ⟨hHx, ⟨c00, c01, c02⟩, ⟨c10, c11, c12⟩, ⟨c20, c21, c22⟩, ⟨c30, c31, c32⟩, ⟨c40, c41, c42⟩, c50, c51, c52⟩ := hSw; go_simp; first | done | with_reducible rfl) | exact Or.inr ⟨by rfl, rfl⟩
          try simp only [List.getElem_toArray, List.getElem_cons_succ, List.getElem_cons_zero, Act.put, List.setIfInBounds_toArray, List.set_cons_zero, List.set_cons_succ]
          refine anyS_take (i := 16) (v := .nilIface) rfl (by kernel_rfl) (by kernel_rfl) (by kernel_rfl) ?hyinx16 ?restinx16
          case hyinx16 => (refine Or.inl ⟨by rfl, fun wx hSw => ?_⟩; (try dsimp only at hSw); have hSk := hSw; obtain ⟨hHx, ⟨c00, c01, c02⟩, ⟨c10, c11, c12⟩, ⟨c20, c21, c22⟩, ⟨c30, c31, c32⟩, ⟨c40, c41, c42⟩, c50, c51, c52⟩ := hSw; go_simp; refine Or.inr ⟨_, _, _, rfl, ?_⟩; (with_reducible refine (sp_check_ok _ _ _ hva).mono ?_); rintro e w' ⟨rfl, hb'⟩; exact ⟨rfl, SS.step hSk hb'⟩)
          try simp only [List.getElem_toArray, List.getElem_cons_succ, List.getElem_cons_zero, Act.put, List.setIfInBounds_toArray, List.set_cons_zero, List.set_cons_succ]
          refine anyS_take (i := 17) (v := ?vinx17) rfl (by kernel_rfl) (by kernel_rfl) (by kernel_rfl) ?hyinx17 ?restinx17
          case hyinx17 => first | (refine StepS.read (by rfl) (fun wx hSw => ?_); (try dsimp only at hSw); obtain ⟨hHx, ⟨c00, c01, c02⟩, ⟨c10, c11, c12⟩, ⟨c20, c21, c22⟩, ⟨c30, c31, c32⟩, ⟨c40, c41, c42⟩, c50, c51, c52⟩ := hSw; go_simp; first | done | with_reducible rfl) | exact Or.inr ⟨by rfl, rfl⟩
          try simp only [List.getElem_toArray, List.getElem_cons_succ, List.getElem_cons_zero, Act.put, List.setIfInBounds_toArray, List.set_cons_zero, List.set_cons_succ]
          refine anyS_take (i := 18) (v := ?vinx18) rfl (by kernel_rfl) (by kernel_rfl) (by kernel_rfl) ?hyinx18 ?restinx18
          case hyinx18 => first | (refine StepS.read (by rfl) (fun wx hSw => ?_); (try dsimp only at hSw); obtain ⟨hHx, ⟨c00, c01, c02⟩, ⟨c10, c11, c12⟩, ⟨c20, c21, c22⟩, ⟨c30, c31, c32⟩, ⟨c40, c41, c42⟩, c50, c51, c52⟩ := hSw; go_simp; first | done | with_reducible rfl) | exact Or.inr ⟨by rfl, rfl⟩
          try simp only [List.getElem_toArray, List.getElem_cons_succ, List.getElem_cons_zero, Act.put, List.setIfInBounds_toArray, List.set_cons_zero, List.set_cons_succ]
          refine anyS_take (i := 19) (v := ?vinx19) rfl (by kernel_rfl) (by kernel_rfl) (by kernel_rfl) ?hyinx19 ?restinx19
          case hyinx19 => first | (refine StepS.read (by rfl) (fun wx hSw => ?_); (try dsimp only at hSw); obtain ⟨hHx, ⟨c00, c01, c02⟩, ⟨c10, c11, c12⟩, ⟨c20, c21, c22⟩, ⟨c30, c31, c32⟩, ⟨c40, c41, c42⟩, c50, c51, c52⟩ := hSw; go_simp; first | done | with_reducible rfl) | exact Or.inr ⟨by rfl, rfl⟩
          try simp only [List.getElem_toArray, List.getElem_cons_succ, List.getElem_cons_zero, Act.put, List.setIfInBounds_toArray, List.set_cons_zero, List.set_cons_succ]
          refine anyS_take (i := 20) (v := ?vinx20) rfl (by kernel_rfl) (by kernel_rfl) (by kernel_rfl) ?hyinx20 ?restinx20
          case hyinx20 => first | (refine StepS.read (by rfl) (fun wx hSw => ?_); (try dsimp only at hSw); obtain ⟨hHx, ⟨c00, c01, c02⟩, ⟨c10, c11, c12⟩, ⟨c20, c21, c22⟩, ⟨c30, c31, c32⟩, ⟨c40, c41, c42⟩, c50, c51, c52⟩ := hSw; go_simp; first | done | with_reducible rfl) | exact Or.inr ⟨by rfl, rfl⟩
          try simp only [List.getElem_toArray, List.getElem_cons_succ, List.getElem_cons_zero, Act.put, List.setIfInBounds_toArray, List.set_cons_zero, List.set_cons_succ]
          refine anyS_take (i := 21) (v := ?vinx21) rfl (by kernel_rfl) (by kernel_rfl) (by kernel_rfl) ?hyinx21 ?restinx21
          case hyinx21 => first | (refine StepS.read (by rfl) (fun wx hSw => ?_); (try dsimp only at hSw); obtain ⟨hHx, ⟨c00, c01, c02⟩, ⟨c10, c11, c12⟩, ⟨c20, c21, c22⟩, ⟨c30, c31, c32⟩, ⟨c40, c41, c42⟩, c50, c51, c52⟩ := hSw; go_simp; first | done | with_reducible rfl) | exact Or.inr ⟨by rfl, rfl⟩
          try simp only [List.getElem_toArray, List.getElem_cons_succ, List.getElem_cons_zero, Act.put, List.setIfInBounds_toArray, List.set_cons_zero, List.set_cons_succ]
          refine anyS_take (i := 22) (v := ?vinx22) rfl (by kernel_rfl) (by kernel_rfl) (by kernel_rfl) ?hyinx22 ?restinx22
          case hyinx22 => first | (refine StepS.read (by rfl) (fun wx hSw => ?_); (try dsimp only at hSw); obtain ⟨hHx, ⟨c00, c01, c02⟩, ⟨c10, c11, c12⟩, ⟨c20, c21, c22⟩, ⟨c30, c31, c32⟩, ⟨c40, c41, c42⟩, c50, c51, c52⟩ := hSw; go_simp; first | done | with_reducible rfl) | exact Or.inr ⟨by rfl, rfl⟩
          try simp only [List.getElem_toArray, List.getElem_cons_succ, List.getElem_cons_zero, Act.put, List.setIfInBounds_toArray, List.set_cons_zero, List.set_cons_succ]
          refine anyS_take (i := 23) (v := ?vinx23) rfl (by kernel_rfl) (by kernel_rfl) (by kernel_rfl) ?hyinx23 ?restinx23
          case hyinx23 => first | (refine StepS.read (by rfl) (fun wx hSw => ?_); (try dsimp only at hSw); obtain ⟨hHx, ⟨c00, c01, c02⟩, ⟨c10, c11, c12⟩, ⟨c20, c21, c22⟩, ⟨c30, c31, c32⟩, ⟨c40, c41, c42⟩, c50, c51, c52⟩ := hSw; go_simp; first | done | with_reducible rfl) | exact Or.inr ⟨by rfl, rfl⟩
          try simp only [List.getElem_toArray, List.getElem_cons_succ, List.getElem_cons_zero, Act.put, List.setIfInBounds_toArray, List.set_cons_zero, List.set_cons_succ]
          refine anyS_take (i := 24) (v := ?vinx24) rfl (by kernel_rfl) (by kernel_rfl) (by kernel_rfl) ?hyinx24 ?restinx24
          case hyinx24 => first | (refine StepS.read (by rfl) (fun wx hSw => ?_); (try dsimp only at hSw); obtain ⟨hHx, ⟨c00, c01, c02⟩, ⟨c10, c11, c12⟩, ⟨c20, c21, c22⟩, ⟨c30, c31, c32⟩, ⟨c40, c41, c42⟩, c50, c51, c52⟩ := hSw; go_simp; first | done | with_reducible rfl) | exact Or.inr ⟨by rfl, rfl⟩
          try simp only [List.getElem_toArray, List.getElem_cons_succ, List.getElem_cons_zero, Act.put, List.setIfInBounds_toArray, List.set_cons_zero, List.set_cons_succ]
          refine anyS_done (by kernel_rfl) (fun wx hSw => ?_) _
          (try dsimp only at hSw)
          go_wp2_with (fail)
          go_meet
          exact ⟨rfl, hSw⟩
        · have hd2 : decide (n ≤ a1) = false := decide_eq_false hn1
          have hin : ¬ (a0 ≤ n ∧ n ≤ a1) := fun h => hn1 h.2
          refine wp_region_S (S := (fun wx => SS w (w.heap.size) (.int .i64 a0) (.int .i64 a1) (w.heap.size + 1) (.int .i64 b0) (.int .i64 b1) (bx) (.int .i64 a0) (.int .i64 a1) (bY) (.int .i64 b0) (.int .i64 b1) (w1.heap.size) (.int .i64 0) (.int .i64 0) (w2.heap.size) (.int .i64 0) (.int .i64 0) wx)) (by kernel_rfl) (SS.drew hS0) ?_
          refine anyS_take (i := 0) (v := ?vhix0) rfl (by kernel_rfl) (by kernel_rfl) (by kernel_rfl) ?hyhix0 ?resthix0
          case hyhix0 => first | (refine StepS.read (by rfl) (fun wx hSw => ?_); (try dsimp only at hSw); obtain ⟨hHx, ⟨c00, c01, c02⟩, ⟨c10, c11, c12⟩, ⟨c20, c21, c22⟩, ⟨c30, c31, c32⟩, ⟨c40, c41, c42⟩, c50, c51, c52⟩ := hSw; go_simp; first | done | with_reducible rfl) | exact Or.inr ⟨by rfl, rfl⟩
          try simp only [List.getElem_toArray, List.getElem_cons_succ, List.getElem_cons_zero, Act.put, List.setIfInBounds_toArray, List.set_cons_zero, List.set_cons_succ]
          refine anyS_take (i := 1) (v := ?vhix1) rfl (by kernel_rfl) (by kernel_rfl) (by kernel_rfl) ?hyhix1 ?resthix1
          case hyhix1 => first | (refine StepS.read (by rfl) (fun wx hSw => ?_); (try dsimp only at hSw); obtain ⟨hHx, ⟨c00, c01, c02⟩, ⟨c10, c11, c12⟩, ⟨c20, c21, c22⟩, ⟨c30, c31, c32⟩, ⟨c40, c41, c42⟩, c50, c51, c52⟩ := hSw; go_simp; first | done | with_reducible rfl) | exact Or.inr ⟨by rfl, rfl⟩
          try simp only [List.getElem_toArray, List.getElem_cons_succ, List.getElem_cons_zero, Act.put, List.setIfInBounds_toArray, List.set_cons_zero, List.set_cons_succ]
          refine anyS_take (i := 2) (v := .bool false) rfl (by kernel_rfl) (by kernel_rfl) (by kernel_rfl) ?hyhix2 ?resthix2
          case hyhix2 => (refine Or.inl ⟨by rfl, fun wx hSw => ?_⟩; (try dsimp only at hSw); have hSk := hSw; obtain ⟨hHx, ⟨c00, c01, c02⟩, ⟨c10, c11, c12⟩, ⟨c20, c21, c22⟩, ⟨c30, c31, c32⟩, ⟨c40, c41, c42⟩, c50, c51, c52⟩ := hSw; go_simp; refine Or.inr ⟨_, _, _, rfl, ?_⟩; (with_reducible refine (sp_has_not _ _ _ _ hin).mono ?_); rintro e w' ⟨rfl, hb'⟩; exact ⟨rfl, SS.step hSk hb'⟩)
          try simp only [List.getElem_toArray, List.getElem_cons_succ, List.getElem_cons_zero, Act.put, List.setIfInBounds_toArray, List.set_cons_zero, List.set_cons_succ]
          refine anyS_take (i := 3) (v := ?vhix3) rfl (by kernel_rfl) (by kernel_rfl) (by kernel_rfl) ?hyhix3 ?resthix3
          case hyhix3 => first | (refine StepS.read (by rfl) (fun wx hSw => ?_); (try dsimp only at hSw); obtain ⟨hHx, ⟨c00, c01, c02⟩, ⟨c10, c11, c12⟩, ⟨c20, c21, c22⟩, ⟨c30, c31, c32⟩, ⟨c40, c41, c42⟩, c50, c51, c52⟩ := hSw; go_simp; first | done | with_reducible rfl) | exact Or.inr ⟨by rfl, rfl⟩
          try simp only [List.getElem_toArray, List.getElem_cons_succ, List.getElem_cons_zero, Act.put, List.setIfInBounds_toArray, List.set_cons_zero, List.set_cons_succ]
          refine anyS_take (i := 4) (v := ?vhix4) rfl (by kernel_rfl) (by kernel_rfl) (by kernel_rfl) ?hyhix4 ?resthix4
          case hyhix4 => first | (refine StepS.read (by rfl) (fun wx hSw => ?_); (try dsimp only at hSw); obtain ⟨hHx, ⟨c00, c01, c02⟩, ⟨c10, c11, c12⟩, ⟨c20, c21, c22⟩, ⟨c30, c31, c32⟩, ⟨c40, c41, c42⟩, c50, c51, c52⟩ := hSw; go_simp; first | done | with_reducible rfl) | exact Or.inr ⟨by rfl, rfl⟩
          try simp only [List.getElem_toArray, List.getElem_cons_succ, List.getElem_cons_zero, Act.put, List.setIfInBounds_toArray, List.set_cons_zero, List.set_cons_succ]
          refine anyS_take (i := 5) (v := ?vhix5) rfl (by kernel_rfl) (by kernel_rfl) (by kernel_rfl) ?hyhix5 ?resthix5
          case hyhix5 => first | (refine StepS.read (by rfl) (fun wx hSw => ?_); (try dsimp only at hSw); obtain ⟨hHx, ⟨c00, c01, c02⟩, ⟨c10, c11, c12⟩, ⟨c20, c21, c22⟩, ⟨c30, c31, c32⟩, ⟨c40, c41, c42⟩, c50, c51, c52⟩ := hSw; go_simp; first | done | with_reducible rfl) | exact Or.inr ⟨by rfl, rfl⟩
          try simp only [List.getElem_toArray, List.getElem_cons_succ, List.getElem_cons_zero, Act.put, List.setIfInBounds_toArray, List.set_cons_zero, List.set_cons_succ]
          refine anyS_take (i := 6) (v := ?vhix6) rfl (by kernel_rfl) (by kernel_rfl) (by kernel_rfl) ?hyhix6 ?resthix6
          case hyhix6 => first | (refine StepS.read (by rfl) (fun wx hSw => ?_); (try dsimp only at hSw); obtain ⟨hHx, ⟨c00, c01, c02⟩, ⟨c10, c11, c12⟩, ⟨c20, c21, c22⟩, ⟨c30, c31, c32⟩, ⟨c40, c41, c42⟩, c50, c51, c52⟩ := hSw; go_simp; first | done | with_reducible rfl) | exact Or.inr ⟨by rfl, rfl⟩
          try simp only [List.getElem_toArray, List.getElem_cons_succ, List.getElem_cons_zero, Act.put, List.setIfInBounds_toArray, List.set_cons_zero, List.set_cons_succ]
          refine anyS_take (i := 7) (v := ?vhix7) rfl (by kernel_rfl) (by kernel_rfl) (by kernel_rfl) ?hyhix7 ?resthix7
          case hyhix7 => first | (refine StepS.read (by rfl) (fun wx hSw => ?_); (try dsimp only at hSw); obtain ⟨hHx, ⟨c00, c01, c02⟩, ⟨c10, c11, c12⟩, ⟨c20, c21, c22⟩, ⟨c30, c31, c32⟩, ⟨c40, c41, c42⟩, c50, c51, c52⟩ := hSw; go_simp; first | done | with_reducible rfl) | exact Or.inr ⟨by rfl, rfl⟩
          try simp only [List.getElem_toArray, List.getElem_cons_succ, List.getElem_cons_zero, Act.put, List.setIfInBounds_toArray, List.set_cons_zero, List.set_cons_succ]
          refine anyS_take (i := 8) (v := ?vhix8) rfl (by kernel_rfl) (by kernel_rfl) (by kernel_rfl) ?hyhix8 ?resthix8
          case hyhix8 => first | (refine StepS.read (by rfl) (fun wx hSw => ?_); (try dsimp only at hSw); obtain ⟨hHx, ⟨c00, c01, c02⟩, ⟨c10, c11, c12⟩, ⟨c20, c21, c22⟩, ⟨c30, c31, c32⟩, ⟨c40, c41, c42⟩, c50, c51, c52⟩ := hSw; go_simp; first | done | with_reducible rfl) | exact Or.inr ⟨by rfl, rfl⟩
          try simp only [List.getElem_toArray, List.getElem_cons_succ, List.getElem_cons_zero, Act.put, List.setIfInBounds_toArray, List.set_cons_zero, List.set_cons_succ]
          refine anyS_take (i := 9) (v := ?vhix9) rfl (by kernel_rfl) (by kernel_rfl) (by kernel_rfl) ?hyhix9 ?resthix9
          case hyhix9 => first | (refine StepS.read (by rfl) (fun wx hSw => ?_); (try dsimp only at hSw); obtain ⟨hHx, ⟨c00, c01, c02⟩, ⟨c10, c11, c12⟩, ⟨c20, c21, c22⟩, ⟨c30, c31, c32⟩, ⟨c40, c41, c42⟩, c50, c51, c52⟩ := hSw; go_simp; first | done | with_reducible rfl) | exact Or.inr ⟨by rfl, rfl⟩
          try simp only [List.getElem_toArray, List.getElem_cons_succ, List.getElem_cons_zero, Act.put, List.setIfInBounds_toArray, List.set_cons_zero, List.set_cons_succ]
          refine anyS_take (i := 10) (v := ?vhix10) rfl (by kernel_rfl) (by kernel_rfl) (by kernel_rfl) ?hyhix10 ?resthix10
          case hyhix10 => first | (refine StepS.read (by rfl) (fun wx hSw => ?_); (try dsimp only at hSw); obtain ⟨hHx, ⟨c00, c01, c02⟩, ⟨c10, c11, c12⟩, ⟨c20, c21, c22⟩, ⟨c30, c31, c32⟩, ⟨c40, c41, c42⟩, c50, c51, c52⟩ := hSw; go_simp; first | done | with_reducible rfl) | exact Or.inr ⟨by rfl, rfl⟩
          try simp only [List.getElem_toArray, List.getElem_cons_succ, List.getElem_cons_zero, Act.put, List.setIfInBounds_toArray, List.set_cons_zero, List.set_cons_succ]
          refine anyS_take (i := 11) (v := ?vhix11) rfl (by kernel_rfl) (by kernel_rfl) (by kernel_rfl) ?hyhix11 ?resthix11
          case hyhix11 => first | (refine StepS.read (by rfl) (fun wx hSw => ?_); (try dsimp only at hSw); obtain ⟨hHx, ⟨c00, c01, c02⟩, ⟨c10, c11, c12⟩, ⟨c20, c21, c22⟩, ⟨c30, c31, c32⟩, ⟨c40, c41, c42⟩, c50, c51, c52⟩ := hSw; go_simp; first | done | with_reducible rfl) | exact Or.inr ⟨by rfl, rfl⟩
          try simp only [List.getElem_toArray, List.getElem_cons_succ, List.getElem_cons_zero, Act.put, List.setIfInBounds_toArray, List.set_cons_zero, List.set_cons_succ]
          refine anyS_take (i := 12) (v := ?vhix12) rfl (by kernel_rfl) (by kernel_rfl) (by kernel_rfl) ?hyhix12 ?resthix12
          case hyhix12 => first | (refine StepS.read (by rfl) (fun wx hSw => ?_); (try dsimp only at hSw); obtain ⟨hHx, ⟨c00, c01, c02⟩, ⟨c10, c11, c12⟩, ⟨c20, c21, c22⟩, ⟨c30, c31, c32⟩, ⟨c40, c41, c42⟩, c50, c51, c52⟩ := hSw; go_simp; first | done | with_reducible rfl) | exact Or.inr ⟨by rfl, rfl⟩
          try simp only [List.getElem_toArray, List.getElem_cons_succ, List.getElem_cons_zero, Act.put, List.setIfInBounds_toArray, List.set_cons_zero, List.set_cons_succ]
          refine anyS_take (i := 13) (v := ?vhix13) rfl (by kernel_rfl) (by kernel_rfl) (by kernel_rfl) ?hyhix13 ?resthix13
          case hyhix13 => first | (refine StepS.read (by rfl) (fun wx hSw => ?_); (try dsimp only at hSw); obtain ⟨hHx, ⟨c00, c01, c02⟩, ⟨c10, c11, c12⟩, ⟨c20, c21, c22⟩, ⟨c30, c31, c32⟩, ⟨c40, c41, c42⟩, c50, c51, c52⟩ := hSw; go_simp; first | done | with_reducible rfl) | exact Or.inr ⟨by rfl, rfl⟩
          try simp only [List.getElem_toArray, List.getElem_cons_succ, List.getElem_cons_zero, Act.put, List.setIfInBounds_toArray, List.set_cons_zero, List.set_cons_succ]
          refine anyS_take (i := 14) (v := ?vhix14) rfl (by kernel_rfl) (by kernel_rfl) (by kernel_rfl) ?hyhix14 ?resthix14
          case hyhix14 => first | (refine StepS.read (by rfl) (fun wx hSw => ?_); (try dsimp only at hSw); obtain ⟨hHx, ⟨c00, c01, c02⟩, ⟨c10, c11, c12⟩, ⟨c20, c21, c22⟩, ⟨c30, c31, c32⟩, ⟨c40, c41, c42⟩, c50, c51, c52⟩ := hSw; go_simp; first | done | with_reducible rfl) | exact Or.inr ⟨by rfl, rfl⟩
          try simp only [List.getElem_toArray, List.getElem_cons_succ, List.getElem_cons_zero, Act.put, List.setIfInBounds_toArray, List.set_cons_zero, List.set_cons_succ]
          refine anyS_take (i := 15) (v := ?vhix15) rfl (by kernel_rfl) (by kernel_rfl) (by kernel_rfl) ?hyhix15 ?resthix15
          case hyhix15 => first | (refine StepS.read (by rfl) (fun wx hSw => ?_); (try dsimp only at hSw); obtain ⟨hHx, ⟨c00, c01, c02⟩, ⟨c10, c11, c12⟩, ⟨c20, c21, c22⟩, ⟨c30, c31, c32⟩, ⟨c40, c41, c42⟩, c50, c51, c52⟩ := hSw; go_simp; first | done | with_reducible rfl) | exact Or.inr ⟨by rfl, rfl⟩
          try simp only [List.getElem_toArray, List.getElem_cons_succ, List.getElem_cons_zero, Act.put, List.setIfInBounds_toArray, List.set_cons_zero, List.set_cons_succ]
          refine anyS_take (i := 16) (v := .nilIface) rfl (by kernel_rfl) (by kernel_rfl) (by kernel_rfl) ?hyhix16 ?resthix16
          case hyhix16 => (refine Or.inl ⟨by rfl, fun wx hSw => ?_⟩; (try dsimp only at hSw); have hSk := hSw; obtain ⟨hHx, ⟨c00, c01, c02⟩, ⟨c10, c11, c12⟩, ⟨c20, c21, c22⟩, ⟨c30, c31, c32⟩, ⟨c40, c41, c42⟩, c50, c51, c52⟩ := hSw; go_simp; refine Or.inr ⟨_, _, _, rfl, ?_⟩; (with_reducible refine (sp_check_ok _ _ _ hva).mono ?_); rintro e w' ⟨rfl, hb'⟩; exact ⟨rfl, SS.step hSk hb'⟩)
          try simp only [List.getElem_toArray, List.getElem_cons_succ, List.getElem_cons_zero, Act.put, List.setIfInBounds_toArray, List.set_cons_zero, List.set_cons_succ]
          refine anyS_take (i := 17) (v := ?vhix17) rfl (by kernel_rfl) (by kernel_rfl) (by kernel_rfl) ?hyhix17 ?resthix17
          case hyhix17 => first | (refine StepS.read (by rfl) (fun wx hSw => ?_); (try dsimp only at hSw); obtain ⟨hHx, ⟨c00, c01, c02⟩, ⟨c10, c11, c12⟩, ⟨c20, c21, c22⟩, ⟨c30, c31, c32⟩, ⟨c40, c41, c42⟩, c50, c51, c52⟩ := hSw; go_simp; first | done | with_reducible rfl) | exact Or.inr ⟨by rfl, rfl⟩
          try simp only [List.getElem_toArray, List.getElem_cons_succ, List.getElem_cons_zero, Act.put, List.setIfInBounds_toArray, List.set_cons_zero, List.set_cons_succ]
          refine anyS_take (i := 18) (v := ?vhix18) rfl (by kernel_rfl) (by kernel_rfl) (by kernel_rfl) ?hyhix18 ?resthix18
          case hyhix18 => first | (refine StepS.read (by rfl) (fun wx hSw => ?_); (try dsimp only at hSw); obtain ⟨hHx, ⟨c00, c01, c02⟩, ⟨c10, c11, c12⟩, ⟨c20, c21, c22⟩, ⟨c30, c31, c32⟩, ⟨c40, c41, c42⟩, c50, c51, c52⟩ := hSw; go_simp; first | done | with_reducible rfl) | exact Or.inr ⟨by rfl, rfl⟩
          try simp only [List.getElem_toArray, List.getElem_cons_succ, List.getElem_cons_zero, Act.put, List.setIfInBounds_toArray, List.set_cons_zero, List.set_cons_succ]
          refine anyS_take (i := 19) (v := ?vhix19) rfl (by kernel_rfl) (by kernel_rfl) (by kernel_rfl) ?hyhix19 ?resthix19
          case hyhix19 => first | (refine StepS.read (by rfl) (fun wx hSw => ?_); (try dsimp only at hSw); obtain ⟨hHx, ⟨c00, c01, c02⟩, ⟨c10, c11, c12⟩, ⟨c20, c21, c22⟩, ⟨c30, c31, c32⟩, ⟨c40, c41, c42⟩, c50, c51, c52⟩ := hSw; go_simp; first | done | with_reducible rfl) | exact Or.inr ⟨by rfl, rfl⟩
          try simp only [List.getElem_toArray, List.getElem_cons_succ, List.getElem_cons_zero, Act.put, List.setIfInBounds_toArray, List.set_cons_zero, List.set_cons_succ]
          refine anyS_take (i := 20) (v := ?vhix20) rfl (by kernel_rfl) (by kernel_rfl) (by kernel_rfl) ?hyhix20 ?resthix20
          case hyhix20 => first | (refine StepS.read (by rfl) (fun wx hSw => ?_); (try dsimp only at hSw); obtain ⟨hHx, ⟨c00, c01, c02⟩, ⟨c10, c11, c12⟩, ⟨c20, c21, c22⟩, ⟨c30, c31, c32⟩, ⟨c40, c41, c42⟩, c50, c51, c52⟩ := hSw; go_simp; first | done | with_reducible rfl) | exact Or.inr ⟨by rfl, rfl⟩
          try simp only [List.getElem_toArray, List.getElem_cons_succ, List.getElem_cons_zero, Act.put, List.setIfInBounds_toArray, List.set_cons_zero, List.set_cons_succ]
          refine anyS_take (i := 21) (v := ?vhix21) rfl (by kernel_rfl) (by kernel_rfl) (by kernel_rfl) ?hyhix21 ?resthix21
          case hyhix21 => first | (refine StepS.read (by rfl) (fun wx hSw => ?_); (try dsimp only at hSw); obtain ⟨hHx, ⟨c00, c01, c02⟩, ⟨c10, c11, c12⟩, ⟨c20, c21, c22⟩, ⟨c30, c31, c32⟩, ⟨c40, c41, c42⟩, c50, c51, c52⟩ := hSw; go_simp; first | done | with_reducible rfl) | exact Or.inr ⟨by rfl, rfl⟩
          try simp only [List.getElem_toArray, List.getElem_cons_succ, List.getElem_cons_zero, Act.put, List.setIfInBounds_toArray, List.set_cons_zero, List.set_cons_succ]
          refine anyS_take (i := 22) (v := ?vhix22) rfl (by kernel_rfl) (by kernel_rfl) (by kernel_rfl) ?hyhix22 ?resthix22
          case hyhix22 => first | (refine StepS.read (by rfl) (fun wx hSw => ?_); (try dsimp only at hSw); obtain ⟨hHx, ⟨c00, c01, c02⟩, ⟨c10, c11, c12⟩, ⟨c20, c21, c22⟩, ⟨c30, c31, c32⟩, ⟨c40, c41, c42⟩, c50, c51, c52⟩ := hSw; go_simp; first | done | with_reducible rfl) | exact Or.inr ⟨by rfl, rfl⟩
          try simp only [List.getElem_toArray, List.getElem_cons_succ, List.getElem_cons_zero, Act.put, List.setIfInBounds_toArray, List.set_cons_zero, List.set_cons_succ]
          refine anyS_take (i := 23) (v := ?vhix23) rfl (by kernel_rfl) (by kernel_rfl) (by kernel_rfl) ?hyhix23 ?resthix23
          case hyhix23 => first | (refine StepS.read (by rfl) (fun wx hSw => ?_); (try dsimp only at hSw); obtain ⟨hHx, ⟨c00, c01, c02⟩, ⟨c10, c11, c12⟩, ⟨c20, c21, c22⟩, ⟨c30, c31, c32⟩, ⟨c40, c41, c42⟩, c50, c51, c52⟩ := hSw; go_simp; first | done | with_reducible rfl) | exact Or.inr ⟨by rfl, rfl⟩
          try simp only [List.getElem_toArray, List.getElem_cons_succ, List.getElem_cons_zero, Act.put, List.setIfInBounds_toArray, List.set_cons_zero, List.set_cons_succ]
          refine anyS_take (i := 24) (v := ?vhix24) rfl (by kernel_rfl) (by kernel_rfl) (by kernel_rfl) ?hyhix24 ?resthix24
          case hyhix24 => first | (refine StepS.read (by rfl) (fun wx hSw => ?_); (try dsimp only at hSw); obtain ⟨hHx, ⟨c00, c01, c02⟩, ⟨c10, c11, c12⟩, ⟨c20, c21, c22⟩, ⟨c30, c31, c32⟩, ⟨c40, c41, c42⟩, c50, c51, c52⟩ := hSw; go_simp; first | done | with_reducible rfl) | exact Or.inr ⟨by rfl, rfl⟩
          try simp only [List.getElem_toArray, List.getElem_cons_succ, List.getElem_cons_zero, Act.put, List.setIfInBounds_toArray, List.set_cons_zero, List.set_cons_succ]
          refine anyS_done (by kernel_rfl) (fun wx hSw => ?_) _
          (try dsimp only at hSw)
          go_wp2_with (fail)
          go_meet
          exact ⟨rfl, hSw⟩
      · have hd1 : decide (a0 ≤ n) = false := decide_eq_false hn0
        have hin : ¬ (a0 ≤ n ∧ n ≤ a1) := fun h => hn0 h.1
        refine wp_region_S (S := (fun wx => SS w (w.heap.size) (.int .i64 a0) (.int .i64 a1) (w.heap.size + 1) (.int .i64 b0) (.int .i64 b1) (bx) (.int .i64 a0) (.int .i64 a1) (bY) (.int .i64 b0) (.int .i64 b1) (w1.heap.size) (.int .i64 0) (.int .i64 0) (w2.heap.size) (.int .i64 0) (.int .i64 0) wx)) (by kernel_rfl) (SS.drew hS0) ?_
        refine anyS_take (i := 0) (v := ?vlox0) rfl (by kernel_rfl) (by kernel_rfl) (by kernel_rfl) ?hylox0 ?restlox0
        case hylox0 => first | (refine StepS.read (by rfl) (fun wx hSw => ?_); (try dsimp only at hSw); obtain ⟨hHx, ⟨c00, c01, c02⟩, ⟨c10, c11, c12⟩, ⟨c20, c21, c22⟩, ⟨c30, c31, c32⟩, ⟨c40, c41, c42⟩, c50, c51, c52⟩ := hSw; go_simp; first | done | with_reducible rfl) | exact Or.inr ⟨by rfl, rfl⟩
        try simp only [List.getElem_toArray, List.getElem_cons_succ, List.getElem_cons_zero, Act.put, List.setIfInBounds_toArray, List.set_cons_zero, List.set_cons_succ]
        refine anyS_take (i := 1) (v := ?vlox1) rfl (by kernel_rfl) (by kernel_rfl) (by kernel_rfl) ?hylox1 ?restlox1
        case hylox1 => first | (refine StepS.read (by rfl) (fun wx hSw => ?_); (try dsimp only at hSw); obtain ⟨hHx, ⟨c00, c01, c02⟩, ⟨c10, c11, c12⟩, ⟨c20, c21, c22⟩, ⟨c30, c31, c32⟩, ⟨c40, c41, c42⟩, c50, c51, c52⟩ := hSw; go_simp; first | done | with_reducible rfl) | exact Or.inr ⟨by rfl, rfl⟩
        try simp only [List.getElem_toArray, List.getElem_cons_succ, List.getElem_cons_zero, Act.put, List.setIfInBounds_toArray, List.set_cons_zero, List.set_cons_succ]
        refine anyS_take (i := 2) (v := .bool false) rfl (by kernel_rfl) (by kernel_rfl) (by kernel_rfl) ?hylox2 ?restlox2
        case hylox2 => (refine Or.inl ⟨by rfl, fun wx hSw => ?_⟩; (try dsimp only at hSw); have hSk := hSw; obtain ⟨hHx, ⟨c00, c01, c02⟩, ⟨c10, c11, c12⟩, ⟨c20, c21, c22⟩, ⟨c30, c31, c32⟩, ⟨c40, c41, c42⟩, c50, c51, c52⟩ := hSw; go_simp; refine Or.inr ⟨_, _, _, rfl, ?_⟩; (with_reducible refine (sp_has_not _ _ _ _ hin).mono ?_); rintro e w' ⟨rfl, hb'⟩; exact ⟨rfl, SS.step hSk hb'⟩)
        try simp only [List.getElem_toArray, List.getElem_cons_succ, List.getElem_cons_zero, Act.put, List.setIfInBounds_toArray, List.set_cons_zero, List.set_cons_succ]
        refine anyS_take (i := 3) (v := ?vlox3) rfl (by kernel_rfl) (by kernel_rfl) (by kernel_rfl) ?hylox3 ?restlox3
        case hylox3 => first | (refine StepS.read (by rfl) (fun wx hSw => ?_); (try dsimp only at hSw); obtain ⟨hHx, ⟨c00, c01, c02⟩, ⟨c10, c11, c12⟩, ⟨c20, c21, c22⟩, ⟨c30, c31, c32⟩, ⟨c40, c41, c42⟩, c50, c51, c52⟩ := hSw; go_simp; first | done | with_reducible rfl) | exact Or.inr ⟨by rfl, rfl⟩
        try simp only [List.getElem_toArray, List.getElem_cons_succ, List.getElem_cons_zero, Act.put, List.setIfInBounds_toArray, List.set_cons_zero, List.set_cons_succ]
        refine anyS_take (i := 4) (v := ?vlox4) rfl (by kernel_rfl) (by kernel_rfl) (by kernel_rfl) ?hylox4 ?restlox4
        case hylox4 => first | (refine StepS.read (by rfl) (fun wx hSw => ?_); (try dsimp only at hSw); obtain ⟨hHx, ⟨c00, c01, c02⟩, ⟨c10, c11, c12⟩, ⟨c20, c21, c22⟩, ⟨c30, c31, c32⟩, ⟨c40, c41, c42⟩, c50, c51, c52⟩ := hSw; go_simp; first | done | with_reducible rfl) | exact Or.inr ⟨by rfl, rfl⟩
        try simp only [List.getElem_toArray, List.getElem_cons_succ, List.getElem_cons_zero, Act.put, List.setIfInBounds_toArray, List.set_cons_zero, List.set_cons_succ]
        refine anyS_take (i := 5) (v := ?vlox5) rfl (by kernel_rfl) (by kernel_rfl) (by kernel_rfl) ?hylox5 ?restlox5
        case hylox5 => first | (refine StepS.read (by rfl) (fun wx hSw => ?_); (try dsimp only at hSw); obtain ⟨hHx, ⟨c00, c01, c02⟩, ⟨c10, c11, c12⟩, ⟨c20, c21, c22⟩, ⟨c30, c31, c32⟩, ⟨c40, c41, c42⟩, c50, c51, c52⟩ := hSw; go_simp; first | done | with_reducible rfl) | exact Or.inr ⟨by rfl, rfl⟩
        try simp only [List.getElem_toArray, List.getElem_cons_succ, List.getElem_cons_zero, Act.put, List.setIfInBounds_toArray, List.set_cons_zero, List.set_cons_succ]
        refine anyS_take (i := 6) (v := ?vlox6) rfl (by kernel_rfl) (by kernel_rfl) (by kernel_rfl) ?hylox6 ?restlox6
        case hylox6 => first | (refine StepS.read (by rfl) (fun wx hSw => ?_); (try dsimp only at hSw); obtain ⟨hHx, ⟨c00, c01, c02⟩, ⟨c10, c11, c12⟩, ⟨c20, c21, c22⟩, ⟨c30, c31, c32⟩, ⟨c40, c41, c42⟩, c50, c51, c52⟩ := hSw; go_simp; first | done | with_reducible rfl) | exact Or.inr ⟨by rfl, rfl⟩
        try simp only [List.getElem_toArray, List.getElem_cons_succ, List.getElem_cons_zero, Act.put, List.setIfInBounds_toArray, List.set_cons_zero, List.set_cons_succ]
        refine anyS_take (i := 7) (v := ?vlox7) rfl (by kernel_rfl) (by kernel_rfl) (by kernel_rfl) ?hylox7 ?restlox7
        case hylox7 => first | (refine StepS.read (by rfl) (fun wx hSw => ?_); (try dsimp only at hSw); obtain ⟨hHx, ⟨c00, c01, c02⟩, ⟨c10, c11, c12⟩, ⟨c20, c21, c22⟩, ⟨c30, c31, c32⟩, ⟨c40, c41, c42⟩, c50, c51, c52⟩ := hSw; go_simp; first | done | with_reducible rfl) | exact Or.inr ⟨by rfl, rfl⟩
        try simp only [List.getElem_toArray, List.getElem_cons_succ, List.getElem_cons_zero, Act.put, List.setIfInBounds_toArray, List.set_cons_zero, List.set_cons_succ]
        refine anyS_take (i := 8) (v := undef) rfl (by kernel_rfl) (by kernel_rfl) (by kernel_rfl) (Or.inr ⟨by kernel_rfl, rfl⟩) ?restlox8
        try simp only [List.getElem_toArray, List.getElem_cons_succ, List.getElem_cons_zero, Act.put, List.setIfInBounds_toArray, List.set_cons_zero, List.set_cons_succ]
        refine anyS_take (i := 9) (v := undef) rfl (by kernel_rfl) (by kernel_rfl) (by kernel_rfl) (Or.inr ⟨by kernel_rfl, rfl⟩) ?restlox9
        try simp only [List.getElem_toArray, List.getElem_cons_succ, List.getElem_cons_zero, Act.put, List.setIfInBounds_toArray, List.set_cons_zero, List.set_cons_succ]
        refine anyS_take (i := 10) (v := undef) rfl (by kernel_rfl) (by kernel_rfl) (by kernel_rfl) (Or.inr ⟨by kernel_rfl, rfl⟩) ?restlox10
        try simp only [List.getElem_toArray, List.getElem_cons_succ, List.getElem_cons_zero, Act.put, List.setIfInBounds_toArray, List.set_cons_zero, List.set_cons_succ]
        refine anyS_take (i := 11) (v := undef) rfl (by kernel_rfl) (by kernel_rfl) (by kernel_rfl) (Or.inr ⟨by kernel_rfl, rfl⟩) ?restlox11
        try simp only [List.getElem_toArray, List.getElem_cons_succ, List.getElem_cons_zero, Act.put, List.setIfInBounds_toArray, List.set_cons_zero, List.set_cons_succ]
        refine anyS_take (i := 12) (v := ?vlox12) rfl (by kernel_rfl) (by kernel_rfl) (by kernel_rfl) ?hylox12 ?restlox12
        case hylox12 => first | (refine StepS.read (by rfl) (fun wx hSw => ?_); (try dsimp only at hSw); obtain ⟨hHx, ⟨c00, c01, c02⟩, ⟨c10, c11, c12⟩, ⟨c20, c21, c22⟩, ⟨c30, c31, c32⟩, ⟨c40, c41, c42⟩, c50, c51, c52⟩ := hSw; go_simp; first | done | with_reducible rfl) | exact Or.inr ⟨by rfl, rfl⟩
        try simp only [List.getElem_toArray, List.getElem_cons_succ, List.getElem_cons_zero, Act.put, List.setIfInBounds_toArray, List.set_cons_zero, List.set_cons_succ]
        refine anyS_take (i := 13) (v := ?vlox13) rfl (by kernel_rfl) (by kernel_rfl) (by kernel_rfl) ?hylox13 ?restlox13
        case hylox13 => first | (refine StepS.read (by rfl) (fun wx hSw => ?_); (try dsimp only at hSw); obtain ⟨hHx, ⟨c00, c01, c02⟩, ⟨c10, c11, c12⟩, ⟨c20, c21, c22⟩, ⟨c30, c31, c32⟩, ⟨c40, c41, c42⟩, c50, c51, c52⟩ := hSw; go_simp; first | done | with_reducible rfl) | exact Or.inr ⟨by rfl, rfl⟩
        try simp only [List.getElem_toArray, List.getElem_cons_succ, List.getElem_cons_zero, Act.put, List.setIfInBounds_toArray, List.set_cons_zero, List.set_cons_succ]
        refine anyS_take (i := 14) (v := ?vlox14) rfl (by kernel_rfl) (by kernel_rfl) (by kernel_rfl) ?hylox14 ?restlox14
        case hylox14 => first | (refine StepS.read (by rfl) (fun wx hSw => ?_); (try dsimp only at hSw); obtain ⟨hHx, ⟨c00, c01, c02⟩, ⟨c10, c11, c12⟩, ⟨c20, c21, c22⟩, ⟨c30, c31, c32⟩, ⟨c40, c41, c42⟩, c50, c51, c52⟩ := hSw; go_simp; first | done | with_reducible rfl) | exact Or.inr ⟨by rfl, rfl⟩
        try simp only [List.getElem_toArray, List.getElem_cons_succ, List.getElem_cons_zero, Act.put, List.setIfInBounds_toArray, List.set_cons_zero, List.set_cons_succ]
        refine anyS_take (i := 15) (v := ?vlox15) rfl (by kernel_rfl) (by kernel_rfl) (by kernel_rfl) ?hylox15 ?restlox15
        case hylox15 => first | (refine StepS.read (by rfl) (fun wx hSw => ?_); (try dsimp only at hSw); obtain ⟨hHx, ⟨c00, c01, c02⟩, ⟨c10, c11, c12⟩, ⟨c20, c21, c22⟩, ⟨c30, c31, c32⟩, ⟨c40, c41, c42⟩, c50, c51, c52⟩ := hSw; go_simp; first | done | with_reducible rfl) | exact Or.inr ⟨by rfl, rfl⟩
        try simp only [List.getElem_toArray, List.getElem_cons_succ, List.getElem_cons_zero, Act.put, List.setIfInBounds_toArray, List.set_cons_zero, List.set_cons_succ]
        refine anyS_take (i := 16) (v := .nilIface) rfl (by kernel_rfl) (by kernel_rfl) (by kernel_rfl) ?hylox16 ?restlox16
        case hylox16 => (refine Or.inl ⟨by rfl, fun wx hSw => ?_⟩; (try dsimp only at hSw); have hSk := hSw; obtain ⟨hHx, ⟨c00, c01, c02⟩, ⟨c10, c11, c12⟩, ⟨c20, c21, c22⟩, ⟨c30, c31, c32⟩, ⟨c40, c41, c42⟩, c50, c51, c52⟩ := hSw; go_simp; refine Or.inr ⟨_, _, _, rfl, ?_⟩; (with_reducible refine (sp_check_ok _ _ _ hva).mono ?_); rintro e w' ⟨rfl, hb'⟩; exact ⟨rfl, SS.step hSk hb'⟩)
        try simp only [List.getElem_toArray, List.getElem_cons_succ, List.getElem_cons_zero, Act.put, List.setIfInBounds_toArray, List.set_cons_zero, List.set_cons_succ]
        refine anyS_take (i := 17) (v := ?vlox17) rfl (by kernel_rfl) (by kernel_rfl) (by kernel_rfl) ?hylox17 ?restlox17
        case hylox17 => first | (refine StepS.read (by rfl) (fun wx hSw => ?_); (try dsimp only at hSw); obtain ⟨hHx, ⟨c00, c01, c02⟩, ⟨c10, c11, c12⟩, ⟨c20, c21, c22⟩, ⟨c30, c31, c32⟩, ⟨c40, c41, c42⟩, c50, c51, c52⟩ := hSw; go_simp; first | done | with_reducible rfl) | exact Or.inr ⟨by rfl, rfl⟩
        try simp only [List.getElem_toArray, List.getElem_cons_succ, List.getElem_cons_zero, Act.put, List.setIfInBounds_toArray, List.set_cons_zero, List.set_cons_succ]
        refine anyS_take (i := 18) (v := ?vlox18) rfl (by kernel_rfl) (by kernel_rfl) (by kernel_rfl) ?hylox18 ?restlox18
        case hylox18 => first | (refine StepS.read (by rfl) (fun wx hSw => ?_); (try dsimp only at hSw); obtain ⟨hHx, ⟨c00, c01, c02⟩, ⟨c10, c11, c12⟩, ⟨c20, c21, c22⟩, ⟨c30, c31, c32⟩, ⟨c40, c41, c42⟩, c50, c51, c52⟩ := hSw; go_simp; first | done | with_reducible rfl) | exact Or.inr ⟨by rfl, rfl⟩
        try simp only [List.getElem_toArray, List.getElem_cons_succ, List.getElem_cons_zero, Act.put, List.setIfInBounds_toArray, List.set_cons_zero, List.set_cons_succ]
        refine anyS_take (i := 19) (v := ?vlox19) rfl (by kernel_rfl) (by kernel_rfl) (by kernel_rfl) ?hylox19 ?restlox19
        case hylox19 => first | (refine StepS.read (by rfl) (fun wx hSw => ?_); (try dsimp only at hSw); obtain ⟨hHx, ⟨c00, c01, c02⟩, ⟨c10, c11, c12⟩, ⟨c20, c21, c22⟩, ⟨c30, c31, c32⟩, ⟨c40, c41, c42⟩, c50, c51, c52⟩ := hSw; go_simp; first | done | with_reducible rfl) | exact Or.inr ⟨by rfl, rfl⟩
        try simp only [List.getElem_toArray, List.getElem_cons_succ, List.getElem_cons_zero, Act.put, List.setIfInBounds_toArray, List.set_cons_zero, List.set_cons_succ]
        refine anyS_take (i := 20) (v := ?vlox20) rfl (by kernel_rfl) (by kernel_rfl) (by kernel_rfl) ?hylox20 ?restlox20
        case hylox20 => first | (refine StepS.read (by rfl) (fun wx hSw => ?_); (try dsimp only at hSw); obtain ⟨hHx, ⟨c00, c01, c02⟩, ⟨c10, c11, c12⟩, ⟨c20, c21, c22⟩, ⟨c30, c31, c32⟩, ⟨c40, c41, c42⟩, c50, c51, c52⟩ := hSw; go_simp; first | done | with_reducible rfl) | exact Or.inr ⟨by rfl, rfl⟩
        try simp only [List.getElem_toArray, List.getElem_cons_succ, List.getElem_cons_zero, Act.put, List.setIfInBounds_toArray, List.set_cons_zero, List.set_cons_succ]
        refine anyS_take (i := 21) (v := ?vlox21) rfl (by kernel_rfl) (by kernel_rfl) (by kernel_rfl) ?hylox21 ?restlox21
        case hylox21 => first | (refine StepS.read (by rfl) (fun wx hSw => ?_); (try dsimp only at hSw); obtain ⟨hHx, ⟨c00, c01, c02⟩, ⟨c10, c11, c12⟩, ⟨c20, c21, c22⟩, ⟨c30, c31, c32⟩, ⟨c40, c41, c42⟩, c50, c51, c52⟩ := hSw; go_simp; first | done | with_reducible rfl) | exact Or.inr ⟨by rfl, rfl⟩
        try simp only [List.getElem_toArray, List.getElem_cons_succ, List.getElem_cons_zero, Act.put, List.setIfInBounds_toArray, List.set_cons_zero, List.set_cons_succ]
        refine anyS_take (i := 22) (v := ?vlox22) rfl (by kernel_rfl) (by kernel_rfl) (by kernel_rfl) ?hylox22 ?restlox22
        case hylox22 => first | (refine StepS.read (by rfl) (fun wx hSw => ?_); (try dsimp only at hSw); obtain ⟨hHx, ⟨c00, c01, c02⟩, ⟨c10, c11, c12⟩, ⟨c20, c21, c22⟩, ⟨c30, c31, c32⟩, ⟨c40, c41, c42⟩, c50, c51, c52⟩ := hSw; go_simp; first | done | with_reducible rfl) | exact Or.inr ⟨by rfl, rfl⟩
        try simp only [List.getElem_toArray, List.getElem_cons_succ, List.getElem_cons_zero, Act.put, List.setIfInBounds_toArray, List.set_cons_zero, List.set_cons_succ]
        refine anyS_take (i := 23) (v := ?vlox23) rfl (by kernel_rfl) (by kernel_rfl) (by kernel_rfl) ?hylox23 ?restlox23
        case hylox23 => first | (refine StepS.read (by rfl) (fun wx hSw => ?_); (try dsimp only at hSw); obtain ⟨hHx, ⟨c00, c01, c02⟩, ⟨c10, c11, c12⟩, ⟨c20, c21, c22⟩, ⟨c30, c31, c32⟩, ⟨c40, c41, c42⟩, c50, c51, c52⟩ := hSw; go_simp; first | done | with_reducible rfl) | exact Or.inr ⟨by rfl, rfl⟩
        try simp only [List.getElem_toArray, List.getElem_cons_succ, List.getElem_cons_zero, Act.put, List.setIfInBounds_toArray, List.set_cons_zero, List.set_cons_succ]
        refine anyS_take (i := 24) (v := ?vlox24) rfl (by kernel_rfl) (by kernel_rfl) (by kernel_rfl) ?hylox24 ?restlox24
        case hylox24 => first | (refine StepS.read (by rfl) (fun wx hSw => ?_); (try dsimp only at hSw); obtain ⟨hHx, ⟨c00, c01, c02⟩, ⟨c10, c11, c12⟩, ⟨c20, c21, c22⟩, ⟨c30, c31, c32⟩, ⟨c40, c41, c42⟩, c50, c51, c52⟩ := hSw; go_simp; first | done | with_reducible rfl) | exact Or.inr ⟨by rfl, rfl⟩
        try simp only [List.getElem_toArray, List.getElem_cons_succ, List.getElem_cons_zero, Act.put, List.setIfInBounds_toArray, List.set_cons_zero, List.set_cons_succ]
        refine anyS_done (by kernel_rfl) (fun wx hSw => ?_) _
        (try dsimp only at hSw)
        go_wp2_with (fail)
        go_meet
        exact ⟨rfl, hSw⟩
    case rest =>
      obtain ⟨rfl, hS⟩ := hcut
      obtain ⟨wB, rfl⟩ : ∃ x, x = wc := ⟨_, rfl⟩
      obtain ⟨hH, Ka0, Kb0, Kx0, Ky0, Km0, Kg0⟩ := hS
      have Ka := Lib.hid Ka0
      have Kb := Lib.hid Kb0
      have Kx := Lib.hid Kx0
      have Ky := Lib.hid Ky0
      have Km := Lib.hid Km0
      have Kg := Lib.hid Kg0
      clear Ka0 Kb0 Kx0 Ky0 Km0 Kg0
      obtain ⟨za, ca0, ca1⟩ := Ka.out
      obtain ⟨zb, cb0, cb1⟩ := Kb.out
      obtain ⟨zx, cx0, cx1⟩ := Kx.out
      obtain ⟨zy, cy0, cy1⟩ := Ky.out
      obtain ⟨zm, cm0, cm1⟩ := Km.out
      obtain ⟨zg, cg0, cg1⟩ := Kg.out
      have hda0a1 : decide (a0 ≤ a1) = true := decide_eq_true (by omega)
      have hdb0b1 : decide (b0 ≤ b1) = true := decide_eq_true (by omega)
      have hda0b1 : decide (a0 ≤ b1) = true := decide_eq_true (by omega)
      have hdb0a1 : decide (b0 ≤ a1) = false := decide_eq_false (by omega)
      go_wp2_with (fail)
      go_at_call 21
      (with_reducible refine (HRM.out _).mono ?_)
      rintro e w4 ⟨rfl, HB⟩
      have HBB := Below.trans (show Below wB.heap.size wB _ from by repeat (first | with_reducible assumption | exact Below.refl _ _ | refine Below.drew ?_ | refine Below.setCell ?_ (by first | omega | (simp; done) | (simp; omega)) _ | refine Below.alloc ?_ (by first | omega | (simp; done) | (simp; omega)) _)) (Below.mono (B' := wB.heap.size) HB (by first | omega | (simp; done) | (simp; omega)))
      clear za ca0 ca1 zb cb0 cb1 zx cx0 cx1 zy cy0 cy1 zm cm0 cm1 zg cg0 cg1
      replace Ka := Lib.hid (B2.step Ka.out HBB)
      replace Kb := Lib.hid (B2.step Kb.out HBB)
      replace Kx := Lib.hid (B2.step Kx.out HBB)
      replace Ky := Lib.hid (B2.step Ky.out HBB)
      replace Km := Lib.hid (B2.step Km.out HBB)
      replace Kg := Lib.hid (B2.step Kg.out HBB)
      replace hH := Held.step (w0 := w) hH HBB
      have hz4 := HBB.size
      obtain ⟨hc4, hf4⟩ := bcell HB
      clear HB HBB
      obtain ⟨za, ca0, ca1⟩ := Ka.out
      obtain ⟨zb, cb0, cb1⟩ := Kb.out
      obtain ⟨zx, cx0, cx1⟩ := Kx.out
      obtain ⟨zy, cy0, cy1⟩ := Ky.out
      obtain ⟨zm, cm0, cm1⟩ := Km.out
      obtain ⟨zg, cg0, cg1⟩ := Kg.out
      go_wp2_with (fail)
      go_at_call 19
      (with_reducible refine (num13_err _ _ (Held.handle (w0 := w) (by repeat (first | assumption | refine Held.alloc ?_ _ | refine Held.drew ?_)))).mono ?_)
      rintro e w5 ⟨rfl, HB⟩
      have HBB := Below.trans (show Below w4.heap.size w4 _ from by repeat (first | with_reducible assumption | exact Below.refl _ _ | refine Below.drew ?_ | refine Below.setCell ?_ (by first | omega | (simp; done) | (simp; omega)) _ | refine Below.alloc ?_ (by first | omega | (simp; done) | (simp; omega)) _)) (Below.mono (B' := w4.heap.size) HB (by first | omega | (simp; done) | (simp; omega)))
      clear za ca0 ca1 zb cb0 cb1 zx cx0 cx1 zy cy0 cy1 zm cm0 cm1 zg cg0 cg1
      replace Ka := Lib.hid (B2.step Ka.out HBB)
      replace Kb := Lib.hid (B2.step Kb.out HBB)
      replace Kx := Lib.hid (B2.step Kx.out HBB)
      replace Ky := Lib.hid (B2.step Ky.out HBB)
      replace Km := Lib.hid (B2.step Km.out HBB)
      replace Kg := Lib.hid (B2.step Kg.out HBB)
      replace hH := Held.step (w0 := w) hH HBB
      have hz5 := HBB.size
      obtain ⟨hc5, hf5⟩ := bcell HB
      clear HB HBB
      clear hc4 hf4
      obtain ⟨za, ca0, ca1⟩ := Ka.out
      obtain ⟨zb, cb0, cb1⟩ := Kb.out
      obtain ⟨zx, cx0, cx1⟩ := Kx.out
      obtain ⟨zy, cy0, cy1⟩ := Ky.out
      obtain ⟨zm, cm0, cm1⟩ := Km.out
      obtain ⟨zg, cg0, cg1⟩ := Kg.out
      go_wp2_with (fail)
      go_at_call 20
      (with_reducible refine (sure13 _ (Held.handle (w0 := w) (by repeat (first | assumption | refine Held.alloc ?_ _ | refine Held.drew ?_)))).mono ?_)
      rintro e w6 ⟨rfl, HB⟩
      have HBB := Below.trans (show Below w5.heap.size w5 _ from by repeat (first | with_reducible assumption | exact Below.refl _ _ | refine Below.drew ?_ | refine Below.setCell ?_ (by first | omega | (simp; done) | (simp; omega)) _ | refine Below.alloc ?_ (by first | omega | (simp; done) | (simp; omega)) _)) (Below.mono (B' := w5.heap.size) HB (by first | omega | (simp; done) | (simp; omega)))
      clear za ca0 ca1 zb cb0 cb1 zx cx0 cx1 zy cy0 cy1 zm cm0 cm1 zg cg0 cg1
      replace Ka := Lib.hid (B2.step Ka.out HBB)
      replace Kb := Lib.hid (B2.step Kb.out HBB)
      replace Kx := Lib.hid (B2.step Kx.out HBB)
      replace Ky := Lib.hid (B2.step Ky.out HBB)
      replace Km := Lib.hid (B2.step Km.out HBB)
      replace Kg := Lib.hid (B2.step Kg.out HBB)
      replace hH := Held.step (w0 := w) hH HBB
      have hz6 := HBB.size
      obtain ⟨hc6, hf6⟩ := bcell HB
      clear HB HBB
      clear hc5 hf5
      obtain ⟨za, ca0, ca1⟩ := Ka.out
      obtain ⟨zb, cb0, cb1⟩ := Kb.out
      obtain ⟨zx, cx0, cx1⟩ := Kx.out
      obtain ⟨zy, cy0, cy1⟩ := Ky.out
      obtain ⟨zm, cm0, cm1⟩ := Km.out
      obtain ⟨zg, cg0, cg1⟩ := Kg.out
      go_wp2_with (fail)
      go_ret
      exact ⟨rfl, Held.below (w0 := w) (by repeat (first | assumption | refine Held.alloc ?_ _ | refine Held.drew ?_))⟩
end Go.Proofs.YtgkpbokipnfddaaDoor
