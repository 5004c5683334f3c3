/-
  Layer 3: the statement RatioFits.
-/
import Derived.Test.YtffdglhdklmjoaaDoorW03d
import Derived.Test.YtffdglhdklmjoaaDoorV03
import Derived.Test.YtffdglhdklmjoaaDoorOrd
namespace Go.Proofs.YtffdglhdklmjoaaDoor
open Go.RowKit Go.Extern.Stop Go.Stop Go.Extern
set_option linter.unusedVariables false
set_option linter.unusedSimpArgs false
abbrev B4 (b : Nat) (x y z u : Value) (wx : World) : Prop := b < wx.heap.size ∧ wx.cell? ⟨b, 0, none⟩ = some x ∧ wx.cell? ⟨b, 1, none⟩ = some y ∧ wx.cell? ⟨b, 2, none⟩ = some z ∧ wx.cell? ⟨b, 3, none⟩ = some u
theorem B4.step {b : Nat} {x y z u : Value} {wx w' : World} (h : B4 b x y z u wx) (hb : Below wx.heap.size wx w') : B4 b x y z u w' :=
  ⟨Nat.lt_of_lt_of_le h.1 hb.size, by rw [hb.cell (p := ⟨b, 0, none⟩) h.1]; exact h.2.1, by rw [hb.cell (p := ⟨b, 1, none⟩) h.1]; exact h.2.2.1, by rw [hb.cell (p := ⟨b, 2, none⟩) h.1]; exact h.2.2.2.1, by rw [hb.cell (p := ⟨b, 3, none⟩) h.1]; exact h.2.2.2.2⟩
theorem num03_any (n : Int) (w : World) (hg : w.cell? ⟨0, 0, none⟩ = some asHandle) : Calls Tryd.prog 51 #[errOf n] w fun e w' => e = .returned (.int .i64 n) ∧ Below w.heap.size w w' := by
  by_cases h : n = 0
  · subst h; rw [errOf_zero]; exact num03_nil _
  · rw [errOf_ne h]; exact num03_err _ _ hg
set_option maxRecDepth 100000 in
set_option maxHeartbeats 8000000 in
theorem fits_ok (a b m s n p : Int) (a0 : 0 ≤ a) (b0 : 0 ≤ b) (mm : 0 ≤ m) (m1 : m < 4294967296) (is : InR s) (hn : InR n) (hp : InR p) (m0 : 1 ≤ m) (s0 : 0 ≤ s) (s1 : s ≤ 31) (w : World) (hg : w.cell? ⟨0, 0, none⟩ = some asHandle) :
    Calls Tryd.prog 7 #[.int .u64 a, .int .u64 b, .agg #[.int .u32 m, .int .i64 s, .int .i64 n, .int .i64 p]] w fun e w' => e = .returned (.bool true) ∧ Below w.heap.size w w' := by
  have hH := Held.start hg
  obtain ⟨M, S, E1, hf, hf'⟩ := fit_both a b a0 b0
  obtain ⟨N2, E2, hs, hs'⟩ := scale_both m s n m1 mm hn
  obtain ⟨N3, E3, ho, ho'⟩ := off_both m s n m1 mm hn
  obtain ⟨A, T, E4, ha, ha'⟩ := adj_both m s p m1 mm hp
  have Hhf := Lib.hid hf
  have Hhf' := Lib.hid hf'
  have Hhs := Lib.hid hs
  have Hhs' := Lib.hid hs'
  have Hho := Lib.hid ho
  have Hho' := Lib.hid ho'
  have Hha := Lib.hid ha
  have Hha' := Lib.hid ha'
  clear hf hf' hs hs' ho ho' ha ha'
  go_enter Tryd.func7, Tryd.ntmps7
  go_wp2_with (fail)
  go_at_call 43
  (with_reducible refine (Hhf.out _).mono ?_)
  rintro e w1 ⟨rfl, HB⟩
  have Kq := Lib.hid (B4.step (show B4 (w.heap.size) (.int .u32 m) (.int .i64 s) (.int .i64 n) (.int .i64 p) _ from ⟨(by first | omega | (simp; done) | (simp; omega)), by go_simp, by go_simp, by go_simp, by go_simp⟩) HB)
  have HBB := Below.trans (show Below w.heap.size w _ from by repeat (first | with_reducible assumption | exact Below.refl _ _ | refine Below.drew ?_ | refine Below.setCell ?_ (by first | omega | (simp; done) | (simp; omega)) _ | refine Below.alloc ?_ (by first | omega | (simp; done) | (simp; omega)) _)) (Below.mono (B' := w.heap.size) HB (by first | omega | (simp; done) | (simp; omega)))
  replace hH := Held.step (w0 := w) hH HBB
  have hz1 := HBB.size
  obtain ⟨hc1, hf1⟩ := bcell HB
  clear HB HBB
  obtain ⟨zq, cq0, cq1, cq2, cq3⟩ := Kq.out
  go_wp2_with (fail)
  go_at_call 44
  (with_reducible refine (Hhf'.out _).mono ?_)
  rintro e w2 ⟨rfl, HB⟩
  have Kf := Lib.hid (B2.step (show B2 (w1.heap.size) (.int .u32 M) (.int .i64 S) _ from ⟨(by first | omega | (simp; done) | (simp; omega)), by go_simp, by go_simp⟩) HB)
  have HBB := Below.trans (show Below w1.heap.size w1 _ from by repeat (first | with_reducible assumption | exact Below.refl _ _ | refine Below.drew ?_ | refine Below.setCell ?_ (by first | omega | (simp; done) | (simp; omega)) _ | refine Below.alloc ?_ (by first | omega | (simp; done) | (simp; omega)) _)) (Below.mono (B' := w1.heap.size) HB (by first | omega | (simp; done) | (simp; omega)))
  clear zq cq0 cq1 cq2 cq3
  replace Kq := Lib.hid (B4.step Kq.out HBB)
  replace hH := Held.step (w0 := w) hH HBB
  have hz2 := HBB.size
  obtain ⟨hc2, hf2⟩ := bcell HB
  clear HB HBB
  clear hc1 hf1
  obtain ⟨zq, cq0, cq1, cq2, cq3⟩ := Kq.out
  obtain ⟨zf, cf0, cf1⟩ := Kf.out
  go_wp2_with (fail)
  go_at_call 45
  (with_reducible refine (Hhs.out _).mono ?_)
  rintro e w3 ⟨rfl, HB⟩
  have Kg := Lib.hid (B2.step (show B2 (w2.heap.size) (.int .u32 M) (.int .i64 S) _ from ⟨(by first | omega | (simp; done) | (simp; omega)), by go_simp, by go_simp⟩) HB)
  have Kx := Lib.hid (B2.step (show B2 (w2.heap.size + 1) (.int .u32 m) (.int .i64 s) _ from ⟨(by first | omega | (simp; done) | (simp; omega)), by go_simp, by go_simp⟩) HB)
  have HBB := Below.trans (show Below w2.heap.size w2 _ from by repeat (first | with_reducible assumption | exact Below.refl _ _ | refine Below.drew ?_ | refine Below.setCell ?_ (by first | omega | (simp; done) | (simp; omega)) _ | refine Below.alloc ?_ (by first | omega | (simp; done) | (simp; omega)) _)) (Below.mono (B' := w2.heap.size) HB (by first | omega | (simp; done) | (simp; omega)))
  clear zq cq0 cq1 cq2 cq3 zf cf0 cf1
  replace Kq := Lib.hid (B4.step Kq.out HBB)
  replace Kf := Lib.hid (B2.step Kf.out HBB)
  replace hH := Held.step (w0 := w) hH HBB
  have hz3 := HBB.size
  obtain ⟨hc3, hf3⟩ := bcell HB
  clear HB HBB
  clear hc2 hf2
  obtain ⟨zq, cq0, cq1, cq2, cq3⟩ := Kq.out
  obtain ⟨zf, cf0, cf1⟩ := Kf.out
  obtain ⟨zg, cg0, cg1⟩ := Kg.out
  obtain ⟨zx, cx0, cx1⟩ := Kx.out
  go_wp2_with (fail)
  go_at_call 46
  (with_reducible refine (Hhs'.out _).mono ?_)
  rintro e w4 ⟨rfl, HB⟩
  have HBB := Below.trans (show Below w3.heap.size w3 _ from by repeat (first | with_reducible assumption | exact Below.refl _ _ | refine Below.drew ?_ | refine Below.setCell ?_ (by first | omega | (simp; done) | (simp; omega)) _ | refine Below.alloc ?_ (by first | omega | (simp; done) | (simp; omega)) _)) (Below.mono (B' := w3.heap.size) HB (by first | omega | (simp; done) | (simp; omega)))
  clear zq cq0 cq1 cq2 cq3 zf cf0 cf1 zg cg0 cg1 zx cx0 cx1
  replace Kq := Lib.hid (B4.step Kq.out HBB)
  replace Kf := Lib.hid (B2.step Kf.out HBB)
  replace Kg := Lib.hid (B2.step Kg.out HBB)
  replace Kx := Lib.hid (B2.step Kx.out HBB)
  replace hH := Held.step (w0 := w) hH HBB
  have hz4 := HBB.size
  obtain ⟨hc4, hf4⟩ := bcell HB
  clear HB HBB
  clear hc3 hf3
  obtain ⟨zq, cq0, cq1, cq2, cq3⟩ := Kq.out
  obtain ⟨zf, cf0, cf1⟩ := Kf.out
  obtain ⟨zg, cg0, cg1⟩ := Kg.out
  obtain ⟨zx, cx0, cx1⟩ := Kx.out
  go_wp2_with (fail)
  go_at_call 47
  (with_reducible refine (Hho.out _).mono ?_)
  rintro e w5 ⟨rfl, HB⟩
  have HBB := Below.trans (show Below w4.heap.size w4 _ from by repeat (first | with_reducible assumption | exact Below.refl _ _ | refine Below.drew ?_ | refine Below.setCell ?_ (by first | omega | (simp; done) | (simp; omega)) _ | refine Below.alloc ?_ (by first | omega | (simp; done) | (simp; omega)) _)) (Below.mono (B' := w4.heap.size) HB (by first | omega | (simp; done) | (simp; omega)))
  clear zq cq0 cq1 cq2 cq3 zf cf0 cf1 zg cg0 cg1 zx cx0 cx1
  replace Kq := Lib.hid (B4.step Kq.out HBB)
  replace Kf := Lib.hid (B2.step Kf.out HBB)
  replace Kg := Lib.hid (B2.step Kg.out HBB)
  replace Kx := Lib.hid (B2.step Kx.out HBB)
  replace hH := Held.step (w0 := w) hH HBB
  have hz5 := HBB.size
  obtain ⟨hc5, hf5⟩ := bcell HB
  clear HB HBB
  clear hc4 hf4
  obtain ⟨zq, cq0, cq1, cq2, cq3⟩ := Kq.out
  obtain ⟨zf, cf0, cf1⟩ := Kf.out
  obtain ⟨zg, cg0, cg1⟩ := Kg.out
  obtain ⟨zx, cx0, cx1⟩ := Kx.out
  go_wp2_with (fail)
  go_at_call 48
  (with_reducible refine (Hho'.out _).mono ?_)
  rintro e w6 ⟨rfl, HB⟩
  have HBB := Below.trans (show Below w5.heap.size w5 _ from by repeat (first | with_reducible assumption | exact Below.refl _ _ | refine Below.drew ?_ | refine Below.setCell ?_ (by first | omega | (simp; done) | (simp; omega)) _ | refine Below.alloc ?_ (by first | omega | (simp; done) | (simp; omega)) _)) (Below.mono (B' := w5.heap.size) HB (by first | omega | (simp; done) | (simp; omega)))
  clear zq cq0 cq1 cq2 cq3 zf cf0 cf1 zg cg0 cg1 zx cx0 cx1
  replace Kq := Lib.hid (B4.step Kq.out HBB)
  replace Kf := Lib.hid (B2.step Kf.out HBB)
  replace Kg := Lib.hid (B2.step Kg.out HBB)
  replace Kx := Lib.hid (B2.step Kx.out HBB)
  replace hH := Held.step (w0 := w) hH HBB
  have hz6 := HBB.size
  obtain ⟨hc6, hf6⟩ := bcell HB
  clear HB HBB
  clear hc5 hf5
  obtain ⟨zq, cq0, cq1, cq2, cq3⟩ := Kq.out
  obtain ⟨zf, cf0, cf1⟩ := Kf.out
  obtain ⟨zg, cg0, cg1⟩ := Kg.out
  obtain ⟨zx, cx0, cx1⟩ := Kx.out
  go_wp2_with (fail)
  go_at_call 49
  (with_reducible refine (Hha.out _).mono ?_)
  rintro e w7 ⟨rfl, HB⟩
  have HBB := Below.trans (show Below w6.heap.size w6 _ from by repeat (first | with_reducible assumption | exact Below.refl _ _ | refine Below.drew ?_ | refine Below.setCell ?_ (by first | omega | (simp; done) | (simp; omega)) _ | refine Below.alloc ?_ (by first | omega | (simp; done) | (simp; omega)) _)) (Below.mono (B' := w6.heap.size) HB (by first | omega | (simp; done) | (simp; omega)))
  clear zq cq0 cq1 cq2 cq3 zf cf0 cf1 zg cg0 cg1 zx cx0 cx1
  replace Kq := Lib.hid (B4.step Kq.out HBB)
  replace Kf := Lib.hid (B2.step Kf.out HBB)
  replace Kg := Lib.hid (B2.step Kg.out HBB)
  replace Kx := Lib.hid (B2.step Kx.out HBB)
  replace hH := Held.step (w0 := w) hH HBB
  have hz7 := HBB.size
  obtain ⟨hc7, hf7⟩ := bcell HB
  clear HB HBB
  clear hc6 hf6
  obtain ⟨zq, cq0, cq1, cq2, cq3⟩ := Kq.out
  obtain ⟨zf, cf0, cf1⟩ := Kf.out
  obtain ⟨zg, cg0, cg1⟩ := Kg.out
  obtain ⟨zx, cx0, cx1⟩ := Kx.out
  go_wp2_with (fail)
  go_at_call 50
  (with_reducible refine (Hha'.out _).mono ?_)
  rintro e w8 ⟨rfl, HB⟩
  have Ky := Lib.hid (B2.step (show B2 (w7.heap.size) (.int .u32 A) (.int .i64 T) _ from ⟨(by first | omega | (simp; done) | (simp; omega)), by go_simp, by go_simp⟩) HB)
  have HBB := Below.trans (show Below w7.heap.size w7 _ from by repeat (first | with_reducible assumption | exact Below.refl _ _ | refine Below.drew ?_ | refine Below.setCell ?_ (by first | omega | (simp; done) | (simp; omega)) _ | refine Below.alloc ?_ (by first | omega | (simp; done) | (simp; omega)) _)) (Below.mono (B' := w7.heap.size) HB (by first | omega | (simp; done) | (simp; omega)))
  clear zq cq0 cq1 cq2 cq3 zf cf0 cf1 zg cg0 cg1 zx cx0 cx1
  replace Kq := Lib.hid (B4.step Kq.out HBB)
  replace Kf := Lib.hid (B2.step Kf.out HBB)
  replace Kg := Lib.hid (B2.step Kg.out HBB)
  replace Kx := Lib.hid (B2.step Kx.out HBB)
  replace hH := Held.step (w0 := w) hH HBB
  have hz8 := HBB.size
  obtain ⟨hc8, hf8⟩ := bcell HB
  clear HB HBB
  clear hc7 hf7
  obtain ⟨zq, cq0, cq1, cq2, cq3⟩ := Kq.out
  obtain ⟨zf, cf0, cf1⟩ := Kf.out
  obtain ⟨zg, cg0, cg1⟩ := Kg.out
  obtain ⟨zx, cx0, cx1⟩ := Kx.out
  obtain ⟨zy, cy0, cy1⟩ := Ky.out
  go_wp2_with (fail)
  have hS0 : SA w (w.heap.size) (.int .u32 m) (.int .i64 s) (w1.heap.size) (.int .u32 M) (.int .i64 S) (w2.heap.size) (.int .u32 M) (.int .i64 S) (w2.heap.size + 1) (.int .u32 m) (.int .i64 s) (w7.heap.size) (.int .u32 A) (.int .i64 T) (w8.heap.size) (.int .u32 A) (.int .i64 T) (w8.alloc (.cells #[.int .u32 A, .int .i64 T] 69)) := ⟨Held.alloc hH _, B2.step (w' := (w8.alloc (.cells #[.int .u32 A, .int .i64 T] 69))) ⟨Kq.out.1, Kq.out.2.1, Kq.out.2.2.1⟩ ((Below.refl _ _).alloc (Nat.le_refl _) _), Kf.out.step ((Below.refl _ _).alloc (Nat.le_refl _) _), Kg.out.step ((Below.refl _ _).alloc (Nat.le_refl _) _), Kx.out.step ((Below.refl _ _).alloc (Nat.le_refl _) _), Ky.out.step ((Below.refl _ _).alloc (Nat.le_refl _) _), ⟨by simp, by go_simp, by go_simp⟩⟩
  clear hc8 hf8 zq cq0 cq1 cq2 cq3 zf cf0 cf1 zg cg0 cg1 zx cx0 cx1 zy cy0 cy1
  refine wp_region_S (S := (fun wx => SA w (w.heap.size) (.int .u32 m) (.int .i64 s) (w1.heap.size) (.int .u32 M) (.int .i64 S) (w2.heap.size) (.int .u32 M) (.int .i64 S) (w2.heap.size + 1) (.int .u32 m) (.int .i64 s) (w7.heap.size) (.int .u32 A) (.int .i64 T) (w8.heap.size) (.int .u32 A) (.int .i64 T) wx)) (by kernel_rfl) (SA.drew hS0) ?_
  refine anyS_take (i := 0) (v := ?v0) rfl (by kernel_rfl) (by kernel_rfl) (by kernel_rfl) ?hy0 ?rest0
  case hy0 => first | (refine StepS.read (by rfl) (fun wx hSw => ?_); (try dsimp only at hSw); obtain ⟨hHx, ⟨c00, c01, c02⟩, ⟨c10, c11, c12⟩, ⟨c20, c21, c22⟩, ⟨c30, c31, c32⟩, ⟨c40, c41, c42⟩, c50, c51, c52⟩ := hSw; go_simp; first | done | with_reducible rfl) | exact Or.inr ⟨by rfl, rfl⟩
  try simp only [List.getElem_toArray, List.getElem_cons_succ, List.getElem_cons_zero, Act.put, List.setIfInBounds_toArray, List.set_cons_zero, List.set_cons_succ]
  refine anyS_take (i := 1) (v := ?v1) rfl (by kernel_rfl) (by kernel_rfl) (by kernel_rfl) ?hy1 ?rest1
  case hy1 => first | (refine StepS.read (by rfl) (fun wx hSw => ?_); (try dsimp only at hSw); obtain ⟨hHx, ⟨c00, c01, c02⟩, ⟨c10, c11, c12⟩, ⟨c20, c21, c22⟩, ⟨c30, c31, c32⟩, ⟨c40, c41, c42⟩, c50, c51, c52⟩ := hSw; go_simp; first | done | with_reducible rfl) | exact Or.inr ⟨by rfl, rfl⟩
  try simp only [List.getElem_toArray, List.getElem_cons_succ, List.getElem_cons_zero, Act.put, List.setIfInBounds_toArray, List.set_cons_zero, List.set_cons_succ]
  refine anyS_take (i := 2) (v := ?v2) rfl (by kernel_rfl) (by kernel_rfl) (by kernel_rfl) ?hy2 ?rest2
  case hy2 => first | (refine StepS.read (by rfl) (fun wx hSw => ?_); (try dsimp only at hSw); obtain ⟨hHx, ⟨c00, c01, c02⟩, ⟨c10, c11, c12⟩, ⟨c20, c21, c22⟩, ⟨c30, c31, c32⟩, ⟨c40, c41, c42⟩, c50, c51, c52⟩ := hSw; go_simp; first | done | with_reducible rfl) | exact Or.inr ⟨by rfl, rfl⟩
  try simp only [List.getElem_toArray, List.getElem_cons_succ, List.getElem_cons_zero, Act.put, List.setIfInBounds_toArray, List.set_cons_zero, List.set_cons_succ]
  refine anyS_take (i := 3) (v := ?v3) rfl (by kernel_rfl) (by kernel_rfl) (by kernel_rfl) ?hy3 ?rest3
  case hy3 => first | (refine StepS.read (by rfl) (fun wx hSw => ?_); (try dsimp only at hSw); obtain ⟨hHx, ⟨c00, c01, c02⟩, ⟨c10, c11, c12⟩, ⟨c20, c21, c22⟩, ⟨c30, c31, c32⟩, ⟨c40, c41, c42⟩, c50, c51, c52⟩ := hSw; go_simp; first | done | with_reducible rfl) | exact Or.inr ⟨by rfl, rfl⟩
  try simp only [List.getElem_toArray, List.getElem_cons_succ, List.getElem_cons_zero, Act.put, List.setIfInBounds_toArray, List.set_cons_zero, List.set_cons_succ]
  refine anyS_take (i := 4) (v := ?v4) rfl (by kernel_rfl) (by kernel_rfl) (by kernel_rfl) ?hy4 ?rest4
  case hy4 => first | (refine StepS.read (by rfl) (fun wx hSw => ?_); (try dsimp only at hSw); obtain ⟨hHx, ⟨c00, c01, c02⟩, ⟨c10, c11, c12⟩, ⟨c20, c21, c22⟩, ⟨c30, c31, c32⟩, ⟨c40, c41, c42⟩, c50, c51, c52⟩ := hSw; go_simp; first | done | with_reducible rfl) | exact Or.inr ⟨by rfl, rfl⟩
  try simp only [List.getElem_toArray, List.getElem_cons_succ, List.getElem_cons_zero, Act.put, List.setIfInBounds_toArray, List.set_cons_zero, List.set_cons_succ]
  refine anyS_take (i := 5) (v := .int .i64 E1) rfl (by kernel_rfl) (by kernel_rfl) (by kernel_rfl) ?hy5 ?rest5
  case hy5 => (refine Or.inl ⟨by rfl, fun wx hSw => ?_⟩; (try dsimp only at hSw); have hSk := hSw; obtain ⟨hHx, ⟨c00, c01, c02⟩, ⟨c10, c11, c12⟩, ⟨c20, c21, c22⟩, ⟨c30, c31, c32⟩, ⟨c40, c41, c42⟩, c50, c51, c52⟩ := hSw; go_simp; refine Or.inr ⟨_, _, _, rfl, ?_⟩; (with_reducible refine (num03_any E1 _ (Held.handle (w0 := w) (SA.held hSk))).mono ?_); rintro e w' ⟨rfl, hb'⟩; exact ⟨rfl, SA.step hSk hb'⟩)
  try simp only [List.getElem_toArray, List.getElem_cons_succ, List.getElem_cons_zero, Act.put, List.setIfInBounds_toArray, List.set_cons_zero, List.set_cons_succ]
  refine anyS_take (i := 6) (v := ?v6) rfl (by kernel_rfl) (by kernel_rfl) (by kernel_rfl) ?hy6 ?rest6
  case hy6 => first | (refine StepS.read (by rfl) (fun wx hSw => ?_); (try dsimp only at hSw); obtain ⟨hHx, ⟨c00, c01, c02⟩, ⟨c10, c11, c12⟩, ⟨c20, c21, c22⟩, ⟨c30, c31, c32⟩, ⟨c40, c41, c42⟩, c50, c51, c52⟩ := hSw; go_simp; first | done | with_reducible rfl) | exact Or.inr ⟨by rfl, rfl⟩
  try simp only [List.getElem_toArray, List.getElem_cons_succ, List.getElem_cons_zero, Act.put, List.setIfInBounds_toArray, List.set_cons_zero, List.set_cons_succ]
  refine anyS_take (i := 7) (v := ?v7) rfl (by kernel_rfl) (by kernel_rfl) (by kernel_rfl) ?hy7 ?rest7
  case hy7 => first | (refine StepS.read (by rfl) (fun wx hSw => ?_); (try dsimp only at hSw); obtain ⟨hHx, ⟨c00, c01, c02⟩, ⟨c10, c11, c12⟩, ⟨c20, c21, c22⟩, ⟨c30, c31, c32⟩, ⟨c40, c41, c42⟩, c50, c51, c52⟩ := hSw; go_simp; first | done | with_reducible rfl) | exact Or.inr ⟨by rfl, rfl⟩
  try simp only [List.getElem_toArray, List.getElem_cons_succ, List.getElem_cons_zero, Act.put, List.setIfInBounds_toArray, List.set_cons_zero, List.set_cons_succ]
  refine anyS_take (i := 8) (v := ?v8) rfl (by kernel_rfl) (by kernel_rfl) (by kernel_rfl) ?hy8 ?rest8
  case hy8 => first | (refine StepS.read (by rfl) (fun wx hSw => ?_); (try dsimp only at hSw); obtain ⟨hHx, ⟨c00, c01, c02⟩, ⟨c10, c11, c12⟩, ⟨c20, c21, c22⟩, ⟨c30, c31, c32⟩, ⟨c40, c41, c42⟩, c50, c51, c52⟩ := hSw; go_simp; first | done | with_reducible rfl) | exact Or.inr ⟨by rfl, rfl⟩
  try simp only [List.getElem_toArray, List.getElem_cons_succ, List.getElem_cons_zero, Act.put, List.setIfInBounds_toArray, List.set_cons_zero, List.set_cons_succ]
  refine anyS_take (i := 9) (v := ?v9) rfl (by kernel_rfl) (by kernel_rfl) (by kernel_rfl) ?hy9 ?rest9
  case hy9 => first | (refine StepS.read (by rfl) (fun wx hSw => ?_); (try dsimp only at hSw); obtain ⟨hHx, ⟨c00, c01, c02⟩, ⟨c10, c11, c12⟩, ⟨c20, c21, c22⟩, ⟨c30, c31, c32⟩, ⟨c40, c41, c42⟩, c50, c51, c52⟩ := hSw; go_simp; first | done | with_reducible rfl) | exact Or.inr ⟨by rfl, rfl⟩
  try simp only [List.getElem_toArray, List.getElem_cons_succ, List.getElem_cons_zero, Act.put, List.setIfInBounds_toArray, List.set_cons_zero, List.set_cons_succ]
  refine anyS_take (i := 10) (v := ?v10) rfl (by kernel_rfl) (by kernel_rfl) (by kernel_rfl) ?hy10 ?rest10
  case hy10 => first | (refine StepS.read (by rfl) (fun wx hSw => ?_); (try dsimp only at hSw); obtain ⟨hHx, ⟨c00, c01, c02⟩, ⟨c10, c11, c12⟩, ⟨c20, c21, c22⟩, ⟨c30, c31, c32⟩, ⟨c40, c41, c42⟩, c50, c51, c52⟩ := hSw; go_simp; first | done | with_reducible rfl) | exact Or.inr ⟨by rfl, rfl⟩
  try simp only [List.getElem_toArray, List.getElem_cons_succ, List.getElem_cons_zero, Act.put, List.setIfInBounds_toArray, List.set_cons_zero, List.set_cons_succ]
  refine anyS_take (i := 11) (v := ?v11) rfl (by kernel_rfl) (by kernel_rfl) (by kernel_rfl) ?hy11 ?rest11
  case hy11 => first | (refine StepS.read (by rfl) (fun wx hSw => ?_); (try dsimp only at hSw); obtain ⟨hHx, ⟨c00, c01, c02⟩, ⟨c10, c11, c12⟩, ⟨c20, c21, c22⟩, ⟨c30, c31, c32⟩, ⟨c40, c41, c42⟩, c50, c51, c52⟩ := hSw; go_simp; first | done | with_reducible rfl) | exact Or.inr ⟨by rfl, rfl⟩
  try simp only [List.getElem_toArray, List.getElem_cons_succ, List.getElem_cons_zero, Act.put, List.setIfInBounds_toArray, List.set_cons_zero, List.set_cons_succ]
  refine anyS_take (i := 12) (v := ?v12) rfl (by kernel_rfl) (by kernel_rfl) (by kernel_rfl) ?hy12 ?rest12
  case hy12 => first | (refine StepS.read (by rfl) (fun wx hSw => ?_); (try dsimp only at hSw); obtain ⟨hHx, ⟨c00, c01, c02⟩, ⟨c10, c11, c12⟩, ⟨c20, c21, c22⟩, ⟨c30, c31, c32⟩, ⟨c40, c41, c42⟩, c50, c51, c52⟩ := hSw; go_simp; first | done | with_reducible rfl) | exact Or.inr ⟨by rfl, rfl⟩
  try simp only [List.getElem_toArray, List.getElem_cons_succ, List.getElem_cons_zero, Act.put, List.setIfInBounds_toArray, List.set_cons_zero, List.set_cons_succ]
  refine anyS_take (i := 13) (v := ?v13) rfl (by kernel_rfl) (by kernel_rfl) (by kernel_rfl) ?hy13 ?rest13
  case hy13 => first | (refine StepS.read (by rfl) (fun wx hSw => ?_); (try dsimp only at hSw); obtain ⟨hHx, ⟨c00, c01, c02⟩, ⟨c10, c11, c12⟩, ⟨c20, c21, c22⟩, ⟨c30, c31, c32⟩, ⟨c40, c41, c42⟩, c50, c51, c52⟩ := hSw; go_simp; first | done | with_reducible rfl) | exact Or.inr ⟨by rfl, rfl⟩
  try simp only [List.getElem_toArray, List.getElem_cons_succ, List.getElem_cons_zero, Act.put, List.setIfInBounds_toArray, List.set_cons_zero, List.set_cons_succ]
  refine anyS_take (i := 14) (v := ?v14) rfl (by kernel_rfl) (by kernel_rfl) (by kernel_rfl) ?hy14 ?rest14
  case hy14 => first | (refine StepS.read (by rfl) (fun wx hSw => ?_); (try dsimp only at hSw); obtain ⟨hHx, ⟨c00, c01, c02⟩, ⟨c10, c11, c12⟩, ⟨c20, c21, c22⟩, ⟨c30, c31, c32⟩, ⟨c40, c41, c42⟩, c50, c51, c52⟩ := hSw; go_simp; first | done | with_reducible rfl) | exact Or.inr ⟨by rfl, rfl⟩
  try simp only [List.getElem_toArray, List.getElem_cons_succ, List.getElem_cons_zero, Act.put, List.setIfInBounds_toArray, List.set_cons_zero, List.set_cons_succ]
  refine anyS_take (i := 15) (v := ?v15) rfl (by kernel_rfl) (by kernel_rfl) (by kernel_rfl) ?hy15 ?rest15
  case hy15 => first | (refine StepS.read (by rfl) (fun wx hSw => ?_); (try dsimp only at hSw); obtain ⟨hHx, ⟨c00, c01, c02⟩, ⟨c10, c11, c12⟩, ⟨c20, c21, c22⟩, ⟨c30, c31, c32⟩, ⟨c40, c41, c42⟩, c50, c51, c52⟩ := hSw; go_simp; first | done | with_reducible rfl) | exact Or.inr ⟨by rfl, rfl⟩
  try simp only [List.getElem_toArray, List.getElem_cons_succ, List.getElem_cons_zero, Act.put, List.setIfInBounds_toArray, List.set_cons_zero, List.set_cons_succ]
  refine anyS_take (i := 16) (v := .int .i64 E2) rfl (by kernel_rfl) (by kernel_rfl) (by kernel_rfl) ?hy16 ?rest16
  case hy16 => (refine Or.inl ⟨by rfl, fun wx hSw => ?_⟩; (try dsimp only at hSw); have hSk := hSw; obtain ⟨hHx, ⟨c00, c01, c02⟩, ⟨c10, c11, c12⟩, ⟨c20, c21, c22⟩, ⟨c30, c31, c32⟩, ⟨c40, c41, c42⟩, c50, c51, c52⟩ := hSw; go_simp; refine Or.inr ⟨_, _, _, rfl, ?_⟩; (with_reducible refine (num03_any E2 _ (Held.handle (w0 := w) (SA.held hSk))).mono ?_); rintro e w' ⟨rfl, hb'⟩; exact ⟨rfl, SA.step hSk hb'⟩)
  try simp only [List.getElem_toArray, List.getElem_cons_succ, List.getElem_cons_zero, Act.put, List.setIfInBounds_toArray, List.set_cons_zero, List.set_cons_succ]
  refine anyS_take (i := 17) (v := ?v17) rfl (by kernel_rfl) (by kernel_rfl) (by kernel_rfl) ?hy17 ?rest17
  case hy17 => first | (refine StepS.read (by rfl) (fun wx hSw => ?_); (try dsimp only at hSw); obtain ⟨hHx, ⟨c00, c01, c02⟩, ⟨c10, c11, c12⟩, ⟨c20, c21, c22⟩, ⟨c30, c31, c32⟩, ⟨c40, c41, c42⟩, c50, c51, c52⟩ := hSw; go_simp; first | done | with_reducible rfl) | exact Or.inr ⟨by rfl, rfl⟩
  try simp only [List.getElem_toArray, List.getElem_cons_succ, List.getElem_cons_zero, Act.put, List.setIfInBounds_toArray, List.set_cons_zero, List.set_cons_succ]
  refine anyS_take (i := 18) (v := ?v18) rfl (by kernel_rfl) (by kernel_rfl) (by kernel_rfl) ?hy18 ?rest18
  case hy18 => first | (refine StepS.read (by rfl) (fun wx hSw => ?_); (try dsimp only at hSw); obtain ⟨hHx, ⟨c00, c01, c02⟩, ⟨c10, c11, c12⟩, ⟨c20, c21, c22⟩, ⟨c30, c31, c32⟩, ⟨c40, c41, c42⟩, c50, c51, c52⟩ := hSw; go_simp; first | done | with_reducible rfl) | exact Or.inr ⟨by rfl, rfl⟩
  try simp only [List.getElem_toArray, List.getElem_cons_succ, List.getElem_cons_zero, Act.put, List.setIfInBounds_toArray, List.set_cons_zero, List.set_cons_succ]
  refine anyS_take (i := 19) (v := ?v19) rfl (by kernel_rfl) (by kernel_rfl) (by kernel_rfl) ?hy19 ?rest19
  case hy19 => first | (refine StepS.read (by rfl) (fun wx hSw => ?_); (try dsimp only at hSw); obtain ⟨hHx, ⟨c00, c01, c02⟩, ⟨c10, c11, c12⟩, ⟨c20, c21, c22⟩, ⟨c30, c31, c32⟩, ⟨c40, c41, c42⟩, c50, c51, c52⟩ := hSw; go_simp; first | done | with_reducible rfl) | exact Or.inr ⟨by rfl, rfl⟩
  try simp only [List.getElem_toArray, List.getElem_cons_succ, List.getElem_cons_zero, Act.put, List.setIfInBounds_toArray, List.set_cons_zero, List.set_cons_succ]
  refine anyS_take (i := 20) (v := ?v20) rfl (by kernel_rfl) (by kernel_rfl) (by kernel_rfl) ?hy20 ?rest20
  case hy20 => first | (refine StepS.read (by rfl) (fun wx hSw => ?_); (try dsimp only at hSw); obtain ⟨hHx, ⟨c00, c01, c02⟩, ⟨c10, c11, c12⟩, ⟨c20, c21, c22⟩, ⟨c30, c31, c32⟩, ⟨c40, c41, c42⟩, c50, c51, c52⟩ := hSw; go_simp; first | done | with_reducible rfl) | exact Or.inr ⟨by rfl, rfl⟩
  try simp only [List.getElem_toArray, List.getElem_cons_succ, List.getElem_cons_zero, Act.put, List.setIfInBounds_toArray, List.set_cons_zero, List.set_cons_succ]
  refine anyS_take (i := 21) (v := ?v21) rfl (by kernel_rfl) (by kernel_rfl) (by kernel_rfl) ?hy21 ?rest21
  case hy21 => first | (refine StepS.read (by rfl) (fun wx hSw => ?_); (try dsimp only at hSw); obtain ⟨hHx, ⟨c00, c01, c02⟩, ⟨c10, c11, c12⟩, ⟨c20, c21, c22⟩, ⟨c30, c31, c32⟩, ⟨c40, c41, c42⟩, c50, c51, c52⟩ := hSw; go_simp; first | done | with_reducible rfl) | exact Or.inr ⟨by rfl, rfl⟩
  try simp only [List.getElem_toArray, List.getElem_cons_succ, List.getElem_cons_zero, Act.put, List.setIfInBounds_toArray, List.set_cons_zero, List.set_cons_succ]
  refine anyS_take (i := 22) (v := ?v22) rfl (by kernel_rfl) (by kernel_rfl) (by kernel_rfl) ?hy22 ?rest22
  case hy22 => first | (refine StepS.read (by rfl) (fun wx hSw => ?_); (try dsimp only at hSw); obtain ⟨hHx, ⟨c00, c01, c02⟩, ⟨c10, c11, c12⟩, ⟨c20, c21, c22⟩, ⟨c30, c31, c32⟩, ⟨c40, c41, c42⟩, c50, c51, c52⟩ := hSw; go_simp; first | done | with_reducible rfl) | exact Or.inr ⟨by rfl, rfl⟩
  try simp only [List.getElem_toArray, List.getElem_cons_succ, List.getElem_cons_zero, Act.put, List.setIfInBounds_toArray, List.set_cons_zero, List.set_cons_succ]
  refine anyS_take (i := 23) (v := ?v23) rfl (by kernel_rfl) (by kernel_rfl) (by kernel_rfl) ?hy23 ?rest23
  case hy23 => first | (refine StepS.read (by rfl) (fun wx hSw => ?_); (try dsimp only at hSw); obtain ⟨hHx, ⟨c00, c01, c02⟩, ⟨c10, c11, c12⟩, ⟨c20, c21, c22⟩, ⟨c30, c31, c32⟩, ⟨c40, c41, c42⟩, c50, c51, c52⟩ := hSw; go_simp; first | done | with_reducible rfl) | exact Or.inr ⟨by rfl, rfl⟩
  try simp only [List.getElem_toArray, List.getElem_cons_succ, List.getElem_cons_zero, Act.put, List.setIfInBounds_toArray, List.set_cons_zero, List.set_cons_succ]
  refine anyS_take (i := 24) (v := ?v24) rfl (by kernel_rfl) (by kernel_rfl) (by kernel_rfl) ?hy24 ?rest24
  case hy24 => first | (refine StepS.read (by rfl) (fun wx hSw => ?_); (try dsimp only at hSw); obtain ⟨hHx, ⟨c00, c01, c02⟩, ⟨c10, c11, c12⟩, ⟨c20, c21, c22⟩, ⟨c30, c31, c32⟩, ⟨c40, c41, c42⟩, c50, c51, c52⟩ := hSw; go_simp; first | done | with_reducible rfl) | exact Or.inr ⟨by rfl, rfl⟩
  try simp only [List.getElem_toArray, List.getElem_cons_succ, List.getElem_cons_zero, Act.put, List.setIfInBounds_toArray, List.set_cons_zero, List.set_cons_succ]
  refine anyS_take (i := 25) (v := ?v25) rfl (by kernel_rfl) (by kernel_rfl) (by kernel_rfl) ?hy25 ?rest25
  case hy25 => first | (refine StepS.read (by rfl) (fun wx hSw => ?_); (try dsimp only at hSw); obtain ⟨hHx, ⟨c00, c01, c02⟩, ⟨c10, c11, c12⟩, ⟨c20, c21, c22⟩, ⟨c30, c31, c32⟩, ⟨c40, c41, c42⟩, c50, c51, c52⟩ := hSw; go_simp; first | done | with_reducible rfl) | exact Or.inr ⟨by rfl, rfl⟩
  try simp only [List.getElem_toArray, List.getElem_cons_succ, List.getElem_cons_zero, Act.put, List.setIfInBounds_toArray, List.set_cons_zero, List.set_cons_succ]
  refine anyS_take (i := 26) (v := ?v26) rfl (by kernel_rfl) (by kernel_rfl) (by kernel_rfl) ?hy26 ?rest26
  case hy26 => first | (refine StepS.read (by rfl) (fun wx hSw => ?_); (try dsimp only at hSw); obtain ⟨hHx, ⟨c00, c01, c02⟩, ⟨c10, c11, c12⟩, ⟨c20, c21, c22⟩, ⟨c30, c31, c32⟩, ⟨c40, c41, c42⟩, c50, c51, c52⟩ := hSw; go_simp; first | done | with_reducible rfl) | exact Or.inr ⟨by rfl, rfl⟩
  try simp only [List.getElem_toArray, List.getElem_cons_succ, List.getElem_cons_zero, Act.put, List.setIfInBounds_toArray, List.set_cons_zero, List.set_cons_succ]
  refine anyS_take (i := 27) (v := .int .i64 E3) rfl (by kernel_rfl) (by kernel_rfl) (by kernel_rfl) ?hy27 ?rest27
  case hy27 => (refine Or.inl ⟨by rfl, fun wx hSw => ?_⟩; (try dsimp only at hSw); have hSk := hSw; obtain ⟨hHx, ⟨c00, c01, c02⟩, ⟨c10, c11, c12⟩, ⟨c20, c21, c22⟩, ⟨c30, c31, c32⟩, ⟨c40, c41, c42⟩, c50, c51, c52⟩ := hSw; go_simp; refine Or.inr ⟨_, _, _, rfl, ?_⟩; (with_reducible refine (num03_any E3 _ (Held.handle (w0 := w) (SA.held hSk))).mono ?_); rintro e w' ⟨rfl, hb'⟩; exact ⟨rfl, SA.step hSk hb'⟩)
  try simp only [List.getElem_toArray, List.getElem_cons_succ, List.getElem_cons_zero, Act.put, List.setIfInBounds_toArray, List.set_cons_zero, List.set_cons_succ]
  refine anyS_take (i := 28) (v := ?v28) rfl (by kernel_rfl) (by kernel_rfl) (by kernel_rfl) ?hy28 ?rest28
  case hy28 => first | (refine StepS.read (by rfl) (fun wx hSw => ?_); (try dsimp only at hSw); obtain ⟨hHx, ⟨c00, c01, c02⟩, ⟨c10, c11, c12⟩, ⟨c20, c21, c22⟩, ⟨c30, c31, c32⟩, ⟨c40, c41, c42⟩, c50, c51, c52⟩ := hSw; go_simp; first | done | with_reducible rfl) | exact Or.inr ⟨by rfl, rfl⟩
  try simp only [List.getElem_toArray, List.getElem_cons_succ, List.getElem_cons_zero, Act.put, List.setIfInBounds_toArray, List.set_cons_zero, List.set_cons_succ]
  refine anyS_take (i := 29) (v := ?v29) rfl (by kernel_rfl) (by kernel_rfl) (by kernel_rfl) ?hy29 ?rest29
  case hy29 => first | (refine StepS.read (by rfl) (fun wx hSw => ?_); (try dsimp only at hSw); obtain ⟨hHx, ⟨c00, c01, c02⟩, ⟨c10, c11, c12⟩, ⟨c20, c21, c22⟩, ⟨c30, c31, c32⟩, ⟨c40, c41, c42⟩, c50, c51, c52⟩ := hSw; go_simp; first | done | with_reducible rfl) | exact Or.inr ⟨by rfl, rfl⟩
  try simp only [List.getElem_toArray, List.getElem_cons_succ, List.getElem_cons_zero, Act.put, List.setIfInBounds_toArray, List.set_cons_zero, List.set_cons_succ]
  refine anyS_take (i := 30) (v := ?v30) rfl (by kernel_rfl) (by kernel_rfl) (by kernel_rfl) ?hy30 ?rest30
  case hy30 => first | (refine StepS.read (by rfl) (fun wx hSw => ?_); (try dsimp only at hSw); obtain ⟨hHx, ⟨c00, c01, c02⟩, ⟨c10, c11, c12⟩, ⟨c20, c21, c22⟩, ⟨c30, c31, c32⟩, ⟨c40, c41, c42⟩, c50, c51, c52⟩ := hSw; go_simp; first | done | with_reducible rfl) | exact Or.inr ⟨by rfl, rfl⟩
  try simp only [List.getElem_toArray, List.getElem_cons_succ, List.getElem_cons_zero, Act.put, List.setIfInBounds_toArray, List.set_cons_zero, List.set_cons_succ]
  refine anyS_take (i := 31) (v := ?v31) rfl (by kernel_rfl) (by kernel_rfl) (by kernel_rfl) ?hy31 ?rest31
  case hy31 => first | (refine StepS.read (by rfl) (fun wx hSw => ?_); (try dsimp only at hSw); obtain ⟨hHx, ⟨c00, c01, c02⟩, ⟨c10, c11, c12⟩, ⟨c20, c21, c22⟩, ⟨c30, c31, c32⟩, ⟨c40, c41, c42⟩, c50, c51, c52⟩ := hSw; go_simp; first | done | with_reducible rfl) | exact Or.inr ⟨by rfl, rfl⟩
  try simp only [List.getElem_toArray, List.getElem_cons_succ, List.getElem_cons_zero, Act.put, List.setIfInBounds_toArray, List.set_cons_zero, List.set_cons_succ]
  refine anyS_take (i := 32) (v := ?v32) rfl (by kernel_rfl) (by kernel_rfl) (by kernel_rfl) ?hy32 ?rest32
  case hy32 => first | (refine StepS.read (by rfl) (fun wx hSw => ?_); (try dsimp only at hSw); obtain ⟨hHx, ⟨c00, c01, c02⟩, ⟨c10, c11, c12⟩, ⟨c20, c21, c22⟩, ⟨c30, c31, c32⟩, ⟨c40, c41, c42⟩, c50, c51, c52⟩ := hSw; go_simp; first | done | with_reducible rfl) | exact Or.inr ⟨by rfl, rfl⟩
  try simp only [List.getElem_toArray, List.getElem_cons_succ, List.getElem_cons_zero, Act.put, List.setIfInBounds_toArray, List.set_cons_zero, List.set_cons_succ]
  refine anyS_take (i := 33) (v := ?v33) rfl (by kernel_rfl) (by kernel_rfl) (by kernel_rfl) ?hy33 ?rest33
  case hy33 => first | (refine StepS.read (by rfl) (fun wx hSw => ?_); (try dsimp only at hSw); obtain ⟨hHx, ⟨c00, c01, c02⟩, ⟨c10, c11, c12⟩, ⟨c20, c21, c22⟩, ⟨c30, c31, c32⟩, ⟨c40, c41, c42⟩, c50, c51, c52⟩ := hSw; go_simp; first | done | with_reducible rfl) | exact Or.inr ⟨by rfl, rfl⟩
  try simp only [List.getElem_toArray, List.getElem_cons_succ, List.getElem_cons_zero, Act.put, List.setIfInBounds_toArray, List.set_cons_zero, List.set_cons_succ]
  refine anyS_take (i := 34) (v := ?v34) rfl (by kernel_rfl) (by kernel_rfl) (by kernel_rfl) ?hy34 ?rest34
  case hy34 => first | (refine StepS.read (by rfl) (fun wx hSw => ?_); (try dsimp only at hSw); obtain ⟨hHx, ⟨c00, c01, c02⟩, ⟨c10, c11, c12⟩, ⟨c20, c21, c22⟩, ⟨c30, c31, c32⟩, ⟨c40, c41, c42⟩, c50, c51, c52⟩ := hSw; go_simp; first | done | with_reducible rfl) | exact Or.inr ⟨by rfl, rfl⟩
  try simp only [List.getElem_toArray, List.getElem_cons_succ, List.getElem_cons_zero, Act.put, List.setIfInBounds_toArray, List.set_cons_zero, List.set_cons_succ]
  refine anyS_take (i := 35) (v := ?v35) rfl (by kernel_rfl) (by kernel_rfl) (by kernel_rfl) ?hy35 ?rest35
  case hy35 => first | (refine StepS.read (by rfl) (fun wx hSw => ?_); (try dsimp only at hSw); obtain ⟨hHx, ⟨c00, c01, c02⟩, ⟨c10, c11, c12⟩, ⟨c20, c21, c22⟩, ⟨c30, c31, c32⟩, ⟨c40, c41, c42⟩, c50, c51, c52⟩ := hSw; go_simp; first | done | with_reducible rfl) | exact Or.inr ⟨by rfl, rfl⟩
  try simp only [List.getElem_toArray, List.getElem_cons_succ, List.getElem_cons_zero, Act.put, List.setIfInBounds_toArray, List.set_cons_zero, List.set_cons_succ]
  refine anyS_take (i := 36) (v := ?v36) rfl (by kernel_rfl) (by kernel_rfl) (by kernel_rfl) ?hy36 ?rest36
  case hy36 => first | (refine StepS.read (by rfl) (fun wx hSw => ?_); (try dsimp only at hSw); obtain ⟨hHx, ⟨c00, c01, c02⟩, ⟨c10, c11, c12⟩, ⟨c20, c21, c22⟩, ⟨c30, c31, c32⟩, ⟨c40, c41, c42⟩, c50, c51, c52⟩ := hSw; go_simp; first | done | with_reducible rfl) | exact Or.inr ⟨by rfl, rfl⟩
  try simp only [List.getElem_toArray, List.getElem_cons_succ, List.getElem_cons_zero, Act.put, List.setIfInBounds_toArray, List.set_cons_zero, List.set_cons_succ]
  refine anyS_take (i := 37) (v := ?v37) rfl (by kernel_rfl) (by kernel_rfl) (by kernel_rfl) ?hy37 ?rest37
  case hy37 => first | (refine StepS.read (by rfl) (fun wx hSw => ?_); (try dsimp only at hSw); obtain ⟨hHx, ⟨c00, c01, c02⟩, ⟨c10, c11, c12⟩, ⟨c20, c21, c22⟩, ⟨c30, c31, c32⟩, ⟨c40, c41, c42⟩, c50, c51, c52⟩ := hSw; go_simp; first | done | with_reducible rfl) | exact Or.inr ⟨by rfl, rfl⟩
  try simp only [List.getElem_toArray, List.getElem_cons_succ, List.getElem_cons_zero, Act.put, List.setIfInBounds_toArray, List.set_cons_zero, List.set_cons_succ]
  refine anyS_take (i := 38) (v := .int .i64 E4) rfl (by kernel_rfl) (by kernel_rfl) (by kernel_rfl) ?hy38 ?rest38
  case hy38 => (refine Or.inl ⟨by rfl, fun wx hSw => ?_⟩; (try dsimp only at hSw); have hSk := hSw; obtain ⟨hHx, ⟨c00, c01, c02⟩, ⟨c10, c11, c12⟩, ⟨c20, c21, c22⟩, ⟨c30, c31, c32⟩, ⟨c40, c41, c42⟩, c50, c51, c52⟩ := hSw; go_simp; refine Or.inr ⟨_, _, _, rfl, ?_⟩; (with_reducible refine (num03_any E4 _ (Held.handle (w0 := w) (SA.held hSk))).mono ?_); rintro e w' ⟨rfl, hb'⟩; exact ⟨rfl, SA.step hSk hb'⟩)
  try simp only [List.getElem_toArray, List.getElem_cons_succ, List.getElem_cons_zero, Act.put, List.setIfInBounds_toArray, List.set_cons_zero, List.set_cons_succ]
  refine anyS_take (i := 39) (v := ?v39) rfl (by kernel_rfl) (by kernel_rfl) (by kernel_rfl) ?hy39 ?rest39
  case hy39 => first | (refine StepS.read (by rfl) (fun wx hSw => ?_); (try dsimp only at hSw); obtain ⟨hHx, ⟨c00, c01, c02⟩, ⟨c10, c11, c12⟩, ⟨c20, c21, c22⟩, ⟨c30, c31, c32⟩, ⟨c40, c41, c42⟩, c50, c51, c52⟩ := hSw; go_simp; first | done | with_reducible rfl) | exact Or.inr ⟨by rfl, rfl⟩
  try simp only [List.getElem_toArray, List.getElem_cons_succ, List.getElem_cons_zero, Act.put, List.setIfInBounds_toArray, List.set_cons_zero, List.set_cons_succ]
  refine anyS_take (i := 40) (v := ?v40) rfl (by kernel_rfl) (by kernel_rfl) (by kernel_rfl) ?hy40 ?rest40
  case hy40 => first | (refine StepS.read (by rfl) (fun wx hSw => ?_); (try dsimp only at hSw); obtain ⟨hHx, ⟨c00, c01, c02⟩, ⟨c10, c11, c12⟩, ⟨c20, c21, c22⟩, ⟨c30, c31, c32⟩, ⟨c40, c41, c42⟩, c50, c51, c52⟩ := hSw; go_simp; first | done | with_reducible rfl) | exact Or.inr ⟨by rfl, rfl⟩
  try simp only [List.getElem_toArray, List.getElem_cons_succ, List.getElem_cons_zero, Act.put, List.setIfInBounds_toArray, List.set_cons_zero, List.set_cons_succ]
  refine anyS_take (i := 41) (v := ?v41) rfl (by kernel_rfl) (by kernel_rfl) (by kernel_rfl) ?hy41 ?rest41
  case hy41 => first | (refine StepS.read (by rfl) (fun wx hSw => ?_); (try dsimp only at hSw); obtain ⟨hHx, ⟨c00, c01, c02⟩, ⟨c10, c11, c12⟩, ⟨c20, c21, c22⟩, ⟨c30, c31, c32⟩, ⟨c40, c41, c42⟩, c50, c51, c52⟩ := hSw; go_simp; first | done | with_reducible rfl) | exact Or.inr ⟨by rfl, rfl⟩
  try simp only [List.getElem_toArray, List.getElem_cons_succ, List.getElem_cons_zero, Act.put, List.setIfInBounds_toArray, List.set_cons_zero, List.set_cons_succ]
  refine anyS_take (i := 42) (v := ?v42) rfl (by kernel_rfl) (by kernel_rfl) (by kernel_rfl) ?hy42 ?rest42
  case hy42 => first | (refine StepS.read (by rfl) (fun wx hSw => ?_); (try dsimp only at hSw); obtain ⟨hHx, ⟨c00, c01, c02⟩, ⟨c10, c11, c12⟩, ⟨c20, c21, c22⟩, ⟨c30, c31, c32⟩, ⟨c40, c41, c42⟩, c50, c51, c52⟩ := hSw; go_simp; first | done | with_reducible rfl) | exact Or.inr ⟨by rfl, rfl⟩
  try simp only [List.getElem_toArray, List.getElem_cons_succ, List.getElem_cons_zero, Act.put, List.setIfInBounds_toArray, List.set_cons_zero, List.set_cons_succ]
  refine anyS_take (i := 43) (v := ?v43) rfl (by kernel_rfl) (by kernel_rfl) (by kernel_rfl) ?hy43 ?rest43
  case hy43 => first | (refine StepS.read (by rfl) (fun wx hSw => ?_); (try dsimp only at hSw); obtain ⟨hHx, ⟨c00, c01, c02⟩, ⟨c10, c11, c12⟩, ⟨c20, c21, c22⟩, ⟨c30, c31, c32⟩, ⟨c40, c41, c42⟩, c50, c51, c52⟩ := hSw; go_simp; first | done | with_reducible rfl) | exact Or.inr ⟨by rfl, rfl⟩
  try simp only [List.getElem_toArray, List.getElem_cons_succ, List.getElem_cons_zero, Act.put, List.setIfInBounds_toArray, List.set_cons_zero, List.set_cons_succ]
  refine anyS_take (i := 44) (v := .nilIface) rfl (by kernel_rfl) (by kernel_rfl) (by kernel_rfl) ?hy44 ?rest44
  case hy44 => (refine Or.inl ⟨by rfl, fun wx hSw => ?_⟩; (try dsimp only at hSw); have hSk := hSw; obtain ⟨hHx, ⟨c00, c01, c02⟩, ⟨c10, c11, c12⟩, ⟨c20, c21, c22⟩, ⟨c30, c31, c32⟩, ⟨c40, c41, c42⟩, c50, c51, c52⟩ := hSw; go_simp; refine Or.inr ⟨_, _, _, rfl, ?_⟩; (with_reducible refine (rcheck_ok m s _ m0 m1 s0 s1).mono ?_); rintro e w' ⟨rfl, hb'⟩; exact ⟨rfl, SA.step hSk hb'⟩)
  try simp only [List.getElem_toArray, List.getElem_cons_succ, List.getElem_cons_zero, Act.put, List.setIfInBounds_toArray, List.set_cons_zero, List.set_cons_succ]
  refine anyS_take (i := 45) (v := ?v45) rfl (by kernel_rfl) (by kernel_rfl) (by kernel_rfl) ?hy45 ?rest45
  case hy45 => first | (refine StepS.read (by rfl) (fun wx hSw => ?_); (try dsimp only at hSw); obtain ⟨hHx, ⟨c00, c01, c02⟩, ⟨c10, c11, c12⟩, ⟨c20, c21, c22⟩, ⟨c30, c31, c32⟩, ⟨c40, c41, c42⟩, c50, c51, c52⟩ := hSw; go_simp; first | done | with_reducible rfl) | exact Or.inr ⟨by rfl, rfl⟩
  try simp only [List.getElem_toArray, List.getElem_cons_succ, List.getElem_cons_zero, Act.put, List.setIfInBounds_toArray, List.set_cons_zero, List.set_cons_succ]
  refine anyS_take (i := 46) (v := ?v46) rfl (by kernel_rfl) (by kernel_rfl) (by kernel_rfl) ?hy46 ?rest46
  case hy46 => first | (refine StepS.read (by rfl) (fun wx hSw => ?_); (try dsimp only at hSw); obtain ⟨hHx, ⟨c00, c01, c02⟩, ⟨c10, c11, c12⟩, ⟨c20, c21, c22⟩, ⟨c30, c31, c32⟩, ⟨c40, c41, c42⟩, c50, c51, c52⟩ := hSw; go_simp; first | done | with_reducible rfl) | exact Or.inr ⟨by rfl, rfl⟩
  try simp only [List.getElem_toArray, List.getElem_cons_succ, List.getElem_cons_zero, Act.put, List.setIfInBounds_toArray, List.set_cons_zero, List.set_cons_succ]
  refine anyS_take (i := 47) (v := ?v47) rfl (by kernel_rfl) (by kernel_rfl) (by kernel_rfl) ?hy47 ?rest47
  case hy47 => first | (refine StepS.read (by rfl) (fun wx hSw => ?_); (try dsimp only at hSw); obtain ⟨hHx, ⟨c00, c01, c02⟩, ⟨c10, c11, c12⟩, ⟨c20, c21, c22⟩, ⟨c30, c31, c32⟩, ⟨c40, c41, c42⟩, c50, c51, c52⟩ := hSw; go_simp; first | done | with_reducible rfl) | exact Or.inr ⟨by rfl, rfl⟩
  try simp only [List.getElem_toArray, List.getElem_cons_succ, List.getElem_cons_zero, Act.put, List.setIfInBounds_toArray, List.set_cons_zero, List.set_cons_succ]
  refine anyS_take (i := 48) (v := .bool true) rfl (by kernel_rfl) (by kernel_rfl) (by kernel_rfl) ?hy48 ?rest48
  case hy48 => (refine Or.inl ⟨by rfl, fun wx hSw => ?_⟩; (try dsimp only at hSw); have hSk := hSw; obtain ⟨hHx, ⟨c00, c01, c02⟩, ⟨c10, c11, c12⟩, ⟨c20, c21, c22⟩, ⟨c30, c31, c32⟩, ⟨c40, c41, c42⟩, c50, c51, c52⟩ := hSw; go_simp; refine Or.inr ⟨_, _, _, rfl, ?_⟩; (with_reducible refine (rmay3_ok m s _ m0 m1 s0 s1).mono ?_); rintro e w' ⟨rfl, hb'⟩; exact ⟨rfl, SA.step hSk hb'⟩)
  try simp only [List.getElem_toArray, List.getElem_cons_succ, List.getElem_cons_zero, Act.put, List.setIfInBounds_toArray, List.set_cons_zero, List.set_cons_succ]
  refine anyS_take (i := 49) (v := ?v49) rfl (by kernel_rfl) (by kernel_rfl) (by kernel_rfl) ?hy49 ?rest49
  case hy49 => first | (refine StepS.read (by rfl) (fun wx hSw => ?_); (try dsimp only at hSw); obtain ⟨hHx, ⟨c00, c01, c02⟩, ⟨c10, c11, c12⟩, ⟨c20, c21, c22⟩, ⟨c30, c31, c32⟩, ⟨c40, c41, c42⟩, c50, c51, c52⟩ := hSw; go_simp; first | done | with_reducible rfl) | exact Or.inr ⟨by rfl, rfl⟩
  try simp only [List.getElem_toArray, List.getElem_cons_succ, List.getElem_cons_zero, Act.put, List.setIfInBounds_toArray, List.set_cons_zero, List.set_cons_succ]
  refine anyS_take (i := 50) (v := ?v50) rfl (by kernel_rfl) (by kernel_rfl) (by kernel_rfl) ?hy50 ?rest50
  case hy50 => first | (refine StepS.read (by rfl) (fun wx hSw => ?_); (try dsimp only at hSw); obtain ⟨hHx, ⟨c00, c01, c02⟩, ⟨c10, c11, c12⟩, ⟨c20, c21, c22⟩, ⟨c30, c31, c32⟩, ⟨c40, c41, c42⟩, c50, c51, c52⟩ := hSw; go_simp; first | done | with_reducible rfl) | exact Or.inr ⟨by rfl, rfl⟩
  try simp only [List.getElem_toArray, List.getElem_cons_succ, List.getElem_cons_zero, Act.put, List.setIfInBounds_toArray, List.set_cons_zero, List.set_cons_succ]
  refine anyS_take (i := 51) (v := ?v51) rfl (by kernel_rfl) (by kernel_rfl) (by kernel_rfl) ?hy51 ?rest51
  case hy51 => first | (refine StepS.read (by rfl) (fun wx hSw => ?_); (try dsimp only at hSw); obtain ⟨hHx, ⟨c00, c01, c02⟩, ⟨c10, c11, c12⟩, ⟨c20, c21, c22⟩, ⟨c30, c31, c32⟩, ⟨c40, c41, c42⟩, c50, c51, c52⟩ := hSw; go_simp; first | done | with_reducible rfl) | exact Or.inr ⟨by rfl, rfl⟩
  try simp only [List.getElem_toArray, List.getElem_cons_succ, List.getElem_cons_zero, Act.put, List.setIfInBounds_toArray, List.set_cons_zero, List.set_cons_succ]
  refine anyS_take (i := 52) (v := .bool true) rfl (by kernel_rfl) (by kernel_rfl) (by kernel_rfl) ?hy52 ?rest52
  case hy52 => (refine Or.inl ⟨by rfl, fun wx hSw => ?_⟩; (try dsimp only at hSw); have hSk := hSw; obtain ⟨hHx, ⟨c00, c01, c02⟩, ⟨c10, c11, c12⟩, ⟨c20, c21, c22⟩, ⟨c30, c31, c32⟩, ⟨c40, c41, c42⟩, c50, c51, c52⟩ := hSw; go_simp; refine Or.inr ⟨_, _, _, rfl, ?_⟩; (with_reducible refine (sure03 _ (Held.handle (w0 := w) (SA.held hSk))).mono ?_); rintro e w' ⟨rfl, hb'⟩; exact ⟨rfl, SA.step hSk hb'⟩)
  try simp only [List.getElem_toArray, List.getElem_cons_succ, List.getElem_cons_zero, Act.put, List.setIfInBounds_toArray, List.set_cons_zero, List.set_cons_succ]
  refine anyS_take (i := 53) (v := ?v53) rfl (by kernel_rfl) (by kernel_rfl) (by kernel_rfl) ?hy53 ?rest53
  case hy53 => first | (refine StepS.read (by rfl) (fun wx hSw => ?_); (try dsimp only at hSw); obtain ⟨hHx, ⟨c00, c01, c02⟩, ⟨c10, c11, c12⟩, ⟨c20, c21, c22⟩, ⟨c30, c31, c32⟩, ⟨c40, c41, c42⟩, c50, c51, c52⟩ := hSw; go_simp; first | done | with_reducible rfl) | exact Or.inr ⟨by rfl, rfl⟩
  try simp only [List.getElem_toArray, List.getElem_cons_succ, List.getElem_cons_zero, Act.put, List.setIfInBounds_toArray, List.set_cons_zero, List.set_cons_succ]
  refine anyS_take (i := 54) (v := ?v54) rfl (by kernel_rfl) (by kernel_rfl) (by kernel_rfl) ?hy54 ?rest54
  case hy54 => first | (refine StepS.read (by rfl) (fun wx hSw => ?_); (try dsimp only at hSw); obtain ⟨hHx, ⟨c00, c01, c02⟩, ⟨c10, c11, c12⟩, ⟨c20, c21, c22⟩, ⟨c30, c31, c32⟩, ⟨c40, c41, c42⟩, c50, c51, c52⟩ := hSw; go_simp; first | done | with_reducible rfl) | exact Or.inr ⟨by rfl, rfl⟩
  try simp only [List.getElem_toArray, List.getElem_cons_succ, List.getElem_cons_zero, Act.put, List.setIfInBounds_toArray, List.set_cons_zero, List.set_cons_succ]
  refine anyS_done (by kernel_rfl) (fun wx hSw => ?_) _
  (try dsimp only at hSw)
  go_wp2_with (fail)
  go_ret
  exact ⟨rfl, Held.below (w0 := w) (SA.held hSw)⟩
set_option maxRecDepth 100000 in
set_option maxHeartbeats 8000000 in
theorem fits_no (a b m s n p : Int) (a0 : 0 ≤ a) (b0 : 0 ≤ b) (mm : 0 ≤ m) (m1 : m < 4294967296) (is : InR s) (hn : InR n) (hp : InR p) (h : ¬ (1 ≤ m ∧ 0 ≤ s ∧ s ≤ 31)) (w : World) (hg : w.cell? ⟨0, 0, none⟩ = some asHandle) :
    Calls Tryd.prog 7 #[.int .u64 a, .int .u64 b, .agg #[.int .u32 m, .int .i64 s, .int .i64 n, .int .i64 p]] w fun e w' => e = .returned (.bool true) ∧ Below w.heap.size w w' := by
  have hH := Held.start hg
  obtain ⟨M, S, E1, hf, hf'⟩ := fit_both a b a0 b0
  obtain ⟨N2, E2, hs, hs'⟩ := scale_both m s n m1 mm hn
  obtain ⟨N3, E3, ho, ho'⟩ := off_both m s n m1 mm hn
  obtain ⟨A, T, E4, ha, ha'⟩ := adj_both m s p m1 mm hp
  have Hhf := Lib.hid hf
  have Hhf' := Lib.hid hf'
  have Hhs := Lib.hid hs
  have Hhs' := Lib.hid hs'
  have Hho := Lib.hid ho
  have Hho' := Lib.hid ho'
  have Hha := Lib.hid ha
  have Hha' := Lib.hid ha'
  clear hf hf' hs hs' ho ho' ha ha'
  go_enter Tryd.func7, Tryd.ntmps7
  go_wp2_with (fail)
  go_at_call 43
  (with_reducible refine (Hhf.out _).mono ?_)
  rintro e w1 ⟨rfl, HB⟩
  have Kq := Lib.hid (B4.step (show B4 (w.heap.size) (.int .u32 m) (.int .i64 s) (.int .i64 n) (.int .i64 p) _ from ⟨(by first | omega | (simp; done) | (simp; omega)), by go_simp, by go_simp, by go_simp, by go_simp⟩) HB)
  have HBB := Below.trans (show Below w.heap.size w _ from by repeat (first | with_reducible assumption | exact Below.refl _ _ | refine Below.drew ?_ | refine Below.setCell ?_ (by first | omega | (simp; done) | (simp; omega)) _ | refine Below.alloc ?_ (by first | omega | (simp; done) | (simp; omega)) _)) (Below.mono (B' := w.heap.size) HB (by first | omega | (simp; done) | (simp; omega)))
  replace hH := Held.step (w0 := w) hH HBB
  have hz1 := HBB.size
  obtain ⟨hc1, hf1⟩ := bcell HB
  clear HB HBB
  obtain ⟨zq, cq0, cq1, cq2, cq3⟩ := Kq.out
  go_wp2_with (fail)
  go_at_call 44
  (with_reducible refine (Hhf'.out _).mono ?_)
  rintro e w2 ⟨rfl, HB⟩
  have Kf := Lib.hid (B2.step (show B2 (w1.heap.size) (.int .u32 M) (.int .i64 S) _ from ⟨(by first | omega | (simp; done) | (simp; omega)), by go_simp, by go_simp⟩) HB)
  have HBB := Below.trans (show Below w1.heap.size w1 _ from by repeat (first | with_reducible assumption | exact Below.refl _ _ | refine Below.drew ?_ | refine Below.setCell ?_ (by first | omega | (simp; done) | (simp; omega)) _ | refine Below.alloc ?_ (by first | omega | (simp; done) | (simp; omega)) _)) (Below.mono (B' := w1.heap.size) HB (by first | omega | (simp; done) | (simp; omega)))
  clear zq cq0 cq1 cq2 cq3
  replace Kq := Lib.hid (B4.step Kq.out HBB)
  replace hH := Held.step (w0 := w) hH HBB
  have hz2 := HBB.size
  obtain ⟨hc2, hf2⟩ := bcell HB
  clear HB HBB
  clear hc1 hf1
  obtain ⟨zq, cq0, cq1, cq2, cq3⟩ := Kq.out
  obtain ⟨zf, cf0, cf1⟩ := Kf.out
  go_wp2_with (fail)
  go_at_call 45
  (with_reducible refine (Hhs.out _).mono ?_)
  rintro e w3 ⟨rfl, HB⟩
  have Kg := Lib.hid (B2.step (show B2 (w2.heap.size) (.int .u32 M) (.int .i64 S) _ from ⟨(by first | omega | (simp; done) | (simp; omega)), by go_simp, by go_simp⟩) HB)
  have Kx := Lib.hid (B2.step (show B2 (w2.heap.size + 1) (.int .u32 m) (.int .i64 s) _ from ⟨(by first | omega | (simp; done) | (simp; omega)), by go_simp, by go_simp⟩) HB)
  have HBB := Below.trans (show Below w2.heap.size w2 _ from by repeat (first | with_reducible assumption | exact Below.refl _ _ | refine Below.drew ?_ | refine Below.setCell ?_ (by first | omega | (simp; done) | (simp; omega)) _ | refine Below.alloc ?_ (by first | omega | (simp; done) | (simp; omega)) _)) (Below.mono (B' := w2.heap.size) HB (by first | omega | (simp; done) | (simp; omega)))
  clear zq cq0 cq1 cq2 cq3 zf cf0 cf1
  replace Kq := Lib.hid (B4.step Kq.out HBB)
  replace Kf := Lib.hid (B2.step Kf.out HBB)
  replace hH := Held.step (w0 := w) hH HBB
  have hz3 := HBB.size
  obtain ⟨hc3, hf3⟩ := bcell HB
  clear HB HBB
  clear hc2 hf2
  obtain ⟨zq, cq0, cq1, cq2, cq3⟩ := Kq.out
  obtain ⟨zf, cf0, cf1⟩ := Kf.out
  obtain ⟨zg, cg0, cg1⟩ := Kg.out
  obtain ⟨zx, cx0, cx1⟩ := Kx.out
  go_wp2_with (fail)
  go_at_call 46
  (with_reducible refine (Hhs'.out _).mono ?_)
  rintro e w4 ⟨rfl, HB⟩
  have HBB := Below.trans (show Below w3.heap.size w3 _ from by repeat (first | with_reducible assumption | exact Below.refl _ _ | refine Below.drew ?_ | refine Below.setCell ?_ (by first | omega | (simp; done) | (simp; omega)) _ | refine Below.alloc ?_ (by first | omega | (simp; done) | (simp; omega)) _)) (Below.mono (B' := w3.heap.size) HB (by first | omega | (simp; done) | (simp; omega)))
  clear zq cq0 cq1 cq2 cq3 zf cf0 cf1 zg cg0 cg1 zx cx0 cx1
  replace Kq := Lib.hid (B4.step Kq.out HBB)
  replace Kf := Lib.hid (B2.step Kf.out HBB)
  replace Kg := Lib.hid (B2.step Kg.out HBB)
  replace Kx := Lib.hid (B2.step Kx.out HBB)
  replace hH := Held.step (w0 := w) hH HBB
  have hz4 := HBB.size
  obtain ⟨hc4, hf4⟩ := bcell HB
  clear HB HBB
  clear hc3 hf3
  obtain ⟨zq, cq0, cq1, cq2, cq3⟩ := Kq.out
  obtain ⟨zf, cf0, cf1⟩ := Kf.out
  obtain ⟨zg, cg0, cg1⟩ := Kg.out
  obtain ⟨zx, cx0, cx1⟩ := Kx.out
  go_wp2_with (fail)
  go_at_call 47
  (with_reducible refine (Hho.out _).mono ?_)
  rintro e w5 ⟨rfl, HB⟩
  have HBB := Below.trans (show Below w4.heap.size w4 _ from by repeat (first | with_reducible assumption | exact Below.refl _ _ | refine Below.drew ?_ | refine Below.setCell ?_ (by first | omega | (simp; done) | (simp; omega)) _ | refine Below.alloc ?_ (by first | omega | (simp; done) | (simp; omega)) _)) (Below.mono (B' := w4.heap.size) HB (by first | omega | (simp; done) | (simp; omega)))
  clear zq cq0 cq1 cq2 cq3 zf cf0 cf1 zg cg0 cg1 zx cx0 cx1
  replace Kq := Lib.hid (B4.step Kq.out HBB)
  replace Kf := Lib.hid (B2.step Kf.out HBB)
  replace Kg := Lib.hid (B2.step Kg.out HBB)
  replace Kx := Lib.hid (B2.step Kx.out HBB)
  replace hH := Held.step (w0 := w) hH HBB
  have hz5 := HBB.size
  obtain ⟨hc5, hf5⟩ := bcell HB
  clear HB HBB
  clear hc4 hf4
  obtain ⟨zq, cq0, cq1, cq2, cq3⟩ := Kq.out
  obtain ⟨zf, cf0, cf1⟩ := Kf.out
  obtain ⟨zg, cg0, cg1⟩ := Kg.out
  obtain ⟨zx, cx0, cx1⟩ := Kx.out
  go_wp2_with (fail)
  go_at_call 48
  (with_reducible refine (Hho'.out _).mono ?_)
  rintro e w6 ⟨rfl, HB⟩
  have HBB := Below.trans (show Below w5.heap.size w5 _ from by repeat (first | with_reducible assumption | exact Below.refl _ _ | refine Below.drew ?_ | refine Below.setCell ?_ (by first | omega | (simp; done) | (simp; omega)) _ | refine Below.alloc ?_ (by first | omega | (simp; done) | (simp; omega)) _)) (Below.mono (B' := w5.heap.size) HB (by first | omega | (simp; done) | (simp; omega)))
  clear zq cq0 cq1 cq2 cq3 zf cf0 cf1 zg cg0 cg1 zx cx0 cx1
  replace Kq := Lib.hid (B4.step Kq.out HBB)
  replace Kf := Lib.hid (B2.step Kf.out HBB)
  replace Kg := Lib.hid (B2.step Kg.out HBB)
  replace Kx := Lib.hid (B2.step Kx.out HBB)
  replace hH := Held.step (w0 := w) hH HBB
  have hz6 := HBB.size
  obtain ⟨hc6, hf6⟩ := bcell HB
  clear HB HBB
  clear hc5 hf5
  obtain ⟨zq, cq0, cq1, cq2, cq3⟩ := Kq.out
  obtain ⟨zf, cf0, cf1⟩ := Kf.out
  obtain ⟨zg, cg0, cg1⟩ := Kg.out
  obtain ⟨zx, cx0, cx1⟩ := Kx.out
  go_wp2_with (fail)
  go_at_call 49
  (with_reducible refine (Hha.out _).mono ?_)
  rintro e w7 ⟨rfl, HB⟩
  have HBB := Below.trans (show Below w6.heap.size w6 _ from by repeat (first | with_reducible assumption | exact Below.refl _ _ | refine Below.drew ?_ | refine Below.setCell ?_ (by first | omega | (simp; done) | (simp; omega)) _ | refine Below.alloc ?_ (by first | omega | (simp; done) | (simp; omega)) _)) (Below.mono (B' := w6.heap.size) HB (by first | omega | (simp; done) | (simp; omega)))
  clear zq cq0 cq1 cq2 cq3 zf cf0 cf1 zg cg0 cg1 zx cx0 cx1
  replace Kq := Lib.hid (B4.step Kq.out HBB)
  replace Kf := Lib.hid (B2.step Kf.out HBB)
  replace Kg := Lib.hid (B2.step Kg.out HBB)
  replace Kx := Lib.hid (B2.step Kx.out HBB)
  replace hH := Held.step (w0 := w) hH HBB
  have hz7 := HBB.size
  obtain ⟨hc7, hf7⟩ := bcell HB
  clear HB HBB
  clear hc6 hf6
  obtain ⟨zq, cq0, cq1, cq2, cq3⟩ := Kq.out
  obtain ⟨zf, cf0, cf1⟩ := Kf.out
  obtain ⟨zg, cg0, cg1⟩ := Kg.out
  obtain ⟨zx, cx0, cx1⟩ := Kx.out
  go_wp2_with (fail)
  go_at_call 50
  (with_reducible refine (Hha'.out _).mono ?_)
  rintro e w8 ⟨rfl, HB⟩
  have Ky := Lib.hid (B2.step (show B2 (w7.heap.size) (.int .u32 A) (.int .i64 T) _ from ⟨(by first | omega | (simp; done) | (simp; omega)), by go_simp, by go_simp⟩) HB)
  have HBB := Below.trans (show Below w7.heap.size w7 _ from by repeat (first | with_reducible assumption | exact Below.refl _ _ | refine Below.drew ?_ | refine Below.setCell ?_ (by first | omega | (simp; done) | (simp; omega)) _ | refine Below.alloc ?_ (by first | omega | (simp; done) | (simp; omega)) _)) (Below.mono (B' := w7.heap.size) HB (by first | omega | (simp; done) | (simp; omega)))
  clear zq cq0 cq1 cq2 cq3 zf cf0 cf1 zg cg0 cg1 zx cx0 cx1
  replace Kq := Lib.hid (B4.step Kq.out HBB)
  replace Kf := Lib.hid (B2.step Kf.out HBB)
  replace Kg := Lib.hid (B2.step Kg.out HBB)
  replace Kx := Lib.hid (B2.step Kx.out HBB)
  replace hH := Held.step (w0 := w) hH HBB
  have hz8 := HBB.size
  obtain ⟨hc8, hf8⟩ := bcell HB
  clear HB HBB
  clear hc7 hf7
  obtain ⟨zq, cq0, cq1, cq2, cq3⟩ := Kq.out
  obtain ⟨zf, cf0, cf1⟩ := Kf.out
  obtain ⟨zg, cg0, cg1⟩ := Kg.out
  obtain ⟨zx, cx0, cx1⟩ := Kx.out
  obtain ⟨zy, cy0, cy1⟩ := Ky.out
  go_wp2_with (fail)
  have hS0 : SA w (w.heap.size) (.int .u32 m) (.int .i64 s) (w1.heap.size) (.int .u32 M) (.int .i64 S) (w2.heap.size) (.int .u32 M) (.int .i64 S) (w2.heap.size + 1) (.int .u32 m) (.int .i64 s) (w7.heap.size) (.int .u32 A) (.int .i64 T) (w8.heap.size) (.int .u32 A) (.int .i64 T) (w8.alloc (.cells #[.int .u32 A, .int .i64 T] 69)) := ⟨Held.alloc hH _, B2.step (w' := (w8.alloc (.cells #[.int .u32 A, .int .i64 T] 69))) ⟨Kq.out.1, Kq.out.2.1, Kq.out.2.2.1⟩ ((Below.refl _ _).alloc (Nat.le_refl _) _), Kf.out.step ((Below.refl _ _).alloc (Nat.le_refl _) _), Kg.out.step ((Below.refl _ _).alloc (Nat.le_refl _) _), Kx.out.step ((Below.refl _ _).alloc (Nat.le_refl _) _), Ky.out.step ((Below.refl _ _).alloc (Nat.le_refl _) _), ⟨by simp, by go_simp, by go_simp⟩⟩
  clear hc8 hf8 zq cq0 cq1 cq2 cq3 zf cf0 cf1 zg cg0 cg1 zx cx0 cx1 zy cy0 cy1
  refine wp_region_S (S := (fun wx => SA w (w.heap.size) (.int .u32 m) (.int .i64 s) (w1.heap.size) (.int .u32 M) (.int .i64 S) (w2.heap.size) (.int .u32 M) (.int .i64 S) (w2.heap.size + 1) (.int .u32 m) (.int .i64 s) (w7.heap.size) (.int .u32 A) (.int .i64 T) (w8.heap.size) (.int .u32 A) (.int .i64 T) wx)) (by kernel_rfl) (SA.drew hS0) ?_
  refine anyS_take (i := 0) (v := ?v0) rfl (by kernel_rfl) (by kernel_rfl) (by kernel_rfl) ?hy0 ?rest0
  case hy0 => first | (refine StepS.read (by rfl) (fun wx hSw => ?_); (try dsimp only at hSw); obtain ⟨hHx, ⟨c00, c01, c02⟩, ⟨c10, c11, c12⟩, ⟨c20, c21, c22⟩, ⟨c30, c31, c32⟩, ⟨c40, c41, c42⟩, c50, c51, c52⟩ := hSw; go_simp; first | done | with_reducible rfl) | exact Or.inr ⟨by rfl, rfl⟩
  try simp only [List.getElem_toArray, List.getElem_cons_succ, List.getElem_cons_zero, Act.put, List.setIfInBounds_toArray, List.set_cons_zero, List.set_cons_succ]
  refine anyS_take (i := 1) (v := ?v1) rfl (by kernel_rfl) (by kernel_rfl) (by kernel_rfl) ?hy1 ?rest1
  case hy1 => first | (refine StepS.read (by rfl) (fun wx hSw => ?_); (try dsimp only at hSw); obtain ⟨hHx, ⟨c00, c01, c02⟩, ⟨c10, c11, c12⟩, ⟨c20, c21, c22⟩, ⟨c30, c31, c32⟩, ⟨c40, c41, c42⟩, c50, c51, c52⟩ := hSw; go_simp; first | done | with_reducible rfl) | exact Or.inr ⟨by rfl, rfl⟩
  try simp only [List.getElem_toArray, List.getElem_cons_succ, List.getElem_cons_zero, Act.put, List.setIfInBounds_toArray, List.set_cons_zero, List.set_cons_succ]
  refine anyS_take (i := 2) (v := ?v2) rfl (by kernel_rfl) (by kernel_rfl) (by kernel_rfl) ?hy2 ?rest2
  case hy2 => first | (refine StepS.read (by rfl) (fun wx hSw => ?_); (try dsimp only at hSw); obtain ⟨hHx, ⟨c00, c01, c02⟩, ⟨c10, c11, c12⟩, ⟨c20, c21, c22⟩, ⟨c30, c31, c32⟩, ⟨c40, c41, c42⟩, c50, c51, c52⟩ := hSw; go_simp; first | done | with_reducible rfl) | exact Or.inr ⟨by rfl, rfl⟩
  try simp only [List.getElem_toArray, List.getElem_cons_succ, List.getElem_cons_zero, Act.put, List.setIfInBounds_toArray, List.set_cons_zero, List.set_cons_succ]
  refine anyS_take (i := 3) (v := ?v3) rfl (by kernel_rfl) (by kernel_rfl) (by kernel_rfl) ?hy3 ?rest3
  case hy3 => first | (refine StepS.read (by rfl) (fun wx hSw => ?_); (try dsimp only at hSw); obtain ⟨hHx, ⟨c00, c01, c02⟩, ⟨c10, c11, c12⟩, ⟨c20, c21, c22⟩, ⟨c30, c31, c32⟩, ⟨c40, c41, c42⟩, c50, c51, c52⟩ := hSw; go_simp; first | done | with_reducible rfl) | exact Or.inr ⟨by rfl, rfl⟩
  try simp only [List.getElem_toArray, List.getElem_cons_succ, List.getElem_cons_zero, Act.put, List.setIfInBounds_toArray, List.set_cons_zero, List.set_cons_succ]
  refine anyS_take (i := 4) (v := ?v4) rfl (by kernel_rfl) (by kernel_rfl) (by kernel_rfl) ?hy4 ?rest4
  case hy4 => first | (refine StepS.read (by rfl) (fun wx hSw => ?_); (try dsimp only at hSw); obtain ⟨hHx, ⟨c00, c01, c02⟩, ⟨c10, c11, c12⟩, ⟨c20, c21, c22⟩, ⟨c30, c31, c32⟩, ⟨c40, c41, c42⟩, c50, c51, c52⟩ := hSw; go_simp; first | done | with_reducible rfl) | exact Or.inr ⟨by rfl, rfl⟩
  try simp only [List.getElem_toArray, List.getElem_cons_succ, List.getElem_cons_zero, Act.put, List.setIfInBounds_toArray, List.set_cons_zero, List.set_cons_succ]
  refine anyS_take (i := 5) (v := .int .i64 E1) rfl (by kernel_rfl) (by kernel_rfl) (by kernel_rfl) ?hy5 ?rest5
  case hy5 => (refine Or.inl ⟨by rfl, fun wx hSw => ?_⟩; (try dsimp only at hSw); have hSk := hSw; obtain ⟨hHx, ⟨c00, c01, c02⟩, ⟨c10, c11, c12⟩, ⟨c20, c21, c22⟩, ⟨c30, c31, c32⟩, ⟨c40, c41, c42⟩, c50, c51, c52⟩ := hSw; go_simp; refine Or.inr ⟨_, _, _, rfl, ?_⟩; (with_reducible refine (num03_any E1 _ (Held.handle (w0 := w) (SA.held hSk))).mono ?_); rintro e w' ⟨rfl, hb'⟩; exact ⟨rfl, SA.step hSk hb'⟩)
  try simp only [List.getElem_toArray, List.getElem_cons_succ, List.getElem_cons_zero, Act.put, List.setIfInBounds_toArray, List.set_cons_zero, List.set_cons_succ]
  refine anyS_take (i := 6) (v := ?v6) rfl (by kernel_rfl) (by kernel_rfl) (by kernel_rfl) ?hy6 ?rest6
  case hy6 => first | (refine StepS.read (by rfl) (fun wx hSw => ?_); (try dsimp only at hSw); obtain ⟨hHx, ⟨c00, c01, c02⟩, ⟨c10, c11, c12⟩, ⟨c20, c21, c22⟩, ⟨c30, c31, c32⟩, ⟨c40, c41, c42⟩, c50, c51, c52⟩ := hSw; go_simp; first | done | with_reducible rfl) | exact Or.inr ⟨by rfl, rfl⟩
  try simp only [List.getElem_toArray, List.getElem_cons_succ, List.getElem_cons_zero, Act.put, List.setIfInBounds_toArray, List.set_cons_zero, List.set_cons_succ]
  refine anyS_take (i := 7) (v := ?v7) rfl (by kernel_rfl) (by kernel_rfl) (by kernel_rfl) ?hy7 ?rest7
  case hy7 => first | (refine StepS.read (by rfl) (fun wx hSw => ?_); (try dsimp only at hSw); obtain ⟨hHx, ⟨c00, c01, c02⟩, ⟨c10, c11, c12⟩, ⟨c20, c21, c22⟩, ⟨c30, c31, c32⟩, ⟨c40, c41, c42⟩, c50, c51, c52⟩ := hSw; go_simp; first | done | with_reducible rfl) | exact Or.inr ⟨by rfl, rfl⟩
  try simp only [List.getElem_toArray, List.getElem_cons_succ, List.getElem_cons_zero, Act.put, List.setIfInBounds_toArray, List.set_cons_zero, List.set_cons_succ]
  refine anyS_take (i := 8) (v := ?v8) rfl (by kernel_rfl) (by kernel_rfl) (by kernel_rfl) ?hy8 ?rest8
  case hy8 => first | (refine StepS.read (by rfl) (fun wx hSw => ?_); (try dsimp only at hSw); obtain ⟨hHx, ⟨c00, c01, c02⟩, ⟨c10, c11, c12⟩, ⟨c20, c21, c22⟩, ⟨c30, c31, c32⟩, ⟨c40, c41, c42⟩, c50, c51, c52⟩ := hSw; go_simp; first | done | with_reducible rfl) | exact Or.inr ⟨by rfl, rfl⟩
  try simp only [List.getElem_toArray, List.getElem_cons_succ, List.getElem_cons_zero, Act.put, List.setIfInBounds_toArray, List.set_cons_zero, List.set_cons_succ]
  refine anyS_take (i := 9) (v := ?v9) rfl (by kernel_rfl) (by kernel_rfl) (by kernel_rfl) ?hy9 ?rest9
  case hy9 => first | (refine StepS.read (by rfl) (fun wx hSw => ?_); (try dsimp only at hSw); obtain ⟨hHx, ⟨c00, c01, c02⟩, ⟨c10, c11, c12⟩, ⟨c20, c21, c22⟩, ⟨c30, c31, c32⟩, ⟨c40, c41, c42⟩, c50, c51, c52⟩ := hSw; go_simp; first | done | with_reducible rfl) | exact Or.inr ⟨by rfl, rfl⟩
  try simp only [List.getElem_toArray, List.getElem_cons_succ, List.getElem_cons_zero, Act.put, List.setIfInBounds_toArray, List.set_cons_zero, List.set_cons_succ]
  refine anyS_take (i := 10) (v := ?v10) rfl (by kernel_rfl) (by kernel_rfl) (by kernel_rfl) ?hy10 ?rest10
  case hy10 => first | (refine StepS.read (by rfl) (fun wx hSw => ?_); (try dsimp only at hSw); obtain ⟨hHx, ⟨c00, c01, c02⟩, ⟨c10, c11, c12⟩, ⟨c20, c21, c22⟩, ⟨c30, c31, c32⟩, ⟨c40, c41, c42⟩, c50, c51, c52⟩ := hSw; go_simp; first | done | with_reducible rfl) | exact Or.inr ⟨by rfl, rfl⟩
  try simp only [List.getElem_toArray, List.getElem_cons_succ, List.getElem_cons_zero, Act.put, List.setIfInBounds_toArray, List.set_cons_zero, List.set_cons_succ]
  refine anyS_take (i := 11) (v := ?v11) rfl (by kernel_rfl) (by kernel_rfl) (by kernel_rfl) ?hy11 ?rest11
  case hy11 => first | (refine StepS.read (by rfl) (fun wx hSw => ?_); (try dsimp only at hSw); obtain ⟨hHx, ⟨c00, c01, c02⟩, ⟨c10, c11, c12⟩, ⟨c20, c21, c22⟩, ⟨c30, c31, c32⟩, ⟨c40, c41, c42⟩, c50, c51, c52⟩ := hSw; go_simp; first | done | with_reducible rfl) | exact Or.inr ⟨by rfl, rfl⟩
  try simp only [List.getElem_toArray, List.getElem_cons_succ, List.getElem_cons_zero, Act.put, List.setIfInBounds_toArray, List.set_cons_zero, List.set_cons_succ]
  refine anyS_take (i := 12) (v := ?v12) rfl (by kernel_rfl) (by kernel_rfl) (by kernel_rfl) ?hy12 ?rest12
  case hy12 => first | (refine StepS.read (by rfl) (fun wx hSw => ?_); (try dsimp only at hSw); obtain ⟨hHx, ⟨c00, c01, c02⟩, ⟨c10, c11, c12⟩, ⟨c20, c21, c22⟩, ⟨c30, c31, c32⟩, ⟨c40, c41, c42⟩, c50, c51, c52⟩ := hSw; go_simp; first | done | with_reducible rfl) | exact Or.inr ⟨by rfl, rfl⟩
  try simp only [List.getElem_toArray, List.getElem_cons_succ, List.getElem_cons_zero, Act.put, List.setIfInBounds_toArray, List.set_cons_zero, List.set_cons_succ]
  refine anyS_take (i := 13) (v := ?v13) rfl (by kernel_rfl) (by kernel_rfl) (by kernel_rfl) ?hy13 ?rest13
  case hy13 => first | (refine StepS.read (by rfl) (fun wx hSw => ?_); (try dsimp only at hSw); obtain ⟨hHx, ⟨c00, c01, c02⟩, ⟨c10, c11, c12⟩, ⟨c20, c21, c22⟩, ⟨c30, c31, c32⟩, ⟨c40, c41, c42⟩, c50, c51, c52⟩ := hSw; go_simp; first | done | with_reducible rfl) | exact Or.inr ⟨by rfl, rfl⟩
  try simp only [List.getElem_toArray, List.getElem_cons_succ, List.getElem_cons_zero, Act.put, List.setIfInBounds_toArray, List.set_cons_zero, List.set_cons_succ]
  refine anyS_take (i := 14) (v := ?v14) rfl (by kernel_rfl) (by kernel_rfl) (by kernel_rfl) ?hy14 ?rest14
  case hy14 => first | (refine StepS.read (by rfl) (fun wx hSw => ?_); (try dsimp only at hSw); obtain ⟨hHx, ⟨c00, c01, c02⟩, ⟨c10, c11, c12⟩, ⟨c20, c21, c22⟩, ⟨c30, c31, c32⟩, ⟨c40, c41, c42⟩, c50, c51, c52⟩ := hSw; go_simp; first | done | with_reducible rfl) | exact Or.inr ⟨by rfl, rfl⟩
  try simp only [List.getElem_toArray, List.getElem_cons_succ, List.getElem_cons_zero, Act.put, List.setIfInBounds_toArray, List.set_cons_zero, List.set_cons_succ]
  refine anyS_take (i := 15) (v := ?v15) rfl (by kernel_rfl) (by kernel_rfl) (by kernel_rfl) ?hy15 ?rest15
  case hy15 => first | (refine StepS.read (by rfl) (fun wx hSw => ?_); (try dsimp only at hSw); obtain ⟨hHx, ⟨c00, c01, c02⟩, ⟨c10, c11, c12⟩, ⟨c20, c21, c22⟩, ⟨c30, c31, c32⟩, ⟨c40, c41, c42⟩, c50, c51, c52⟩ := hSw; go_simp; first | done | with_reducible rfl) | exact Or.inr ⟨by rfl, rfl⟩
  try simp only [List.getElem_toArray, List.getElem_cons_succ, List.getElem_cons_zero, Act.put, List.setIfInBounds_toArray, List.set_cons_zero, List.set_cons_succ]
  refine anyS_take (i := 16) (v := .int .i64 E2) rfl (by kernel_rfl) (by kernel_rfl) (by kernel_rfl) ?hy16 ?rest16
  case hy16 => (refine Or.inl ⟨by rfl, fun wx hSw => ?_⟩; (try dsimp only at hSw); have hSk := hSw; obtain ⟨hHx, ⟨c00, c01, c02⟩, ⟨c10, c11, c12⟩, ⟨c20, c21, c22⟩, ⟨c30, c31, c32⟩, ⟨c40, c41, c42⟩, c50, c51, c52⟩ := hSw; go_simp; refine Or.inr ⟨_, _, _, rfl, ?_⟩; (with_reducible refine (num03_any E2 _ (Held.handle (w0 := w) (SA.held hSk))).mono ?_); rintro e w' ⟨rfl, hb'⟩; exact ⟨rfl, SA.step hSk hb'⟩)
  try simp only [List.getElem_toArray, List.getElem_cons_succ, List.getElem_cons_zero, Act.put, List.setIfInBounds_toArray, List.set_cons_zero, List.set_cons_succ]
  refine anyS_take (i := 17) (v := ?v17) rfl (by kernel_rfl) (by kernel_rfl) (by kernel_rfl) ?hy17 ?rest17
  case hy17 => first | (refine StepS.read (by rfl) (fun wx hSw => ?_); (try dsimp only at hSw); obtain ⟨hHx, ⟨c00, c01, c02⟩, ⟨c10, c11, c12⟩, ⟨c20, c21, c22⟩, ⟨c30, c31, c32⟩, ⟨c40, c41, c42⟩, c50, c51, c52⟩ := hSw; go_simp; first | done | with_reducible rfl) | exact Or.inr ⟨by rfl, rfl⟩
  try simp only [List.getElem_toArray, List.getElem_cons_succ, List.getElem_cons_zero, Act.put, List.setIfInBounds_toArray, List.set_cons_zero, List.set_cons_succ]
  refine anyS_take (i := 18) (v := ?v18) rfl (by kernel_rfl) (by kernel_rfl) (by kernel_rfl) ?hy18 ?rest18
  case hy18 => first | (refine StepS.read (by rfl) (fun wx hSw => ?_); (try dsimp only at hSw); obtain ⟨hHx, ⟨c00, c01, c02⟩, ⟨c10, c11, c12⟩, ⟨c20, c21, c22⟩, ⟨c30, c31, c32⟩, ⟨c40, c41, c42⟩, c50, c51, c52⟩ := hSw; go_simp; first | done | with_reducible rfl) | exact Or.inr ⟨by rfl, rfl⟩
  try simp only [List.getElem_toArray, List.getElem_cons_succ, List.getElem_cons_zero, Act.put, List.setIfInBounds_toArray, List.set_cons_zero, List.set_cons_succ]
  refine anyS_take (i := 19) (v := ?v19) rfl (by kernel_rfl) (by kernel_rfl) (by kernel_rfl) ?hy19 ?rest19
  case hy19 => first | (refine StepS.read (by rfl) (fun wx hSw => ?_); (try dsimp only at hSw); obtain ⟨hHx, ⟨c00, c01, c02⟩, ⟨c10, c11, c12⟩, ⟨c20, c21, c22⟩, ⟨c30, c31, c32⟩, ⟨c40, c41, c42⟩, c50, c51, c52⟩ := hSw; go_simp; first | done | with_reducible rfl) | exact Or.inr ⟨by rfl, rfl⟩
  try simp only [List.getElem_toArray, List.getElem_cons_succ, List.getElem_cons_zero, Act.put, List.setIfInBounds_toArray, List.set_cons_zero, List.set_cons_succ]
  refine anyS_take (i := 20) (v := ?v20) rfl (by kernel_rfl) (by kernel_rfl) (by kernel_rfl) ?hy20 ?rest20
  case hy20 => first | (refine StepS.read (by rfl) (fun wx hSw => ?_); (try dsimp only at hSw); obtain ⟨hHx, ⟨c00, c01, c02⟩, ⟨c10, c11, c12⟩, ⟨c20, c21, c22⟩, ⟨c30, c31, c32⟩, ⟨c40, c41, c42⟩, c50, c51, c52⟩ := hSw; go_simp; first | done | with_reducible rfl) | exact Or.inr ⟨by rfl, rfl⟩
  try simp only [List.getElem_toArray, List.getElem_cons_succ, List.getElem_cons_zero, Act.put, List.setIfInBounds_toArray, List.set_cons_zero, List.set_cons_succ]
  refine anyS_take (i := 21) (v := ?v21) rfl (by kernel_rfl) (by kernel_rfl) (by kernel_rfl) ?hy21 ?rest21
  case hy21 => first | (refine StepS.read (by rfl) (fun wx hSw => ?_); (try dsimp only at hSw); obtain ⟨hHx, ⟨c00, c01, c02⟩, ⟨c10, c11, c12⟩, ⟨c20, c21, c22⟩, ⟨c30, c31, c32⟩, ⟨c40, c41, c42⟩, c50, c51, c52⟩ := hSw; go_simp; first | done | with_reducible rfl) | exact Or.inr ⟨by rfl, rfl⟩
  try simp only [List.getElem_toArray, List.getElem_cons_succ, List.getElem_cons_zero, Act.put, List.setIfInBounds_toArray, List.set_cons_zero, List.set_cons_succ]
  refine anyS_take (i := 22) (v := ?v22) rfl (by kernel_rfl) (by kernel_rfl) (by kernel_rfl) ?hy22 ?rest22
  case hy22 => first | (refine StepS.read (by rfl) (fun wx hSw => ?_); (try dsimp only at hSw); obtain ⟨hHx, ⟨c00, c01, c02⟩, ⟨c10, c11, c12⟩, ⟨c20, c21, c22⟩, ⟨c30, c31, c32⟩, ⟨c40, c41, c42⟩, c50, c51, c52⟩ := hSw; go_simp; first | done | with_reducible rfl) | exact Or.inr ⟨by rfl, rfl⟩
  try simp only [List.getElem_toArray, List.getElem_cons_succ, List.getElem_cons_zero, Act.put, List.setIfInBounds_toArray, List.set_cons_zero, List.set_cons_succ]
  refine anyS_take (i := 23) (v := ?v23) rfl (by kernel_rfl) (by kernel_rfl) (by kernel_rfl) ?hy23 ?rest23
  case hy23 => first | (refine StepS.read (by rfl) (fun wx hSw => ?_); (try dsimp only at hSw); obtain ⟨hHx, ⟨c00, c01, c02⟩, ⟨c10, c11, c12⟩, ⟨c20, c21, c22⟩, ⟨c30, c31, c32⟩, ⟨c40, c41, c42⟩, c50, c51, c52⟩ := hSw; go_simp; first | done | with_reducible rfl) | exact Or.inr ⟨by rfl, rfl⟩
  try simp only [List.getElem_toArray, List.getElem_cons_succ, List.getElem_cons_zero, Act.put, List.setIfInBounds_toArray, List.set_cons_zero, List.set_cons_succ]
  refine anyS_take (i := 24) (v := ?v24) rfl (by kernel_rfl) (by kernel_rfl) (by kernel_rfl) ?hy24 ?rest24
  case hy24 => first | (refine StepS.read (by rfl) (fun wx hSw => ?_); (try dsimp only at hSw); obtain ⟨hHx, ⟨c00, c01, c02⟩, ⟨c10, c11, c12⟩, ⟨c20, c21, c22⟩, ⟨c30, c31, c32⟩, ⟨c40, c41, c42⟩, c50, c51, c52⟩ := hSw; go_simp; first | done | with_reducible rfl) | exact Or.inr ⟨by rfl, rfl⟩
  try simp only [List.getElem_toArray, List.getElem_cons_succ, List.getElem_cons_zero, Act.put, List.setIfInBounds_toArray, List.set_cons_zero, List.set_cons_succ]
  refine anyS_take (i := 25) (v := ?v25) rfl (by kernel_rfl) (by kernel_rfl) (by kernel_rfl) ?hy25 ?rest25
  case hy25 => first | (refine StepS.read (by rfl) (fun wx hSw => ?_); (try dsimp only at hSw); obtain ⟨hHx, ⟨c00, c01, c02⟩, ⟨c10, c11, c12⟩, ⟨c20, c21, c22⟩, ⟨c30, c31, c32⟩, ⟨c40, c41, c42⟩, c50, c51, c52⟩ := hSw; go_simp; first | done | with_reducible rfl) | exact Or.inr ⟨by rfl, rfl⟩
  try simp only [List.getElem_toArray, List.getElem_cons_succ, List.getElem_cons_zero, Act.put, List.setIfInBounds_toArray, List.set_cons_zero, List.set_cons_succ]
  refine anyS_take (i := 26) (v := ?v26) rfl (by kernel_rfl) (by kernel_rfl) (by kernel_rfl) ?hy26 ?rest26
  case hy26 => first | (refine StepS.read (by rfl) (fun wx hSw => ?_); (try dsimp only at hSw); obtain ⟨hHx, ⟨c00, c01, c02⟩, ⟨c10, c11, c12⟩, ⟨c20, c21, c22⟩, ⟨c30, c31, c32⟩, ⟨c40, c41, c42⟩, c50, c51, c52⟩ := hSw; go_simp; first | done | with_reducible rfl) | exact Or.inr ⟨by rfl, rfl⟩
  try simp only [List.getElem_toArray, List.getElem_cons_succ, List.getElem_cons_zero, Act.put, List.setIfInBounds_toArray, List.set_cons_zero, List.set_cons_succ]
  refine anyS_take (i := 27) (v := .int .i64 E3) rfl (by kernel_rfl) (by kernel_rfl) (by kernel_rfl) ?hy27 ?rest27
  case hy27 => (refine Or.inl ⟨by rfl, fun wx hSw => ?_⟩; (try dsimp only at hSw); have hSk := hSw; obtain ⟨hHx, ⟨c00, c01, c02⟩, ⟨c10, c11, c12⟩, ⟨c20, c21, c22⟩, ⟨c30, c31, c32⟩, ⟨c40, c41, c42⟩, c50, c51, c52⟩ := hSw; go_simp; refine Or.inr ⟨_, _, _, rfl, ?_⟩; (with_reducible refine (num03_any E3 _ (Held.handle (w0 := w) (SA.held hSk))).mono ?_); rintro e w' ⟨rfl, hb'⟩; exact ⟨rfl, SA.step hSk hb'⟩)
  try simp only [List.getElem_toArray, List.getElem_cons_succ, List.getElem_cons_zero, Act.put, List.setIfInBounds_toArray, List.set_cons_zero, List.set_cons_succ]
  refine anyS_take (i := 28) (v := ?v28) rfl (by kernel_rfl) (by kernel_rfl) (by kernel_rfl) ?hy28 ?rest28
  case hy28 => first | (refine StepS.read (by rfl) (fun wx hSw => ?_); (try dsimp only at hSw); obtain ⟨hHx, ⟨c00, c01, c02⟩, ⟨c10, c11, c12⟩, ⟨c20, c21, c22⟩, ⟨c30, c31, c32⟩, ⟨c40, c41, c42⟩, c50, c51, c52⟩ := hSw; go_simp; first | done | with_reducible rfl) | exact Or.inr ⟨by rfl, rfl⟩
  try simp only [List.getElem_toArray, List.getElem_cons_succ, List.getElem_cons_zero, Act.put, List.setIfInBounds_toArray, List.set_cons_zero, List.set_cons_succ]
  refine anyS_take (i := 29) (v := ?v29) rfl (by kernel_rfl) (by kernel_rfl) (by kernel_rfl) ?hy29 ?rest29
  case hy29 => first | (refine StepS.read (by rfl) (fun wx hSw => ?_); (try dsimp only at hSw); obtain ⟨hHx, ⟨c00, c01, c02⟩, ⟨c10, c11, c12⟩, ⟨c20, c21, c22⟩, ⟨c30, c31, c32⟩, ⟨c40, c41, c42⟩, c50, c51, c52⟩ := hSw; go_simp; first | done | with_reducible rfl) | exact Or.inr ⟨by rfl, rfl⟩
  try simp only [List.getElem_toArray, List.getElem_cons_succ, List.getElem_cons_zero, Act.put, List.setIfInBounds_toArray, List.set_cons_zero, List.set_cons_succ]
  refine anyS_take (i := 30) (v := ?v30) rfl (by kernel_rfl) (by kernel_rfl) (by kernel_rfl) ?hy30 ?rest30
  case hy30 => first | (refine StepS.read (by rfl) (fun wx hSw => ?_); (try dsimp only at hSw); obtain ⟨hHx, ⟨c00, c01, c02⟩, ⟨c10, c11, c12⟩, ⟨c20, c21, c22⟩, ⟨c30, c31, c32⟩, ⟨c40, c41, c42⟩, c50, c51, c52⟩ := hSw; go_simp; first | done | with_reducible rfl) | exact Or.inr ⟨by rfl, rfl⟩
  try simp only [List.getElem_toArray, List.getElem_cons_succ, List.getElem_cons_zero, Act.put, List.setIfInBounds_toArray, List.set_cons_zero, List.set_cons_succ]
  refine anyS_take (i := 31) (v := ?v31) rfl (by kernel_rfl) (by kernel_rfl) (by kernel_rfl) ?hy31 ?rest31
  case hy31 => first | (refine StepS.read (by rfl) (fun wx hSw => ?_); (try dsimp only at hSw); obtain ⟨hHx, ⟨c00, c01, c02⟩, ⟨c10, c11, c12⟩, ⟨c20, c21, c22⟩, ⟨c30, c31, c32⟩, ⟨c40, c41, c42⟩, c50, c51, c52⟩ := hSw; go_simp; first | done | with_reducible rfl) | exact Or.inr ⟨by rfl, rfl⟩
  try simp only [List.getElem_toArray, List.getElem_cons_succ, List.getElem_cons_zero, Act.put, List.setIfInBounds_toArray, List.set_cons_zero, List.set_cons_succ]
  refine anyS_take (i := 32) (v := ?v32) rfl (by kernel_rfl) (by kernel_rfl) (by kernel_rfl) ?hy32 ?rest32
  case hy32 => first | (refine StepS.read (by rfl) (fun wx hSw => ?_); (try dsimp only at hSw); obtain ⟨hHx, ⟨c00, c01, c02⟩, ⟨c10, c11, c12⟩, ⟨c20, c21, c22⟩, ⟨c30, c31, c32⟩, ⟨c40, c41, c42⟩, c50, c51, c52⟩ := hSw; go_simp; first | done | with_reducible rfl) | exact Or.inr ⟨by rfl, rfl⟩
  try simp only [List.getElem_toArray, List.getElem_cons_succ, List.getElem_cons_zero, Act.put, List.setIfInBounds_toArray, List.set_cons_zero, List.set_cons_succ]
  refine anyS_take (i := 33) (v := ?v33) rfl (by kernel_rfl) (by kernel_rfl) (by kernel_rfl) ?hy33 ?rest33
  case hy33 => first | (refine StepS.read (by rfl) (fun wx hSw => ?_); (try dsimp only at hSw); obtain ⟨hHx, ⟨c00, c01, c02⟩, ⟨c10, c11, c12⟩, ⟨c20, c21, c22⟩, ⟨c30, c31, c32⟩, ⟨c40, c41, c42⟩, c50, c51, c52⟩ := hSw; go_simp; first | done | with_reducible rfl) | exact Or.inr ⟨by rfl, rfl⟩
  try simp only [List.getElem_toArray, List.getElem_cons_succ, List.getElem_cons_zero, Act.put, List.setIfInBounds_toArray, List.set_cons_zero, List.set_cons_succ]
  refine anyS_take (i := 34) (v := ?v34) rfl (by kernel_rfl) (by kernel_rfl) (by kernel_rfl) ?hy34 ?rest34
  case hy34 => first | (refine StepS.read (by rfl) (fun wx hSw => ?_); (try dsimp only at hSw); obtain ⟨hHx, ⟨c00, c01, c02⟩, ⟨c10, c11, c12⟩, ⟨c20, c21, c22⟩, ⟨c30, c31, c32⟩, ⟨c40, c41, c42⟩, c50, c51, c52⟩ := hSw; go_simp; first | done | with_reducible rfl) | exact Or.inr ⟨by rfl, rfl⟩
  try simp only [List.getElem_toArray, List.getElem_cons_succ, List.getElem_cons_zero, Act.put, List.setIfInBounds_toArray, List.set_cons_zero, List.set_cons_succ]
  refine anyS_take (i := 35) (v := ?v35) rfl (by kernel_rfl) (by kernel_rfl) (by kernel_rfl) ?hy35 ?rest35
  case hy35 => first | (refine StepS.read (by rfl) (fun wx hSw => ?_); (try dsimp only at hSw); obtain ⟨hHx, ⟨c00, c01, c02⟩, ⟨c10, c11, c12⟩, ⟨c20, c21, c22⟩, ⟨c30, c31, c32⟩, ⟨c40, c41, c42⟩, c50, c51, c52⟩ := hSw; go_simp; first | done | with_reducible rfl) | exact Or.inr ⟨by rfl, rfl⟩
  try simp only [List.getElem_toArray, List.getElem_cons_succ, List.getElem_cons_zero, Act.put, List.setIfInBounds_toArray, List.set_cons_zero, List.set_cons_succ]
  refine anyS_take (i := 36) (v := ?v36) rfl (by kernel_rfl) (by kernel_rfl) (by kernel_rfl) ?hy36 ?rest36
  case hy36 => first | (refine StepS.read (by rfl) (fun wx hSw => ?_); (try dsimp only at hSw); obtain ⟨hHx, ⟨c00, c01, c02⟩, ⟨c10, c11, c12⟩, ⟨c20, c21, c22⟩, ⟨c30, c31, c32⟩, ⟨c40, c41, c42⟩, c50, c51, c52⟩ := hSw; go_simp; first | done | with_reducible rfl) | exact Or.inr ⟨by rfl, rfl⟩
  try simp only [List.getElem_toArray, List.getElem_cons_succ, List.getElem_cons_zero, Act.put, List.setIfInBounds_toArray, List.set_cons_zero, List.set_cons_succ]
  refine anyS_take (i := 37) (v := ?v37) rfl (by kernel_rfl) (by kernel_rfl) (by kernel_rfl) ?hy37 ?rest37
  case hy37 => first | (refine StepS.read (by rfl) (fun wx hSw => ?_); (try dsimp only at hSw); obtain ⟨hHx, ⟨c00, c01, c02⟩, ⟨c10, c11, c12⟩, ⟨c20, c21, c22⟩, ⟨c30, c31, c32⟩, ⟨c40, c41, c42⟩, c50, c51, c52⟩ := hSw; go_simp; first | done | with_reducible rfl) | exact Or.inr ⟨by rfl, rfl⟩
  try simp only [List.getElem_toArray, List.getElem_cons_succ, List.getElem_cons_zero, Act.put, List.setIfInBounds_toArray, List.set_cons_zero, List.set_cons_succ]
  refine anyS_take (i := 38) (v := .int .i64 E4) rfl (by kernel_rfl) (by kernel_rfl) (by kernel_rfl) ?hy38 ?rest38
  case hy38 => (refine Or.inl ⟨by rfl, fun wx hSw => ?_⟩; (try dsimp only at hSw); have hSk := hSw; obtain ⟨hHx, ⟨c00, c01, c02⟩, ⟨c10, c11, c12⟩, ⟨c20, c21, c22⟩, ⟨c30, c31, c32⟩, ⟨c40, c41, c42⟩, c50, c51, c52⟩ := hSw; go_simp; refine Or.inr ⟨_, _, _, rfl, ?_⟩; (with_reducible refine (num03_any E4 _ (Held.handle (w0 := w) (SA.held hSk))).mono ?_); rintro e w' ⟨rfl, hb'⟩; exact ⟨rfl, SA.step hSk hb'⟩)
  try simp only [List.getElem_toArray, List.getElem_cons_succ, List.getElem_cons_zero, Act.put, List.setIfInBounds_toArray, List.set_cons_zero, List.set_cons_succ]
  refine anyS_take (i := 39) (v := ?v39) rfl (by kernel_rfl) (by kernel_rfl) (by kernel_rfl) ?hy39 ?rest39
  case hy39 => first | (refine StepS.read (by rfl) (fun wx hSw => ?_); (try dsimp only at hSw); obtain ⟨hHx, ⟨c00, c01, c02⟩, ⟨c10, c11, c12⟩, ⟨c20, c21, c22⟩, ⟨c30, c31, c32⟩, ⟨c40, c41, c42⟩, c50, c51, c52⟩ := hSw; go_simp; first | done | with_reducible rfl) | exact Or.inr ⟨by rfl, rfl⟩
  try simp only [List.getElem_toArray, List.getElem_cons_succ, List.getElem_cons_zero, Act.put, List.setIfInBounds_toArray, List.set_cons_zero, List.set_cons_succ]
  refine anyS_take (i := 40) (v := ?v40) rfl (by kernel_rfl) (by kernel_rfl) (by kernel_rfl) ?hy40 ?rest40
  case hy40 => first | (refine StepS.read (by rfl) (fun wx hSw => ?_); (try dsimp only at hSw); obtain ⟨hHx, ⟨c00, c01, c02⟩, ⟨c10, c11, c12⟩, ⟨c20, c21, c22⟩, ⟨c30, c31, c32⟩, ⟨c40, c41, c42⟩, c50, c51, c52⟩ := hSw; go_simp; first | done | with_reducible rfl) | exact Or.inr ⟨by rfl, rfl⟩
  try simp only [List.getElem_toArray, List.getElem_cons_succ, List.getElem_cons_zero, Act.put, List.setIfInBounds_toArray, List.set_cons_zero, List.set_cons_succ]
  refine anyS_take (i := 41) (v := ?v41) rfl (by kernel_rfl) (by kernel_rfl) (by kernel_rfl) ?hy41 ?rest41
  case hy41 => first | (refine StepS.read (by rfl) (fun wx hSw => ?_); (try dsimp only at hSw); obtain ⟨hHx, ⟨c00, c01, c02⟩, ⟨c10, c11, c12⟩, ⟨c20, c21, c22⟩, ⟨c30, c31, c32⟩, ⟨c40, c41, c42⟩, c50, c51, c52⟩ := hSw; go_simp; first | done | with_reducible rfl) | exact Or.inr ⟨by rfl, rfl⟩
  try simp only [List.getElem_toArray, List.getElem_cons_succ, List.getElem_cons_zero, Act.put, List.setIfInBounds_toArray, List.set_cons_zero, List.set_cons_succ]
  refine anyS_take (i := 42) (v := ?v42) rfl (by kernel_rfl) (by kernel_rfl) (by kernel_rfl) ?hy42 ?rest42
  case hy42 => first | (refine StepS.read (by rfl) (fun wx hSw => ?_); (try dsimp only at hSw); obtain ⟨hHx, ⟨c00, c01, c02⟩, ⟨c10, c11, c12⟩, ⟨c20, c21, c22⟩, ⟨c30, c31, c32⟩, ⟨c40, c41, c42⟩, c50, c51, c52⟩ := hSw; go_simp; first | done | with_reducible rfl) | exact Or.inr ⟨by rfl, rfl⟩
  try simp only [List.getElem_toArray, List.getElem_cons_succ, List.getElem_cons_zero, Act.put, List.setIfInBounds_toArray, List.set_cons_zero, List.set_cons_succ]
  refine anyS_take (i := 43) (v := ?v43) rfl (by kernel_rfl) (by kernel_rfl) (by kernel_rfl) ?hy43 ?rest43
  case hy43 => first | (refine StepS.read (by rfl) (fun wx hSw => ?_); (try dsimp only at hSw); obtain ⟨hHx, ⟨c00, c01, c02⟩, ⟨c10, c11, c12⟩, ⟨c20, c21, c22⟩, ⟨c30, c31, c32⟩, ⟨c40, c41, c42⟩, c50, c51, c52⟩ := hSw; go_simp; first | done | with_reducible rfl) | exact Or.inr ⟨by rfl, rfl⟩
  try simp only [List.getElem_toArray, List.getElem_cons_succ, List.getElem_cons_zero, Act.put, List.setIfInBounds_toArray, List.set_cons_zero, List.set_cons_succ]
  refine anyS_take (i := 44) (v := errV 1) rfl (by kernel_rfl) (by kernel_rfl) (by kernel_rfl) ?hy44 ?rest44
  case hy44 => (refine Or.inl ⟨by rfl, fun wx hSw => ?_⟩; (try dsimp only at hSw); have hSk := hSw; obtain ⟨hHx, ⟨c00, c01, c02⟩, ⟨c10, c11, c12⟩, ⟨c20, c21, c22⟩, ⟨c30, c31, c32⟩, ⟨c40, c41, c42⟩, c50, c51, c52⟩ := hSw; go_simp; refine Or.inr ⟨_, _, _, rfl, ?_⟩; (with_reducible refine (rcheck_no m s _ h mm).mono ?_); rintro e w' ⟨rfl, hb'⟩; exact ⟨rfl, SA.step hSk hb'⟩)
  try simp only [List.getElem_toArray, List.getElem_cons_succ, List.getElem_cons_zero, Act.put, List.setIfInBounds_toArray, List.set_cons_zero, List.set_cons_succ]
  refine anyS_take (i := 45) (v := ?v45) rfl (by kernel_rfl) (by kernel_rfl) (by kernel_rfl) ?hy45 ?rest45
  case hy45 => first | (refine StepS.read (by rfl) (fun wx hSw => ?_); (try dsimp only at hSw); obtain ⟨hHx, ⟨c00, c01, c02⟩, ⟨c10, c11, c12⟩, ⟨c20, c21, c22⟩, ⟨c30, c31, c32⟩, ⟨c40, c41, c42⟩, c50, c51, c52⟩ := hSw; go_simp; first | done | with_reducible rfl) | exact Or.inr ⟨by rfl, rfl⟩
  try simp only [List.getElem_toArray, List.getElem_cons_succ, List.getElem_cons_zero, Act.put, List.setIfInBounds_toArray, List.set_cons_zero, List.set_cons_succ]
  refine anyS_take (i := 46) (v := ?v46) rfl (by kernel_rfl) (by kernel_rfl) (by kernel_rfl) ?hy46 ?rest46
  case hy46 => first | (refine StepS.read (by rfl) (fun wx hSw => ?_); (try dsimp only at hSw); obtain ⟨hHx, ⟨c00, c01, c02⟩, ⟨c10, c11, c12⟩, ⟨c20, c21, c22⟩, ⟨c30, c31, c32⟩, ⟨c40, c41, c42⟩, c50, c51, c52⟩ := hSw; go_simp; first | done | with_reducible rfl) | exact Or.inr ⟨by rfl, rfl⟩
  try simp only [List.getElem_toArray, List.getElem_cons_succ, List.getElem_cons_zero, Act.put, List.setIfInBounds_toArray, List.set_cons_zero, List.set_cons_succ]
  refine anyS_take (i := 47) (v := ?v47) rfl (by kernel_rfl) (by kernel_rfl) (by kernel_rfl) ?hy47 ?rest47
  case hy47 => first | (refine StepS.read (by rfl) (fun wx hSw => ?_); (try dsimp only at hSw); obtain ⟨hHx, ⟨c00, c01, c02⟩, ⟨c10, c11, c12⟩, ⟨c20, c21, c22⟩, ⟨c30, c31, c32⟩, ⟨c40, c41, c42⟩, c50, c51, c52⟩ := hSw; go_simp; first | done | with_reducible rfl) | exact Or.inr ⟨by rfl, rfl⟩
  try simp only [List.getElem_toArray, List.getElem_cons_succ, List.getElem_cons_zero, Act.put, List.setIfInBounds_toArray, List.set_cons_zero, List.set_cons_succ]
  refine anyS_take (i := 48) (v := .bool false) rfl (by kernel_rfl) (by kernel_rfl) (by kernel_rfl) ?hy48 ?rest48
  case hy48 => (refine Or.inl ⟨by rfl, fun wx hSw => ?_⟩; (try dsimp only at hSw); have hSk := hSw; obtain ⟨hHx, ⟨c00, c01, c02⟩, ⟨c10, c11, c12⟩, ⟨c20, c21, c22⟩, ⟨c30, c31, c32⟩, ⟨c40, c41, c42⟩, c50, c51, c52⟩ := hSw; go_simp; refine Or.inr ⟨_, _, _, rfl, ?_⟩; (with_reducible refine (rmay3_no m s _ h mm).mono ?_); rintro e w' ⟨rfl, hb'⟩; exact ⟨rfl, SA.step hSk hb'⟩)
  try simp only [List.getElem_toArray, List.getElem_cons_succ, List.getElem_cons_zero, Act.put, List.setIfInBounds_toArray, List.set_cons_zero, List.set_cons_succ]
  refine anyS_take (i := 49) (v := ?v49) rfl (by kernel_rfl) (by kernel_rfl) (by kernel_rfl) ?hy49 ?rest49
  case hy49 => first | (refine StepS.read (by rfl) (fun wx hSw => ?_); (try dsimp only at hSw); obtain ⟨hHx, ⟨c00, c01, c02⟩, ⟨c10, c11, c12⟩, ⟨c20, c21, c22⟩, ⟨c30, c31, c32⟩, ⟨c40, c41, c42⟩, c50, c51, c52⟩ := hSw; go_simp; first | done | with_reducible rfl) | exact Or.inr ⟨by rfl, rfl⟩
  try simp only [List.getElem_toArray, List.getElem_cons_succ, List.getElem_cons_zero, Act.put, List.setIfInBounds_toArray, List.set_cons_zero, List.set_cons_succ]
  refine anyS_take (i := 50) (v := ?v50) rfl (by kernel_rfl) (by kernel_rfl) (by kernel_rfl) ?hy50 ?rest50
  case hy50 => first | (refine StepS.read (by rfl) (fun wx hSw => ?_); (try dsimp only at hSw); obtain ⟨hHx, ⟨c00, c01, c02⟩, ⟨c10, c11, c12⟩, ⟨c20, c21, c22⟩, ⟨c30, c31, c32⟩, ⟨c40, c41, c42⟩, c50, c51, c52⟩ := hSw; go_simp; first | done | with_reducible rfl) | exact Or.inr ⟨by rfl, rfl⟩
  try simp only [List.getElem_toArray, List.getElem_cons_succ, List.getElem_cons_zero, Act.put, List.setIfInBounds_toArray, List.set_cons_zero, List.set_cons_succ]
  refine anyS_take (i := 51) (v := ?v51) rfl (by kernel_rfl) (by kernel_rfl) (by kernel_rfl) ?hy51 ?rest51
  case hy51 => first | (refine StepS.read (by rfl) (fun wx hSw => ?_); (try dsimp only at hSw); obtain ⟨hHx, ⟨c00, c01, c02⟩, ⟨c10, c11, c12⟩, ⟨c20, c21, c22⟩, ⟨c30, c31, c32⟩, ⟨c40, c41, c42⟩, c50, c51, c52⟩ := hSw; go_simp; first | done | with_reducible rfl) | exact Or.inr ⟨by rfl, rfl⟩
  try simp only [List.getElem_toArray, List.getElem_cons_succ, List.getElem_cons_zero, Act.put, List.setIfInBounds_toArray, List.set_cons_zero, List.set_cons_succ]
  refine anyS_take (i := 52) (v := .bool true) rfl (by kernel_rfl) (by kernel_rfl) (by kernel_rfl) ?hy52 ?rest52
  case hy52 => (refine Or.inl ⟨by rfl, fun wx hSw => ?_⟩; (try dsimp only at hSw); have hSk := hSw; obtain ⟨hHx, ⟨c00, c01, c02⟩, ⟨c10, c11, c12⟩, ⟨c20, c21, c22⟩, ⟨c30, c31, c32⟩, ⟨c40, c41, c42⟩, c50, c51, c52⟩ := hSw; go_simp; refine Or.inr ⟨_, _, _, rfl, ?_⟩; (with_reducible refine (sure03 _ (Held.handle (w0 := w) (SA.held hSk))).mono ?_); rintro e w' ⟨rfl, hb'⟩; exact ⟨rfl, SA.step hSk hb'⟩)
  try simp only [List.getElem_toArray, List.getElem_cons_succ, List.getElem_cons_zero, Act.put, List.setIfInBounds_toArray, List.set_cons_zero, List.set_cons_succ]
  refine anyS_take (i := 53) (v := ?v53) rfl (by kernel_rfl) (by kernel_rfl) (by kernel_rfl) ?hy53 ?rest53
  case hy53 => first | (refine StepS.read (by rfl) (fun wx hSw => ?_); (try dsimp only at hSw); obtain ⟨hHx, ⟨c00, c01, c02⟩, ⟨c10, c11, c12⟩, ⟨c20, c21, c22⟩, ⟨c30, c31, c32⟩, ⟨c40, c41, c42⟩, c50, c51, c52⟩ := hSw; go_simp; first | done | with_reducible rfl) | exact Or.inr ⟨by rfl, rfl⟩
  try simp only [List.getElem_toArray, List.getElem_cons_succ, List.getElem_cons_zero, Act.put, List.setIfInBounds_toArray, List.set_cons_zero, List.set_cons_succ]
  refine anyS_take (i := 54) (v := ?v54) rfl (by kernel_rfl) (by kernel_rfl) (by kernel_rfl) ?hy54 ?rest54
  case hy54 => first | (refine StepS.read (by rfl) (fun wx hSw => ?_); (try dsimp only at hSw); obtain ⟨hHx, ⟨c00, c01, c02⟩, ⟨c10, c11, c12⟩, ⟨c20, c21, c22⟩, ⟨c30, c31, c32⟩, ⟨c40, c41, c42⟩, c50, c51, c52⟩ := hSw; go_simp; first | done | with_reducible rfl) | exact Or.inr ⟨by rfl, rfl⟩
  try simp only [List.getElem_toArray, List.getElem_cons_succ, List.getElem_cons_zero, Act.put, List.setIfInBounds_toArray, List.set_cons_zero, List.set_cons_succ]
  refine anyS_done (by kernel_rfl) (fun wx hSw => ?_) _
  (try dsimp only at hSw)
  go_wp2_with (fail)
  go_ret
  exact ⟨rfl, Held.below (w0 := w) (SA.held hSw)⟩
theorem walkRatioFits (a b m s n p : Int) (ha : 0 ≤ a ∧ a ≤ 18446744073709551615) (hb : 0 ≤ b ∧ b ≤ 18446744073709551615) (hm : 0 ≤ m ∧ m ≤ 4294967295) (is : InR s) (hn : InR n) (hp : InR p) (w : World) (hg : w.cell? ⟨0, 0, none⟩ = some asHandle) :
    Calls Tryd.prog 7 #[.int .u64 a, .int .u64 b, .agg #[.int .u32 m, .int .i64 s, .int .i64 n, .int .i64 p]] w fun e w' => e = .returned (.bool true) ∧ Below w.heap.size w w' := by
  by_cases h : 1 ≤ m ∧ 0 ≤ s ∧ s ≤ 31
  · exact fits_ok a b m s n p ha.1 hb.1 hm.1 (by omega) is hn hp h.1 h.2.1 h.2.2 w hg
  · exact fits_no a b m s n p ha.1 hb.1 hm.1 (by omega) is hn hp h w hg
end Go.Proofs.YtffdglhdklmjoaaDoor
