/-
  Layer 13: the statement SpanMeets, some cases.
-/
import Derived.Test.YtgkpbokipnfddaaDoorV13m
namespace Go.Proofs.YtgkpbokipnfddaaDoor
open Go.RowKit Go.Extern.Stop Go.Stop Go.Extern
set_option linter.unusedVariables false
set_option linter.unusedSimpArgs false
set_option maxRecDepth 100000 in
set_option maxHeartbeats 8000000 in
theorem meets_C2_pos (a0 a1 b0 b1 o0 o1 : Int) (i1 : InR a0) (i2 : InR a1) (i3 : InR b0) (i4 : InR b1) (j1 : -2147483648 ≤ o0 ∧ o0 ≤ 2147483647) (j2 : -2147483648 ≤ o1 ∧ o1 ≤ 2147483647) (h1 : a0 ≤ a1) (h2 : b0 ≤ b1) (h3 : mn a1 b1 < mx a0 b0) (h4 : a0 ≤ o0 ∧ o0 ≤ a1) (h5 : ¬ (b0 ≤ o0 ∧ o0 ≤ b1)) (g1 : 0 ≤ o1) (w : World) (hg : w.cell? ⟨0, 0, none⟩ = some asHandle) :
    Calls Tryd.prog 6 #[.agg #[.int .i64 a0, .int .i64 a1], .agg #[.int .i64 b0, .int .i64 b1], .agg #[.int .i32 o0, .int .i32 o1]] w fun e w' => e = .returned (.bool true) ∧ Below w.heap.size w w' := by
  have hH := Held.start hg
  go_enter Tryd.func6, Tryd.ntmps6
  go_wp2_with (fail)
  go_region
  · go_wp2_with (fail)
    go_at_call 14
    (with_reducible refine (sp_meet_cc a0 a1 b0 b1 _ h1 h2 h3).mono ?_)
    rintro e w1 ⟨rfl, HB⟩
    have Ka := Lib.hid (B2.step (show B2 (w.heap.size) (.int .i64 a0) (.int .i64 a1) _ from ⟨(by first | omega | (simp; done) | (simp; omega)), by go_simp, by go_simp⟩) HB)
    have Ko := Lib.hid (B2.step (show B2 (w.heap.size + 1 + 1) (.int .i32 o0) (.int .i32 o1) _ from ⟨(by first | omega | (simp; done) | (simp; omega)), by go_simp, by go_simp⟩) HB)
    have Kx := Lib.hid (B2.step (show B2 (w.heap.size + 1 + 1 + 1) (.int .i64 a0) (.int .i64 a1) _ from ⟨(by first | omega | (simp; done) | (simp; omega)), by go_simp, by go_simp⟩) HB)
    have Ky := Lib.hid (B2.step (show B2 (w.heap.size + 1 + 1 + 1 + 1) (.int .i64 b0) (.int .i64 b1) _ from ⟨(by first | omega | (simp; done) | (simp; omega)), by go_simp, by go_simp⟩) HB)
    have HBB := Below.trans (show Below w.heap.size w _ from by repeat (first | with_reducible assumption | exact Below.refl _ _ | refine Below.drew ?_ | refine Below.setCell ?_ (by first | omega | (simp; done) | (simp; omega)) _ | refine Below.alloc ?_ (by first | omega | (simp; done) | (simp; omega)) _)) (Below.mono (B' := w.heap.size) HB (by first | omega | (simp; done) | (simp; omega)))
    replace hH := Held.step (w0 := w) hH HBB
    have hz1 := HBB.size
    obtain ⟨hc1, hf1⟩ := bcell HB
    clear HB HBB
    obtain ⟨za, ca0, ca1⟩ := Ka.out
    obtain ⟨zo, co0, co1⟩ := Ko.out
    obtain ⟨zx, cx0, cx1⟩ := Kx.out
    obtain ⟨zy, cy0, cy1⟩ := Ky.out
    go_wp2_with (fail)
    go_at_call 14
    (with_reducible refine (sp_meet_cc b0 b1 a0 a1 _ h2 h1 (mx_sw h3)).mono ?_)
    rintro e w2 ⟨rfl, HB⟩
    have Km := Lib.hid (B2.step (show B2 (w1.heap.size) (.int .i64 0) (.int .i64 0) _ from ⟨(by first | omega | (simp; done) | (simp; omega)), by go_simp, by go_simp⟩) HB)
    have HBB := Below.trans (show Below w1.heap.size w1 _ from by repeat (first | with_reducible assumption | exact Below.refl _ _ | refine Below.drew ?_ | refine Below.setCell ?_ (by first | omega | (simp; done) | (simp; omega)) _ | refine Below.alloc ?_ (by first | omega | (simp; done) | (simp; omega)) _)) (Below.mono (B' := w1.heap.size) HB (by first | omega | (simp; done) | (simp; omega)))
    clear za ca0 ca1 zo co0 co1 zx cx0 cx1 zy cy0 cy1
    replace Ka := Lib.hid (B2.step Ka.out HBB)
    replace Ko := Lib.hid (B2.step Ko.out HBB)
    replace Kx := Lib.hid (B2.step Kx.out HBB)
    replace Ky := Lib.hid (B2.step Ky.out HBB)
    replace hH := Held.step (w0 := w) hH HBB
    have hz2 := HBB.size
    obtain ⟨hc2, hf2⟩ := bcell HB
    clear HB HBB
    clear hc1 hf1
    obtain ⟨za, ca0, ca1⟩ := Ka.out
    obtain ⟨zo, co0, co1⟩ := Ko.out
    obtain ⟨zx, cx0, cx1⟩ := Kx.out
    obtain ⟨zy, cy0, cy1⟩ := Ky.out
    obtain ⟨zm, cm0, cm1⟩ := Km.out
    go_wp2_with (fail)
    go_at_call 18
    (with_reducible refine (sp_check_ok _ _ _ (by omega)).mono ?_)
    rintro e w3 ⟨rfl, HB⟩
    have Kn := Lib.hid (B2.step (show B2 (w2.heap.size) (.int .i64 0) (.int .i64 0) _ from ⟨(by first | omega | (simp; done) | (simp; omega)), by go_simp, by go_simp⟩) HB)
    have HBB := Below.trans (show Below w2.heap.size w2 _ from by repeat (first | with_reducible assumption | exact Below.refl _ _ | refine Below.drew ?_ | refine Below.setCell ?_ (by first | omega | (simp; done) | (simp; omega)) _ | refine Below.alloc ?_ (by first | omega | (simp; done) | (simp; omega)) _)) (Below.mono (B' := w2.heap.size) HB (by first | omega | (simp; done) | (simp; omega)))
    clear za ca0 ca1 zo co0 co1 zx cx0 cx1 zy cy0 cy1 zm cm0 cm1
    replace Ka := Lib.hid (B2.step Ka.out HBB)
    replace Ko := Lib.hid (B2.step Ko.out HBB)
    replace Kx := Lib.hid (B2.step Kx.out HBB)
    replace Ky := Lib.hid (B2.step Ky.out HBB)
    replace Km := Lib.hid (B2.step Km.out HBB)
    replace hH := Held.step (w0 := w) hH HBB
    have hz3 := HBB.size
    obtain ⟨hc3, hf3⟩ := bcell HB
    clear HB HBB
    clear hc2 hf2
    obtain ⟨za, ca0, ca1⟩ := Ka.out
    obtain ⟨zo, co0, co1⟩ := Ko.out
    obtain ⟨zx, cx0, cx1⟩ := Kx.out
    obtain ⟨zy, cy0, cy1⟩ := Ky.out
    obtain ⟨zm, cm0, cm1⟩ := Km.out
    obtain ⟨zn, cn0, cn1⟩ := Kn.out
    go_wp2_with (fail)
    go_at_call 18
    (with_reducible refine (sp_check_ok _ _ _ (by omega)).mono ?_)
    rintro e w4 ⟨rfl, HB⟩
    have HBB := Below.trans (show Below w3.heap.size w3 _ from by repeat (first | with_reducible assumption | exact Below.refl _ _ | refine Below.drew ?_ | refine Below.setCell ?_ (by first | omega | (simp; done) | (simp; omega)) _ | refine Below.alloc ?_ (by first | omega | (simp; done) | (simp; omega)) _)) (Below.mono (B' := w3.heap.size) HB (by first | omega | (simp; done) | (simp; omega)))
    clear za ca0 ca1 zo co0 co1 zx cx0 cx1 zy cy0 cy1 zm cm0 cm1 zn cn0 cn1
    replace Ka := Lib.hid (B2.step Ka.out HBB)
    replace Ko := Lib.hid (B2.step Ko.out HBB)
    replace Kx := Lib.hid (B2.step Kx.out HBB)
    replace Ky := Lib.hid (B2.step Ky.out HBB)
    replace Km := Lib.hid (B2.step Km.out HBB)
    replace Kn := Lib.hid (B2.step Kn.out HBB)
    replace hH := Held.step (w0 := w) hH HBB
    have hz4 := HBB.size
    obtain ⟨hc4, hf4⟩ := bcell HB
    clear HB HBB
    clear hc3 hf3
    obtain ⟨za, ca0, ca1⟩ := Ka.out
    obtain ⟨zo, co0, co1⟩ := Ko.out
    obtain ⟨zx, cx0, cx1⟩ := Kx.out
    obtain ⟨zy, cy0, cy1⟩ := Ky.out
    obtain ⟨zm, cm0, cm1⟩ := Km.out
    obtain ⟨zn, cn0, cn1⟩ := Kn.out
    go_wp2_with (fail)
    go_at_call 17
    (with_reducible refine (sp_has_is _ _ _ _ (by omega)).mono ?_)
    rintro e w5 ⟨rfl, HB⟩
    have HBB := Below.trans (show Below w4.heap.size w4 _ from by repeat (first | with_reducible assumption | exact Below.refl _ _ | refine Below.drew ?_ | refine Below.setCell ?_ (by first | omega | (simp; done) | (simp; omega)) _ | refine Below.alloc ?_ (by first | omega | (simp; done) | (simp; omega)) _)) (Below.mono (B' := w4.heap.size) HB (by first | omega | (simp; done) | (simp; omega)))
    clear za ca0 ca1 zo co0 co1 zx cx0 cx1 zy cy0 cy1 zm cm0 cm1 zn cn0 cn1
    replace Ka := Lib.hid (B2.step Ka.out HBB)
    replace Ko := Lib.hid (B2.step Ko.out HBB)
    replace Kx := Lib.hid (B2.step Kx.out HBB)
    replace Ky := Lib.hid (B2.step Ky.out HBB)
    replace Km := Lib.hid (B2.step Km.out HBB)
    replace Kn := Lib.hid (B2.step Kn.out HBB)
    replace hH := Held.step (w0 := w) hH HBB
    have hz5 := HBB.size
    obtain ⟨hc5, hf5⟩ := bcell HB
    clear HB HBB
    clear hc4 hf4
    obtain ⟨za, ca0, ca1⟩ := Ka.out
    obtain ⟨zo, co0, co1⟩ := Ko.out
    obtain ⟨zx, cx0, cx1⟩ := Kx.out
    obtain ⟨zy, cy0, cy1⟩ := Ky.out
    obtain ⟨zm, cm0, cm1⟩ := Km.out
    obtain ⟨zn, cn0, cn1⟩ := Kn.out
    go_wp2_with (fail)
    go_at_call 17
    (with_reducible refine (sp_has_not _ _ _ _ (by omega)).mono ?_)
    rintro e w6 ⟨rfl, HB⟩
    have HBB := Below.trans (show Below w5.heap.size w5 _ from by repeat (first | with_reducible assumption | exact Below.refl _ _ | refine Below.drew ?_ | refine Below.setCell ?_ (by first | omega | (simp; done) | (simp; omega)) _ | refine Below.alloc ?_ (by first | omega | (simp; done) | (simp; omega)) _)) (Below.mono (B' := w5.heap.size) HB (by first | omega | (simp; done) | (simp; omega)))
    clear za ca0 ca1 zo co0 co1 zx cx0 cx1 zy cy0 cy1 zm cm0 cm1 zn cn0 cn1
    replace Ka := Lib.hid (B2.step Ka.out HBB)
    replace Ko := Lib.hid (B2.step Ko.out HBB)
    replace Kx := Lib.hid (B2.step Kx.out HBB)
    replace Ky := Lib.hid (B2.step Ky.out HBB)
    replace Km := Lib.hid (B2.step Km.out HBB)
    replace Kn := Lib.hid (B2.step Kn.out HBB)
    replace hH := Held.step (w0 := w) hH HBB
    have hz6 := HBB.size
    obtain ⟨hc6, hf6⟩ := bcell HB
    clear HB HBB
    clear hc5 hf5
    obtain ⟨za, ca0, ca1⟩ := Ka.out
    obtain ⟨zo, co0, co1⟩ := Ko.out
    obtain ⟨zx, cx0, cx1⟩ := Kx.out
    obtain ⟨zy, cy0, cy1⟩ := Ky.out
    obtain ⟨zm, cm0, cm1⟩ := Km.out
    obtain ⟨zn, cn0, cn1⟩ := Kn.out
    go_wp2_with (fail)
    go_at_call 15
    (with_reducible refine (sp_grow _ _ _ _ h1 g1 i1 i2 (by omega)).mono ?_)
    rintro e w7 ⟨rfl, HB⟩
    have HBB := Below.trans (show Below w6.heap.size w6 _ from by repeat (first | with_reducible assumption | exact Below.refl _ _ | refine Below.drew ?_ | refine Below.setCell ?_ (by first | omega | (simp; done) | (simp; omega)) _ | refine Below.alloc ?_ (by first | omega | (simp; done) | (simp; omega)) _)) (Below.mono (B' := w6.heap.size) HB (by first | omega | (simp; done) | (simp; omega)))
    clear za ca0 ca1 zo co0 co1 zx cx0 cx1 zy cy0 cy1 zm cm0 cm1 zn cn0 cn1
    replace Ka := Lib.hid (B2.step Ka.out HBB)
    replace Ko := Lib.hid (B2.step Ko.out HBB)
    replace Kx := Lib.hid (B2.step Kx.out HBB)
    replace Ky := Lib.hid (B2.step Ky.out HBB)
    replace Km := Lib.hid (B2.step Km.out HBB)
    replace Kn := Lib.hid (B2.step Kn.out HBB)
    replace hH := Held.step (w0 := w) hH HBB
    have hz7 := HBB.size
    obtain ⟨hc7, hf7⟩ := bcell HB
    clear HB HBB
    clear hc6 hf6
    obtain ⟨za, ca0, ca1⟩ := Ka.out
    obtain ⟨zo, co0, co1⟩ := Ko.out
    obtain ⟨zx, cx0, cx1⟩ := Kx.out
    obtain ⟨zy, cy0, cy1⟩ := Ky.out
    obtain ⟨zm, cm0, cm1⟩ := Km.out
    obtain ⟨zn, cn0, cn1⟩ := Kn.out
    go_wp2_with (fail)
    go_at_call 18
    (with_reducible refine (sp_check_ok _ _ _ (by omega)).mono ?_)
    rintro e w8 ⟨rfl, HB⟩
    have Kg := Lib.hid (B2.step (show B2 (w7.heap.size) (.int .i64 (sat (a0 - o1))) (.int .i64 (sat (a1 + o1))) _ from ⟨(by first | omega | (simp; done) | (simp; omega)), by go_simp, by go_simp⟩) HB)
    have HBB := Below.trans (show Below w7.heap.size w7 _ from by repeat (first | with_reducible assumption | exact Below.refl _ _ | refine Below.drew ?_ | refine Below.setCell ?_ (by first | omega | (simp; done) | (simp; omega)) _ | refine Below.alloc ?_ (by first | omega | (simp; done) | (simp; omega)) _)) (Below.mono (B' := w7.heap.size) HB (by first | omega | (simp; done) | (simp; omega)))
    clear za ca0 ca1 zo co0 co1 zx cx0 cx1 zy cy0 cy1 zm cm0 cm1 zn cn0 cn1
    replace Ka := Lib.hid (B2.step Ka.out HBB)
    replace Ko := Lib.hid (B2.step Ko.out HBB)
    replace Kx := Lib.hid (B2.step Kx.out HBB)
    replace Ky := Lib.hid (B2.step Ky.out HBB)
    replace Km := Lib.hid (B2.step Km.out HBB)
    replace Kn := Lib.hid (B2.step Kn.out HBB)
    replace hH := Held.step (w0 := w) hH HBB
    have hz8 := HBB.size
    obtain ⟨hc8, hf8⟩ := bcell HB
    clear HB HBB
    clear hc7 hf7
    obtain ⟨za, ca0, ca1⟩ := Ka.out
    obtain ⟨zo, co0, co1⟩ := Ko.out
    obtain ⟨zx, cx0, cx1⟩ := Kx.out
    obtain ⟨zy, cy0, cy1⟩ := Ky.out
    obtain ⟨zm, cm0, cm1⟩ := Km.out
    obtain ⟨zn, cn0, cn1⟩ := Kn.out
    obtain ⟨zg, cg0, cg1⟩ := Kg.out
    go_wp2_with (fail)
    go_at_call 16
    (with_reducible refine (sp_mid _ _ _ h1 i1 i2).mono ?_)
    rintro e w9 ⟨rfl, HB⟩
    have HBB := Below.trans (show Below w8.heap.size w8 _ from by repeat (first | with_reducible assumption | exact Below.refl _ _ | refine Below.drew ?_ | refine Below.setCell ?_ (by first | omega | (simp; done) | (simp; omega)) _ | refine Below.alloc ?_ (by first | omega | (simp; done) | (simp; omega)) _)) (Below.mono (B' := w8.heap.size) HB (by first | omega | (simp; done) | (simp; omega)))
    clear za ca0 ca1 zo co0 co1 zx cx0 cx1 zy cy0 cy1 zm cm0 cm1 zn cn0 cn1 zg cg0 cg1
    replace Ka := Lib.hid (B2.step Ka.out HBB)
    replace Ko := Lib.hid (B2.step Ko.out HBB)
    replace Kx := Lib.hid (B2.step Kx.out HBB)
    replace Ky := Lib.hid (B2.step Ky.out HBB)
    replace Km := Lib.hid (B2.step Km.out HBB)
    replace Kn := Lib.hid (B2.step Kn.out HBB)
    replace Kg := Lib.hid (B2.step Kg.out HBB)
    replace hH := Held.step (w0 := w) hH HBB
    have hz9 := HBB.size
    obtain ⟨hc9, hf9⟩ := bcell HB
    clear HB HBB
    clear hc8 hf8
    obtain ⟨za, ca0, ca1⟩ := Ka.out
    obtain ⟨zo, co0, co1⟩ := Ko.out
    obtain ⟨zx, cx0, cx1⟩ := Kx.out
    obtain ⟨zy, cy0, cy1⟩ := Ky.out
    obtain ⟨zm, cm0, cm1⟩ := Km.out
    obtain ⟨zn, cn0, cn1⟩ := Kn.out
    obtain ⟨zg, cg0, cg1⟩ := Kg.out
    have e1 := sat_dn a0 o1 g1 i1
    have e2 := sat_up a1 o1 g1 i2
    obtain ⟨M, hM⟩ : ∃ M, a0 + (a1 - a0) / 2 = M := ⟨_, rfl⟩
    rw [hM]
    obtain ⟨W, hW⟩ : ∃ W, sat (a1 - M) = W := ⟨_, rfl⟩
    rw [hW]
    have hM0 : a0 ≤ M := by omega
    have hM1 : M ≤ a1 := by omega
    have hW0 : 0 ≤ W := by rw [← hW]; unfold sat; split; omega; split <;> omega
    have tri := mid_tri a0 a1 M hM0 hM1 hM
    rw [hW] at tri
    clear hM hW
    go_wp2_with (fail)
    go_at_call 17
    (with_reducible refine (sp_has_is _ _ _ _ (by omega)).mono ?_)
    rintro e w10 ⟨rfl, HB⟩
    have HBB := Below.trans (show Below w9.heap.size w9 _ from by repeat (first | with_reducible assumption | exact Below.refl _ _ | refine Below.drew ?_ | refine Below.setCell ?_ (by first | omega | (simp; done) | (simp; omega)) _ | refine Below.alloc ?_ (by first | omega | (simp; done) | (simp; omega)) _)) (Below.mono (B' := w9.heap.size) HB (by first | omega | (simp; done) | (simp; omega)))
    clear za ca0 ca1 zo co0 co1 zx cx0 cx1 zy cy0 cy1 zm cm0 cm1 zn cn0 cn1 zg cg0 cg1
    replace Ka := Lib.hid (B2.step Ka.out HBB)
    replace Ko := Lib.hid (B2.step Ko.out HBB)
    replace Kx := Lib.hid (B2.step Kx.out HBB)
    replace Ky := Lib.hid (B2.step Ky.out HBB)
    replace Km := Lib.hid (B2.step Km.out HBB)
    replace Kn := Lib.hid (B2.step Kn.out HBB)
    replace Kg := Lib.hid (B2.step Kg.out HBB)
    replace hH := Held.step (w0 := w) hH HBB
    have hz10 := HBB.size
    obtain ⟨hc10, hf10⟩ := bcell HB
    clear HB HBB
    clear hc9 hf9
    obtain ⟨za, ca0, ca1⟩ := Ka.out
    obtain ⟨zo, co0, co1⟩ := Ko.out
    obtain ⟨zx, cx0, cx1⟩ := Kx.out
    obtain ⟨zy, cy0, cy1⟩ := Ky.out
    obtain ⟨zm, cm0, cm1⟩ := Km.out
    obtain ⟨zn, cn0, cn1⟩ := Kn.out
    obtain ⟨zg, cg0, cg1⟩ := Kg.out
    go_wp2_with (fail)
    go_at_call 17
    (with_reducible refine (sp_has_is _ _ _ _ (by omega)).mono ?_)
    rintro e w11 ⟨rfl, HB⟩
    have HBB := Below.trans (show Below w10.heap.size w10 _ from by repeat (first | with_reducible assumption | exact Below.refl _ _ | refine Below.drew ?_ | refine Below.setCell ?_ (by first | omega | (simp; done) | (simp; omega)) _ | refine Below.alloc ?_ (by first | omega | (simp; done) | (simp; omega)) _)) (Below.mono (B' := w10.heap.size) HB (by first | omega | (simp; done) | (simp; omega)))
    clear za ca0 ca1 zo co0 co1 zx cx0 cx1 zy cy0 cy1 zm cm0 cm1 zn cn0 cn1 zg cg0 cg1
    replace Ka := Lib.hid (B2.step Ka.out HBB)
    replace Ko := Lib.hid (B2.step Ko.out HBB)
    replace Kx := Lib.hid (B2.step Kx.out HBB)
    replace Ky := Lib.hid (B2.step Ky.out HBB)
    replace Km := Lib.hid (B2.step Km.out HBB)
    replace Kn := Lib.hid (B2.step Kn.out HBB)
    replace Kg := Lib.hid (B2.step Kg.out HBB)
    replace hH := Held.step (w0 := w) hH HBB
    have hz11 := HBB.size
    obtain ⟨hc11, hf11⟩ := bcell HB
    clear HB HBB
    clear hc10 hf10
    obtain ⟨za, ca0, ca1⟩ := Ka.out
    obtain ⟨zo, co0, co1⟩ := Ko.out
    obtain ⟨zx, cx0, cx1⟩ := Kx.out
    obtain ⟨zy, cy0, cy1⟩ := Ky.out
    obtain ⟨zm, cm0, cm1⟩ := Km.out
    obtain ⟨zn, cn0, cn1⟩ := Kn.out
    obtain ⟨zg, cg0, cg1⟩ := Kg.out
    go_wp2_with (fail)
    go_at_call 17
    (with_reducible refine (sp_has_is _ _ _ _ (by omega)).mono ?_)
    rintro e w12 ⟨rfl, HB⟩
    have HBB := Below.trans (show Below w11.heap.size w11 _ from by repeat (first | with_reducible assumption | exact Below.refl _ _ | refine Below.drew ?_ | refine Below.setCell ?_ (by first | omega | (simp; done) | (simp; omega)) _ | refine Below.alloc ?_ (by first | omega | (simp; done) | (simp; omega)) _)) (Below.mono (B' := w11.heap.size) HB (by first | omega | (simp; done) | (simp; omega)))
    clear za ca0 ca1 zo co0 co1 zx cx0 cx1 zy cy0 cy1 zm cm0 cm1 zn cn0 cn1 zg cg0 cg1
    replace Ka := Lib.hid (B2.step Ka.out HBB)
    replace Ko := Lib.hid (B2.step Ko.out HBB)
    replace Kx := Lib.hid (B2.step Kx.out HBB)
    replace Ky := Lib.hid (B2.step Ky.out HBB)
    replace Km := Lib.hid (B2.step Km.out HBB)
    replace Kn := Lib.hid (B2.step Kn.out HBB)
    replace Kg := Lib.hid (B2.step Kg.out HBB)
    replace hH := Held.step (w0 := w) hH HBB
    have hz12 := HBB.size
    obtain ⟨hc12, hf12⟩ := bcell HB
    clear HB HBB
    clear hc11 hf11
    obtain ⟨za, ca0, ca1⟩ := Ka.out
    obtain ⟨zo, co0, co1⟩ := Ko.out
    obtain ⟨zx, cx0, cx1⟩ := Kx.out
    obtain ⟨zy, cy0, cy1⟩ := Ky.out
    obtain ⟨zm, cm0, cm1⟩ := Km.out
    obtain ⟨zn, cn0, cn1⟩ := Kn.out
    obtain ⟨zg, cg0, cg1⟩ := Kg.out
    rcases tri with t | ⟨t, t'⟩ | ⟨t, t', t3, t4⟩
    all_goals
      go_wp2_with (fail)
      go_at_call 20
      (with_reducible refine (sure13 _ (Held.handle (w0 := w) (by repeat (first | assumption | refine Held.alloc ?_ _ | refine Held.drew ?_)))).mono ?_)
      rintro e w13 ⟨rfl, HB⟩
      have HBB := Below.trans (show Below w12.heap.size w12 _ from by repeat (first | with_reducible assumption | exact Below.refl _ _ | refine Below.drew ?_ | refine Below.setCell ?_ (by first | omega | (simp; done) | (simp; omega)) _ | refine Below.alloc ?_ (by first | omega | (simp; done) | (simp; omega)) _)) (Below.mono (B' := w12.heap.size) HB (by first | omega | (simp; done) | (simp; omega)))
      clear za ca0 ca1 zo co0 co1 zx cx0 cx1 zy cy0 cy1 zm cm0 cm1 zn cn0 cn1 zg cg0 cg1
      replace Ka := Lib.hid (B2.step Ka.out HBB)
      replace Ko := Lib.hid (B2.step Ko.out HBB)
      replace Kx := Lib.hid (B2.step Kx.out HBB)
      replace Ky := Lib.hid (B2.step Ky.out HBB)
      replace Km := Lib.hid (B2.step Km.out HBB)
      replace Kn := Lib.hid (B2.step Kn.out HBB)
      replace Kg := Lib.hid (B2.step Kg.out HBB)
      replace hH := Held.step (w0 := w) hH HBB
      have hz13 := HBB.size
      obtain ⟨hc13, hf13⟩ := bcell HB
      clear HB HBB
      clear hc12 hf12
      obtain ⟨za, ca0, ca1⟩ := Ka.out
      obtain ⟨zo, co0, co1⟩ := Ko.out
      obtain ⟨zx, cx0, cx1⟩ := Kx.out
      obtain ⟨zy, cy0, cy1⟩ := Ky.out
      obtain ⟨zm, cm0, cm1⟩ := Km.out
      obtain ⟨zn, cn0, cn1⟩ := Kn.out
      obtain ⟨zg, cg0, cg1⟩ := Kg.out
      go_wp2_with (fail)
      go_ret
      exact ⟨rfl, Held.below (w0 := w) (by repeat (first | assumption | refine Held.alloc ?_ _ | refine Held.drew ?_))⟩
  · go_wp2_with (fail)
    go_at_call 14
    (with_reducible refine (sp_meet_cc a0 a1 b0 b1 _ h1 h2 h3).mono ?_)
    rintro e w1 ⟨rfl, HB⟩
    have Ka := Lib.hid (B2.step (show B2 (w.heap.size) (.int .i64 a0) (.int .i64 a1) _ from ⟨(by first | omega | (simp; done) | (simp; omega)), by go_simp, by go_simp⟩) HB)
    have Ko := Lib.hid (B2.step (show B2 (w.heap.size + 1 + 1) (.int .i32 o0) (.int .i32 o1) _ from ⟨(by first | omega | (simp; done) | (simp; omega)), by go_simp, by go_simp⟩) HB)
    have Kx := Lib.hid (B2.step (show B2 (w.heap.size + 1 + 1 + 1 + 1) (.int .i64 a0) (.int .i64 a1) _ from ⟨(by first | omega | (simp; done) | (simp; omega)), by go_simp, by go_simp⟩) HB)
    have Ky := Lib.hid (B2.step (show B2 (w.heap.size + 1 + 1 + 1) (.int .i64 b0) (.int .i64 b1) _ from ⟨(by first | omega | (simp; done) | (simp; omega)), by go_simp, by go_simp⟩) HB)
    have HBB := Below.trans (show Below w.heap.size w _ from by repeat (first | with_reducible assumption | exact Below.refl _ _ | refine Below.drew ?_ | refine Below.setCell ?_ (by first | omega | (simp; done) | (simp; omega)) _ | refine Below.alloc ?_ (by first | omega | (simp; done) | (simp; omega)) _)) (Below.mono (B' := w.heap.size) HB (by first | omega | (simp; done) | (simp; omega)))
    replace hH := Held.step (w0 := w) hH HBB
    have hz1 := HBB.size
    obtain ⟨hc1, hf1⟩ := bcell HB
    clear HB HBB
    obtain ⟨za, ca0, ca1⟩ := Ka.out
    obtain ⟨zo, co0, co1⟩ := Ko.out
    obtain ⟨zx, cx0, cx1⟩ := Kx.out
    obtain ⟨zy, cy0, cy1⟩ := Ky.out
    go_wp2_with (fail)
    go_at_call 14
    (with_reducible refine (sp_meet_cc b0 b1 a0 a1 _ h2 h1 (mx_sw h3)).mono ?_)
    rintro e w2 ⟨rfl, HB⟩
    have Km := Lib.hid (B2.step (show B2 (w1.heap.size) (.int .i64 0) (.int .i64 0) _ from ⟨(by first | omega | (simp; done) | (simp; omega)), by go_simp, by go_simp⟩) HB)
    have HBB := Below.trans (show Below w1.heap.size w1 _ from by repeat (first | with_reducible assumption | exact Below.refl _ _ | refine Below.drew ?_ | refine Below.setCell ?_ (by first | omega | (simp; done) | (simp; omega)) _ | refine Below.alloc ?_ (by first | omega | (simp; done) | (simp; omega)) _)) (Below.mono (B' := w1.heap.size) HB (by first | omega | (simp; done) | (simp; omega)))
    clear za ca0 ca1 zo co0 co1 zx cx0 cx1 zy cy0 cy1
    replace Ka := Lib.hid (B2.step Ka.out HBB)
    replace Ko := Lib.hid (B2.step Ko.out HBB)
    replace Kx := Lib.hid (B2.step Kx.out HBB)
    replace Ky := Lib.hid (B2.step Ky.out HBB)
    replace hH := Held.step (w0 := w) hH HBB
    have hz2 := HBB.size
    obtain ⟨hc2, hf2⟩ := bcell HB
    clear HB HBB
    clear hc1 hf1
    obtain ⟨za, ca0, ca1⟩ := Ka.out
    obtain ⟨zo, co0, co1⟩ := Ko.out
    obtain ⟨zx, cx0, cx1⟩ := Kx.out
    obtain ⟨zy, cy0, cy1⟩ := Ky.out
    obtain ⟨zm, cm0, cm1⟩ := Km.out
    go_wp2_with (fail)
    go_at_call 18
    (with_reducible refine (sp_check_ok _ _ _ (by omega)).mono ?_)
    rintro e w3 ⟨rfl, HB⟩
    have Kn := Lib.hid (B2.step (show B2 (w2.heap.size) (.int .i64 0) (.int .i64 0) _ from ⟨(by first | omega | (simp; done) | (simp; omega)), by go_simp, by go_simp⟩) HB)
    have HBB := Below.trans (show Below w2.heap.size w2 _ from by repeat (first | with_reducible assumption | exact Below.refl _ _ | refine Below.drew ?_ | refine Below.setCell ?_ (by first | omega | (simp; done) | (simp; omega)) _ | refine Below.alloc ?_ (by first | omega | (simp; done) | (simp; omega)) _)) (Below.mono (B' := w2.heap.size) HB (by first | omega | (simp; done) | (simp; omega)))
    clear za ca0 ca1 zo co0 co1 zx cx0 cx1 zy cy0 cy1 zm cm0 cm1
    replace Ka := Lib.hid (B2.step Ka.out HBB)
    replace Ko := Lib.hid (B2.step Ko.out HBB)
    replace Kx := Lib.hid (B2.step Kx.out HBB)
    replace Ky := Lib.hid (B2.step Ky.out HBB)
    replace Km := Lib.hid (B2.step Km.out HBB)
    replace hH := Held.step (w0 := w) hH HBB
    have hz3 := HBB.size
    obtain ⟨hc3, hf3⟩ := bcell HB
    clear HB HBB
    clear hc2 hf2
    obtain ⟨za, ca0, ca1⟩ := Ka.out
    obtain ⟨zo, co0, co1⟩ := Ko.out
    obtain ⟨zx, cx0, cx1⟩ := Kx.out
    obtain ⟨zy, cy0, cy1⟩ := Ky.out
    obtain ⟨zm, cm0, cm1⟩ := Km.out
    obtain ⟨zn, cn0, cn1⟩ := Kn.out
    go_wp2_with (fail)
    go_at_call 18
    (with_reducible refine (sp_check_ok _ _ _ (by omega)).mono ?_)
    rintro e w4 ⟨rfl, HB⟩
    have HBB := Below.trans (show Below w3.heap.size w3 _ from by repeat (first | with_reducible assumption | exact Below.refl _ _ | refine Below.drew ?_ | refine Below.setCell ?_ (by first | omega | (simp; done) | (simp; omega)) _ | refine Below.alloc ?_ (by first | omega | (simp; done) | (simp; omega)) _)) (Below.mono (B' := w3.heap.size) HB (by first | omega | (simp; done) | (simp; omega)))
    clear za ca0 ca1 zo co0 co1 zx cx0 cx1 zy cy0 cy1 zm cm0 cm1 zn cn0 cn1
    replace Ka := Lib.hid (B2.step Ka.out HBB)
    replace Ko := Lib.hid (B2.step Ko.out HBB)
    replace Kx := Lib.hid (B2.step Kx.out HBB)
    replace Ky := Lib.hid (B2.step Ky.out HBB)
    replace Km := Lib.hid (B2.step Km.out HBB)
    replace Kn := Lib.hid (B2.step Kn.out HBB)
    replace hH := Held.step (w0 := w) hH HBB
    have hz4 := HBB.size
    obtain ⟨hc4, hf4⟩ := bcell HB
    clear HB HBB
    clear hc3 hf3
    obtain ⟨za, ca0, ca1⟩ := Ka.out
    obtain ⟨zo, co0, co1⟩ := Ko.out
    obtain ⟨zx, cx0, cx1⟩ := Kx.out
    obtain ⟨zy, cy0, cy1⟩ := Ky.out
    obtain ⟨zm, cm0, cm1⟩ := Km.out
    obtain ⟨zn, cn0, cn1⟩ := Kn.out
    go_wp2_with (fail)
    go_at_call 17
    (with_reducible refine (sp_has_is _ _ _ _ (by omega)).mono ?_)
    rintro e w5 ⟨rfl, HB⟩
    have HBB := Below.trans (show Below w4.heap.size w4 _ from by repeat (first | with_reducible assumption | exact Below.refl _ _ | refine Below.drew ?_ | refine Below.setCell ?_ (by first | omega | (simp; done) | (simp; omega)) _ | refine Below.alloc ?_ (by first | omega | (simp; done) | (simp; omega)) _)) (Below.mono (B' := w4.heap.size) HB (by first | omega | (simp; done) | (simp; omega)))
    clear za ca0 ca1 zo co0 co1 zx cx0 cx1 zy cy0 cy1 zm cm0 cm1 zn cn0 cn1
    replace Ka := Lib.hid (B2.step Ka.out HBB)
    replace Ko := Lib.hid (B2.step Ko.out HBB)
    replace Kx := Lib.hid (B2.step Kx.out HBB)
    replace Ky := Lib.hid (B2.step Ky.out HBB)
    replace Km := Lib.hid (B2.step Km.out HBB)
    replace Kn := Lib.hid (B2.step Kn.out HBB)
    replace hH := Held.step (w0 := w) hH HBB
    have hz5 := HBB.size
    obtain ⟨hc5, hf5⟩ := bcell HB
    clear HB HBB
    clear hc4 hf4
    obtain ⟨za, ca0, ca1⟩ := Ka.out
    obtain ⟨zo, co0, co1⟩ := Ko.out
    obtain ⟨zx, cx0, cx1⟩ := Kx.out
    obtain ⟨zy, cy0, cy1⟩ := Ky.out
    obtain ⟨zm, cm0, cm1⟩ := Km.out
    obtain ⟨zn, cn0, cn1⟩ := Kn.out
    go_wp2_with (fail)
    go_at_call 17
    (with_reducible refine (sp_has_not _ _ _ _ (by omega)).mono ?_)
    rintro e w6 ⟨rfl, HB⟩
    have HBB := Below.trans (show Below w5.heap.size w5 _ from by repeat (first | with_reducible assumption | exact Below.refl _ _ | refine Below.drew ?_ | refine Below.setCell ?_ (by first | omega | (simp; done) | (simp; omega)) _ | refine Below.alloc ?_ (by first | omega | (simp; done) | (simp; omega)) _)) (Below.mono (B' := w5.heap.size) HB (by first | omega | (simp; done) | (simp; omega)))
    clear za ca0 ca1 zo co0 co1 zx cx0 cx1 zy cy0 cy1 zm cm0 cm1 zn cn0 cn1
    replace Ka := Lib.hid (B2.step Ka.out HBB)
    replace Ko := Lib.hid (B2.step Ko.out HBB)
    replace Kx := Lib.hid (B2.step Kx.out HBB)
    replace Ky := Lib.hid (B2.step Ky.out HBB)
    replace Km := Lib.hid (B2.step Km.out HBB)
    replace Kn := Lib.hid (B2.step Kn.out HBB)
    replace hH := Held.step (w0 := w) hH HBB
    have hz6 := HBB.size
    obtain ⟨hc6, hf6⟩ := bcell HB
    clear HB HBB
    clear hc5 hf5
    obtain ⟨za, ca0, ca1⟩ := Ka.out
    obtain ⟨zo, co0, co1⟩ := Ko.out
    obtain ⟨zx, cx0, cx1⟩ := Kx.out
    obtain ⟨zy, cy0, cy1⟩ := Ky.out
    obtain ⟨zm, cm0, cm1⟩ := Km.out
    obtain ⟨zn, cn0, cn1⟩ := Kn.out
    go_wp2_with (fail)
    go_at_call 15
    (with_reducible refine (sp_grow _ _ _ _ h1 g1 i1 i2 (by omega)).mono ?_)
    rintro e w7 ⟨rfl, HB⟩
    have HBB := Below.trans (show Below w6.heap.size w6 _ from by repeat (first | with_reducible assumption | exact Below.refl _ _ | refine Below.drew ?_ | refine Below.setCell ?_ (by first | omega | (simp; done) | (simp; omega)) _ | refine Below.alloc ?_ (by first | omega | (simp; done) | (simp; omega)) _)) (Below.mono (B' := w6.heap.size) HB (by first | omega | (simp; done) | (simp; omega)))
    clear za ca0 ca1 zo co0 co1 zx cx0 cx1 zy cy0 cy1 zm cm0 cm1 zn cn0 cn1
    replace Ka := Lib.hid (B2.step Ka.out HBB)
    replace Ko := Lib.hid (B2.step Ko.out HBB)
    replace Kx := Lib.hid (B2.step Kx.out HBB)
    replace Ky := Lib.hid (B2.step Ky.out HBB)
    replace Km := Lib.hid (B2.step Km.out HBB)
    replace Kn := Lib.hid (B2.step Kn.out HBB)
    replace hH := Held.step (w0 := w) hH HBB
    have hz7 := HBB.size
    obtain ⟨hc7, hf7⟩ := bcell HB
    clear HB HBB
    clear hc6 hf6
    obtain ⟨za, ca0, ca1⟩ := Ka.out
    obtain ⟨zo, co0, co1⟩ := Ko.out
    obtain ⟨zx, cx0, cx1⟩ := Kx.out
    obtain ⟨zy, cy0, cy1⟩ := Ky.out
    obtain ⟨zm, cm0, cm1⟩ := Km.out
    obtain ⟨zn, cn0, cn1⟩ := Kn.out
    go_wp2_with (fail)
    go_at_call 18
    (with_reducible refine (sp_check_ok _ _ _ (by omega)).mono ?_)
    rintro e w8 ⟨rfl, HB⟩
    have Kg := Lib.hid (B2.step (show B2 (w7.heap.size) (.int .i64 (sat (a0 - o1))) (.int .i64 (sat (a1 + o1))) _ from ⟨(by first | omega | (simp; done) | (simp; omega)), by go_simp, by go_simp⟩) HB)
    have HBB := Below.trans (show Below w7.heap.size w7 _ from by repeat (first | with_reducible assumption | exact Below.refl _ _ | refine Below.drew ?_ | refine Below.setCell ?_ (by first | omega | (simp; done) | (simp; omega)) _ | refine Below.alloc ?_ (by first | omega | (simp; done) | (simp; omega)) _)) (Below.mono (B' := w7.heap.size) HB (by first | omega | (simp; done) | (simp; omega)))
    clear za ca0 ca1 zo co0 co1 zx cx0 cx1 zy cy0 cy1 zm cm0 cm1 zn cn0 cn1
    replace Ka := Lib.hid (B2.step Ka.out HBB)
    replace Ko := Lib.hid (B2.step Ko.out HBB)
    replace Kx := Lib.hid (B2.step Kx.out HBB)
    replace Ky := Lib.hid (B2.step Ky.out HBB)
    replace Km := Lib.hid (B2.step Km.out HBB)
    replace Kn := Lib.hid (B2.step Kn.out HBB)
    replace hH := Held.step (w0 := w) hH HBB
    have hz8 := HBB.size
    obtain ⟨hc8, hf8⟩ := bcell HB
    clear HB HBB
    clear hc7 hf7
    obtain ⟨za, ca0, ca1⟩ := Ka.out
    obtain ⟨zo, co0, co1⟩ := Ko.out
    obtain ⟨zx, cx0, cx1⟩ := Kx.out
    obtain ⟨zy, cy0, cy1⟩ := Ky.out
    obtain ⟨zm, cm0, cm1⟩ := Km.out
    obtain ⟨zn, cn0, cn1⟩ := Kn.out
    obtain ⟨zg, cg0, cg1⟩ := Kg.out
    go_wp2_with (fail)
    go_at_call 16
    (with_reducible refine (sp_mid _ _ _ h1 i1 i2).mono ?_)
    rintro e w9 ⟨rfl, HB⟩
    have HBB := Below.trans (show Below w8.heap.size w8 _ from by repeat (first | with_reducible assumption | exact Below.refl _ _ | refine Below.drew ?_ | refine Below.setCell ?_ (by first | omega | (simp; done) | (simp; omega)) _ | refine Below.alloc ?_ (by first | omega | (simp; done) | (simp; omega)) _)) (Below.mono (B' := w8.heap.size) HB (by first | omega | (simp; done) | (simp; omega)))
    clear za ca0 ca1 zo co0 co1 zx cx0 cx1 zy cy0 cy1 zm cm0 cm1 zn cn0 cn1 zg cg0 cg1
    replace Ka := Lib.hid (B2.step Ka.out HBB)
    replace Ko := Lib.hid (B2.step Ko.out HBB)
    replace Kx := Lib.hid (B2.step Kx.out HBB)
    replace Ky := Lib.hid (B2.step Ky.out HBB)
    replace Km := Lib.hid (B2.step Km.out HBB)
    replace Kn := Lib.hid (B2.step Kn.out HBB)
    replace Kg := Lib.hid (B2.step Kg.out HBB)
    replace hH := Held.step (w0 := w) hH HBB
    have hz9 := HBB.size
    obtain ⟨hc9, hf9⟩ := bcell HB
    clear HB HBB
    clear hc8 hf8
    obtain ⟨za, ca0, ca1⟩ := Ka.out
    obtain ⟨zo, co0, co1⟩ := Ko.out
    obtain ⟨zx, cx0, cx1⟩ := Kx.out
    obtain ⟨zy, cy0, cy1⟩ := Ky.out
    obtain ⟨zm, cm0, cm1⟩ := Km.out
    obtain ⟨zn, cn0, cn1⟩ := Kn.out
    obtain ⟨zg, cg0, cg1⟩ := Kg.out
    have e1 := sat_dn a0 o1 g1 i1
    have e2 := sat_up a1 o1 g1 i2
    obtain ⟨M, hM⟩ : ∃ M, a0 + (a1 - a0) / 2 = M := ⟨_, rfl⟩
    rw [hM]
    obtain ⟨W, hW⟩ : ∃ W, sat (a1 - M) = W := ⟨_, rfl⟩
    rw [hW]
    have hM0 : a0 ≤ M := by omega
    have hM1 : M ≤ a1 := by omega
    have hW0 : 0 ≤ W := by rw [← hW]; unfold sat; split; omega; split <;> omega
    have tri := mid_tri a0 a1 M hM0 hM1 hM
    rw [hW] at tri
    clear hM hW
    go_wp2_with (fail)
    go_at_call 17
    (with_reducible refine (sp_has_is _ _ _ _ (by omega)).mono ?_)
    rintro e w10 ⟨rfl, HB⟩
    have HBB := Below.trans (show Below w9.heap.size w9 _ from by repeat (first | with_reducible assumption | exact Below.refl _ _ | refine Below.drew ?_ | refine Below.setCell ?_ (by first | omega | (simp; done) | (simp; omega)) _ | refine Below.alloc ?_ (by first | omega | (simp; done) | (simp; omega)) _)) (Below.mono (B' := w9.heap.size) HB (by first | omega | (simp; done) | (simp; omega)))
    clear za ca0 ca1 zo co0 co1 zx cx0 cx1 zy cy0 cy1 zm cm0 cm1 zn cn0 cn1 zg cg0 cg1
    replace Ka := Lib.hid (B2.step Ka.out HBB)
    replace Ko := Lib.hid (B2.step Ko.out HBB)
    replace Kx := Lib.hid (B2.step Kx.out HBB)
    replace Ky := Lib.hid (B2.step Ky.out HBB)
    replace Km := Lib.hid (B2.step Km.out HBB)
    replace Kn := Lib.hid (B2.step Kn.out HBB)
    replace Kg := Lib.hid (B2.step Kg.out HBB)
    replace hH := Held.step (w0 := w) hH HBB
    have hz10 := HBB.size
    obtain ⟨hc10, hf10⟩ := bcell HB
    clear HB HBB
    clear hc9 hf9
    obtain ⟨za, ca0, ca1⟩ := Ka.out
    obtain ⟨zo, co0, co1⟩ := Ko.out
    obtain ⟨zx, cx0, cx1⟩ := Kx.out
    obtain ⟨zy, cy0, cy1⟩ := Ky.out
    obtain ⟨zm, cm0, cm1⟩ := Km.out
    obtain ⟨zn, cn0, cn1⟩ := Kn.out
    obtain ⟨zg, cg0, cg1⟩ := Kg.out
    go_wp2_with (fail)
    go_at_call 17
    (with_reducible refine (sp_has_is _ _ _ _ (by omega)).mono ?_)
    rintro e w11 ⟨rfl, HB⟩
    have HBB := Below.trans (show Below w10.heap.size w10 _ from by repeat (first | with_reducible assumption | exact Below.refl _ _ | refine Below.drew ?_ | refine Below.setCell ?_ (by first | omega | (simp; done) | (simp; omega)) _ | refine Below.alloc ?_ (by first | omega | (simp; done) | (simp; omega)) _)) (Below.mono (B' := w10.heap.size) HB (by first | omega | (simp; done) | (simp; omega)))
    clear za ca0 ca1 zo co0 co1 zx cx0 cx1 zy cy0 cy1 zm cm0 cm1 zn cn0 cn1 zg cg0 cg1
    replace Ka := Lib.hid (B2.step Ka.out HBB)
    replace Ko := Lib.hid (B2.step Ko.out HBB)
    replace Kx := Lib.hid (B2.step Kx.out HBB)
    replace Ky := Lib.hid (B2.step Ky.out HBB)
    replace Km := Lib.hid (B2.step Km.out HBB)
    replace Kn := Lib.hid (B2.step Kn.out HBB)
    replace Kg := Lib.hid (B2.step Kg.out HBB)
    replace hH := Held.step (w0 := w) hH HBB
    have hz11 := HBB.size
    obtain ⟨hc11, hf11⟩ := bcell HB
    clear HB HBB
    clear hc10 hf10
    obtain ⟨za, ca0, ca1⟩ := Ka.out
    obtain ⟨zo, co0, co1⟩ := Ko.out
    obtain ⟨zx, cx0, cx1⟩ := Kx.out
    obtain ⟨zy, cy0, cy1⟩ := Ky.out
    obtain ⟨zm, cm0, cm1⟩ := Km.out
    obtain ⟨zn, cn0, cn1⟩ := Kn.out
    obtain ⟨zg, cg0, cg1⟩ := Kg.out
    go_wp2_with (fail)
    go_at_call 17
    (with_reducible refine (sp_has_is _ _ _ _ (by omega)).mono ?_)
    rintro e w12 ⟨rfl, HB⟩
    have HBB := Below.trans (show Below w11.heap.size w11 _ from by repeat (first | with_reducible assumption | exact Below.refl _ _ | refine Below.drew ?_ | refine Below.setCell ?_ (by first | omega | (simp; done) | (simp; omega)) _ | refine Below.alloc ?_ (by first | omega | (simp; done) | (simp; omega)) _)) (Below.mono (B' := w11.heap.size) HB (by first | omega | (simp; done) | (simp; omega)))
    clear za ca0 ca1 zo co0 co1 zx cx0 cx1 zy cy0 cy1 zm cm0 cm1 zn cn0 cn1 zg cg0 cg1
    replace Ka := Lib.hid (B2.step Ka.out HBB)
    replace Ko := Lib.hid (B2.step Ko.out HBB)
    replace Kx := Lib.hid (B2.step Kx.out HBB)
    replace Ky := Lib.hid (B2.step Ky.out HBB)
    replace Km := Lib.hid (B2.step Km.out HBB)
    replace Kn := Lib.hid (B2.step Kn.out HBB)
    replace Kg := Lib.hid (B2.step Kg.out HBB)
    replace hH := Held.step (w0 := w) hH HBB
    have hz12 := HBB.size
    obtain ⟨hc12, hf12⟩ := bcell HB
    clear HB HBB
    clear hc11 hf11
    obtain ⟨za, ca0, ca1⟩ := Ka.out
    obtain ⟨zo, co0, co1⟩ := Ko.out
    obtain ⟨zx, cx0, cx1⟩ := Kx.out
    obtain ⟨zy, cy0, cy1⟩ := Ky.out
    obtain ⟨zm, cm0, cm1⟩ := Km.out
    obtain ⟨zn, cn0, cn1⟩ := Kn.out
    obtain ⟨zg, cg0, cg1⟩ := Kg.out
    rcases tri with t | ⟨t, t'⟩ | ⟨t, t', t3, t4⟩
    all_goals
      go_wp2_with (fail)
      go_at_call 20
      (with_reducible refine (sure13 _ (Held.handle (w0 := w) (by repeat (first | assumption | refine Held.alloc ?_ _ | refine Held.drew ?_)))).mono ?_)
      rintro e w13 ⟨rfl, HB⟩
      have HBB := Below.trans (show Below w12.heap.size w12 _ from by repeat (first | with_reducible assumption | exact Below.refl _ _ | refine Below.drew ?_ | refine Below.setCell ?_ (by first | omega | (simp; done) | (simp; omega)) _ | refine Below.alloc ?_ (by first | omega | (simp; done) | (simp; omega)) _)) (Below.mono (B' := w12.heap.size) HB (by first | omega | (simp; done) | (simp; omega)))
      clear za ca0 ca1 zo co0 co1 zx cx0 cx1 zy cy0 cy1 zm cm0 cm1 zn cn0 cn1 zg cg0 cg1
      replace Ka := Lib.hid (B2.step Ka.out HBB)
      replace Ko := Lib.hid (B2.step Ko.out HBB)
      replace Kx := Lib.hid (B2.step Kx.out HBB)
      replace Ky := Lib.hid (B2.step Ky.out HBB)
      replace Km := Lib.hid (B2.step Km.out HBB)
      replace Kn := Lib.hid (B2.step Kn.out HBB)
      replace Kg := Lib.hid (B2.step Kg.out HBB)
      replace hH := Held.step (w0 := w) hH HBB
      have hz13 := HBB.size
      obtain ⟨hc13, hf13⟩ := bcell HB
      clear HB HBB
      clear hc12 hf12
      obtain ⟨za, ca0, ca1⟩ := Ka.out
      obtain ⟨zo, co0, co1⟩ := Ko.out
      obtain ⟨zx, cx0, cx1⟩ := Kx.out
      obtain ⟨zy, cy0, cy1⟩ := Ky.out
      obtain ⟨zm, cm0, cm1⟩ := Km.out
      obtain ⟨zn, cn0, cn1⟩ := Kn.out
      obtain ⟨zg, cg0, cg1⟩ := Kg.out
      go_wp2_with (fail)
      go_ret
      exact ⟨rfl, Held.below (w0 := w) (by repeat (first | assumption | refine Held.alloc ?_ _ | refine Held.drew ?_))⟩
set_option maxRecDepth 100000 in
set_option maxHeartbeats 8000000 in
theorem meets_D1_neg (a0 a1 b0 b1 o0 o1 : Int) (i1 : InR a0) (i2 : InR a1) (i3 : InR b0) (i4 : InR b1) (j1 : -2147483648 ≤ o0 ∧ o0 ≤ 2147483647) (j2 : -2147483648 ≤ o1 ∧ o1 ≤ 2147483647) (h1 : a0 ≤ a1) (h2 : b0 ≤ b1) (h3 : mx a0 b0 ≤ mn a1 b1) (h4 : ¬ (a0 ≤ o0 ∧ o0 ≤ a1)) (g1 : o1 < 0) (w : World) (hg : w.cell? ⟨0, 0, none⟩ = some asHandle) :
    Calls Tryd.prog 6 #[.agg #[.int .i64 a0, .int .i64 a1], .agg #[.int .i64 b0, .int .i64 b1], .agg #[.int .i32 o0, .int .i32 o1]] w fun e w' => e = .returned (.bool true) ∧ Below w.heap.size w w' := by
  have hH := Held.start hg
  obtain ⟨X, hX⟩ : ∃ X, mx a0 b0 = X := ⟨_, rfl⟩
  obtain ⟨Y, hY⟩ : ∃ Y, mn a1 b1 = Y := ⟨_, rfl⟩
  rw [hX, hY] at h3
  have hX2 : mx b0 a0 = X := by rw [← hX]; unfold mx; split <;> split <;> omega
  have hY2 : mn b1 a1 = Y := by rw [← hY]; unfold mn; split <;> split <;> omega
  have hXa : a0 ≤ X ∧ b0 ≤ X ∧ (X = a0 ∨ X = b0) := by rw [← hX]; unfold mx; split <;> omega
  have hYa : Y ≤ a1 ∧ Y ≤ b1 ∧ (Y = a1 ∨ Y = b1) := by rw [← hY]; unfold mn; split <;> omega
  have HX := Lib.hid (show (if a0 < b0 then b0 else a0) = X from hX)
  have HY := Lib.hid (show (if b1 < a1 then b1 else a1) = Y from hY)
  have HX2 := Lib.hid (show (if b0 < a0 then a0 else b0) = X from hX2)
  have HY2 := Lib.hid (show (if a1 < b1 then a1 else b1) = Y from hY2)
  clear hX hY hX2 hY2
  go_enter Tryd.func6, Tryd.ntmps6
  go_wp2_with (fail)
  go_region
  · go_wp2_with (fail)
    go_at_call 14
    (with_reducible refine (sp_meet_d a0 a1 b0 b1 X Y _ HX.out HY.out h1 h2 h3).mono ?_)
    rintro e w1 ⟨rfl, HB⟩
    have Ka := Lib.hid (B2.step (show B2 (w.heap.size) (.int .i64 a0) (.int .i64 a1) _ from ⟨(by first | omega | (simp; done) | (simp; omega)), by go_simp, by go_simp⟩) HB)
    have Ko := Lib.hid (B2.step (show B2 (w.heap.size + 1 + 1) (.int .i32 o0) (.int .i32 o1) _ from ⟨(by first | omega | (simp; done) | (simp; omega)), by go_simp, by go_simp⟩) HB)
    have Kx := Lib.hid (B2.step (show B2 (w.heap.size + 1 + 1 + 1) (.int .i64 a0) (.int .i64 a1) _ from ⟨(by first | omega | (simp; done) | (simp; omega)), by go_simp, by go_simp⟩) HB)
    have Ky := Lib.hid (B2.step (show B2 (w.heap.size + 1 + 1 + 1 + 1) (.int .i64 b0) (.int .i64 b1) _ from ⟨(by first | omega | (simp; done) | (simp; omega)), by go_simp, by go_simp⟩) HB)
    have HBB := Below.trans (show Below w.heap.size w _ from by repeat (first | with_reducible assumption | exact Below.refl _ _ | refine Below.drew ?_ | refine Below.setCell ?_ (by first | omega | (simp; done) | (simp; omega)) _ | refine Below.alloc ?_ (by first | omega | (simp; done) | (simp; omega)) _)) (Below.mono (B' := w.heap.size) HB (by first | omega | (simp; done) | (simp; omega)))
    replace hH := Held.step (w0 := w) hH HBB
    have hz1 := HBB.size
    obtain ⟨hc1, hf1⟩ := bcell HB
    clear HB HBB
    obtain ⟨za, ca0, ca1⟩ := Ka.out
    obtain ⟨zo, co0, co1⟩ := Ko.out
    obtain ⟨zx, cx0, cx1⟩ := Kx.out
    obtain ⟨zy, cy0, cy1⟩ := Ky.out
    go_wp2_with (fail)
    go_at_call 14
    (with_reducible refine (sp_meet_d b0 b1 a0 a1 X Y _ HX2.out HY2.out h2 h1 h3).mono ?_)
    rintro e w2 ⟨rfl, HB⟩
    have Km := Lib.hid (B2.step (show B2 (w1.heap.size) (.int .i64 X) (.int .i64 Y) _ from ⟨(by first | omega | (simp; done) | (simp; omega)), by go_simp, by go_simp⟩) HB)
    have HBB := Below.trans (show Below w1.heap.size w1 _ from by repeat (first | with_reducible assumption | exact Below.refl _ _ | refine Below.drew ?_ | refine Below.setCell ?_ (by first | omega | (simp; done) | (simp; omega)) _ | refine Below.alloc ?_ (by first | omega | (simp; done) | (simp; omega)) _)) (Below.mono (B' := w1.heap.size) HB (by first | omega | (simp; done) | (simp; omega)))
    clear za ca0 ca1 zo co0 co1 zx cx0 cx1 zy cy0 cy1
    replace Ka := Lib.hid (B2.step Ka.out HBB)
    replace Ko := Lib.hid (B2.step Ko.out HBB)
    replace Kx := Lib.hid (B2.step Kx.out HBB)
    replace Ky := Lib.hid (B2.step Ky.out HBB)
    replace hH := Held.step (w0 := w) hH HBB
    have hz2 := HBB.size
    obtain ⟨hc2, hf2⟩ := bcell HB
    clear HB HBB
    clear hc1 hf1
    obtain ⟨za, ca0, ca1⟩ := Ka.out
    obtain ⟨zo, co0, co1⟩ := Ko.out
    obtain ⟨zx, cx0, cx1⟩ := Kx.out
    obtain ⟨zy, cy0, cy1⟩ := Ky.out
    obtain ⟨zm, cm0, cm1⟩ := Km.out
    go_wp2_with (fail)
    go_at_call 18
    (with_reducible refine (sp_check_ok _ _ _ (by omega)).mono ?_)
    rintro e w3 ⟨rfl, HB⟩
    have Kn := Lib.hid (B2.step (show B2 (w2.heap.size) (.int .i64 X) (.int .i64 Y) _ from ⟨(by first | omega | (simp; done) | (simp; omega)), by go_simp, by go_simp⟩) HB)
    have HBB := Below.trans (show Below w2.heap.size w2 _ from by repeat (first | with_reducible assumption | exact Below.refl _ _ | refine Below.drew ?_ | refine Below.setCell ?_ (by first | omega | (simp; done) | (simp; omega)) _ | refine Below.alloc ?_ (by first | omega | (simp; done) | (simp; omega)) _)) (Below.mono (B' := w2.heap.size) HB (by first | omega | (simp; done) | (simp; omega)))
    clear za ca0 ca1 zo co0 co1 zx cx0 cx1 zy cy0 cy1 zm cm0 cm1
    replace Ka := Lib.hid (B2.step Ka.out HBB)
    replace Ko := Lib.hid (B2.step Ko.out HBB)
    replace Kx := Lib.hid (B2.step Kx.out HBB)
    replace Ky := Lib.hid (B2.step Ky.out HBB)
    replace Km := Lib.hid (B2.step Km.out HBB)
    replace hH := Held.step (w0 := w) hH HBB
    have hz3 := HBB.size
    obtain ⟨hc3, hf3⟩ := bcell HB
    clear HB HBB
    clear hc2 hf2
    obtain ⟨za, ca0, ca1⟩ := Ka.out
    obtain ⟨zo, co0, co1⟩ := Ko.out
    obtain ⟨zx, cx0, cx1⟩ := Kx.out
    obtain ⟨zy, cy0, cy1⟩ := Ky.out
    obtain ⟨zm, cm0, cm1⟩ := Km.out
    obtain ⟨zn, cn0, cn1⟩ := Kn.out
    go_wp2_with (fail)
    go_at_call 18
    (with_reducible refine (sp_check_ok _ _ _ (by omega)).mono ?_)
    rintro e w4 ⟨rfl, HB⟩
    have HBB := Below.trans (show Below w3.heap.size w3 _ from by repeat (first | with_reducible assumption | exact Below.refl _ _ | refine Below.drew ?_ | refine Below.setCell ?_ (by first | omega | (simp; done) | (simp; omega)) _ | refine Below.alloc ?_ (by first | omega | (simp; done) | (simp; omega)) _)) (Below.mono (B' := w3.heap.size) HB (by first | omega | (simp; done) | (simp; omega)))
    clear za ca0 ca1 zo co0 co1 zx cx0 cx1 zy cy0 cy1 zm cm0 cm1 zn cn0 cn1
    replace Ka := Lib.hid (B2.step Ka.out HBB)
    replace Ko := Lib.hid (B2.step Ko.out HBB)
    replace Kx := Lib.hid (B2.step Kx.out HBB)
    replace Ky := Lib.hid (B2.step Ky.out HBB)
    replace Km := Lib.hid (B2.step Km.out HBB)
    replace Kn := Lib.hid (B2.step Kn.out HBB)
    replace hH := Held.step (w0 := w) hH HBB
    have hz4 := HBB.size
    obtain ⟨hc4, hf4⟩ := bcell HB
    clear HB HBB
    clear hc3 hf3
    obtain ⟨za, ca0, ca1⟩ := Ka.out
    obtain ⟨zo, co0, co1⟩ := Ko.out
    obtain ⟨zx, cx0, cx1⟩ := Kx.out
    obtain ⟨zy, cy0, cy1⟩ := Ky.out
    obtain ⟨zm, cm0, cm1⟩ := Km.out
    obtain ⟨zn, cn0, cn1⟩ := Kn.out
    go_wp2_with (fail)
    go_at_call 17
    (with_reducible refine (sp_has_not _ _ _ _ (by omega)).mono ?_)
    rintro e w5 ⟨rfl, HB⟩
    have HBB := Below.trans (show Below w4.heap.size w4 _ from by repeat (first | with_reducible assumption | exact Below.refl _ _ | refine Below.drew ?_ | refine Below.setCell ?_ (by first | omega | (simp; done) | (simp; omega)) _ | refine Below.alloc ?_ (by first | omega | (simp; done) | (simp; omega)) _)) (Below.mono (B' := w4.heap.size) HB (by first | omega | (simp; done) | (simp; omega)))
    clear za ca0 ca1 zo co0 co1 zx cx0 cx1 zy cy0 cy1 zm cm0 cm1 zn cn0 cn1
    replace Ka := Lib.hid (B2.step Ka.out HBB)
    replace Ko := Lib.hid (B2.step Ko.out HBB)
    replace Kx := Lib.hid (B2.step Kx.out HBB)
    replace Ky := Lib.hid (B2.step Ky.out HBB)
    replace Km := Lib.hid (B2.step Km.out HBB)
    replace Kn := Lib.hid (B2.step Kn.out HBB)
    replace hH := Held.step (w0 := w) hH HBB
    have hz5 := HBB.size
    obtain ⟨hc5, hf5⟩ := bcell HB
    clear HB HBB
    clear hc4 hf4
    obtain ⟨za, ca0, ca1⟩ := Ka.out
    obtain ⟨zo, co0, co1⟩ := Ko.out
    obtain ⟨zx, cx0, cx1⟩ := Kx.out
    obtain ⟨zy, cy0, cy1⟩ := Ky.out
    obtain ⟨zm, cm0, cm1⟩ := Km.out
    obtain ⟨zn, cn0, cn1⟩ := Kn.out
    go_wp2_with (fail)
    go_at_call 17
    (with_reducible refine (sp_has_not _ _ _ _ (by omega)).mono ?_)
    rintro e w6 ⟨rfl, HB⟩
    have HBB := Below.trans (show Below w5.heap.size w5 _ from by repeat (first | with_reducible assumption | exact Below.refl _ _ | refine Below.drew ?_ | refine Below.setCell ?_ (by first | omega | (simp; done) | (simp; omega)) _ | refine Below.alloc ?_ (by first | omega | (simp; done) | (simp; omega)) _)) (Below.mono (B' := w5.heap.size) HB (by first | omega | (simp; done) | (simp; omega)))
    clear za ca0 ca1 zo co0 co1 zx cx0 cx1 zy cy0 cy1 zm cm0 cm1 zn cn0 cn1
    replace Ka := Lib.hid (B2.step Ka.out HBB)
    replace Ko := Lib.hid (B2.step Ko.out HBB)
    replace Kx := Lib.hid (B2.step Kx.out HBB)
    replace Ky := Lib.hid (B2.step Ky.out HBB)
    replace Km := Lib.hid (B2.step Km.out HBB)
    replace Kn := Lib.hid (B2.step Kn.out HBB)
    replace hH := Held.step (w0 := w) hH HBB
    have hz6 := HBB.size
    obtain ⟨hc6, hf6⟩ := bcell HB
    clear HB HBB
    clear hc5 hf5
    obtain ⟨za, ca0, ca1⟩ := Ka.out
    obtain ⟨zo, co0, co1⟩ := Ko.out
    obtain ⟨zx, cx0, cx1⟩ := Kx.out
    obtain ⟨zy, cy0, cy1⟩ := Ky.out
    obtain ⟨zm, cm0, cm1⟩ := Km.out
    obtain ⟨zn, cn0, cn1⟩ := Kn.out
    go_wp2_with (fail)
    go_at_call 15
    (with_reducible refine (sp_grow_neg _ _ _ _ h1 g1).mono ?_)
    rintro e w7 ⟨rfl, HB⟩
    have HBB := Below.trans (show Below w6.heap.size w6 _ from by repeat (first | with_reducible assumption | exact Below.refl _ _ | refine Below.drew ?_ | refine Below.setCell ?_ (by first | omega | (simp; done) | (simp; omega)) _ | refine Below.alloc ?_ (by first | omega | (simp; done) | (simp; omega)) _)) (Below.mono (B' := w6.heap.size) HB (by first | omega | (simp; done) | (simp; omega)))
    clear za ca0 ca1 zo co0 co1 zx cx0 cx1 zy cy0 cy1 zm cm0 cm1 zn cn0 cn1
    replace Ka := Lib.hid (B2.step Ka.out HBB)
    replace Ko := Lib.hid (B2.step Ko.out HBB)
    replace Kx := Lib.hid (B2.step Kx.out HBB)
    replace Ky := Lib.hid (B2.step Ky.out HBB)
    replace Km := Lib.hid (B2.step Km.out HBB)
    replace Kn := Lib.hid (B2.step Kn.out HBB)
    replace hH := Held.step (w0 := w) hH HBB
    have hz7 := HBB.size
    obtain ⟨hc7, hf7⟩ := bcell HB
    clear HB HBB
    clear hc6 hf6
    obtain ⟨za, ca0, ca1⟩ := Ka.out
    obtain ⟨zo, co0, co1⟩ := Ko.out
    obtain ⟨zx, cx0, cx1⟩ := Kx.out
    obtain ⟨zy, cy0, cy1⟩ := Ky.out
    obtain ⟨zm, cm0, cm1⟩ := Km.out
    obtain ⟨zn, cn0, cn1⟩ := Kn.out
    go_wp2_with (fail)
    go_at_call 18
    (with_reducible refine (sp_check_ok _ _ _ (by omega)).mono ?_)
    rintro e w8 ⟨rfl, HB⟩
    have HBB := Below.trans (show Below w7.heap.size w7 _ from by repeat (first | with_reducible assumption | exact Below.refl _ _ | refine Below.drew ?_ | refine Below.setCell ?_ (by first | omega | (simp; done) | (simp; omega)) _ | refine Below.alloc ?_ (by first | omega | (simp; done) | (simp; omega)) _)) (Below.mono (B' := w7.heap.size) HB (by first | omega | (simp; done) | (simp; omega)))
    clear za ca0 ca1 zo co0 co1 zx cx0 cx1 zy cy0 cy1 zm cm0 cm1 zn cn0 cn1
    replace Ka := Lib.hid (B2.step Ka.out HBB)
    replace Ko := Lib.hid (B2.step Ko.out HBB)
    replace Kx := Lib.hid (B2.step Kx.out HBB)
    replace Ky := Lib.hid (B2.step Ky.out HBB)
    replace Km := Lib.hid (B2.step Km.out HBB)
    replace Kn := Lib.hid (B2.step Kn.out HBB)
    replace hH := Held.step (w0 := w) hH HBB
    have hz8 := HBB.size
    obtain ⟨hc8, hf8⟩ := bcell HB
    clear HB HBB
    clear hc7 hf7
    obtain ⟨za, ca0, ca1⟩ := Ka.out
    obtain ⟨zo, co0, co1⟩ := Ko.out
    obtain ⟨zx, cx0, cx1⟩ := Kx.out
    obtain ⟨zy, cy0, cy1⟩ := Ky.out
    obtain ⟨zm, cm0, cm1⟩ := Km.out
    obtain ⟨zn, cn0, cn1⟩ := Kn.out
    go_wp2_with (fail)
    go_at_call 19
    (with_reducible refine (num13_err _ _ (Held.handle (w0 := w) (by repeat (first | assumption | refine Held.alloc ?_ _ | refine Held.drew ?_)))).mono ?_)
    rintro e w9 ⟨rfl, HB⟩
    have HBB := Below.trans (show Below w8.heap.size w8 _ from by repeat (first | with_reducible assumption | exact Below.refl _ _ | refine Below.drew ?_ | refine Below.setCell ?_ (by first | omega | (simp; done) | (simp; omega)) _ | refine Below.alloc ?_ (by first | omega | (simp; done) | (simp; omega)) _)) (Below.mono (B' := w8.heap.size) HB (by first | omega | (simp; done) | (simp; omega)))
    clear za ca0 ca1 zo co0 co1 zx cx0 cx1 zy cy0 cy1 zm cm0 cm1 zn cn0 cn1
    replace Ka := Lib.hid (B2.step Ka.out HBB)
    replace Ko := Lib.hid (B2.step Ko.out HBB)
    replace Kx := Lib.hid (B2.step Kx.out HBB)
    replace Ky := Lib.hid (B2.step Ky.out HBB)
    replace Km := Lib.hid (B2.step Km.out HBB)
    replace Kn := Lib.hid (B2.step Kn.out HBB)
    replace hH := Held.step (w0 := w) hH HBB
    have hz9 := HBB.size
    obtain ⟨hc9, hf9⟩ := bcell HB
    clear HB HBB
    clear hc8 hf8
    obtain ⟨za, ca0, ca1⟩ := Ka.out
    obtain ⟨zo, co0, co1⟩ := Ko.out
    obtain ⟨zx, cx0, cx1⟩ := Kx.out
    obtain ⟨zy, cy0, cy1⟩ := Ky.out
    obtain ⟨zm, cm0, cm1⟩ := Km.out
    obtain ⟨zn, cn0, cn1⟩ := Kn.out
    go_wp2_with (fail)
    go_at_call 20
    (with_reducible refine (sure13 _ (Held.handle (w0 := w) (by repeat (first | assumption | refine Held.alloc ?_ _ | refine Held.drew ?_)))).mono ?_)
    rintro e w10 ⟨rfl, HB⟩
    have HBB := Below.trans (show Below w9.heap.size w9 _ from by repeat (first | with_reducible assumption | exact Below.refl _ _ | refine Below.drew ?_ | refine Below.setCell ?_ (by first | omega | (simp; done) | (simp; omega)) _ | refine Below.alloc ?_ (by first | omega | (simp; done) | (simp; omega)) _)) (Below.mono (B' := w9.heap.size) HB (by first | omega | (simp; done) | (simp; omega)))
    clear za ca0 ca1 zo co0 co1 zx cx0 cx1 zy cy0 cy1 zm cm0 cm1 zn cn0 cn1
    replace Ka := Lib.hid (B2.step Ka.out HBB)
    replace Ko := Lib.hid (B2.step Ko.out HBB)
    replace Kx := Lib.hid (B2.step Kx.out HBB)
    replace Ky := Lib.hid (B2.step Ky.out HBB)
    replace Km := Lib.hid (B2.step Km.out HBB)
    replace Kn := Lib.hid (B2.step Kn.out HBB)
    replace hH := Held.step (w0 := w) hH HBB
    have hz10 := HBB.size
    obtain ⟨hc10, hf10⟩ := bcell HB
    clear HB HBB
    clear hc9 hf9
    obtain ⟨za, ca0, ca1⟩ := Ka.out
    obtain ⟨zo, co0, co1⟩ := Ko.out
    obtain ⟨zx, cx0, cx1⟩ := Kx.out
    obtain ⟨zy, cy0, cy1⟩ := Ky.out
    obtain ⟨zm, cm0, cm1⟩ := Km.out
    obtain ⟨zn, cn0, cn1⟩ := Kn.out
    go_wp2_with (fail)
    go_ret
    exact ⟨rfl, Held.below (w0 := w) (by repeat (first | assumption | refine Held.alloc ?_ _ | refine Held.drew ?_))⟩
  · go_wp2_with (fail)
    go_at_call 14
    (with_reducible refine (sp_meet_d a0 a1 b0 b1 X Y _ HX.out HY.out h1 h2 h3).mono ?_)
    rintro e w1 ⟨rfl, HB⟩
    have Ka := Lib.hid (B2.step (show B2 (w.heap.size) (.int .i64 a0) (.int .i64 a1) _ from ⟨(by first | omega | (simp; done) | (simp; omega)), by go_simp, by go_simp⟩) HB)
    have Ko := Lib.hid (B2.step (show B2 (w.heap.size + 1 + 1) (.int .i32 o0) (.int .i32 o1) _ from ⟨(by first | omega | (simp; done) | (simp; omega)), by go_simp, by go_simp⟩) HB)
    have Kx := Lib.hid (B2.step (show B2 (w.heap.size + 1 + 1 + 1 + 1) (.int .i64 a0) (.int .i64 a1) _ from ⟨(by first | omega | (simp; done) | (simp; omega)), by go_simp, by go_simp⟩) HB)
    have Ky := Lib.hid (B2.step (show B2 (w.heap.size + 1 + 1 + 1) (.int .i64 b0) (.int .i64 b1) _ from ⟨(by first | omega | (simp; done) | (simp; omega)), by go_simp, by go_simp⟩) HB)
    have HBB := Below.trans (show Below w.heap.size w _ from by repeat (first | with_reducible assumption | exact Below.refl _ _ | refine Below.drew ?_ | refine Below.setCell ?_ (by first | omega | (simp; done) | (simp; omega)) _ | refine Below.alloc ?_ (by first | omega | (simp; done) | (simp; omega)) _)) (Below.mono (B' := w.heap.size) HB (by first | omega | (simp; done) | (simp; omega)))
    replace hH := Held.step (w0 := w) hH HBB
    have hz1 := HBB.size
    obtain ⟨hc1, hf1⟩ := bcell HB
    clear HB HBB
    obtain ⟨za, ca0, ca1⟩ := Ka.out
    obtain ⟨zo, co0, co1⟩ := Ko.out
    obtain ⟨zx, cx0, cx1⟩ := Kx.out
    obtain ⟨zy, cy0, cy1⟩ := Ky.out
    go_wp2_with (fail)
    go_at_call 14
    (with_reducible refine (sp_meet_d b0 b1 a0 a1 X Y _ HX2.out HY2.out h2 h1 h3).mono ?_)
    rintro e w2 ⟨rfl, HB⟩
    have Km := Lib.hid (B2.step (show B2 (w1.heap.size) (.int .i64 X) (.int .i64 Y) _ from ⟨(by first | omega | (simp; done) | (simp; omega)), by go_simp, by go_simp⟩) HB)
    have HBB := Below.trans (show Below w1.heap.size w1 _ from by repeat (first | with_reducible assumption | exact Below.refl _ _ | refine Below.drew ?_ | refine Below.setCell ?_ (by first | omega | (simp; done) | (simp; omega)) _ | refine Below.alloc ?_ (by first | omega | (simp; done) | (simp; omega)) _)) (Below.mono (B' := w1.heap.size) HB (by first | omega | (simp; done) | (simp; omega)))
    clear za ca0 ca1 zo co0 co1 zx cx0 cx1 zy cy0 cy1
    replace Ka := Lib.hid (B2.step Ka.out HBB)
    replace Ko := Lib.hid (B2.step Ko.out HBB)
    replace Kx := Lib.hid (B2.step Kx.out HBB)
    replace Ky := Lib.hid (B2.step Ky.out HBB)
    replace hH := Held.step (w0 := w) hH HBB
    have hz2 := HBB.size
    obtain ⟨hc2, hf2⟩ := bcell HB
    clear HB HBB
    clear hc1 hf1
    obtain ⟨za, ca0, ca1⟩ := Ka.out
    obtain ⟨zo, co0, co1⟩ := Ko.out
    obtain ⟨zx, cx0, cx1⟩ := Kx.out
    obtain ⟨zy, cy0, cy1⟩ := Ky.out
    obtain ⟨zm, cm0, cm1⟩ := Km.out
    go_wp2_with (fail)
    go_at_call 18
    (with_reducible refine (sp_check_ok _ _ _ (by omega)).mono ?_)
    rintro e w3 ⟨rfl, HB⟩
    have Kn := Lib.hid (B2.step (show B2 (w2.heap.size) (.int .i64 X) (.int .i64 Y) _ from ⟨(by first | omega | (simp; done) | (simp; omega)), by go_simp, by go_simp⟩) HB)
    have HBB := Below.trans (show Below w2.heap.size w2 _ from by repeat (first | with_reducible assumption | exact Below.refl _ _ | refine Below.drew ?_ | refine Below.setCell ?_ (by first | omega | (simp; done) | (simp; omega)) _ | refine Below.alloc ?_ (by first | omega | (simp; done) | (simp; omega)) _)) (Below.mono (B' := w2.heap.size) HB (by first | omega | (simp; done) | (simp; omega)))
    clear za ca0 ca1 zo co0 co1 zx cx0 cx1 zy cy0 cy1 zm cm0 cm1
    replace Ka := Lib.hid (B2.step Ka.out HBB)
    replace Ko := Lib.hid (B2.step Ko.out HBB)
    replace Kx := Lib.hid (B2.step Kx.out HBB)
    replace Ky := Lib.hid (B2.step Ky.out HBB)
    replace Km := Lib.hid (B2.step Km.out HBB)
    replace hH := Held.step (w0 := w) hH HBB
    have hz3 := HBB.size
    obtain ⟨hc3, hf3⟩ := bcell HB
    clear HB HBB
    clear hc2 hf2
    obtain ⟨za, ca0, ca1⟩ := Ka.out
    obtain ⟨zo, co0, co1⟩ := Ko.out
    obtain ⟨zx, cx0, cx1⟩ := Kx.out
    obtain ⟨zy, cy0, cy1⟩ := Ky.out
    obtain ⟨zm, cm0, cm1⟩ := Km.out
    obtain ⟨zn, cn0, cn1⟩ := Kn.out
    go_wp2_with (fail)
    go_at_call 18
    (with_reducible refine (sp_check_ok _ _ _ (by omega)).mono ?_)
    rintro e w4 ⟨rfl, HB⟩
    have HBB := Below.trans (show Below w3.heap.size w3 _ from by repeat (first | with_reducible assumption | exact Below.refl _ _ | refine Below.drew ?_ | refine Below.setCell ?_ (by first | omega | (simp; done) | (simp; omega)) _ | refine Below.alloc ?_ (by first | omega | (simp; done) | (simp; omega)) _)) (Below.mono (B' := w3.heap.size) HB (by first | omega | (simp; done) | (simp; omega)))
    clear za ca0 ca1 zo co0 co1 zx cx0 cx1 zy cy0 cy1 zm cm0 cm1 zn cn0 cn1
    replace Ka := Lib.hid (B2.step Ka.out HBB)
    replace Ko := Lib.hid (B2.step Ko.out HBB)
    replace Kx := Lib.hid (B2.step Kx.out HBB)
    replace Ky := Lib.hid (B2.step Ky.out HBB)
    replace Km := Lib.hid (B2.step Km.out HBB)
    replace Kn := Lib.hid (B2.step Kn.out HBB)
    replace hH := Held.step (w0 := w) hH HBB
    have hz4 := HBB.size
    obtain ⟨hc4, hf4⟩ := bcell HB
    clear HB HBB
    clear hc3 hf3
    obtain ⟨za, ca0, ca1⟩ := Ka.out
    obtain ⟨zo, co0, co1⟩ := Ko.out
    obtain ⟨zx, cx0, cx1⟩ := Kx.out
    obtain ⟨zy, cy0, cy1⟩ := Ky.out
    obtain ⟨zm, cm0, cm1⟩ := Km.out
    obtain ⟨zn, cn0, cn1⟩ := Kn.out
    go_wp2_with (fail)
    go_at_call 17
    (with_reducible refine (sp_has_not _ _ _ _ (by omega)).mono ?_)
    rintro e w5 ⟨rfl, HB⟩
    have HBB := Below.trans (show Below w4.heap.size w4 _ from by repeat (first | with_reducible assumption | exact Below.refl _ _ | refine Below.drew ?_ | refine Below.setCell ?_ (by first | omega | (simp; done) | (simp; omega)) _ | refine Below.alloc ?_ (by first | omega | (simp; done) | (simp; omega)) _)) (Below.mono (B' := w4.heap.size) HB (by first | omega | (simp; done) | (simp; omega)))
    clear za ca0 ca1 zo co0 co1 zx cx0 cx1 zy cy0 cy1 zm cm0 cm1 zn cn0 cn1
    replace Ka := Lib.hid (B2.step Ka.out HBB)
    replace Ko := Lib.hid (B2.step Ko.out HBB)
    replace Kx := Lib.hid (B2.step Kx.out HBB)
    replace Ky := Lib.hid (B2.step Ky.out HBB)
    replace Km := Lib.hid (B2.step Km.out HBB)
    replace Kn := Lib.hid (B2.step Kn.out HBB)
    replace hH := Held.step (w0 := w) hH HBB
    have hz5 := HBB.size
    obtain ⟨hc5, hf5⟩ := bcell HB
    clear HB HBB
    clear hc4 hf4
    obtain ⟨za, ca0, ca1⟩ := Ka.out
    obtain ⟨zo, co0, co1⟩ := Ko.out
    obtain ⟨zx, cx0, cx1⟩ := Kx.out
    obtain ⟨zy, cy0, cy1⟩ := Ky.out
    obtain ⟨zm, cm0, cm1⟩ := Km.out
    obtain ⟨zn, cn0, cn1⟩ := Kn.out
    go_wp2_with (fail)
    go_at_call 17
    (with_reducible refine (sp_has_not _ _ _ _ (by omega)).mono ?_)
    rintro e w6 ⟨rfl, HB⟩
    have HBB := Below.trans (show Below w5.heap.size w5 _ from by repeat (first | with_reducible assumption | exact Below.refl _ _ | refine Below.drew ?_ | refine Below.setCell ?_ (by first | omega | (simp; done) | (simp; omega)) _ | refine Below.alloc ?_ (by first | omega | (simp; done) | (simp; omega)) _)) (Below.mono (B' := w5.heap.size) HB (by first | omega | (simp; done) | (simp; omega)))
    clear za ca0 ca1 zo co0 co1 zx cx0 cx1 zy cy0 cy1 zm cm0 cm1 zn cn0 cn1
    replace Ka := Lib.hid (B2.step Ka.out HBB)
    replace Ko := Lib.hid (B2.step Ko.out HBB)
    replace Kx := Lib.hid (B2.step Kx.out HBB)
    replace Ky := Lib.hid (B2.step Ky.out HBB)
    replace Km := Lib.hid (B2.step Km.out HBB)
    replace Kn := Lib.hid (B2.step Kn.out HBB)
    replace hH := Held.step (w0 := w) hH HBB
    have hz6 := HBB.size
    obtain ⟨hc6, hf6⟩ := bcell HB
    clear HB HBB
    clear hc5 hf5
    obtain ⟨za, ca0, ca1⟩ := Ka.out
    obtain ⟨zo, co0, co1⟩ := Ko.out
    obtain ⟨zx, cx0, cx1⟩ := Kx.out
    obtain ⟨zy, cy0, cy1⟩ := Ky.out
    obtain ⟨zm, cm0, cm1⟩ := Km.out
    obtain ⟨zn, cn0, cn1⟩ := Kn.out
    go_wp2_with (fail)
    go_at_call 15
    (with_reducible refine (sp_grow_neg _ _ _ _ h1 g1).mono ?_)
    rintro e w7 ⟨rfl, HB⟩
    have HBB := Below.trans (show Below w6.heap.size w6 _ from by repeat (first | with_reducible assumption | exact Below.refl _ _ | refine Below.drew ?_ | refine Below.setCell ?_ (by first | omega | (simp; done) | (simp; omega)) _ | refine Below.alloc ?_ (by first | omega | (simp; done) | (simp; omega)) _)) (Below.mono (B' := w6.heap.size) HB (by first | omega | (simp; done) | (simp; omega)))
    clear za ca0 ca1 zo co0 co1 zx cx0 cx1 zy cy0 cy1 zm cm0 cm1 zn cn0 cn1
    replace Ka := Lib.hid (B2.step Ka.out HBB)
    replace Ko := Lib.hid (B2.step Ko.out HBB)
    replace Kx := Lib.hid (B2.step Kx.out HBB)
    replace Ky := Lib.hid (B2.step Ky.out HBB)
    replace Km := Lib.hid (B2.step Km.out HBB)
    replace Kn := Lib.hid (B2.step Kn.out HBB)
    replace hH := Held.step (w0 := w) hH HBB
    have hz7 := HBB.size
    obtain ⟨hc7, hf7⟩ := bcell HB
    clear HB HBB
    clear hc6 hf6
    obtain ⟨za, ca0, ca1⟩ := Ka.out
    obtain ⟨zo, co0, co1⟩ := Ko.out
    obtain ⟨zx, cx0, cx1⟩ := Kx.out
    obtain ⟨zy, cy0, cy1⟩ := Ky.out
    obtain ⟨zm, cm0, cm1⟩ := Km.out
    obtain ⟨zn, cn0, cn1⟩ := Kn.out
    go_wp2_with (fail)
    go_at_call 18
    (with_reducible refine (sp_check_ok _ _ _ (by omega)).mono ?_)
    rintro e w8 ⟨rfl, HB⟩
    have HBB := Below.trans (show Below w7.heap.size w7 _ from by repeat (first | with_reducible assumption | exact Below.refl _ _ | refine Below.drew ?_ | refine Below.setCell ?_ (by first | omega | (simp; done) | (simp; omega)) _ | refine Below.alloc ?_ (by first | omega | (simp; done) | (simp; omega)) _)) (Below.mono (B' := w7.heap.size) HB (by first | omega | (simp; done) | (simp; omega)))
    clear za ca0 ca1 zo co0 co1 zx cx0 cx1 zy cy0 cy1 zm cm0 cm1 zn cn0 cn1
    replace Ka := Lib.hid (B2.step Ka.out HBB)
    replace Ko := Lib.hid (B2.step Ko.out HBB)
    replace Kx := Lib.hid (B2.step Kx.out HBB)
    replace Ky := Lib.hid (B2.step Ky.out HBB)
    replace Km := Lib.hid (B2.step Km.out HBB)
    replace Kn := Lib.hid (B2.step Kn.out HBB)
    replace hH := Held.step (w0 := w) hH HBB
    have hz8 := HBB.size
    obtain ⟨hc8, hf8⟩ := bcell HB
    clear HB HBB
    clear hc7 hf7
    obtain ⟨za, ca0, ca1⟩ := Ka.out
    obtain ⟨zo, co0, co1⟩ := Ko.out
    obtain ⟨zx, cx0, cx1⟩ := Kx.out
    obtain ⟨zy, cy0, cy1⟩ := Ky.out
    obtain ⟨zm, cm0, cm1⟩ := Km.out
    obtain ⟨zn, cn0, cn1⟩ := Kn.out
    go_wp2_with (fail)
    go_at_call 19
    (with_reducible refine (num13_err _ _ (Held.handle (w0 := w) (by repeat (first | assumption | refine Held.alloc ?_ _ | refine Held.drew ?_)))).mono ?_)
    rintro e w9 ⟨rfl, HB⟩
    have HBB := Below.trans (show Below w8.heap.size w8 _ from by repeat (first | with_reducible assumption | exact Below.refl _ _ | refine Below.drew ?_ | refine Below.setCell ?_ (by first | omega | (simp; done) | (simp; omega)) _ | refine Below.alloc ?_ (by first | omega | (simp; done) | (simp; omega)) _)) (Below.mono (B' := w8.heap.size) HB (by first | omega | (simp; done) | (simp; omega)))
    clear za ca0 ca1 zo co0 co1 zx cx0 cx1 zy cy0 cy1 zm cm0 cm1 zn cn0 cn1
    replace Ka := Lib.hid (B2.step Ka.out HBB)
    replace Ko := Lib.hid (B2.step Ko.out HBB)
    replace Kx := Lib.hid (B2.step Kx.out HBB)
    replace Ky := Lib.hid (B2.step Ky.out HBB)
    replace Km := Lib.hid (B2.step Km.out HBB)
    replace Kn := Lib.hid (B2.step Kn.out HBB)
    replace hH := Held.step (w0 := w) hH HBB
    have hz9 := HBB.size
    obtain ⟨hc9, hf9⟩ := bcell HB
    clear HB HBB
    clear hc8 hf8
    obtain ⟨za, ca0, ca1⟩ := Ka.out
    obtain ⟨zo, co0, co1⟩ := Ko.out
    obtain ⟨zx, cx0, cx1⟩ := Kx.out
    obtain ⟨zy, cy0, cy1⟩ := Ky.out
    obtain ⟨zm, cm0, cm1⟩ := Km.out
    obtain ⟨zn, cn0, cn1⟩ := Kn.out
    go_wp2_with (fail)
    go_at_call 20
    (with_reducible refine (sure13 _ (Held.handle (w0 := w) (by repeat (first | assumption | refine Held.alloc ?_ _ | refine Held.drew ?_)))).mono ?_)
    rintro e w10 ⟨rfl, HB⟩
    have HBB := Below.trans (show Below w9.heap.size w9 _ from by repeat (first | with_reducible assumption | exact Below.refl _ _ | refine Below.drew ?_ | refine Below.setCell ?_ (by first | omega | (simp; done) | (simp; omega)) _ | refine Below.alloc ?_ (by first | omega | (simp; done) | (simp; omega)) _)) (Below.mono (B' := w9.heap.size) HB (by first | omega | (simp; done) | (simp; omega)))
    clear za ca0 ca1 zo co0 co1 zx cx0 cx1 zy cy0 cy1 zm cm0 cm1 zn cn0 cn1
    replace Ka := Lib.hid (B2.step Ka.out HBB)
    replace Ko := Lib.hid (B2.step Ko.out HBB)
    replace Kx := Lib.hid (B2.step Kx.out HBB)
    replace Ky := Lib.hid (B2.step Ky.out HBB)
    replace Km := Lib.hid (B2.step Km.out HBB)
    replace Kn := Lib.hid (B2.step Kn.out HBB)
    replace hH := Held.step (w0 := w) hH HBB
    have hz10 := HBB.size
    obtain ⟨hc10, hf10⟩ := bcell HB
    clear HB HBB
    clear hc9 hf9
    obtain ⟨za, ca0, ca1⟩ := Ka.out
    obtain ⟨zo, co0, co1⟩ := Ko.out
    obtain ⟨zx, cx0, cx1⟩ := Kx.out
    obtain ⟨zy, cy0, cy1⟩ := Ky.out
    obtain ⟨zm, cm0, cm1⟩ := Km.out
    obtain ⟨zn, cn0, cn1⟩ := Kn.out
    go_wp2_with (fail)
    go_ret
    exact ⟨rfl, Held.below (w0 := w) (by repeat (first | assumption | refine Held.alloc ?_ _ | refine Held.drew ?_))⟩
set_option maxRecDepth 100000 in
set_option maxHeartbeats 8000000 in
theorem meets_D2_neg (a0 a1 b0 b1 o0 o1 : Int) (i1 : InR a0) (i2 : InR a1) (i3 : InR b0) (i4 : InR b1) (j1 : -2147483648 ≤ o0 ∧ o0 ≤ 2147483647) (j2 : -2147483648 ≤ o1 ∧ o1 ≤ 2147483647) (h1 : a0 ≤ a1) (h2 : b0 ≤ b1) (h3 : mx a0 b0 ≤ mn a1 b1) (h4 : a0 ≤ o0 ∧ o0 ≤ a1) (h5 : ¬ (b0 ≤ o0 ∧ o0 ≤ b1)) (g1 : o1 < 0) (w : World) (hg : w.cell? ⟨0, 0, none⟩ = some asHandle) :
    Calls Tryd.prog 6 #[.agg #[.int .i64 a0, .int .i64 a1], .agg #[.int .i64 b0, .int .i64 b1], .agg #[.int .i32 o0, .int .i32 o1]] w fun e w' => e = .returned (.bool true) ∧ Below w.heap.size w w' := by
  have hH := Held.start hg
  obtain ⟨X, hX⟩ : ∃ X, mx a0 b0 = X := ⟨_, rfl⟩
  obtain ⟨Y, hY⟩ : ∃ Y, mn a1 b1 = Y := ⟨_, rfl⟩
  rw [hX, hY] at h3
  have hX2 : mx b0 a0 = X := by rw [← hX]; unfold mx; split <;> split <;> omega
  have hY2 : mn b1 a1 = Y := by rw [← hY]; unfold mn; split <;> split <;> omega
  have hXa : a0 ≤ X ∧ b0 ≤ X ∧ (X = a0 ∨ X = b0) := by rw [← hX]; unfold mx; split <;> omega
  have hYa : Y ≤ a1 ∧ Y ≤ b1 ∧ (Y = a1 ∨ Y = b1) := by rw [← hY]; unfold mn; split <;> omega
  have HX := Lib.hid (show (if a0 < b0 then b0 else a0) = X from hX)
  have HY := Lib.hid (show (if b1 < a1 then b1 else a1) = Y from hY)
  have HX2 := Lib.hid (show (if b0 < a0 then a0 else b0) = X from hX2)
  have HY2 := Lib.hid (show (if a1 < b1 then a1 else b1) = Y from hY2)
  clear hX hY hX2 hY2
  go_enter Tryd.func6, Tryd.ntmps6
  go_wp2_with (fail)
  go_region
  · go_wp2_with (fail)
    go_at_call 14
    (with_reducible refine (sp_meet_d a0 a1 b0 b1 X Y _ HX.out HY.out h1 h2 h3).mono ?_)
    rintro e w1 ⟨rfl, HB⟩
    have Ka := Lib.hid (B2.step (show B2 (w.heap.size) (.int .i64 a0) (.int .i64 a1) _ from ⟨(by first | omega | (simp; done) | (simp; omega)), by go_simp, by go_simp⟩) HB)
    have Ko := Lib.hid (B2.step (show B2 (w.heap.size + 1 + 1) (.int .i32 o0) (.int .i32 o1) _ from ⟨(by first | omega | (simp; done) | (simp; omega)), by go_simp, by go_simp⟩) HB)
    have Kx := Lib.hid (B2.step (show B2 (w.heap.size + 1 + 1 + 1) (.int .i64 a0) (.int .i64 a1) _ from ⟨(by first | omega | (simp; done) | (simp; omega)), by go_simp, by go_simp⟩) HB)
    have Ky := Lib.hid (B2.step (show B2 (w.heap.size + 1 + 1 + 1 + 1) (.int .i64 b0) (.int .i64 b1) _ from ⟨(by first | omega | (simp; done) | (simp; omega)), by go_simp, by go_simp⟩) HB)
    have HBB := Below.trans (show Below w.heap.size w _ from by repeat (first | with_reducible assumption | exact Below.refl _ _ | refine Below.drew ?_ | refine Below.setCell ?_ (by first | omega | (simp; done) | (simp; omega)) _ | refine Below.alloc ?_ (by first | omega | (simp; done) | (simp; omega)) _)) (Below.mono (B' := w.heap.size) HB (by first | omega | (simp; done) | (simp; omega)))
    replace hH := Held.step (w0 := w) hH HBB
    have hz1 := HBB.size
    obtain ⟨hc1, hf1⟩ := bcell HB
    clear HB HBB
    obtain ⟨za, ca0, ca1⟩ := Ka.out
    obtain ⟨zo, co0, co1⟩ := Ko.out
    obtain ⟨zx, cx0, cx1⟩ := Kx.out
    obtain ⟨zy, cy0, cy1⟩ := Ky.out
    go_wp2_with (fail)
    go_at_call 14
    (with_reducible refine (sp_meet_d b0 b1 a0 a1 X Y _ HX2.out HY2.out h2 h1 h3).mono ?_)
    rintro e w2 ⟨rfl, HB⟩
    have Km := Lib.hid (B2.step (show B2 (w1.heap.size) (.int .i64 X) (.int .i64 Y) _ from ⟨(by first | omega | (simp; done) | (simp; omega)), by go_simp, by go_simp⟩) HB)
    have HBB := Below.trans (show Below w1.heap.size w1 _ from by repeat (first | with_reducible assumption | exact Below.refl _ _ | refine Below.drew ?_ | refine Below.setCell ?_ (by first | omega | (simp; done) | (simp; omega)) _ | refine Below.alloc ?_ (by first | omega | (simp; done) | (simp; omega)) _)) (Below.mono (B' := w1.heap.size) HB (by first | omega | (simp; done) | (simp; omega)))
    clear za ca0 ca1 zo co0 co1 zx cx0 cx1 zy cy0 cy1
    replace Ka := Lib.hid (B2.step Ka.out HBB)
    replace Ko := Lib.hid (B2.step Ko.out HBB)
    replace Kx := Lib.hid (B2.step Kx.out HBB)
    replace Ky := Lib.hid (B2.step Ky.out HBB)
    replace hH := Held.step (w0 := w) hH HBB
    have hz2 := HBB.size
    obtain ⟨hc2, hf2⟩ := bcell HB
    clear HB HBB
    clear hc1 hf1
    obtain ⟨za, ca0, ca1⟩ := Ka.out
    obtain ⟨zo, co0, co1⟩ := Ko.out
    obtain ⟨zx, cx0, cx1⟩ := Kx.out
    obtain ⟨zy, cy0, cy1⟩ := Ky.out
    obtain ⟨zm, cm0, cm1⟩ := Km.out
    go_wp2_with (fail)
    go_at_call 18
    (with_reducible refine (sp_check_ok _ _ _ (by omega)).mono ?_)
    rintro e w3 ⟨rfl, HB⟩
    have Kn := Lib.hid (B2.step (show B2 (w2.heap.size) (.int .i64 X) (.int .i64 Y) _ from ⟨(by first | omega | (simp; done) | (simp; omega)), by go_simp, by go_simp⟩) HB)
    have HBB := Below.trans (show Below w2.heap.size w2 _ from by repeat (first | with_reducible assumption | exact Below.refl _ _ | refine Below.drew ?_ | refine Below.setCell ?_ (by first | omega | (simp; done) | (simp; omega)) _ | refine Below.alloc ?_ (by first | omega | (simp; done) | (simp; omega)) _)) (Below.mono (B' := w2.heap.size) HB (by first | omega | (simp; done) | (simp; omega)))
    clear za ca0 ca1 zo co0 co1 zx cx0 cx1 zy cy0 cy1 zm cm0 cm1
    replace Ka := Lib.hid (B2.step Ka.out HBB)
    replace Ko := Lib.hid (B2.step Ko.out HBB)
    replace Kx := Lib.hid (B2.step Kx.out HBB)
    replace Ky := Lib.hid (B2.step Ky.out HBB)
    replace Km := Lib.hid (B2.step Km.out HBB)
    replace hH := Held.step (w0 := w) hH HBB
    have hz3 := HBB.size
    obtain ⟨hc3, hf3⟩ := bcell HB
    clear HB HBB
    clear hc2 hf2
    obtain ⟨za, ca0, ca1⟩ := Ka.out
    obtain ⟨zo, co0, co1⟩ := Ko.out
    obtain ⟨zx, cx0, cx1⟩ := Kx.out
    obtain ⟨zy, cy0, cy1⟩ := Ky.out
    obtain ⟨zm, cm0, cm1⟩ := Km.out
    obtain ⟨zn, cn0, cn1⟩ := Kn.out
    go_wp2_with (fail)
    go_at_call 18
    (with_reducible refine (sp_check_ok _ _ _ (by omega)).mono ?_)
    rintro e w4 ⟨rfl, HB⟩
    have HBB := Below.trans (show Below w3.heap.size w3 _ from by repeat (first | with_reducible assumption | exact Below.refl _ _ | refine Below.drew ?_ | refine Below.setCell ?_ (by first | omega | (simp; done) | (simp; omega)) _ | refine Below.alloc ?_ (by first | omega | (simp; done) | (simp; omega)) _)) (Below.mono (B' := w3.heap.size) HB (by first | omega | (simp; done) | (simp; omega)))
    clear za ca0 ca1 zo co0 co1 zx cx0 cx1 zy cy0 cy1 zm cm0 cm1 zn cn0 cn1
    replace Ka := Lib.hid (B2.step Ka.out HBB)
    replace Ko := Lib.hid (B2.step Ko.out HBB)
    replace Kx := Lib.hid (B2.step Kx.out HBB)
    replace Ky := Lib.hid (B2.step Ky.out HBB)
    replace Km := Lib.hid (B2.step Km.out HBB)
    replace Kn := Lib.hid (B2.step Kn.out HBB)
    replace hH := Held.step (w0 := w) hH HBB
    have hz4 := HBB.size
    obtain ⟨hc4, hf4⟩ := bcell HB
    clear HB HBB
    clear hc3 hf3
    obtain ⟨za, ca0, ca1⟩ := Ka.out
    obtain ⟨zo, co0, co1⟩ := Ko.out
    obtain ⟨zx, cx0, cx1⟩ := Kx.out
    obtain ⟨zy, cy0, cy1⟩ := Ky.out
    obtain ⟨zm, cm0, cm1⟩ := Km.out
    obtain ⟨zn, cn0, cn1⟩ := Kn.out
    go_wp2_with (fail)
    go_at_call 17
    (with_reducible refine (sp_has_is _ _ _ _ (by omega)).mono ?_)
    rintro e w5 ⟨rfl, HB⟩
    have HBB := Below.trans (show Below w4.heap.size w4 _ from by repeat (first | with_reducible assumption | exact Below.refl _ _ | refine Below.drew ?_ | refine Below.setCell ?_ (by first | omega | (simp; done) | (simp; omega)) _ | refine Below.alloc ?_ (by first | omega | (simp; done) | (simp; omega)) _)) (Below.mono (B' := w4.heap.size) HB (by first | omega | (simp; done) | (simp; omega)))
    clear za ca0 ca1 zo co0 co1 zx cx0 cx1 zy cy0 cy1 zm cm0 cm1 zn cn0 cn1
    replace Ka := Lib.hid (B2.step Ka.out HBB)
    replace Ko := Lib.hid (B2.step Ko.out HBB)
    replace Kx := Lib.hid (B2.step Kx.out HBB)
    replace Ky := Lib.hid (B2.step Ky.out HBB)
    replace Km := Lib.hid (B2.step Km.out HBB)
    replace Kn := Lib.hid (B2.step Kn.out HBB)
    replace hH := Held.step (w0 := w) hH HBB
    have hz5 := HBB.size
    obtain ⟨hc5, hf5⟩ := bcell HB
    clear HB HBB
    clear hc4 hf4
    obtain ⟨za, ca0, ca1⟩ := Ka.out
    obtain ⟨zo, co0, co1⟩ := Ko.out
    obtain ⟨zx, cx0, cx1⟩ := Kx.out
    obtain ⟨zy, cy0, cy1⟩ := Ky.out
    obtain ⟨zm, cm0, cm1⟩ := Km.out
    obtain ⟨zn, cn0, cn1⟩ := Kn.out
    go_wp2_with (fail)
    go_at_call 17
    (with_reducible refine (sp_has_not _ _ _ _ (by omega)).mono ?_)
    rintro e w6 ⟨rfl, HB⟩
    have HBB := Below.trans (show Below w5.heap.size w5 _ from by repeat (first | with_reducible assumption | exact Below.refl _ _ | refine Below.drew ?_ | refine Below.setCell ?_ (by first | omega | (simp; done) | (simp; omega)) _ | refine Below.alloc ?_ (by first | omega | (simp; done) | (simp; omega)) _)) (Below.mono (B' := w5.heap.size) HB (by first | omega | (simp; done) | (simp; omega)))
    clear za ca0 ca1 zo co0 co1 zx cx0 cx1 zy cy0 cy1 zm cm0 cm1 zn cn0 cn1
    replace Ka := Lib.hid (B2.step Ka.out HBB)
    replace Ko := Lib.hid (B2.step Ko.out HBB)
    replace Kx := Lib.hid (B2.step Kx.out HBB)
    replace Ky := Lib.hid (B2.step Ky.out HBB)
    replace Km := Lib.hid (B2.step Km.out HBB)
    replace Kn := Lib.hid (B2.step Kn.out HBB)
    replace hH := Held.step (w0 := w) hH HBB
    have hz6 := HBB.size
    obtain ⟨hc6, hf6⟩ := bcell HB
    clear HB HBB
    clear hc5 hf5
    obtain ⟨za, ca0, ca1⟩ := Ka.out
    obtain ⟨zo, co0, co1⟩ := Ko.out
    obtain ⟨zx, cx0, cx1⟩ := Kx.out
    obtain ⟨zy, cy0, cy1⟩ := Ky.out
    obtain ⟨zm, cm0, cm1⟩ := Km.out
    obtain ⟨zn, cn0, cn1⟩ := Kn.out
    go_wp2_with (fail)
    go_at_call 17
    (with_reducible refine (sp_has_not _ _ _ _ (by omega)).mono ?_)
    rintro e w7 ⟨rfl, HB⟩
    have HBB := Below.trans (show Below w6.heap.size w6 _ from by repeat (first | with_reducible assumption | exact Below.refl _ _ | refine Below.drew ?_ | refine Below.setCell ?_ (by first | omega | (simp; done) | (simp; omega)) _ | refine Below.alloc ?_ (by first | omega | (simp; done) | (simp; omega)) _)) (Below.mono (B' := w6.heap.size) HB (by first | omega | (simp; done) | (simp; omega)))
    clear za ca0 ca1 zo co0 co1 zx cx0 cx1 zy cy0 cy1 zm cm0 cm1 zn cn0 cn1
    replace Ka := Lib.hid (B2.step Ka.out HBB)
    replace Ko := Lib.hid (B2.step Ko.out HBB)
    replace Kx := Lib.hid (B2.step Kx.out HBB)
    replace Ky := Lib.hid (B2.step Ky.out HBB)
    replace Km := Lib.hid (B2.step Km.out HBB)
    replace Kn := Lib.hid (B2.step Kn.out HBB)
    replace hH := Held.step (w0 := w) hH HBB
    have hz7 := HBB.size
    obtain ⟨hc7, hf7⟩ := bcell HB
    clear HB HBB
    clear hc6 hf6
    obtain ⟨za, ca0, ca1⟩ := Ka.out
    obtain ⟨zo, co0, co1⟩ := Ko.out
    obtain ⟨zx, cx0, cx1⟩ := Kx.out
    obtain ⟨zy, cy0, cy1⟩ := Ky.out
    obtain ⟨zm, cm0, cm1⟩ := Km.out
    obtain ⟨zn, cn0, cn1⟩ := Kn.out
    go_wp2_with (fail)
    go_at_call 15
    (with_reducible refine (sp_grow_neg _ _ _ _ h1 g1).mono ?_)
    rintro e w8 ⟨rfl, HB⟩
    have HBB := Below.trans (show Below w7.heap.size w7 _ from by repeat (first | with_reducible assumption | exact Below.refl _ _ | refine Below.drew ?_ | refine Below.setCell ?_ (by first | omega | (simp; done) | (simp; omega)) _ | refine Below.alloc ?_ (by first | omega | (simp; done) | (simp; omega)) _)) (Below.mono (B' := w7.heap.size) HB (by first | omega | (simp; done) | (simp; omega)))
    clear za ca0 ca1 zo co0 co1 zx cx0 cx1 zy cy0 cy1 zm cm0 cm1 zn cn0 cn1
    replace Ka := Lib.hid (B2.step Ka.out HBB)
    replace Ko := Lib.hid (B2.step Ko.out HBB)
    replace Kx := Lib.hid (B2.step Kx.out HBB)
    replace Ky := Lib.hid (B2.step Ky.out HBB)
    replace Km := Lib.hid (B2.step Km.out HBB)
    replace Kn := Lib.hid (B2.step Kn.out HBB)
    replace hH := Held.step (w0 := w) hH HBB
    have hz8 := HBB.size
    obtain ⟨hc8, hf8⟩ := bcell HB
    clear HB HBB
    clear hc7 hf7
    obtain ⟨za, ca0, ca1⟩ := Ka.out
    obtain ⟨zo, co0, co1⟩ := Ko.out
    obtain ⟨zx, cx0, cx1⟩ := Kx.out
    obtain ⟨zy, cy0, cy1⟩ := Ky.out
    obtain ⟨zm, cm0, cm1⟩ := Km.out
    obtain ⟨zn, cn0, cn1⟩ := Kn.out
    go_wp2_with (fail)
    go_at_call 18
    (with_reducible refine (sp_check_ok _ _ _ (by omega)).mono ?_)
    rintro e w9 ⟨rfl, HB⟩
    have HBB := Below.trans (show Below w8.heap.size w8 _ from by repeat (first | with_reducible assumption | exact Below.refl _ _ | refine Below.drew ?_ | refine Below.setCell ?_ (by first | omega | (simp; done) | (simp; omega)) _ | refine Below.alloc ?_ (by first | omega | (simp; done) | (simp; omega)) _)) (Below.mono (B' := w8.heap.size) HB (by first | omega | (simp; done) | (simp; omega)))
    clear za ca0 ca1 zo co0 co1 zx cx0 cx1 zy cy0 cy1 zm cm0 cm1 zn cn0 cn1
    replace Ka := Lib.hid (B2.step Ka.out HBB)
    replace Ko := Lib.hid (B2.step Ko.out HBB)
    replace Kx := Lib.hid (B2.step Kx.out HBB)
    replace Ky := Lib.hid (B2.step Ky.out HBB)
    replace Km := Lib.hid (B2.step Km.out HBB)
    replace Kn := Lib.hid (B2.step Kn.out HBB)
    replace hH := Held.step (w0 := w) hH HBB
    have hz9 := HBB.size
    obtain ⟨hc9, hf9⟩ := bcell HB
    clear HB HBB
    clear hc8 hf8
    obtain ⟨za, ca0, ca1⟩ := Ka.out
    obtain ⟨zo, co0, co1⟩ := Ko.out
    obtain ⟨zx, cx0, cx1⟩ := Kx.out
    obtain ⟨zy, cy0, cy1⟩ := Ky.out
    obtain ⟨zm, cm0, cm1⟩ := Km.out
    obtain ⟨zn, cn0, cn1⟩ := Kn.out
    go_wp2_with (fail)
    go_at_call 19
    (with_reducible refine (num13_err _ _ (Held.handle (w0 := w) (by repeat (first | assumption | refine Held.alloc ?_ _ | refine Held.drew ?_)))).mono ?_)
    rintro e w10 ⟨rfl, HB⟩
    have HBB := Below.trans (show Below w9.heap.size w9 _ from by repeat (first | with_reducible assumption | exact Below.refl _ _ | refine Below.drew ?_ | refine Below.setCell ?_ (by first | omega | (simp; done) | (simp; omega)) _ | refine Below.alloc ?_ (by first | omega | (simp; done) | (simp; omega)) _)) (Below.mono (B' := w9.heap.size) HB (by first | omega | (simp; done) | (simp; omega)))
    clear za ca0 ca1 zo co0 co1 zx cx0 cx1 zy cy0 cy1 zm cm0 cm1 zn cn0 cn1
    replace Ka := Lib.hid (B2.step Ka.out HBB)
    replace Ko := Lib.hid (B2.step Ko.out HBB)
    replace Kx := Lib.hid (B2.step Kx.out HBB)
    replace Ky := Lib.hid (B2.step Ky.out HBB)
    replace Km := Lib.hid (B2.step Km.out HBB)
    replace Kn := Lib.hid (B2.step Kn.out HBB)
    replace hH := Held.step (w0 := w) hH HBB
    have hz10 := HBB.size
    obtain ⟨hc10, hf10⟩ := bcell HB
    clear HB HBB
    clear hc9 hf9
    obtain ⟨za, ca0, ca1⟩ := Ka.out
    obtain ⟨zo, co0, co1⟩ := Ko.out
    obtain ⟨zx, cx0, cx1⟩ := Kx.out
    obtain ⟨zy, cy0, cy1⟩ := Ky.out
    obtain ⟨zm, cm0, cm1⟩ := Km.out
    obtain ⟨zn, cn0, cn1⟩ := Kn.out
    go_wp2_with (fail)
    go_at_call 20
    (with_reducible refine (sure13 _ (Held.handle (w0 := w) (by repeat (first | assumption | refine Held.alloc ?_ _ | refine Held.drew ?_)))).mono ?_)
    rintro e w11 ⟨rfl, HB⟩
    have HBB := Below.trans (show Below w10.heap.size w10 _ from by repeat (first | with_reducible assumption | exact Below.refl _ _ | refine Below.drew ?_ | refine Below.setCell ?_ (by first | omega | (simp; done) | (simp; omega)) _ | refine Below.alloc ?_ (by first | omega | (simp; done) | (simp; omega)) _)) (Below.mono (B' := w10.heap.size) HB (by first | omega | (simp; done) | (simp; omega)))
    clear za ca0 ca1 zo co0 co1 zx cx0 cx1 zy cy0 cy1 zm cm0 cm1 zn cn0 cn1
    replace Ka := Lib.hid (B2.step Ka.out HBB)
    replace Ko := Lib.hid (B2.step Ko.out HBB)
    replace Kx := Lib.hid (B2.step Kx.out HBB)
    replace Ky := Lib.hid (B2.step Ky.out HBB)
    replace Km := Lib.hid (B2.step Km.out HBB)
    replace Kn := Lib.hid (B2.step Kn.out HBB)
    replace hH := Held.step (w0 := w) hH HBB
    have hz11 := HBB.size
    obtain ⟨hc11, hf11⟩ := bcell HB
    clear HB HBB
    clear hc10 hf10
    obtain ⟨za, ca0, ca1⟩ := Ka.out
    obtain ⟨zo, co0, co1⟩ := Ko.out
    obtain ⟨zx, cx0, cx1⟩ := Kx.out
    obtain ⟨zy, cy0, cy1⟩ := Ky.out
    obtain ⟨zm, cm0, cm1⟩ := Km.out
    obtain ⟨zn, cn0, cn1⟩ := Kn.out
    go_wp2_with (fail)
    go_ret
    exact ⟨rfl, Held.below (w0 := w) (by repeat (first | assumption | refine Held.alloc ?_ _ | refine Held.drew ?_))⟩
  · go_wp2_with (fail)
    go_at_call 14
    (with_reducible refine (sp_meet_d a0 a1 b0 b1 X Y _ HX.out HY.out h1 h2 h3).mono ?_)
    rintro e w1 ⟨rfl, HB⟩
    have Ka := Lib.hid (B2.step (show B2 (w.heap.size) (.int .i64 a0) (.int .i64 a1) _ from ⟨(by first | omega | (simp; done) | (simp; omega)), by go_simp, by go_simp⟩) HB)
    have Ko := Lib.hid (B2.step (show B2 (w.heap.size + 1 + 1) (.int .i32 o0) (.int .i32 o1) _ from ⟨(by first | omega | (simp; done) | (simp; omega)), by go_simp, by go_simp⟩) HB)
    have Kx := Lib.hid (B2.step (show B2 (w.heap.size + 1 + 1 + 1 + 1) (.int .i64 a0) (.int .i64 a1) _ from ⟨(by first | omega | (simp; done) | (simp; omega)), by go_simp, by go_simp⟩) HB)
    have Ky := Lib.hid (B2.step (show B2 (w.heap.size + 1 + 1 + 1) (.int .i64 b0) (.int .i64 b1) _ from ⟨(by first | omega | (simp; done) | (simp; omega)), by go_simp, by go_simp⟩) HB)
    have HBB := Below.trans (show Below w.heap.size w _ from by repeat (first | with_reducible assumption | exact Below.refl _ _ | refine Below.drew ?_ | refine Below.setCell ?_ (by first | omega | (simp; done) | (simp; omega)) _ | refine Below.alloc ?_ (by first | omega | (simp; done) | (simp; omega)) _)) (Below.mono (B' := w.heap.size) HB (by first | omega | (simp; done) | (simp; omega)))
    replace hH := Held.step (w0 := w) hH HBB
    have hz1 := HBB.size
    obtain ⟨hc1, hf1⟩ := bcell HB
    clear HB HBB
    obtain ⟨za, ca0, ca1⟩ := Ka.out
    obtain ⟨zo, co0, co1⟩ := Ko.out
    obtain ⟨zx, cx0, cx1⟩ := Kx.out
    obtain ⟨zy, cy0, cy1⟩ := Ky.out
    go_wp2_with (fail)
    go_at_call 14
    (with_reducible refine (sp_meet_d b0 b1 a0 a1 X Y _ HX2.out HY2.out h2 h1 h3).mono ?_)
    rintro e w2 ⟨rfl, HB⟩
    have Km := Lib.hid (B2.step (show B2 (w1.heap.size) (.int .i64 X) (.int .i64 Y) _ from ⟨(by first | omega | (simp; done) | (simp; omega)), by go_simp, by go_simp⟩) HB)
    have HBB := Below.trans (show Below w1.heap.size w1 _ from by repeat (first | with_reducible assumption | exact Below.refl _ _ | refine Below.drew ?_ | refine Below.setCell ?_ (by first | omega | (simp; done) | (simp; omega)) _ | refine Below.alloc ?_ (by first | omega | (simp; done) | (simp; omega)) _)) (Below.mono (B' := w1.heap.size) HB (by first | omega | (simp; done) | (simp; omega)))
    clear za ca0 ca1 zo co0 co1 zx cx0 cx1 zy cy0 cy1
    replace Ka := Lib.hid (B2.step Ka.out HBB)
    replace Ko := Lib.hid (B2.step Ko.out HBB)
    replace Kx := Lib.hid (B2.step Kx.out HBB)
    replace Ky := Lib.hid (B2.step Ky.out HBB)
    replace hH := Held.step (w0 := w) hH HBB
    have hz2 := HBB.size
    obtain ⟨hc2, hf2⟩ := bcell HB
    clear HB HBB
    clear hc1 hf1
    obtain ⟨za, ca0, ca1⟩ := Ka.out
    obtain ⟨zo, co0, co1⟩ := Ko.out
    obtain ⟨zx, cx0, cx1⟩ := Kx.out
    obtain ⟨zy, cy0, cy1⟩ := Ky.out
    obtain ⟨zm, cm0, cm1⟩ := Km.out
    go_wp2_with (fail)
    go_at_call 18
    (with_reducible refine (sp_check_ok _ _ _ (by omega)).mono ?_)
    rintro e w3 ⟨rfl, HB⟩
    have Kn := Lib.hid (B2.step (show B2 (w2.heap.size) (.int .i64 X) (.int .i64 Y) _ from ⟨(by first | omega | (simp; done) | (simp; omega)), by go_simp, by go_simp⟩) HB)
    have HBB := Below.trans (show Below w2.heap.size w2 _ from by repeat (first | with_reducible assumption | exact Below.refl _ _ | refine Below.drew ?_ | refine Below.setCell ?_ (by first | omega | (simp; done) | (simp; omega)) _ | refine Below.alloc ?_ (by first | omega | (simp; done) | (simp; omega)) _)) (Below.mono (B' := w2.heap.size) HB (by first | omega | (simp; done) | (simp; omega)))
    clear za ca0 ca1 zo co0 co1 zx cx0 cx1 zy cy0 cy1 zm cm0 cm1
    replace Ka := Lib.hid (B2.step Ka.out HBB)
    replace Ko := Lib.hid (B2.step Ko.out HBB)
    replace Kx := Lib.hid (B2.step Kx.out HBB)
    replace Ky := Lib.hid (B2.step Ky.out HBB)
    replace Km := Lib.hid (B2.step Km.out HBB)
    replace hH := Held.step (w0 := w) hH HBB
    have hz3 := HBB.size
    obtain ⟨hc3, hf3⟩ := bcell HB
    clear HB HBB
    clear hc2 hf2
    obtain ⟨za, ca0, ca1⟩ := Ka.out
    obtain ⟨zo, co0, co1⟩ := Ko.out
    obtain ⟨zx, cx0, cx1⟩ := Kx.out
    obtain ⟨zy, cy0, cy1⟩ := Ky.out
    obtain ⟨zm, cm0, cm1⟩ := Km.out
    obtain ⟨zn, cn0, cn1⟩ := Kn.out
    go_wp2_with (fail)
    go_at_call 18
    (with_reducible refine (sp_check_ok _ _ _ (by omega)).mono ?_)
    rintro e w4 ⟨rfl, HB⟩
    have HBB := Below.trans (show Below w3.heap.size w3 _ from by repeat (first | with_reducible assumption | exact Below.refl _ _ | refine Below.drew ?_ | refine Below.setCell ?_ (by first | omega | (simp; done) | (simp; omega)) _ | refine Below.alloc ?_ (by first | omega | (simp; done) | (simp; omega)) _)) (Below.mono (B' := w3.heap.size) HB (by first | omega | (simp; done) | (simp; omega)))
    clear za ca0 ca1 zo co0 co1 zx cx0 cx1 zy cy0 cy1 zm cm0 cm1 zn cn0 cn1
    replace Ka := Lib.hid (B2.step Ka.out HBB)
    replace Ko := Lib.hid (B2.step Ko.out HBB)
    replace Kx := Lib.hid (B2.step Kx.out HBB)
    replace Ky := Lib.hid (B2.step Ky.out HBB)
    replace Km := Lib.hid (B2.step Km.out HBB)
    replace Kn := Lib.hid (B2.step Kn.out HBB)
    replace hH := Held.step (w0 := w) hH HBB
    have hz4 := HBB.size
    obtain ⟨hc4, hf4⟩ := bcell HB
    clear HB HBB
    clear hc3 hf3
    obtain ⟨za, ca0, ca1⟩ := Ka.out
    obtain ⟨zo, co0, co1⟩ := Ko.out
    obtain ⟨zx, cx0, cx1⟩ := Kx.out
    obtain ⟨zy, cy0, cy1⟩ := Ky.out
    obtain ⟨zm, cm0, cm1⟩ := Km.out
    obtain ⟨zn, cn0, cn1⟩ := Kn.out
    go_wp2_with (fail)
    go_at_call 17
    (with_reducible refine (sp_has_is _ _ _ _ (by omega)).mono ?_)
    rintro e w5 ⟨rfl, HB⟩
    have HBB := Below.trans (show Below w4.heap.size w4 _ from by repeat (first | with_reducible assumption | exact Below.refl _ _ | refine Below.drew ?_ | refine Below.setCell ?_ (by first | omega | (simp; done) | (simp; omega)) _ | refine Below.alloc ?_ (by first | omega | (simp; done) | (simp; omega)) _)) (Below.mono (B' := w4.heap.size) HB (by first | omega | (simp; done) | (simp; omega)))
    clear za ca0 ca1 zo co0 co1 zx cx0 cx1 zy cy0 cy1 zm cm0 cm1 zn cn0 cn1
    replace Ka := Lib.hid (B2.step Ka.out HBB)
    replace Ko := Lib.hid (B2.step Ko.out HBB)
    replace Kx := Lib.hid (B2.step Kx.out HBB)
    replace Ky := Lib.hid (B2.step Ky.out HBB)
    replace Km := Lib.hid (B2.step Km.out HBB)
    replace Kn := Lib.hid (B2.step Kn.out HBB)
    replace hH := Held.step (w0 := w) hH HBB
    have hz5 := HBB.size
    obtain ⟨hc5, hf5⟩ := bcell HB
    clear HB HBB
    clear hc4 hf4
    obtain ⟨za, ca0, ca1⟩ := Ka.out
    obtain ⟨zo, co0, co1⟩ := Ko.out
    obtain ⟨zx, cx0, cx1⟩ := Kx.out
    obtain ⟨zy, cy0, cy1⟩ := Ky.out
    obtain ⟨zm, cm0, cm1⟩ := Km.out
    obtain ⟨zn, cn0, cn1⟩ := Kn.out
    go_wp2_with (fail)
    go_at_call 17
    (with_reducible refine (sp_has_not _ _ _ _ (by omega)).mono ?_)
    rintro e w6 ⟨rfl, HB⟩
    have HBB := Below.trans (show Below w5.heap.size w5 _ from by repeat (first | with_reducible assumption | exact Below.refl _ _ | refine Below.drew ?_ | refine Below.setCell ?_ (by first | omega | (simp; done) | (simp; omega)) _ | refine Below.alloc ?_ (by first | omega | (simp; done) | (simp; omega)) _)) (Below.mono (B' := w5.heap.size) HB (by first | omega | (simp; done) | (simp; omega)))
    clear za ca0 ca1 zo co0 co1 zx cx0 cx1 zy cy0 cy1 zm cm0 cm1 zn cn0 cn1
    replace Ka := Lib.hid (B2.step Ka.out HBB)
    replace Ko := Lib.hid (B2.step Ko.out HBB)
    replace Kx := Lib.hid (B2.step Kx.out HBB)
    replace Ky := Lib.hid (B2.step Ky.out HBB)
    replace Km := Lib.hid (B2.step Km.out HBB)
    replace Kn := Lib.hid (B2.step Kn.out HBB)
    replace hH := Held.step (w0 := w) hH HBB
    have hz6 := HBB.size
    obtain ⟨hc6, hf6⟩ := bcell HB
    clear HB HBB
    clear hc5 hf5
    obtain ⟨za, ca0, ca1⟩ := Ka.out
    obtain ⟨zo, co0, co1⟩ := Ko.out
    obtain ⟨zx, cx0, cx1⟩ := Kx.out
    obtain ⟨zy, cy0, cy1⟩ := Ky.out
    obtain ⟨zm, cm0, cm1⟩ := Km.out
    obtain ⟨zn, cn0, cn1⟩ := Kn.out
    go_wp2_with (fail)
    go_at_call 17
    (with_reducible refine (sp_has_not _ _ _ _ (by omega)).mono ?_)
    rintro e w7 ⟨rfl, HB⟩
    have HBB := Below.trans (show Below w6.heap.size w6 _ from by repeat (first | with_reducible assumption | exact Below.refl _ _ | refine Below.drew ?_ | refine Below.setCell ?_ (by first | omega | (simp; done) | (simp; omega)) _ | refine Below.alloc ?_ (by first | omega | (simp; done) | (simp; omega)) _)) (Below.mono (B' := w6.heap.size) HB (by first | omega | (simp; done) | (simp; omega)))
    clear za ca0 ca1 zo co0 co1 zx cx0 cx1 zy cy0 cy1 zm cm0 cm1 zn cn0 cn1
    replace Ka := Lib.hid (B2.step Ka.out HBB)
    replace Ko := Lib.hid (B2.step Ko.out HBB)
    replace Kx := Lib.hid (B2.step Kx.out HBB)
    replace Ky := Lib.hid (B2.step Ky.out HBB)
    replace Km := Lib.hid (B2.step Km.out HBB)
    replace Kn := Lib.hid (B2.step Kn.out HBB)
    replace hH := Held.step (w0 := w) hH HBB
    have hz7 := HBB.size
    obtain ⟨hc7, hf7⟩ := bcell HB
    clear HB HBB
    clear hc6 hf6
    obtain ⟨za, ca0, ca1⟩ := Ka.out
    obtain ⟨zo, co0, co1⟩ := Ko.out
    obtain ⟨zx, cx0, cx1⟩ := Kx.out
    obtain ⟨zy, cy0, cy1⟩ := Ky.out
    obtain ⟨zm, cm0, cm1⟩ := Km.out
    obtain ⟨zn, cn0, cn1⟩ := Kn.out
    go_wp2_with (fail)
    go_at_call 15
    (with_reducible refine (sp_grow_neg _ _ _ _ h1 g1).mono ?_)
    rintro e w8 ⟨rfl, HB⟩
    have HBB := Below.trans (show Below w7.heap.size w7 _ from by repeat (first | with_reducible assumption | exact Below.refl _ _ | refine Below.drew ?_ | refine Below.setCell ?_ (by first | omega | (simp; done) | (simp; omega)) _ | refine Below.alloc ?_ (by first | omega | (simp; done) | (simp; omega)) _)) (Below.mono (B' := w7.heap.size) HB (by first | omega | (simp; done) | (simp; omega)))
    clear za ca0 ca1 zo co0 co1 zx cx0 cx1 zy cy0 cy1 zm cm0 cm1 zn cn0 cn1
    replace Ka := Lib.hid (B2.step Ka.out HBB)
    replace Ko := Lib.hid (B2.step Ko.out HBB)
    replace Kx := Lib.hid (B2.step Kx.out HBB)
    replace Ky := Lib.hid (B2.step Ky.out HBB)
    replace Km := Lib.hid (B2.step Km.out HBB)
    replace Kn := Lib.hid (B2.step Kn.out HBB)
    replace hH := Held.step (w0 := w) hH HBB
    have hz8 := HBB.size
    obtain ⟨hc8, hf8⟩ := bcell HB
    clear HB HBB
    clear hc7 hf7
    obtain ⟨za, ca0, ca1⟩ := Ka.out
    obtain ⟨zo, co0, co1⟩ := Ko.out
    obtain ⟨zx, cx0, cx1⟩ := Kx.out
    obtain ⟨zy, cy0, cy1⟩ := Ky.out
    obtain ⟨zm, cm0, cm1⟩ := Km.out
    obtain ⟨zn, cn0, cn1⟩ := Kn.out
    go_wp2_with (fail)
    go_at_call 18
    (with_reducible refine (sp_check_ok _ _ _ (by omega)).mono ?_)
    rintro e w9 ⟨rfl, HB⟩
    have HBB := Below.trans (show Below w8.heap.size w8 _ from by repeat (first | with_reducible assumption | exact Below.refl _ _ | refine Below.drew ?_ | refine Below.setCell ?_ (by first | omega | (simp; done) | (simp; omega)) _ | refine Below.alloc ?_ (by first | omega | (simp; done) | (simp; omega)) _)) (Below.mono (B' := w8.heap.size) HB (by first | omega | (simp; done) | (simp; omega)))
    clear za ca0 ca1 zo co0 co1 zx cx0 cx1 zy cy0 cy1 zm cm0 cm1 zn cn0 cn1
    replace Ka := Lib.hid (B2.step Ka.out HBB)
    replace Ko := Lib.hid (B2.step Ko.out HBB)
    replace Kx := Lib.hid (B2.step Kx.out HBB)
    replace Ky := Lib.hid (B2.step Ky.out HBB)
    replace Km := Lib.hid (B2.step Km.out HBB)
    replace Kn := Lib.hid (B2.step Kn.out HBB)
    replace hH := Held.step (w0 := w) hH HBB
    have hz9 := HBB.size
    obtain ⟨hc9, hf9⟩ := bcell HB
    clear HB HBB
    clear hc8 hf8
    obtain ⟨za, ca0, ca1⟩ := Ka.out
    obtain ⟨zo, co0, co1⟩ := Ko.out
    obtain ⟨zx, cx0, cx1⟩ := Kx.out
    obtain ⟨zy, cy0, cy1⟩ := Ky.out
    obtain ⟨zm, cm0, cm1⟩ := Km.out
    obtain ⟨zn, cn0, cn1⟩ := Kn.out
    go_wp2_with (fail)
    go_at_call 19
    (with_reducible refine (num13_err _ _ (Held.handle (w0 := w) (by repeat (first | assumption | refine Held.alloc ?_ _ | refine Held.drew ?_)))).mono ?_)
    rintro e w10 ⟨rfl, HB⟩
    have HBB := Below.trans (show Below w9.heap.size w9 _ from by repeat (first | with_reducible assumption | exact Below.refl _ _ | refine Below.drew ?_ | refine Below.setCell ?_ (by first | omega | (simp; done) | (simp; omega)) _ | refine Below.alloc ?_ (by first | omega | (simp; done) | (simp; omega)) _)) (Below.mono (B' := w9.heap.size) HB (by first | omega | (simp; done) | (simp; omega)))
    clear za ca0 ca1 zo co0 co1 zx cx0 cx1 zy cy0 cy1 zm cm0 cm1 zn cn0 cn1
    replace Ka := Lib.hid (B2.step Ka.out HBB)
    replace Ko := Lib.hid (B2.step Ko.out HBB)
    replace Kx := Lib.hid (B2.step Kx.out HBB)
    replace Ky := Lib.hid (B2.step Ky.out HBB)
    replace Km := Lib.hid (B2.step Km.out HBB)
    replace Kn := Lib.hid (B2.step Kn.out HBB)
    replace hH := Held.step (w0 := w) hH HBB
    have hz10 := HBB.size
    obtain ⟨hc10, hf10⟩ := bcell HB
    clear HB HBB
    clear hc9 hf9
    obtain ⟨za, ca0, ca1⟩ := Ka.out
    obtain ⟨zo, co0, co1⟩ := Ko.out
    obtain ⟨zx, cx0, cx1⟩ := Kx.out
    obtain ⟨zy, cy0, cy1⟩ := Ky.out
    obtain ⟨zm, cm0, cm1⟩ := Km.out
    obtain ⟨zn, cn0, cn1⟩ := Kn.out
    go_wp2_with (fail)
    go_at_call 20
    (with_reducible refine (sure13 _ (Held.handle (w0 := w) (by repeat (first | assumption | refine Held.alloc ?_ _ | refine Held.drew ?_)))).mono ?_)
    rintro e w11 ⟨rfl, HB⟩
    have HBB := Below.trans (show Below w10.heap.size w10 _ from by repeat (first | with_reducible assumption | exact Below.refl _ _ | refine Below.drew ?_ | refine Below.setCell ?_ (by first | omega | (simp; done) | (simp; omega)) _ | refine Below.alloc ?_ (by first | omega | (simp; done) | (simp; omega)) _)) (Below.mono (B' := w10.heap.size) HB (by first | omega | (simp; done) | (simp; omega)))
    clear za ca0 ca1 zo co0 co1 zx cx0 cx1 zy cy0 cy1 zm cm0 cm1 zn cn0 cn1
    replace Ka := Lib.hid (B2.step Ka.out HBB)
    replace Ko := Lib.hid (B2.step Ko.out HBB)
    replace Kx := Lib.hid (B2.step Kx.out HBB)
    replace Ky := Lib.hid (B2.step Ky.out HBB)
    replace Km := Lib.hid (B2.step Km.out HBB)
    replace Kn := Lib.hid (B2.step Kn.out HBB)
    replace hH := Held.step (w0 := w) hH HBB
    have hz11 := HBB.size
    obtain ⟨hc11, hf11⟩ := bcell HB
    clear HB HBB
    clear hc10 hf10
    obtain ⟨za, ca0, ca1⟩ := Ka.out
    obtain ⟨zo, co0, co1⟩ := Ko.out
    obtain ⟨zx, cx0, cx1⟩ := Kx.out
    obtain ⟨zy, cy0, cy1⟩ := Ky.out
    obtain ⟨zm, cm0, cm1⟩ := Km.out
    obtain ⟨zn, cn0, cn1⟩ := Kn.out
    go_wp2_with (fail)
    go_ret
    exact ⟨rfl, Held.below (w0 := w) (by repeat (first | assumption | refine Held.alloc ?_ _ | refine Held.drew ?_))⟩
end Go.Proofs.YtgkpbokipnfddaaDoor
