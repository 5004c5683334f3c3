/-
  Layer 27: the statement PauseTells.
-/
import Derived.Test.YtengchkiejpglaaDoorV27
import Derived.Deep.RegionHeld3
namespace Go.Proofs.YtengchkiejpglaaDoor
open Go.RowKit Go.Extern.Stop Go.Stop Go.Extern
set_option linter.unusedVariables false
set_option linter.unusedSimpArgs false
theorem pcheck_ok (on : Bool) (m k : Int) (w : World) (hm : InR m) (hk : InR k) (h : MayP on m k) : Calls Tryd.prog 80 #[.agg #[.bool on, .int .i64 m, .int .i64 k]] w fun e w' => e = .returned .nilIface ∧ Below w.heap.size w w' :=
  (pcheck_c on m k w hm hk).mono fun e w' hp => by rcases hp with ⟨_, a, b⟩ | ⟨g, _⟩; exact ⟨a, b⟩; exact absurd h g
theorem pcheck_no (on : Bool) (m k : Int) (w : World) (hm : InR m) (hk : InR k) (h : ¬ MayP on m k) : Calls Tryd.prog 80 #[.agg #[.bool on, .int .i64 m, .int .i64 k]] w fun e w' => e = .returned (errV 1) ∧ Below w.heap.size w w' :=
  (pcheck_c on m k w hm hk).mono fun e w' hp => by rcases hp with ⟨g, _⟩ | ⟨_, a, b⟩; exact absurd g h; exact ⟨a, b⟩
theorem rmayp_ok (on : Bool) (m k : Int) (w : World) (hm : InR m) (hk : InR k) (h : MayP on m k) : Calls Tryd.prog 81 #[.agg #[.bool on, .int .i64 m, .int .i64 k]] w fun e w' => e = .returned (.bool true) ∧ Below w.heap.size w w' :=
  (rmayp_c on m k w hm hk).mono fun e w' hp => by rcases hp with ⟨_, a, b⟩ | ⟨g, _⟩; exact ⟨a, b⟩; exact absurd h g
theorem rmayp_no (on : Bool) (m k : Int) (w : World) (hm : InR m) (hk : InR k) (h : ¬ MayP on m k) : Calls Tryd.prog 81 #[.agg #[.bool on, .int .i64 m, .int .i64 k]] w fun e w' => e = .returned (.bool false) ∧ Below w.heap.size w w' :=
  (rmayp_c on m k w hm hk).mono fun e w' hp => by rcases hp with ⟨g, _⟩ | ⟨_, a, b⟩; exact absurd g h; exact ⟨a, b⟩
/-- A block of so many cells is there, and holds these. -/
abbrev B1 (b : Nat) (x : Value) (wx : World) : Prop := b < wx.heap.size ∧ wx.cell? ⟨b, 0, none⟩ = some x
abbrev B2 (b : Nat) (x y : Value) (wx : World) : Prop := b < wx.heap.size ∧ wx.cell? ⟨b, 0, none⟩ = some x ∧ wx.cell? ⟨b, 1, none⟩ = some y
abbrev B3 (b : Nat) (x y z : Value) (wx : World) : Prop := b < wx.heap.size ∧ wx.cell? ⟨b, 0, none⟩ = some x ∧ wx.cell? ⟨b, 1, none⟩ = some y ∧ wx.cell? ⟨b, 2, none⟩ = some z
theorem B1.step {b : Nat} {x : Value} {wx w' : World} (h : B1 b x wx) (hb : Below wx.heap.size wx w') : B1 b x w' :=
  ⟨Nat.lt_of_lt_of_le h.1 hb.size, by rw [hb.cell (p := ⟨b, 0, none⟩) h.1]; exact h.2⟩
theorem B2.step {b : Nat} {x y : Value} {wx w' : World} (h : B2 b x y wx) (hb : Below wx.heap.size wx w') : B2 b x y w' :=
  ⟨Nat.lt_of_lt_of_le h.1 hb.size, by rw [hb.cell (p := ⟨b, 0, none⟩) h.1]; exact h.2.1, by rw [hb.cell (p := ⟨b, 1, none⟩) h.1]; exact h.2.2⟩
theorem B3.step {b : Nat} {x y z : Value} {wx w' : World} (h : B3 b x y z wx) (hb : Below wx.heap.size wx w') : B3 b x y z w' :=
  ⟨Nat.lt_of_lt_of_le h.1 hb.size, by rw [hb.cell (p := ⟨b, 0, none⟩) h.1]; exact h.2.1, by rw [hb.cell (p := ⟨b, 1, none⟩) h.1]; exact h.2.2.1, by rw [hb.cell (p := ⟨b, 2, none⟩) h.1]; exact h.2.2.2⟩
abbrev SPT (w : World) (b0 : Nat) (v00 v01 v02 : Value) (b1 : Nat) (v10 v11 v12 : Value) (b2 : Nat) (v20 v21 v22 : Value) (b3 : Nat) (v30 v31 v32 : Value) (b4 : Nat) (v40 v41 v42 : Value) (b5 : Nat) (v50 v51 v52 : Value) (wx : World) : Prop := Held w wx ∧ B3 b0 v00 v01 v02 wx ∧ B3 b1 v10 v11 v12 wx ∧ B3 b2 v20 v21 v22 wx ∧ B3 b3 v30 v31 v32 wx ∧ B3 b4 v40 v41 v42 wx ∧ B3 b5 v50 v51 v52 wx
theorem SPT.step {w : World} {b0 : Nat} {v00 v01 v02 : Value} {b1 : Nat} {v10 v11 v12 : Value} {b2 : Nat} {v20 v21 v22 : Value} {b3 : Nat} {v30 v31 v32 : Value} {b4 : Nat} {v40 v41 v42 : Value} {b5 : Nat} {v50 v51 v52 : Value} {wx w' : World} (h : SPT w b0 v00 v01 v02 b1 v10 v11 v12 b2 v20 v21 v22 b3 v30 v31 v32 b4 v40 v41 v42 b5 v50 v51 v52 wx) (hb : Below wx.heap.size wx w') : SPT w b0 v00 v01 v02 b1 v10 v11 v12 b2 v20 v21 v22 b3 v30 v31 v32 b4 v40 v41 v42 b5 v50 v51 v52 w' := ⟨(h.1).step hb, (h.2.1).step hb, (h.2.2.1).step hb, (h.2.2.2.1).step hb, (h.2.2.2.2.1).step hb, (h.2.2.2.2.2.1).step hb, (h.2.2.2.2.2.2).step hb⟩
theorem SPT.drew {w : World} {b0 : Nat} {v00 v01 v02 : Value} {b1 : Nat} {v10 v11 v12 : Value} {b2 : Nat} {v20 v21 v22 : Value} {b3 : Nat} {v30 v31 v32 : Value} {b4 : Nat} {v40 v41 v42 : Value} {b5 : Nat} {v50 v51 v52 : Value} {wx : World} (h : SPT w b0 v00 v01 v02 b1 v10 v11 v12 b2 v20 v21 v22 b3 v30 v31 v32 b4 v40 v41 v42 b5 v50 v51 v52 wx) : SPT w b0 v00 v01 v02 b1 v10 v11 v12 b2 v20 v21 v22 b3 v30 v31 v32 b4 v40 v41 v42 b5 v50 v51 v52 wx.drew := h.step (Below.refl _ _).drew
set_option maxRecDepth 100000 in
set_option maxHeartbeats 16000000 in
theorem walkPauseTells (on : Bool) (m k t : Int) (jump : Bool) (hm : InR m) (hk : InR k) (ht : InR t) (w : World) (hg : w.cell? ⟨0, 0, none⟩ = some asHandle) :
    Calls Tryd.prog 15 #[.agg #[.bool on, .int .i64 m, .int .i64 k], .int .i64 t, .bool jump] w fun e w' => e = .returned (.bool true) ∧ Below w.heap.size w w' := by
  have hH := Held.start hg
  by_cases hM : MayP on m k
  all_goals (have HM := Lib.hid hM; clear hM)
  all_goals
    go_enter Tryd.func15, Tryd.ntmps15
    go_wp2_with (fail)
    go_at_call 73
    (with_reducible refine (pstop_f _ _ _ _ _ hm hk ht).mono ?_)
    rintro e w1 ⟨rfl, HB⟩
    obtain ⟨hc1, hf1⟩ := bcell HB
    obtain ⟨hd1, hh1⟩ := bcell2 (U := w) (by repeat (first | exact Below.refl _ _ | refine Below.setCell ?_ (by simp <;> omega) _ | refine Below.alloc ?_ (by simp <;> omega) _ | refine Below.drew ?_)) HB
    have hz1 := HB.size
    try simp at hz1
    (try (have z1w0 : w.heap.size < w1.heap.size := (by omega)))
    (try (have z1w1 : w.heap.size + 1 < w1.heap.size := (by omega)))
    (try (have z1w2 : w.heap.size + 1 + 1 < w1.heap.size := (by omega)))
    (try (have z1w3 : w.heap.size + 1 + 1 + 1 < w1.heap.size := (by omega)))
    have hH1 := Held.step (w0 := w) (by repeat (first | assumption | refine Held.alloc ?_ _ | refine Held.drew ?_)) HB
    clear HB
    go_wp2_with (fail)
    go_at_call 74
    (with_reducible refine (rstop_f _ _ _ _ _ hm hk ht).mono ?_)
    rintro e w2 ⟨rfl, HB⟩
    obtain ⟨hc2, hf2⟩ := bcell HB
    obtain ⟨hd2, hh2⟩ := bcell2 (U := w1) (by repeat (first | exact Below.refl _ _ | refine Below.setCell ?_ (by simp <;> omega) _ | refine Below.alloc ?_ (by simp <;> omega) _ | refine Below.drew ?_)) HB
    have hz2 := HB.size
    try simp at hz2
    (try (have z2w0 : w.heap.size < w2.heap.size := (by omega)))
    (try (have z2w1 : w.heap.size + 1 < w2.heap.size := (by omega)))
    (try (have z2w2 : w.heap.size + 1 + 1 < w2.heap.size := (by omega)))
    (try (have z2w3 : w.heap.size + 1 + 1 + 1 < w2.heap.size := (by omega)))
    (try (have z2w10 : w1.heap.size < w2.heap.size := (by omega)))
    (try (have z2w11 : w1.heap.size + 1 < w2.heap.size := (by omega)))
    (try (have z2w12 : w1.heap.size + 1 + 1 < w2.heap.size := (by omega)))
    (try (have z2w13 : w1.heap.size + 1 + 1 + 1 < w2.heap.size := (by omega)))
    have hH2 := Held.step (w0 := w) (by repeat (first | assumption | refine Held.alloc ?_ _ | refine Held.drew ?_)) HB
    clear HB
    go_wp2_with (fail)
    go_at_call 75
    (with_reducible refine (pgo_f _ _ _ _ _ _ hm hk ht).mono ?_)
    rintro e w3 ⟨rfl, HB⟩
    obtain ⟨hc3, hf3⟩ := bcell HB
    obtain ⟨hd3, hh3⟩ := bcell2 (U := w2) (by repeat (first | exact Below.refl _ _ | refine Below.setCell ?_ (by simp <;> omega) _ | refine Below.alloc ?_ (by simp <;> omega) _ | refine Below.drew ?_)) HB
    have hz3 := HB.size
    try simp at hz3
    (try (have z3w0 : w.heap.size < w3.heap.size := (by omega)))
    (try (have z3w1 : w.heap.size + 1 < w3.heap.size := (by omega)))
    (try (have z3w2 : w.heap.size + 1 + 1 < w3.heap.size := (by omega)))
    (try (have z3w3 : w.heap.size + 1 + 1 + 1 < w3.heap.size := (by omega)))
    (try (have z3w10 : w1.heap.size < w3.heap.size := (by omega)))
    (try (have z3w11 : w1.heap.size + 1 < w3.heap.size := (by omega)))
    (try (have z3w12 : w1.heap.size + 1 + 1 < w3.heap.size := (by omega)))
    (try (have z3w13 : w1.heap.size + 1 + 1 + 1 < w3.heap.size := (by omega)))
    (try (have z3w20 : w2.heap.size < w3.heap.size := (by omega)))
    (try (have z3w21 : w2.heap.size + 1 < w3.heap.size := (by omega)))
    (try (have z3w22 : w2.heap.size + 1 + 1 < w3.heap.size := (by omega)))
    (try (have z3w23 : w2.heap.size + 1 + 1 + 1 < w3.heap.size := (by omega)))
    have hH3 := Held.step (w0 := w) (by repeat (first | assumption | refine Held.alloc ?_ _ | refine Held.drew ?_)) HB
    clear HB
    go_wp2_with (fail)
    go_at_call 76
    (with_reducible refine (rgo_f _ _ _ _ _ _ hm hk ht).mono ?_)
    rintro e w4 ⟨rfl, HB⟩
    obtain ⟨hc4, hf4⟩ := bcell HB
    obtain ⟨hd4, hh4⟩ := bcell2 (U := w3) (by repeat (first | exact Below.refl _ _ | refine Below.setCell ?_ (by simp <;> omega) _ | refine Below.alloc ?_ (by simp <;> omega) _ | refine Below.drew ?_)) HB
    have hz4 := HB.size
    try simp at hz4
    (try (have z4w0 : w.heap.size < w4.heap.size := (by omega)))
    (try (have z4w1 : w.heap.size + 1 < w4.heap.size := (by omega)))
    (try (have z4w2 : w.heap.size + 1 + 1 < w4.heap.size := (by omega)))
    (try (have z4w3 : w.heap.size + 1 + 1 + 1 < w4.heap.size := (by omega)))
    (try (have z4w10 : w1.heap.size < w4.heap.size := (by omega)))
    (try (have z4w11 : w1.heap.size + 1 < w4.heap.size := (by omega)))
    (try (have z4w12 : w1.heap.size + 1 + 1 < w4.heap.size := (by omega)))
    (try (have z4w13 : w1.heap.size + 1 + 1 + 1 < w4.heap.size := (by omega)))
    (try (have z4w20 : w2.heap.size < w4.heap.size := (by omega)))
    (try (have z4w21 : w2.heap.size + 1 < w4.heap.size := (by omega)))
    (try (have z4w22 : w2.heap.size + 1 + 1 < w4.heap.size := (by omega)))
    (try (have z4w23 : w2.heap.size + 1 + 1 + 1 < w4.heap.size := (by omega)))
    (try (have z4w30 : w3.heap.size < w4.heap.size := (by omega)))
    (try (have z4w31 : w3.heap.size + 1 < w4.heap.size := (by omega)))
    (try (have z4w32 : w3.heap.size + 1 + 1 < w4.heap.size := (by omega)))
    (try (have z4w33 : w3.heap.size + 1 + 1 + 1 < w4.heap.size := (by omega)))
    have hH4 := Held.step (w0 := w) (by repeat (first | assumption | refine Held.alloc ?_ _ | refine Held.drew ?_)) HB
    clear HB
    go_wp2_with (fail)
    go_at_call 77
    (with_reducible refine (pview_f _ _ _ _ _ hm hk ht).mono ?_)
    rintro e w5 ⟨rfl, HB⟩
    obtain ⟨hc5, hf5⟩ := bcell HB
    obtain ⟨hd5, hh5⟩ := bcell2 (U := w4) (by repeat (first | exact Below.refl _ _ | refine Below.setCell ?_ (by simp <;> omega) _ | refine Below.alloc ?_ (by simp <;> omega) _ | refine Below.drew ?_)) HB
    have hz5 := HB.size
    try simp at hz5
    (try (have z5w0 : w.heap.size < w5.heap.size := (by omega)))
    (try (have z5w1 : w.heap.size + 1 < w5.heap.size := (by omega)))
    (try (have z5w2 : w.heap.size + 1 + 1 < w5.heap.size := (by omega)))
    (try (have z5w3 : w.heap.size + 1 + 1 + 1 < w5.heap.size := (by omega)))
    (try (have z5w10 : w1.heap.size < w5.heap.size := (by omega)))
    (try (have z5w11 : w1.heap.size + 1 < w5.heap.size := (by omega)))
    (try (have z5w12 : w1.heap.size + 1 + 1 < w5.heap.size := (by omega)))
    (try (have z5w13 : w1.heap.size + 1 + 1 + 1 < w5.heap.size := (by omega)))
    (try (have z5w20 : w2.heap.size < w5.heap.size := (by omega)))
    (try (have z5w21 : w2.heap.size + 1 < w5.heap.size := (by omega)))
    (try (have z5w22 : w2.heap.size + 1 + 1 < w5.heap.size := (by omega)))
    (try (have z5w23 : w2.heap.size + 1 + 1 + 1 < w5.heap.size := (by omega)))
    (try (have z5w30 : w3.heap.size < w5.heap.size := (by omega)))
    (try (have z5w31 : w3.heap.size + 1 < w5.heap.size := (by omega)))
    (try (have z5w32 : w3.heap.size + 1 + 1 < w5.heap.size := (by omega)))
    (try (have z5w33 : w3.heap.size + 1 + 1 + 1 < w5.heap.size := (by omega)))
    (try (have z5w40 : w4.heap.size < w5.heap.size := (by omega)))
    (try (have z5w41 : w4.heap.size + 1 < w5.heap.size := (by omega)))
    (try (have z5w42 : w4.heap.size + 1 + 1 < w5.heap.size := (by omega)))
    (try (have z5w43 : w4.heap.size + 1 + 1 + 1 < w5.heap.size := (by omega)))
    have hH5 := Held.step (w0 := w) (by repeat (first | assumption | refine Held.alloc ?_ _ | refine Held.drew ?_)) HB
    clear HB
    go_wp2_with (fail)
    go_at_call 78
    (with_reducible refine (rview_f _ _ _ _ _ hm hk ht).mono ?_)
    rintro e w6 ⟨rfl, HB⟩
    obtain ⟨hc6, hf6⟩ := bcell HB
    obtain ⟨hd6, hh6⟩ := bcell2 (U := w5) (by repeat (first | exact Below.refl _ _ | refine Below.setCell ?_ (by simp <;> omega) _ | refine Below.alloc ?_ (by simp <;> omega) _ | refine Below.drew ?_)) HB
    have hz6 := HB.size
    try simp at hz6
    (try (have z6w0 : w.heap.size < w6.heap.size := (by omega)))
    (try (have z6w1 : w.heap.size + 1 < w6.heap.size := (by omega)))
    (try (have z6w2 : w.heap.size + 1 + 1 < w6.heap.size := (by omega)))
    (try (have z6w3 : w.heap.size + 1 + 1 + 1 < w6.heap.size := (by omega)))
    (try (have z6w10 : w1.heap.size < w6.heap.size := (by omega)))
    (try (have z6w11 : w1.heap.size + 1 < w6.heap.size := (by omega)))
    (try (have z6w12 : w1.heap.size + 1 + 1 < w6.heap.size := (by omega)))
    (try (have z6w13 : w1.heap.size + 1 + 1 + 1 < w6.heap.size := (by omega)))
    (try (have z6w20 : w2.heap.size < w6.heap.size := (by omega)))
    (try (have z6w21 : w2.heap.size + 1 < w6.heap.size := (by omega)))
    (try (have z6w22 : w2.heap.size + 1 + 1 < w6.heap.size := (by omega)))
    (try (have z6w23 : w2.heap.size + 1 + 1 + 1 < w6.heap.size := (by omega)))
    (try (have z6w30 : w3.heap.size < w6.heap.size := (by omega)))
    (try (have z6w31 : w3.heap.size + 1 < w6.heap.size := (by omega)))
    (try (have z6w32 : w3.heap.size + 1 + 1 < w6.heap.size := (by omega)))
    (try (have z6w33 : w3.heap.size + 1 + 1 + 1 < w6.heap.size := (by omega)))
    (try (have z6w40 : w4.heap.size < w6.heap.size := (by omega)))
    (try (have z6w41 : w4.heap.size + 1 < w6.heap.size := (by omega)))
    (try (have z6w42 : w4.heap.size + 1 + 1 < w6.heap.size := (by omega)))
    (try (have z6w43 : w4.heap.size + 1 + 1 + 1 < w6.heap.size := (by omega)))
    (try (have z6w50 : w5.heap.size < w6.heap.size := (by omega)))
    (try (have z6w51 : w5.heap.size + 1 < w6.heap.size := (by omega)))
    (try (have z6w52 : w5.heap.size + 1 + 1 < w6.heap.size := (by omega)))
    (try (have z6w53 : w5.heap.size + 1 + 1 + 1 < w6.heap.size := (by omega)))
    have hH6 := Held.step (w0 := w) (by repeat (first | assumption | refine Held.alloc ?_ _ | refine Held.drew ?_)) HB
    clear HB
    go_wp2_with (fail)
    have hS0 : SPT w (w.heap.size) (.bool on) (.int .i64 m) (.int .i64 k) (w.heap.size + 1) (.bool on) (.int .i64 m) (.int .i64 k) (w1.heap.size) (.bool (stopF on m k t).b) (.int .i64 (stopF on m k t).x) (.int .i64 (stopF on m k t).y) (w2.heap.size) (.bool (stopF on m k t).b) (.int .i64 (stopF on m k t).x) (.int .i64 (stopF on m k t).y) (w3.heap.size) (.bool (goF on m k t jump).b) (.int .i64 (goF on m k t jump).x) (.int .i64 (goF on m k t jump).y) (w4.heap.size) (.bool (goF on m k t jump).b) (.int .i64 (goF on m k t jump).x) (.int .i64 (goF on m k t jump).y) w6 := ⟨hH6, ⟨by omega, by go_simp, by go_simp, by go_simp⟩, ⟨by omega, by go_simp, by go_simp, by go_simp⟩, ⟨by omega, by go_simp, by go_simp, by go_simp⟩, ⟨by omega, by go_simp, by go_simp, by go_simp⟩, ⟨by omega, by go_simp, by go_simp, by go_simp⟩, ⟨by omega, by go_simp, by go_simp, by go_simp⟩⟩
    go_region_held3 (fun wx => SPT w (w.heap.size) (.bool on) (.int .i64 m) (.int .i64 k) (w.heap.size + 1) (.bool on) (.int .i64 m) (.int .i64 k) (w1.heap.size) (.bool (stopF on m k t).b) (.int .i64 (stopF on m k t).x) (.int .i64 (stopF on m k t).y) (w2.heap.size) (.bool (stopF on m k t).b) (.int .i64 (stopF on m k t).x) (.int .i64 (stopF on m k t).y) (w3.heap.size) (.bool (goF on m k t jump).b) (.int .i64 (goF on m k t jump).x) (.int .i64 (goF on m k t jump).y) (w4.heap.size) (.bool (goF on m k t jump).b) (.int .i64 (goF on m k t jump).x) (.int .i64 (goF on m k t jump).y) wx) (first | assumption | exact SPT.drew (by assumption)) (first | (go_at_call 79; (with_reducible refine (num27_any _ _ (Held.handle (w0 := w) (And.left (by assumption)))).mono ?_); rintro e w' ⟨rfl, hb'⟩; have hS' := SPT.step (by assumption) hb'; clear hb') | (go_at_call 80; (with_reducible refine (pcheck_ok _ _ _ _ hm hk HM.out).mono ?_); rintro e w' ⟨rfl, hb'⟩; have hS' := SPT.step (by assumption) hb'; clear hb') | (go_at_call 80; (with_reducible refine (pcheck_no _ _ _ _ hm hk HM.out).mono ?_); rintro e w' ⟨rfl, hb'⟩; have hS' := SPT.step (by assumption) hb'; clear hb') | (go_at_call 81; (with_reducible refine (rmayp_ok _ _ _ _ hm hk HM.out).mono ?_); rintro e w' ⟨rfl, hb'⟩; have hS' := SPT.step (by assumption) hb'; clear hb') | (go_at_call 81; (with_reducible refine (rmayp_no _ _ _ _ hm hk HM.out).mono ?_); rintro e w' ⟨rfl, hb'⟩; have hS' := SPT.step (by assumption) hb'; clear hb') | (go_at_call 82; (with_reducible refine (sure27 _ (Held.handle (w0 := w) (And.left (by assumption)))).mono ?_); rintro e w' ⟨rfl, hb'⟩; have hS' := SPT.step (by assumption) hb'; clear hb'))
    go_wp2_with (fail)
    go_ret
    exact ⟨rfl, Held.below (w0 := w) (And.left (by assumption))⟩
end Go.Proofs.YtengchkiejpglaaDoor
