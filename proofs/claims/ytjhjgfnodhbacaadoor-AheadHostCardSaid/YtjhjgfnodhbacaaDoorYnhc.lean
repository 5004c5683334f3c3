/-
  Layer 22 by the second engine: a page tells what its host does.
-/
import Derived.Test.YtjhjgfnodhbacaaDoorSychc
import Derived.Test.YtjhjgfnodhbacaaDoorYkhc
import Derived.Test.YtjhjgfnodhbacaaDoorE00hc
import Derived.Test.YtjhjgfnodhbacaaDoorNumhc
namespace Go.Proofs.YtjhjgfnodhbacaaDoor
open Go.RowKit Go.Extern.Stop Go.Stop Go.Extern Go.Proofs.YtjhjgfnodhbacaaDoor.Sy
set_option linter.unusedVariables false
set_option linter.unusedSimpArgs false
theorem tm_mono {e b t r gm gs pm ps p c j k : Int} (hjk : j ≤ k) (h1 : tmE e b t r gm gs pm ps p c j = 0) (h2 : tmE e b t r gm gs pm ps p c k = 0) : tmT e b t r gm gs pm ps p c j ≤ tmT e b t r gm gs pm ps p c k ∧ tmO e b t r gm gs pm ps p c j ≤ tmO e b t r gm gs pm ps p c k := by
  rcases tm_spec e b t r gm gs pm ps p c j with ⟨_, z1, _⟩ | ⟨⟨hp, _⟩, ⟨_, z1, _⟩ | ⟨_, z1, _⟩ | ⟨_, z1, _⟩ | ⟨_, z1, z2, z3⟩⟩
  · omega
  · omega
  · omega
  · omega
  · rcases tm_spec e b t r gm gs pm ps p c k with ⟨_, y1, _⟩ | ⟨_, ⟨_, y1, _⟩ | ⟨_, y1, _⟩ | ⟨_, y1, _⟩ | ⟨_, y1, y2, y3⟩⟩
    · omega
    · omega
    · omega
    · omega
    · obtain ⟨a1, a2, a3, a4, a5, a6, a7, a8, f1, f2, a11, a12, a13, a14⟩ := hp
      rw [z2, z3, y2, y3]
      have m1 := qE_mono f1 (show j - b ≤ k - b by omega)
      exact ⟨by omega, bnO_mono f2 a11 (by omega)⟩
theorem least (P : Int → Prop) : ∀ n : Nat, (∃ i : Int, 0 ≤ i ∧ i ≤ n ∧ (i = 0 ∨ ∀ j, 0 ≤ j → j < i → ¬ P j) ∧ P i) ∨ ∀ j : Int, 0 ≤ j → j ≤ n → ¬ P j
  | 0 => by
    by_cases h : P 0
    · exact .inl ⟨0, by omega, by omega, .inl rfl, h⟩
    · refine .inr fun j h0 h1 => ?_
      obtain rfl : j = 0 := by omega
      exact h
  | n + 1 => by
    rcases least P n with ⟨i, a, b, c, d⟩ | h
    · exact .inl ⟨i, a, by omega, c, d⟩
    · by_cases hn : P ((n + 1 : Nat) : Int)
      · exact .inl ⟨((n + 1 : Nat) : Int), by omega, by omega, .inr fun j h0 h1 => h j h0 (by omega), hn⟩
      · refine .inr fun j h0 h1 => ?_
        by_cases hj : j ≤ n
        · exact h j h0 hj
        · obtain rfl : j = ((n + 1 : Nat) : Int) := by omega
          exact hn
theorem wh_ex {t a s T c : Int} (hc : 0 ≤ c) : ∃ i, whP t a s T c i := by
  have hn : ((c.toNat : Nat) : Int) = c := by omega
  rcases least (fun j => 4611686018427387904 ≤ t + qE a s j ∨ T ≤ t + qE a s j) c.toNat with ⟨i, h0, h1, h2, h3⟩ | h
  · refine ⟨i, h0, by omega, ?_, .inr h3⟩
    rcases h2 with h2 | h2
    · exact .inl h2
    · by_cases hi : i = 0
      · exact .inl hi
      · have := h2 (i - 1) (by omega) (by omega)
        omega
  · refine ⟨c + 1, by omega, by omega, .inr ?_, .inl rfl⟩
    have := h c hc (by omega)
    rw [show c + 1 - 1 = c by omega]
    omega
theorem wh_time {e b t r gm gs pm ps p c k T : Int} (h : tmE e b t r gm gs pm ps p c k = 0) (hT : tmT e b t r gm gs pm ps p c k = T) : whE e b t r gm gs pm ps p c T = 0 ∧ whV e b t r gm gs pm ps p c T ≤ k ∧ b ≤ whV e b t r gm gs pm ps p c T ∧ tmE e b t r gm gs pm ps p c (whV e b t r gm gs pm ps p c T) = 0 ∧ T ≤ tmT e b t r gm gs pm ps p c (whV e b t r gm gs pm ps p c T) ∧ (tmE e b t r gm gs pm ps p c (whV e b t r gm gs pm ps p c T - 1) = 0 → tmT e b t r gm gs pm ps p c (whV e b t r gm gs pm ps p c T - 1) < T) := by
  rcases tm_spec e b t r gm gs pm ps p c k with ⟨_, z1, _⟩ | ⟨⟨hp, _⟩, ⟨_, z1, _⟩ | ⟨_, z1, _⟩ | ⟨_, z1, _⟩ | ⟨⟨k1, k2, k3, k4⟩, z1, z2, z3⟩⟩
  · omega
  · omega
  · omega
  · omega
  · obtain ⟨a1, a2, a3, a4, a5, a6, a7, a8, f1, f2, a11, a12, a13, a14⟩ := id hp
    obtain ⟨i, hi⟩ := wh_ex (t := t) (a := gm) (s := gs) (T := T) (show 0 ≤ c by omega)
    have e1 := wh_eq f1 hi
    obtain ⟨i0, i1, i2, i3⟩ := hi
    have hq0 := (ms_spec f1 (show 0 ≤ k - b by omega)).1
    have hik : i ≤ k - b := by
      rcases i2 with rfl | ⟨_, i2⟩
      · omega
      · apply Decidable.byContradiction
        intro hx
        have := qE_mono f1 (show k - b ≤ i - 1 by omega)
        omega
    have hqi := qE_mono f1 hik
    have hqi2 := qE_mono f2 hik
    rcases wh_spec e b t r gm gs pm ps p c T with ⟨⟨x, _⟩, _⟩ | ⟨_, ⟨x, _⟩ | ⟨⟨_, x⟩, _⟩ | ⟨_, w1, w2⟩⟩
    · exact absurd hp x
    · omega
    · omega
    · rw [w2, e1]
      have hb : tmE e b t r gm gs pm ps p c (b + i) = 0 ∧ tmT e b t r gm gs pm ps p c (b + i) = t + qE gm gs i := by
        rcases tm_spec e b t r gm gs pm ps p c (b + i) with ⟨⟨x, _⟩, _⟩ | ⟨_, ⟨x, _⟩ | ⟨⟨_, x⟩, _⟩ | ⟨⟨_, _, x⟩, _⟩ | ⟨_, y1, y2, _⟩⟩
        · exact absurd hp x
        · omega
        · omega
        · rw [show b + i - b = i by omega] at x
          omega
        · rw [show b + i - b = i by omega] at y2
          exact ⟨y1, y2⟩
      refine ⟨w1, by omega, by omega, hb.1, by omega, fun h0 => ?_⟩
      rcases tm_spec e b t r gm gs pm ps p c (b + i - 1) with ⟨_, y1, _⟩ | ⟨_, ⟨_, y1, _⟩ | ⟨_, y1, _⟩ | ⟨_, y1, _⟩ | ⟨⟨q1, _⟩, _, y2, _⟩⟩
      · omega
      · omega
      · omega
      · omega
      · rw [y2, show b + i - 1 - b = i - 1 by omega]
        rcases i2 with rfl | ⟨_, i2⟩
        · omega
        · exact i2
theorem of_pg {rm rs rr gp gi rl ro hb ht he sf ss c : Int} {sy : Bool} (h : ofE rm rs rr gp gi rl ro hb ht he sf ss sy 1 c = 0) : hoP rm rs rr gp gi rl ro hb ht he sf ss ∧ sy = true ∧ adE rm rs sf = 0 ∧ adA rm rs sf = adF rm sf ∧ adS rm rs sf = rs ∧ c ≤ 1125899906842624 ∧ pgP 1 hb ht he (adA rm rs sf) (adS rm rs sf) rm rs (rr + pabs sf) c := by
  unfold ofE at h
  by_cases h1 : ¬ hoP rm rs rr gp gi rl ro hb ht he sf ss ∨ (1 : Int) < 0 ∨ (1099511627776 : Int) < 1 ∨ c < 1 ∨ 1125899906842624 < c
  · rw [if_pos h1] at h; omega
  · rw [if_neg h1] at h
    have hp : hoP rm rs rr gp gi rl ro hb ht he sf ss := by
      apply Decidable.byContradiction
      intro hx
      exact h1 (.inl hx)
    cases sy with
    | false => rw [if_pos rfl] at h; omega
    | true =>
      rw [if_neg (by decide)] at h
      have hf := ad_fm h
      obtain ⟨f, a1, a2, a3, a4, a5, a6, a7, a8, a9, a10, a11, a12, a13, a14, a15, a16, a17, a18, a19, a20⟩ := id hp
      have p1 := pabs_spec sf
      rcases ad_spec rm rs sf with ⟨_, _, e, _⟩ | ⟨_, _, ⟨_, _, _, e1, e2⟩ | ⟨_, e, _⟩⟩
      · omega
      · refine ⟨hp, rfl, h, e1, e2, by omega, ?_⟩
        rw [e1, e2]
        exact ⟨by decide, by decide, a11, a12, a13, a14, a15, a16, hf, f, by omega, by omega, by omega, by omega⟩
      · omega
theorem ah_now {rm rs rr gp gi rl ro hb ht he sf ss c k : Int} {sy : Bool} (h : ofE rm rs rr gp gi rl ro hb ht he sf ss sy 1 c = 0) (h2 : tmE 1 hb ht he (adA rm rs sf) (adS rm rs sf) rm rs (rr + pabs sf) c k = 0) :
    tmT 1 hb ht he (adA rm rs sf) (adS rm rs sf) rm rs (rr + pabs sf) c k = rkT rm rs hb ht sf k ∧ tmO 1 hb ht he (adA rm rs sf) (adS rm rs sf) rm rs (rr + pabs sf) c k = rkO rm rs rr hb ht he sf k ∧ rkE rm rs hb ht sf k = 0 := by
  obtain ⟨hp, hsy, had, e1, e2, hc, hpg⟩ := of_pg h
  rcases tm_spec 1 hb ht he (adA rm rs sf) (adS rm rs sf) rm rs (rr + pabs sf) c k with ⟨_, z1, _⟩ | ⟨_, ⟨_, z1, _⟩ | ⟨_, z1, _⟩ | ⟨_, z1, _⟩ | ⟨⟨k1, k2, k3, k4⟩, _, z2, z3⟩⟩
  · omega
  · omega
  · omega
  · omega
  · rw [e1, e2] at k3 z2
    rcases rk_spec rm rs rr hb ht he sf k with ⟨x, _⟩ | ⟨⟨_, x⟩, _⟩ | ⟨_, y1, y2, y3⟩
    · omega
    · omega
    · exact ⟨by rw [e1, e2, z2, y2], by rw [z3, y3], y1⟩
theorem ah_nw {rm rs rr gp gi rl ro hb ht he sf ss c k : Int} {sy : Bool} (h : ofE rm rs rr gp gi rl ro hb ht he sf ss sy 1 c = 0) (h2 : tmE 1 hb ht he (adA rm rs sf) (adS rm rs sf) rm rs (rr + pabs sf) c k = 0) :
    (nwE rm rs rr gp gi rl ro hb ht he sf ss sy k = 0 ∧ nwT rm rs rr gp gi rl ro hb ht he sf ss sy k = tmT 1 hb ht he (adA rm rs sf) (adS rm rs sf) rm rs (rr + pabs sf) c k ∧ nwO rm rs rr gp gi rl ro hb ht he sf ss sy k = tmO 1 hb ht he (adA rm rs sf) (adS rm rs sf) rm rs (rr + pabs sf) c k) ∨ nwE rm rs rr gp gi rl ro hb ht he sf ss sy k = 13 := by
  obtain ⟨r1, r2, r3⟩ := ah_now h h2
  obtain ⟨hp, hsy, had, e1, e2, hc, hpg⟩ := of_pg h
  rcases nw_spec rm rs rr gp gi rl ro hb ht he sf ss sy k with ⟨⟨x, _⟩, _⟩ | ⟨_, ⟨x, _⟩ | ⟨⟨_, x⟩, _⟩ | ⟨_, e, _⟩ | ⟨_, y1, y2, y3⟩⟩
  · exact absurd hp x
  · rw [hsy] at x; cases x
  · omega
  · exact .inr e
  · exact .inl ⟨y1, by rw [y2, r1], by rw [y3, r2]⟩
theorem tm_err (e b t r gm gs pm ps p c k : Int) (hp : pgP e b t r gm gs pm ps p c) : tmE e b t r gm gs pm ps p c k = 0 ∨ tmE e b t r gm gs pm ps p c k = 10 ∨ tmE e b t r gm gs pm ps p c k = 14 ∨ tmE e b t r gm gs pm ps p c k = 2 := by
  rcases tm_spec e b t r gm gs pm ps p c k with ⟨⟨x, _⟩, _⟩ | ⟨_, ⟨_, z1, _⟩ | ⟨_, z1, _⟩ | ⟨_, z1, _⟩ | ⟨_, z1, z2, z3⟩⟩
  · exact absurd hp x
  · omega
  · omega
  · omega
  · omega
theorem num22_any (n : Int) (w : World) (hg : w.cell? ⟨0, 0, none⟩ = some asHandle) : Calls Tryd.prog 81 #[errVal 229 n] w fun e w' => e = .returned (.int .i64 n) ∧ Below w.heap.size w w' := by
  unfold errVal
  split
  · rename_i h; subst h; exact num22_nil _
  · exact num22_err _ _ hg
theorem s_f : fmP 2147483648 31 := by unfold fmP; decide
theorem s_1 : tmE 0 0 100 0 2147483648 31 2147483648 31 0 50 10 = 0 := by decide
theorem s_2 : tmT 0 0 100 0 2147483648 31 2147483648 31 0 50 10 = 110 := by decide
theorem s_3 : tmO 0 0 100 0 2147483648 31 2147483648 31 0 50 10 = 4 := by decide
theorem s_4 : tmE 0 0 100 0 2147483648 31 2147483648 31 0 50 51 = 14 := by decide
theorem s_5 : pgE 0 0 100 0 2147483648 31 2147483648 31 0 50 = 0 := by decide
theorem s_6 : gdV 0 0 100 0 2147483648 31 2147483648 31 0 50 = 50 := by decide
theorem s_q1 : whI 100 2147483648 31 120 50 = 20 := wh_eq s_f ⟨by decide, by decide, .inr ⟨by decide, by decide⟩, .inr (.inr (by decide))⟩
theorem s_q2 : whI 100 2147483648 31 151 50 = 51 := wh_eq s_f ⟨by decide, by decide, .inr ⟨by decide, by decide⟩, .inl (by decide)⟩
theorem s_7 : whE 0 0 100 0 2147483648 31 2147483648 31 0 50 120 = 0 ∧ whV 0 0 100 0 2147483648 31 2147483648 31 0 50 120 = 20 := by
  have h := wh_spec 0 0 100 0 2147483648 31 2147483648 31 0 50 120
  have h2 := s_q1
  have h3 := s_5
  omega
theorem s_8 : whE 0 0 100 0 2147483648 31 2147483648 31 0 50 151 = 14 := by
  have h := wh_spec 0 0 100 0 2147483648 31 2147483648 31 0 50 151
  have h2 := s_q2
  have h3 := s_5
  omega
theorem of_or (rm rs rr gp gi rl ro hb ht he sf ss : Int) (sy : Bool) (e c : Int) : ((hoE rm rs rr gp gi rl ro hb ht he sf ss = 1 ∨ e < 0 ∨ 1099511627776 < e ∨ c < 1 ∨ 1125899906842624 < c) ∧ ofE rm rs rr gp gi rl ro hb ht he sf ss sy e c = 1) ∨ ((hoP rm rs rr gp gi rl ro hb ht he sf ss ∧ hoE rm rs rr gp gi rl ro hb ht he sf ss = 0 ∧ 0 ≤ e ∧ e ≤ 1099511627776 ∧ 1 ≤ c ∧ c ≤ 1125899906842624) ∧ ((sy = false ∧ ofE rm rs rr gp gi rl ro hb ht he sf ss sy e c = 13) ∨ (sy = true ∧ ofE rm rs rr gp gi rl ro hb ht he sf ss sy e c = adE rm rs sf))) := by
  have hoo := hoE_or rm rs rr gp gi rl ro hb ht he sf ss
  unfold ofE
  by_cases h : ¬ hoP rm rs rr gp gi rl ro hb ht he sf ss ∨ e < 0 ∨ 1099511627776 < e ∨ c < 1 ∨ 1125899906842624 < c
  · left
    rw [if_pos h]
    refine ⟨?_, rfl⟩
    rcases h with h | h
    · rcases hoo with ⟨x, _⟩ | ⟨_, x⟩
      · exact absurd x h
      · exact .inl x
    · exact .inr h
  · right
    rw [if_neg h]
    rcases hoo with ⟨x, y⟩ | ⟨x, _⟩
    · refine ⟨⟨x, y, by omega, by omega, by omega, by omega⟩, ?_⟩
      cases sy
      · rw [if_pos rfl]; exact .inl ⟨rfl, rfl⟩
      · rw [if_neg (by decide)]; exact .inr ⟨rfl, rfl⟩
    · exact absurd (.inl x) h
theorem sz_abs {x : Int} (h0 : -9223372036854775807 ≤ x) (h1 : x ≤ 9223372036854775807) : szE x = pabs x := by
  have := szE_spec x ⟨by omega, by omega⟩
  have := pabs_spec x
  omega
theorem tm_rng {e b t r gm gs pm ps p c k : Int} (hp : pgP e b t r gm gs pm ps p c) : -4611686018427387904 < tmT e b t r gm gs pm ps p c k ∧ tmT e b t r gm gs pm ps p c k < 4611686018427387904 := by
  obtain ⟨a1, a2, a3, a4, a5, a6, a7, a8, f1, f2, a11, a12, a13, a14⟩ := id hp
  rcases tm_spec e b t r gm gs pm ps p c k with ⟨_, _, h, _⟩ | ⟨_, ⟨_, _, h, _⟩ | ⟨_, _, h, _⟩ | ⟨_, _, h, _⟩ | ⟨⟨k1, k2, k3, k4⟩, _, h, _⟩⟩
  · rw [h]; omega
  · rw [h]; omega
  · rw [h]; omega
  · rw [h]; omega
  · have := (ms_spec f1 (show 0 ≤ k - b by omega)).1
    rw [h]; omega
theorem good_split {P : Program} {G : Glob} {ρ : Env} {c : Con} (C : Tm) (h1 : Con.Good P G ρ { c with cnd := .b2 .and c.cnd C }) (h2 : Con.Good P G ρ { c with cnd := .b2 .and c.cnd (.not C) }) : c.Good P G ρ := by
  intro iv bv vv sv β ok w xs n1 n2 n3 n4 hc ho hG hr he
  by_cases h : holds { ρ with iv := iv, bv := bv, vv := vv, sv := sv } C
  · exact h1 iv bv vv sv β ok w xs n1 n2 n3 n4 ⟨hc, h⟩ ho hG hr he
  · exact h2 iv bv vv sv β ok w xs n1 n2 n3 n4 ⟨hc, h⟩ ho hG hr he
noncomputable def ynI : Nat → List Value → Int
  | i, l => ykI i l
noncomputable def ynB : Nat → List Value → Bool
  | i, l => ykB i l
noncomputable def ynV : Nat → List Value → Value
  | i, l => ykV i l
noncomputable abbrev ynE (iv : List Int) (bv : List Bool) (vv : List Value) (sv : List ByteArray) : Env := { iv := iv, bv := bv, vv := vv, sv := sv, fi := ynI, fb := ynB, fv := ynV, et := 229 }
set_option maxHeartbeats 8000000 in
theorem ynup : Agree 57 5 2 (ykE [] [] [] []) (ynE [] [] [] []) := ⟨rfl, (by
    intro f hf
    funext l
    show ynI f l = ykI f l
    unfold ynI
    split <;> first | rfl | omega), (by
    intro f hf
    funext l
    show ynB f l = ykB f l
    unfold ynB
    split <;> first | rfl | omega), (by
    intro f hf
    funext l
    show ynV f l = ykV f l
    unfold ynV
    split <;> first | rfl | omega)⟩
theorem yni_sz (k1 : IntKind) (a : Int) : ynI 0 [.int k1 a] = szE a := rfl
theorem yni_pge (k1 : IntKind) (e : Int) (k2 : IntKind) (b : Int) (k3 : IntKind) (t : Int) (k4 : IntKind) (r : Int) (k5 : IntKind) (gm : Int) (k6 : IntKind) (gs : Int) (k7 : IntKind) (pm : Int) (k8 : IntKind) (ps : Int) (k9 : IntKind) (p : Int) (k10 : IntKind) (c : Int) : ynI 14 [.int k1 e, .int k2 b, .int k3 t, .int k4 r, .int k5 gm, .int k6 gs, .int k7 pm, .int k8 ps, .int k9 p, .int k10 c] = pgE e b t r gm gs pm ps p c := rfl
theorem yni_gdv (k1 : IntKind) (e : Int) (k2 : IntKind) (b : Int) (k3 : IntKind) (t : Int) (k4 : IntKind) (r : Int) (k5 : IntKind) (gm : Int) (k6 : IntKind) (gs : Int) (k7 : IntKind) (pm : Int) (k8 : IntKind) (ps : Int) (k9 : IntKind) (p : Int) (k10 : IntKind) (c : Int) : ynI 15 [.int k1 e, .int k2 b, .int k3 t, .int k4 r, .int k5 gm, .int k6 gs, .int k7 pm, .int k8 ps, .int k9 p, .int k10 c] = gdV e b t r gm gs pm ps p c := rfl
theorem yni_tme (k1 : IntKind) (e : Int) (k2 : IntKind) (b : Int) (k3 : IntKind) (t : Int) (k4 : IntKind) (r : Int) (k5 : IntKind) (gm : Int) (k6 : IntKind) (gs : Int) (k7 : IntKind) (pm : Int) (k8 : IntKind) (ps : Int) (k9 : IntKind) (p : Int) (k10 : IntKind) (c : Int) (k11 : IntKind) (k : Int) : ynI 20 [.int k1 e, .int k2 b, .int k3 t, .int k4 r, .int k5 gm, .int k6 gs, .int k7 pm, .int k8 ps, .int k9 p, .int k10 c, .int k11 k] = tmE e b t r gm gs pm ps p c k := rfl
theorem yni_tmt (k1 : IntKind) (e : Int) (k2 : IntKind) (b : Int) (k3 : IntKind) (t : Int) (k4 : IntKind) (r : Int) (k5 : IntKind) (gm : Int) (k6 : IntKind) (gs : Int) (k7 : IntKind) (pm : Int) (k8 : IntKind) (ps : Int) (k9 : IntKind) (p : Int) (k10 : IntKind) (c : Int) (k11 : IntKind) (k : Int) : ynI 21 [.int k1 e, .int k2 b, .int k3 t, .int k4 r, .int k5 gm, .int k6 gs, .int k7 pm, .int k8 ps, .int k9 p, .int k10 c, .int k11 k] = tmT e b t r gm gs pm ps p c k := rfl
theorem yni_tmo (k1 : IntKind) (e : Int) (k2 : IntKind) (b : Int) (k3 : IntKind) (t : Int) (k4 : IntKind) (r : Int) (k5 : IntKind) (gm : Int) (k6 : IntKind) (gs : Int) (k7 : IntKind) (pm : Int) (k8 : IntKind) (ps : Int) (k9 : IntKind) (p : Int) (k10 : IntKind) (c : Int) (k11 : IntKind) (k : Int) : ynI 22 [.int k1 e, .int k2 b, .int k3 t, .int k4 r, .int k5 gm, .int k6 gs, .int k7 pm, .int k8 ps, .int k9 p, .int k10 c, .int k11 k] = tmO e b t r gm gs pm ps p c k := rfl
theorem yni_whe (k1 : IntKind) (e : Int) (k2 : IntKind) (b : Int) (k3 : IntKind) (t : Int) (k4 : IntKind) (r : Int) (k5 : IntKind) (gm : Int) (k6 : IntKind) (gs : Int) (k7 : IntKind) (pm : Int) (k8 : IntKind) (ps : Int) (k9 : IntKind) (p : Int) (k10 : IntKind) (c : Int) (k11 : IntKind) (T : Int) : ynI 24 [.int k1 e, .int k2 b, .int k3 t, .int k4 r, .int k5 gm, .int k6 gs, .int k7 pm, .int k8 ps, .int k9 p, .int k10 c, .int k11 T] = whE e b t r gm gs pm ps p c T := rfl
theorem yni_whv (k1 : IntKind) (e : Int) (k2 : IntKind) (b : Int) (k3 : IntKind) (t : Int) (k4 : IntKind) (r : Int) (k5 : IntKind) (gm : Int) (k6 : IntKind) (gs : Int) (k7 : IntKind) (pm : Int) (k8 : IntKind) (ps : Int) (k9 : IntKind) (p : Int) (k10 : IntKind) (c : Int) (k11 : IntKind) (T : Int) : ynI 25 [.int k1 e, .int k2 b, .int k3 t, .int k4 r, .int k5 gm, .int k6 gs, .int k7 pm, .int k8 ps, .int k9 p, .int k10 c, .int k11 T] = whV e b t r gm gs pm ps p c T := rfl
theorem yni_ada (k1 : IntKind) (m : Int) (k2 : IntKind) (s : Int) (k3 : IntKind) (p : Int) : ynI 27 [.int k1 m, .int k2 s, .int k3 p] = adA m s p := rfl
theorem yni_ads (k1 : IntKind) (m : Int) (k2 : IntKind) (s : Int) (k3 : IntKind) (p : Int) : ynI 28 [.int k1 m, .int k2 s, .int k3 p] = adS m s p := rfl
theorem yni_ade (k1 : IntKind) (m : Int) (k2 : IntKind) (s : Int) (k3 : IntKind) (p : Int) : ynI 29 [.int k1 m, .int k2 s, .int k3 p] = adE m s p := rfl
theorem yni_pl (k1 : IntKind) (a : Int) (k2 : IntKind) (b : Int) : ynI 34 [.int k1 a, .int k2 b] = plI a b := rfl
theorem yni_hme (l : Value) : ynI 42 [l] = hoL (rows l) := rfl
theorem yni_nwe (l : Value) (k1 : IntKind) (k : Int) : ynI 46 [l, .int k1 k] = nwEl (rows l) k := rfl
theorem yni_nwt (l : Value) (k1 : IntKind) (k : Int) : ynI 47 [l, .int k1 k] = nwTl (rows l) k := rfl
theorem yni_nwo (l : Value) (k1 : IntKind) (k : Int) : ynI 48 [l, .int k1 k] = nwOl (rows l) k := rfl
theorem yni_ofe (l : Value) (k1 : IntKind) (e : Int) (k2 : IntKind) (c : Int) : ynI 55 [l, .int k1 e, .int k2 c] = ofEl (rows l) e c := rfl
theorem ynb_hm (l : Value) : ynB 4 [l] = hoB (rows l) := rfl
abbrev ync_num : Con := ⟨81, [(.err (.var 0))], (.tt true), (.int .i64 (.var 0)), ⟨1, 0, 0, 0⟩, none⟩
theorem yng_num : ync_num.Good Tryd.prog syG (ynE [] [] [] []) := good_flat rfl rfl rfl (by
  intro n hc β ok w hG
  have hc' := hc
  simp only [Tree.holds, Sy.holds, AllN, Env.more, ynE, List.cons_append, List.nil_append, List.append_nil, denV, denI, denB, denL, I2.den, VOp.den, List.getD_cons_zero, List.getD_cons_succ, Cst.den, syso, syse, syio, sybo, List.map_nil, List.map_cons, B2.ofInts, B2.denI, B2.denB, if_true, Bool.false_eq_true, if_false, Nat.div_one, Nat.mul_one, Nat.add_zero, holds] at hc
  exact num22_any n w (hG _ (List.mem_singleton.2 rfl)).2.2)
def sure22_tree : Tree :=
 (.br (.b2 .eq (.iapp 20 (.cons (.int .i64 (.lit (0))) (.cons (.int .i64 (.lit (0))) (.cons (.int .i64 (.lit (100))) (.cons (.int .i64 (.lit (0))) (.cons (.int .u32 (.lit (2147483648))) (.cons (.int .i64 (.lit (31))) (.cons (.int .u32 (.lit (2147483648))) (.cons (.int .i64 (.lit (31))) (.cons (.int .i64 (.lit (0))) (.cons (.int .i64 (.lit (50))) (.cons (.int .i64 (.lit (10))) .nil)))))))))))) (.lit (0)))
 (.br (.b2 .eq (.iapp 14 (.cons (.int .i64 (.lit (0))) (.cons (.int .i64 (.lit (0))) (.cons (.int .i64 (.lit (100))) (.cons (.int .i64 (.lit (0))) (.cons (.int .u32 (.lit (2147483648))) (.cons (.int .i64 (.lit (31))) (.cons (.int .u32 (.lit (2147483648))) (.cons (.int .i64 (.lit (31))) (.cons (.int .i64 (.lit (0))) (.cons (.int .i64 (.lit (50))) .nil))))))))))) (.lit (0)))
 (.br (.b2 .eq (.iapp 24 (.cons (.int .i64 (.lit (0))) (.cons (.int .i64 (.lit (0))) (.cons (.int .i64 (.lit (100))) (.cons (.int .i64 (.lit (0))) (.cons (.int .u32 (.lit (2147483648))) (.cons (.int .i64 (.lit (31))) (.cons (.int .u32 (.lit (2147483648))) (.cons (.int .i64 (.lit (31))) (.cons (.int .i64 (.lit (0))) (.cons (.int .i64 (.lit (50))) (.cons (.int .i64 (.lit (120))) .nil)))))))))))) (.lit (0)))
 (.br (.b2 .eq (.iapp 21 (.cons (.int .i64 (.lit (0))) (.cons (.int .i64 (.lit (0))) (.cons (.int .i64 (.lit (100))) (.cons (.int .i64 (.lit (0))) (.cons (.int .u32 (.lit (2147483648))) (.cons (.int .i64 (.lit (31))) (.cons (.int .u32 (.lit (2147483648))) (.cons (.int .i64 (.lit (31))) (.cons (.int .i64 (.lit (0))) (.cons (.int .i64 (.lit (50))) (.cons (.int .i64 (.lit (10))) .nil)))))))))))) (.lit (110)))
 (.br (.b2 .eq (.iapp 22 (.cons (.int .i64 (.lit (0))) (.cons (.int .i64 (.lit (0))) (.cons (.int .i64 (.lit (100))) (.cons (.int .i64 (.lit (0))) (.cons (.int .u32 (.lit (2147483648))) (.cons (.int .i64 (.lit (31))) (.cons (.int .u32 (.lit (2147483648))) (.cons (.int .i64 (.lit (31))) (.cons (.int .i64 (.lit (0))) (.cons (.int .i64 (.lit (50))) (.cons (.int .i64 (.lit (10))) .nil)))))))))))) (.lit (4)))
 (.br (.b2 .eq (.iapp 20 (.cons (.int .i64 (.lit (0))) (.cons (.int .i64 (.lit (0))) (.cons (.int .i64 (.lit (100))) (.cons (.int .i64 (.lit (0))) (.cons (.int .u32 (.lit (2147483648))) (.cons (.int .i64 (.lit (31))) (.cons (.int .u32 (.lit (2147483648))) (.cons (.int .i64 (.lit (31))) (.cons (.int .i64 (.lit (0))) (.cons (.int .i64 (.lit (50))) (.cons (.int .i64 (.lit (51))) .nil)))))))))))) (.lit (14)))
 (.br (.b2 .eq (.iapp 15 (.cons (.int .i64 (.lit (0))) (.cons (.int .i64 (.lit (0))) (.cons (.int .i64 (.lit (100))) (.cons (.int .i64 (.lit (0))) (.cons (.int .u32 (.lit (2147483648))) (.cons (.int .i64 (.lit (31))) (.cons (.int .u32 (.lit (2147483648))) (.cons (.int .i64 (.lit (31))) (.cons (.int .i64 (.lit (0))) (.cons (.int .i64 (.lit (50))) .nil))))))))))) (.lit (50)))
 (.br (.b2 .eq (.iapp 25 (.cons (.int .i64 (.lit (0))) (.cons (.int .i64 (.lit (0))) (.cons (.int .i64 (.lit (100))) (.cons (.int .i64 (.lit (0))) (.cons (.int .u32 (.lit (2147483648))) (.cons (.int .i64 (.lit (31))) (.cons (.int .u32 (.lit (2147483648))) (.cons (.int .i64 (.lit (31))) (.cons (.int .i64 (.lit (0))) (.cons (.int .i64 (.lit (50))) (.cons (.int .i64 (.lit (120))) .nil)))))))))))) (.lit (20)))
 (.ret (.bool (.b2 .eq (.iapp 24 (.cons (.int .i64 (.lit (0))) (.cons (.int .i64 (.lit (0))) (.cons (.int .i64 (.lit (100))) (.cons (.int .i64 (.lit (0))) (.cons (.int .u32 (.lit (2147483648))) (.cons (.int .i64 (.lit (31))) (.cons (.int .u32 (.lit (2147483648))) (.cons (.int .i64 (.lit (31))) (.cons (.int .i64 (.lit (0))) (.cons (.int .i64 (.lit (50))) (.cons (.int .i64 (.lit (151))) .nil)))))))))))) (.lit (14)))))
 (.ret (.bool (.tt false))))
 (.ret (.bool (.tt false))))
 (.ret (.bool (.tt false))))
 (.ret (.bool (.tt false))))
 (.ret (.bool (.tt false))))
 (.ret (.bool (.tt false))))
 (.ret (.bool (.tt false))))
 (.ret (.bool (.tt false))))
abbrev ync_sure22 : Con := ⟨79, [], (.tt true), (.bool (.tt true)), ⟨0, 0, 0, 0⟩, none⟩
theorem sure22_w : walk Tryd.prog 229 ⟨[ybc_time, ybc_good, ycc_when, ync_num], syG, [], [], []⟩ [] .v ync_sure22 ync_sure22.n 3000 = some sure22_tree := by kernel_rfl
theorem sure22_h  (hc : holds (ynE [] [] [] []) (.tt true)) (hty : patsTyp (ynE [] [] [] []) []) : sure22_tree.holds (fun v_ => v_ = denV (ynE [] [] [] []) b0 (.bool (.tt true))) (ynE [] [] [] []) := by
  simp only [Tree.holds, Sy.holds, AllN, Env.more, ynE, List.cons_append, List.nil_append, List.append_nil, denV, denI, denB, denL, I2.den, VOp.den, List.getD_cons_zero, List.getD_cons_succ, Cst.den, syso, syse, syio, sybo, List.map_nil, List.map_cons, B2.ofInts, B2.denI, B2.denB, if_true, Bool.false_eq_true, if_false, Nat.div_one, Nat.mul_one, Nat.add_zero, holds] at hc
  simp only [patsTyp, patTyp, patTypL, ynE, denV, denL, List.getD_cons_zero, List.getD_cons_succ, and_true, true_and] at hty
  unfold sure22_tree
  simp only [Tree.holds, Sy.holds, AllN, Env.more, ynE, List.cons_append, List.nil_append, List.append_nil, denV, denI, denB, denL, I2.den, VOp.den, List.getD_cons_zero, List.getD_cons_succ, Cst.den, syso, syse, syio, sybo, yni_pge, yni_gdv, yni_tme, yni_tmt, yni_tmo, yni_whe, yni_whv, List.map_nil, List.map_cons, B2.ofInts, B2.denI, B2.denB, if_true, Bool.false_eq_true, if_false, Nat.div_one, Nat.mul_one, Nat.add_zero]
  have s1 := s_1
  have s2 := s_2
  have s3 := s_3
  have s4 := s_4
  have s5 := s_5
  have s6 := s_6
  have s7 := s_7
  have s8 := s_8
  refine ⟨fun h0 => ?_, fun h0 => ?_⟩
  ·
   refine ⟨fun h1 => ?_, fun h1 => ?_⟩
   ·
    refine ⟨fun h2 => ?_, fun h2 => ?_⟩
    ·
     refine ⟨fun h3 => ?_, fun h3 => ?_⟩
     ·
      refine ⟨fun h4 => ?_, fun h4 => ?_⟩
      ·
       refine ⟨fun h5 => ?_, fun h5 => ?_⟩
       ·
        refine ⟨fun h6 => ?_, fun h6 => ?_⟩
        ·
         refine ⟨fun h7 => ?_, fun h7 => ?_⟩
         ·
          first
          | (exfalso; omega)
          | (rw [s8]; rfl)
          | skip
         ·
          first
          | (exfalso; omega)
          | (rw [s8]; rfl)
          | skip
        ·
         first
         | (exfalso; omega)
         | (rw [s8]; rfl)
         | skip
       ·
        first
        | (exfalso; omega)
        | (rw [s8]; rfl)
        | skip
      ·
       first
       | (exfalso; omega)
       | (rw [s8]; rfl)
       | skip
     ·
      first
      | (exfalso; omega)
      | (rw [s8]; rfl)
      | skip
    ·
     first
     | (exfalso; omega)
     | (rw [s8]; rfl)
     | skip
   ·
    first
    | (exfalso; omega)
    | (rw [s8]; rfl)
    | skip
  ·
   first
   | (exfalso; omega)
   | (rw [s8]; rfl)
   | skip
theorem yng_sure22 : ync_sure22.Good Tryd.prog syG (ynE [] [] [] []) := good_of_walk (Γ := ⟨[ybc_time, ybc_good, ycc_when, ync_num], syG, [], [], []⟩) (ρ := ynE [] [] [] []) sym sure22_w rfl (fun _ _ _ _ => (ok_cons (Con.Good.env (Con.Good.up (Con.Good.up (Con.Good.up (Con.Good.up (Con.Good.up (Con.Good.up ybg_time ycup rfl) yhup rfl) yiup rfl) yjup rfl) ykup rfl) ynup rfl) _ _ _ _) (ok_cons (Con.Good.env (Con.Good.up (Con.Good.up (Con.Good.up (Con.Good.up (Con.Good.up (Con.Good.up ybg_good ycup rfl) yhup rfl) yiup rfl) yjup rfl) ykup rfl) ynup rfl) _ _ _ _) (ok_cons (Con.Good.env (Con.Good.up (Con.Good.up (Con.Good.up (Con.Good.up (Con.Good.up ycg_when yhup rfl) yiup rfl) yjup rfl) ykup rfl) ynup rfl) _ _ _ _) (ok_cons (Con.Good.env yng_num _ _ _ _) ok_nil))))) (fun hc hty => sure22_h  hc hty)
def giveh_tree : Tree :=
 (.ret (.agg (.cons (.int .u32 (.var 0)) (.cons (.int .i64 (.var 1)) (.cons (.int .i64 (.var 2)) (.cons (.int .i64 (.var 3)) (.cons (.int .i64 (.var 4)) (.cons (.int .i64 (.var 5)) (.cons (.int .i64 (.var 6)) (.cons (.bool (.bvar 0)) (.cons (.int .i64 (.var 7)) (.cons (.int .i64 (.var 8)) (.cons (.int .i64 (.var 9)) (.cons (.int .i64 (.var 10)) (.cons (.int .i64 (.var 11)) .nil)))))))))))))))
abbrev ync_giveh : Con := ⟨77, [(.agg (.cons (.int .u32 (.var 0)) (.cons (.int .i64 (.var 1)) (.cons (.int .i64 (.var 2)) (.cons (.int .i64 (.var 3)) (.cons (.int .i64 (.var 4)) (.cons (.int .i64 (.var 5)) (.cons (.int .i64 (.var 6)) (.cons (.bool (.bvar 0)) (.cons (.int .i64 (.var 7)) (.cons (.int .i64 (.var 8)) (.cons (.int .i64 (.var 9)) (.cons (.int .i64 (.var 10)) (.cons (.int .i64 (.var 11)) .nil))))))))))))))], (.tt true), (.agg (.cons (.int .u32 (.var 0)) (.cons (.int .i64 (.var 1)) (.cons (.int .i64 (.var 2)) (.cons (.int .i64 (.var 3)) (.cons (.int .i64 (.var 4)) (.cons (.int .i64 (.var 5)) (.cons (.int .i64 (.var 6)) (.cons (.bool (.bvar 0)) (.cons (.int .i64 (.var 7)) (.cons (.int .i64 (.var 8)) (.cons (.int .i64 (.var 9)) (.cons (.int .i64 (.var 10)) (.cons (.int .i64 (.var 11)) .nil)))))))))))))), ⟨12, 1, 0, 0⟩, none⟩
theorem giveh_w : walk Tryd.prog 229 ⟨[], syG, [], [], []⟩ [] .v ync_giveh ync_giveh.n 3000 = some giveh_tree := by kernel_rfl
theorem giveh_h (rm : Int) (rs : Int) (rr : Int) (gp : Int) (gi : Int) (rl : Int) (ro : Int) (hb : Int) (ht : Int) (he : Int) (sf : Int) (ss : Int) (sy : Bool) (hc : holds (ynE [rm, rs, rr, gp, gi, rl, ro, hb, ht, he, sf, ss] [sy] [] []) (.tt true)) (hty : patsTyp (ynE [rm, rs, rr, gp, gi, rl, ro, hb, ht, he, sf, ss] [sy] [] []) [(.agg (.cons (.int .u32 (.var 0)) (.cons (.int .i64 (.var 1)) (.cons (.int .i64 (.var 2)) (.cons (.int .i64 (.var 3)) (.cons (.int .i64 (.var 4)) (.cons (.int .i64 (.var 5)) (.cons (.int .i64 (.var 6)) (.cons (.bool (.bvar 0)) (.cons (.int .i64 (.var 7)) (.cons (.int .i64 (.var 8)) (.cons (.int .i64 (.var 9)) (.cons (.int .i64 (.var 10)) (.cons (.int .i64 (.var 11)) .nil))))))))))))))]) : giveh_tree.holds (fun v_ => v_ = denV (ynE [rm, rs, rr, gp, gi, rl, ro, hb, ht, he, sf, ss] [sy] [] []) b0 (.agg (.cons (.int .u32 (.var 0)) (.cons (.int .i64 (.var 1)) (.cons (.int .i64 (.var 2)) (.cons (.int .i64 (.var 3)) (.cons (.int .i64 (.var 4)) (.cons (.int .i64 (.var 5)) (.cons (.int .i64 (.var 6)) (.cons (.bool (.bvar 0)) (.cons (.int .i64 (.var 7)) (.cons (.int .i64 (.var 8)) (.cons (.int .i64 (.var 9)) (.cons (.int .i64 (.var 10)) (.cons (.int .i64 (.var 11)) .nil))))))))))))))) (ynE [rm, rs, rr, gp, gi, rl, ro, hb, ht, he, sf, ss] [sy] [] []) := by
  simp only [Tree.holds, Sy.holds, AllN, Env.more, ynE, List.cons_append, List.nil_append, List.append_nil, denV, denI, denB, denL, I2.den, VOp.den, List.getD_cons_zero, List.getD_cons_succ, Cst.den, syso, syse, syio, sybo, List.map_nil, List.map_cons, B2.ofInts, B2.denI, B2.denB, if_true, Bool.false_eq_true, if_false, Nat.div_one, Nat.mul_one, Nat.add_zero, holds] at hc
  simp only [patsTyp, patTyp, patTypL, ynE, denV, denL, List.getD_cons_zero, List.getD_cons_succ, and_true, true_and] at hty
  unfold giveh_tree
  simp only [Tree.holds, Sy.holds, AllN, Env.more, ynE, List.cons_append, List.nil_append, List.append_nil, denV, denI, denB, denL, I2.den, VOp.den, List.getD_cons_zero, List.getD_cons_succ, Cst.den, syso, syse, syio, sybo, List.map_nil, List.map_cons, B2.ofInts, B2.denI, B2.denB, if_true, Bool.false_eq_true, if_false, Nat.div_one, Nat.mul_one, Nat.add_zero]
  all_goals first | omega | rfl | (simp only [Value.tuple.injEq, Value.agg.injEq, Value.int.injEq, Value.bool.injEq, Array.mk.injEq, List.cons.injEq, true_and, and_true]; omega) | (refine congrArg Value.bool (Bool.eq_iff_iff.2 ?_); simp only [beq_iff_eq, decide_eq_true_eq, true_iff, false_iff, Bool.false_eq_true, Bool.not_eq_true', Bool.and_eq_true, Bool.or_eq_true, decide_eq_false_iff_not]; omega)
theorem yng_giveh : ync_giveh.Good Tryd.prog syG (ynE [] [] [] []) := good_of_walk (Γ := ⟨[], syG, [], [], []⟩) (ρ := ynE [] [] [] []) sym giveh_w rfl (fun _ _ _ _ => ok_nil) (fun rm rs rr gp gi rl ro hb ht he sf ss sy hc hty => giveh_h rm rs rr gp gi rl ro hb ht he sf ss sy hc hty)
def pofv_x0 : Tm := (.agg (.cons (.int .i64 (.lit (0))) (.cons (.int .i64 (.lit (0))) (.cons (.int .i64 (.lit (0))) (.cons (.int .i64 (.lit (0))) (.cons (.int .u32 (.lit (0))) (.cons (.int .i64 (.lit (0))) (.cons (.int .u32 (.lit (0))) (.cons (.int .i64 (.lit (0))) (.cons (.int .i64 (.lit (0))) (.cons (.int .i64 (.lit (0))) .nil)))))))))))
def pofv_x1 : Tm := (.tup (.cons (.int .u32 (.var 0)) (.cons (.int .i64 (.var 1)) (.cons (.int .i64 (.var 2)) (.cons (.int .i64 (.var 3)) (.cons (.int .i64 (.var 4)) (.cons (.int .i64 (.var 5)) (.cons (.int .i64 (.var 6)) (.cons (.bool (.bvar 0)) (.cons (.int .i64 (.var 7)) (.cons (.int .i64 (.var 8)) (.cons (.int .i64 (.var 9)) (.cons (.int .i64 (.var 10)) (.cons (.int .i64 (.var 11)) .nil))))))))))))))
def pofv_tree : Tree :=
 (.need (.b2 .and (.b2 .and (.b2 .le (.lit (0)) (.var 0)) (.b2 .le (.var 0) (.lit (4294967295)))) (.b2 .and (.b2 .and (.b2 .le (.lit (-9223372036854775808)) (.var 1)) (.b2 .le (.var 1) (.lit (9223372036854775807)))) (.b2 .and (.b2 .and (.b2 .le (.lit (-9223372036854775808)) (.var 2)) (.b2 .le (.var 2) (.lit (9223372036854775807)))) (.b2 .and (.b2 .and (.b2 .le (.lit (-9223372036854775808)) (.var 3)) (.b2 .le (.var 3) (.lit (9223372036854775807)))) (.b2 .and (.b2 .and (.b2 .le (.lit (-9223372036854775808)) (.var 4)) (.b2 .le (.var 4) (.lit (9223372036854775807)))) (.b2 .and (.b2 .and (.b2 .le (.lit (-9223372036854775808)) (.var 5)) (.b2 .le (.var 5) (.lit (9223372036854775807)))) (.b2 .and (.b2 .and (.b2 .le (.lit (-9223372036854775808)) (.var 6)) (.b2 .le (.var 6) (.lit (9223372036854775807)))) (.b2 .and (.b2 .and (.b2 .le (.lit (-9223372036854775808)) (.var 7)) (.b2 .le (.var 7) (.lit (9223372036854775807)))) (.b2 .and (.b2 .and (.b2 .le (.lit (-9223372036854775808)) (.var 8)) (.b2 .le (.var 8) (.lit (9223372036854775807)))) (.b2 .and (.b2 .and (.b2 .le (.lit (-9223372036854775808)) (.var 9)) (.b2 .le (.var 9) (.lit (9223372036854775807)))) (.b2 .and (.b2 .and (.b2 .le (.lit (-9223372036854775808)) (.var 10)) (.b2 .le (.var 10) (.lit (9223372036854775807)))) (.b2 .and (.b2 .le (.lit (-9223372036854775808)) (.var 11)) (.b2 .le (.var 11) (.lit (9223372036854775807)))))))))))))))
 (.br (.not (.b2 .eq (.iapp 42 (.cons pofv_x1 .nil)) (.lit (0))))
 (.ret (.tup (.cons pofv_x0 (.cons (.iface 229 (.int .i64 (.lit (1)))) .nil))))
 (.br (.b2 .lt (.var 12) (.lit (0)))
 (.ret (.tup (.cons pofv_x0 (.cons (.iface 229 (.int .i64 (.lit (1)))) .nil))))
 (.br (.b2 .lt (.lit (1099511627776)) (.var 12))
 (.ret (.tup (.cons pofv_x0 (.cons (.iface 229 (.int .i64 (.lit (1)))) .nil))))
 (.br (.b2 .lt (.var 13) (.lit (1)))
 (.ret (.tup (.cons pofv_x0 (.cons (.iface 229 (.int .i64 (.lit (1)))) .nil))))
 (.br (.b2 .lt (.lit (1125899906842624)) (.var 13))
 (.ret (.tup (.cons pofv_x0 (.cons (.iface 229 (.int .i64 (.lit (1)))) .nil))))
 (.br (.not (.bvar 0))
 (.ret (.tup (.cons pofv_x0 (.cons (.iface 229 (.int .i64 (.lit (13)))) .nil))))
 (.need (.b2 .and (.b2 .and (.b2 .and (.b2 .le (.lit (0)) (.var 0)) (.b2 .le (.var 0) (.lit (4294967295)))) (.b2 .and (.b2 .and (.b2 .le (.lit (-9223372036854775808)) (.var 1)) (.b2 .le (.var 1) (.lit (9223372036854775807)))) (.b2 .and (.b2 .and (.b2 .le (.lit (-9223372036854775808)) (.var 2)) (.b2 .le (.var 2) (.lit (9223372036854775807)))) (.b2 .and (.b2 .and (.b2 .le (.lit (-9223372036854775808)) (.var 3)) (.b2 .le (.var 3) (.lit (9223372036854775807)))) (.b2 .and (.b2 .and (.b2 .le (.lit (-9223372036854775808)) (.var 4)) (.b2 .le (.var 4) (.lit (9223372036854775807)))) (.b2 .and (.b2 .and (.b2 .le (.lit (-9223372036854775808)) (.var 5)) (.b2 .le (.var 5) (.lit (9223372036854775807)))) (.b2 .and (.b2 .and (.b2 .le (.lit (-9223372036854775808)) (.var 6)) (.b2 .le (.var 6) (.lit (9223372036854775807)))) (.b2 .and (.b2 .and (.b2 .le (.lit (-9223372036854775808)) (.var 7)) (.b2 .le (.var 7) (.lit (9223372036854775807)))) (.b2 .and (.b2 .and (.b2 .le (.lit (-9223372036854775808)) (.var 8)) (.b2 .le (.var 8) (.lit (9223372036854775807)))) (.b2 .and (.b2 .and (.b2 .le (.lit (-9223372036854775808)) (.var 9)) (.b2 .le (.var 9) (.lit (9223372036854775807)))) (.b2 .and (.b2 .and (.b2 .le (.lit (-9223372036854775808)) (.var 10)) (.b2 .le (.var 10) (.lit (9223372036854775807)))) (.b2 .and (.b2 .le (.lit (-9223372036854775808)) (.var 11)) (.b2 .le (.var 11) (.lit (9223372036854775807))))))))))))))) (.bapp 4 (.cons pofv_x1 .nil)))
 (.br (.not (.b2 .eq (.iapp 29 (.cons (.int .u32 (.var 0)) (.cons (.int .i64 (.var 1)) (.cons (.int .i64 (.var 10)) .nil)))) (.lit (0))))
 (.ret (.tup (.cons pofv_x0 (.cons (.err (.iapp 29 (.cons (.int .u32 (.var 0)) (.cons (.int .i64 (.var 1)) (.cons (.int .i64 (.var 10)) .nil))))) .nil))))
 (.need (.b2 .and (.b2 .le (.lit (-9223372036854775808)) (.var 10)) (.b2 .le (.var 10) (.lit (9223372036854775807))))
 (.ret (.tup (.cons (.agg (.cons (.int .i64 (.var 12)) (.cons (.int .i64 (.var 7)) (.cons (.int .i64 (.var 8)) (.cons (.int .i64 (.var 9)) (.cons (.int .u32 (.iapp 27 (.cons (.int .u32 (.var 0)) (.cons (.int .i64 (.var 1)) (.cons (.int .i64 (.var 10)) .nil))))) (.cons (.int .i64 (.iapp 28 (.cons (.int .u32 (.var 0)) (.cons (.int .i64 (.var 1)) (.cons (.int .i64 (.var 10)) .nil))))) (.cons (.int .u32 (.var 0)) (.cons (.int .i64 (.var 1)) (.cons (.int .i64 (.wrap .i64 (.i2 .add (.var 2) (.iapp 0 (.cons (.int .i64 (.var 10)) .nil))))) (.cons (.int .i64 (.var 13)) .nil))))))))))) (.cons (.cst .nilI) .nil))))))))))))))
abbrev ync_pofv : Con := ⟨78, [(.agg (.cons (.int .u32 (.var 0)) (.cons (.int .i64 (.var 1)) (.cons (.int .i64 (.var 2)) (.cons (.int .i64 (.var 3)) (.cons (.int .i64 (.var 4)) (.cons (.int .i64 (.var 5)) (.cons (.int .i64 (.var 6)) (.cons (.bool (.bvar 0)) (.cons (.int .i64 (.var 7)) (.cons (.int .i64 (.var 8)) (.cons (.int .i64 (.var 9)) (.cons (.int .i64 (.var 10)) (.cons (.int .i64 (.var 11)) .nil)))))))))))))), (.int .i64 (.var 12)), (.int .i64 (.var 13))], (.b2 .and (.b2 .and (.b2 .and (.b2 .le (.lit (0)) (.var 0)) (.b2 .le (.var 0) (.lit (4294967295)))) (.b2 .and (.b2 .and (.b2 .le (.lit (-9223372036854775808)) (.var 1)) (.b2 .le (.var 1) (.lit (9223372036854775807)))) (.b2 .and (.b2 .and (.b2 .le (.lit (-9223372036854775808)) (.var 2)) (.b2 .le (.var 2) (.lit (9223372036854775807)))) (.b2 .and (.b2 .and (.b2 .le (.lit (-9223372036854775808)) (.var 3)) (.b2 .le (.var 3) (.lit (9223372036854775807)))) (.b2 .and (.b2 .and (.b2 .le (.lit (-9223372036854775808)) (.var 4)) (.b2 .le (.var 4) (.lit (9223372036854775807)))) (.b2 .and (.b2 .and (.b2 .le (.lit (-9223372036854775808)) (.var 5)) (.b2 .le (.var 5) (.lit (9223372036854775807)))) (.b2 .and (.b2 .and (.b2 .le (.lit (-9223372036854775808)) (.var 6)) (.b2 .le (.var 6) (.lit (9223372036854775807)))) (.b2 .and (.b2 .and (.b2 .le (.lit (-9223372036854775808)) (.var 7)) (.b2 .le (.var 7) (.lit (9223372036854775807)))) (.b2 .and (.b2 .and (.b2 .le (.lit (-9223372036854775808)) (.var 8)) (.b2 .le (.var 8) (.lit (9223372036854775807)))) (.b2 .and (.b2 .and (.b2 .le (.lit (-9223372036854775808)) (.var 9)) (.b2 .le (.var 9) (.lit (9223372036854775807)))) (.b2 .and (.b2 .and (.b2 .le (.lit (-9223372036854775808)) (.var 10)) (.b2 .le (.var 10) (.lit (9223372036854775807)))) (.b2 .and (.b2 .le (.lit (-9223372036854775808)) (.var 11)) (.b2 .le (.var 11) (.lit (9223372036854775807))))))))))))))) (.b2 .and (.bapp 4 (.cons (.tup (.cons (.int .u32 (.var 0)) (.cons (.int .i64 (.var 1)) (.cons (.int .i64 (.var 2)) (.cons (.int .i64 (.var 3)) (.cons (.int .i64 (.var 4)) (.cons (.int .i64 (.var 5)) (.cons (.int .i64 (.var 6)) (.cons (.bool (.bvar 0)) (.cons (.int .i64 (.var 7)) (.cons (.int .i64 (.var 8)) (.cons (.int .i64 (.var 9)) (.cons (.int .i64 (.var 10)) (.cons (.int .i64 (.var 11)) .nil)))))))))))))) .nil)) (.b2 .and (.bvar 0) (.b2 .and (.b2 .eq (.iapp 29 (.cons (.int .u32 (.var 0)) (.cons (.int .i64 (.var 1)) (.cons (.int .i64 (.var 10)) .nil)))) (.lit (0))) (.b2 .and (.b2 .le (.lit (0)) (.var 12)) (.b2 .and (.b2 .le (.var 12) (.lit (1099511627776))) (.b2 .and (.b2 .le (.lit (1)) (.var 13)) (.b2 .le (.var 13) (.lit (1125899906842624)))))))))), (.tup (.cons (.agg (.cons (.int .i64 (.var 12)) (.cons (.int .i64 (.var 7)) (.cons (.int .i64 (.var 8)) (.cons (.int .i64 (.var 9)) (.cons (.int .u32 (.iapp 27 (.cons (.int .u32 (.var 0)) (.cons (.int .i64 (.var 1)) (.cons (.int .i64 (.var 10)) .nil))))) (.cons (.int .i64 (.iapp 28 (.cons (.int .u32 (.var 0)) (.cons (.int .i64 (.var 1)) (.cons (.int .i64 (.var 10)) .nil))))) (.cons (.int .u32 (.var 0)) (.cons (.int .i64 (.var 1)) (.cons (.int .i64 (.iapp 34 (.cons (.int .i64 (.var 2)) (.cons (.int .i64 (.var 10)) .nil)))) (.cons (.int .i64 (.var 13)) .nil))))))))))) (.cons (.err (.lit (0))) .nil))), ⟨14, 1, 0, 0⟩, none⟩
theorem pofv_w : walk Tryd.prog 229 ⟨[yic_hcheck, yic_hfac, yac_size], syG, [], [], []⟩ [] .v ync_pofv ync_pofv.n 3000 = some pofv_tree := by kernel_rfl
theorem pofv_h (rm : Int) (rs : Int) (rr : Int) (gp : Int) (gi : Int) (rl : Int) (ro : Int) (hb : Int) (ht : Int) (he : Int) (sf : Int) (ss : Int) (e : Int) (c : Int) (sy : Bool) (hc : holds (ynE [rm, rs, rr, gp, gi, rl, ro, hb, ht, he, sf, ss, e, c] [sy] [] []) (.b2 .and (.b2 .and (.b2 .and (.b2 .le (.lit (0)) (.var 0)) (.b2 .le (.var 0) (.lit (4294967295)))) (.b2 .and (.b2 .and (.b2 .le (.lit (-9223372036854775808)) (.var 1)) (.b2 .le (.var 1) (.lit (9223372036854775807)))) (.b2 .and (.b2 .and (.b2 .le (.lit (-9223372036854775808)) (.var 2)) (.b2 .le (.var 2) (.lit (9223372036854775807)))) (.b2 .and (.b2 .and (.b2 .le (.lit (-9223372036854775808)) (.var 3)) (.b2 .le (.var 3) (.lit (9223372036854775807)))) (.b2 .and (.b2 .and (.b2 .le (.lit (-9223372036854775808)) (.var 4)) (.b2 .le (.var 4) (.lit (9223372036854775807)))) (.b2 .and (.b2 .and (.b2 .le (.lit (-9223372036854775808)) (.var 5)) (.b2 .le (.var 5) (.lit (9223372036854775807)))) (.b2 .and (.b2 .and (.b2 .le (.lit (-9223372036854775808)) (.var 6)) (.b2 .le (.var 6) (.lit (9223372036854775807)))) (.b2 .and (.b2 .and (.b2 .le (.lit (-9223372036854775808)) (.var 7)) (.b2 .le (.var 7) (.lit (9223372036854775807)))) (.b2 .and (.b2 .and (.b2 .le (.lit (-9223372036854775808)) (.var 8)) (.b2 .le (.var 8) (.lit (9223372036854775807)))) (.b2 .and (.b2 .and (.b2 .le (.lit (-9223372036854775808)) (.var 9)) (.b2 .le (.var 9) (.lit (9223372036854775807)))) (.b2 .and (.b2 .and (.b2 .le (.lit (-9223372036854775808)) (.var 10)) (.b2 .le (.var 10) (.lit (9223372036854775807)))) (.b2 .and (.b2 .le (.lit (-9223372036854775808)) (.var 11)) (.b2 .le (.var 11) (.lit (9223372036854775807))))))))))))))) (.b2 .and (.bapp 4 (.cons (.tup (.cons (.int .u32 (.var 0)) (.cons (.int .i64 (.var 1)) (.cons (.int .i64 (.var 2)) (.cons (.int .i64 (.var 3)) (.cons (.int .i64 (.var 4)) (.cons (.int .i64 (.var 5)) (.cons (.int .i64 (.var 6)) (.cons (.bool (.bvar 0)) (.cons (.int .i64 (.var 7)) (.cons (.int .i64 (.var 8)) (.cons (.int .i64 (.var 9)) (.cons (.int .i64 (.var 10)) (.cons (.int .i64 (.var 11)) .nil)))))))))))))) .nil)) (.b2 .and (.bvar 0) (.b2 .and (.b2 .eq (.iapp 29 (.cons (.int .u32 (.var 0)) (.cons (.int .i64 (.var 1)) (.cons (.int .i64 (.var 10)) .nil)))) (.lit (0))) (.b2 .and (.b2 .le (.lit (0)) (.var 12)) (.b2 .and (.b2 .le (.var 12) (.lit (1099511627776))) (.b2 .and (.b2 .le (.lit (1)) (.var 13)) (.b2 .le (.var 13) (.lit (1125899906842624))))))))))) (hty : patsTyp (ynE [rm, rs, rr, gp, gi, rl, ro, hb, ht, he, sf, ss, e, c] [sy] [] []) [(.agg (.cons (.int .u32 (.var 0)) (.cons (.int .i64 (.var 1)) (.cons (.int .i64 (.var 2)) (.cons (.int .i64 (.var 3)) (.cons (.int .i64 (.var 4)) (.cons (.int .i64 (.var 5)) (.cons (.int .i64 (.var 6)) (.cons (.bool (.bvar 0)) (.cons (.int .i64 (.var 7)) (.cons (.int .i64 (.var 8)) (.cons (.int .i64 (.var 9)) (.cons (.int .i64 (.var 10)) (.cons (.int .i64 (.var 11)) .nil)))))))))))))), (.int .i64 (.var 12)), (.int .i64 (.var 13))]) : pofv_tree.holds (fun v_ => v_ = denV (ynE [rm, rs, rr, gp, gi, rl, ro, hb, ht, he, sf, ss, e, c] [sy] [] []) b0 (.tup (.cons (.agg (.cons (.int .i64 (.var 12)) (.cons (.int .i64 (.var 7)) (.cons (.int .i64 (.var 8)) (.cons (.int .i64 (.var 9)) (.cons (.int .u32 (.iapp 27 (.cons (.int .u32 (.var 0)) (.cons (.int .i64 (.var 1)) (.cons (.int .i64 (.var 10)) .nil))))) (.cons (.int .i64 (.iapp 28 (.cons (.int .u32 (.var 0)) (.cons (.int .i64 (.var 1)) (.cons (.int .i64 (.var 10)) .nil))))) (.cons (.int .u32 (.var 0)) (.cons (.int .i64 (.var 1)) (.cons (.int .i64 (.iapp 34 (.cons (.int .i64 (.var 2)) (.cons (.int .i64 (.var 10)) .nil)))) (.cons (.int .i64 (.var 13)) .nil))))))))))) (.cons (.err (.lit (0))) .nil)))) (ynE [rm, rs, rr, gp, gi, rl, ro, hb, ht, he, sf, ss, e, c] [sy] [] []) := by
  simp only [Tree.holds, Sy.holds, AllN, Env.more, ynE, List.cons_append, List.nil_append, List.append_nil, denV, denI, denB, denL, I2.den, VOp.den, List.getD_cons_zero, List.getD_cons_succ, Cst.den, syso, syse, syio, sybo, yni_ade, ynb_hm, List.map_nil, List.map_cons, B2.ofInts, B2.denI, B2.denB, if_true, Bool.false_eq_true, if_false, Nat.div_one, Nat.mul_one, Nat.add_zero, holds] at hc
  simp only [patsTyp, patTyp, patTypL, ynE, denV, denL, List.getD_cons_zero, List.getD_cons_succ, and_true, true_and] at hty
  unfold pofv_tree
  simp only [pofv_x0, pofv_x1]
  simp only [Tree.holds, Sy.holds, AllN, Env.more, ynE, List.cons_append, List.nil_append, List.append_nil, denV, denI, denB, denL, I2.den, VOp.den, List.getD_cons_zero, List.getD_cons_succ, Cst.den, syso, syse, syio, sybo, yni_sz, yni_ada, yni_ads, yni_ade, yni_pl, yni_hme, ynb_hm, List.map_nil, List.map_cons, B2.ofInts, B2.denI, B2.denB, if_true, Bool.false_eq_true, if_false, Nat.div_one, Nat.mul_one, Nat.add_zero]
  simp only [hoL_eq, hoB_eq, ofE_eq]
  obtain ⟨hc0, hx, hsy, hz, v1, v2, v3, v4⟩ := hc
  have hp : hoP rm rs rr gp gi rl ro hb ht he sf ss := of_decide_eq_true hx
  have hE : hoE rm rs rr gp gi rl ro hb ht he sf ss = 0 := hoE_y hp
  obtain ⟨f, a1, a2, a3, a4, a5, a6, a7, a8, a9, a10, a11, a12, a13, a14, a15, a16, a17, a18, a19, a20⟩ := id hp
  have hza := sz_abs (x := sf) (by omega) (by omega)
  have hwr := wr_i64 (rr + szE sf)
  have hpa := pabs_spec sf
  have hpl : plI rr sf = rr + pabs sf := rfl
  refine ⟨?_, fun h0 => ?_⟩
  ·
   first
   | omega
   | exact hc0
   | exact ⟨hc0, decide_eq_true hp⟩
   | skip
  ·
   refine ⟨fun h1 => ?_, fun h1 => ?_⟩
   ·
    first
    | (exfalso; omega)
    | contradiction
    | exact absurd hsy (by assumption)
    | (rw [show IntKind.wrap .i64 (rr + szE sf) = plI rr sf by omega]
       first | done | rfl)
    | skip
   ·
    refine ⟨fun h2 => ?_, fun h2 => ?_⟩
    ·
     first
     | (exfalso; omega)
     | contradiction
     | exact absurd hsy (by assumption)
     | (rw [show IntKind.wrap .i64 (rr + szE sf) = plI rr sf by omega]
        first | done | rfl)
     | skip
    ·
     refine ⟨fun h3 => ?_, fun h3 => ?_⟩
     ·
      first
      | (exfalso; omega)
      | contradiction
      | exact absurd hsy (by assumption)
      | (rw [show IntKind.wrap .i64 (rr + szE sf) = plI rr sf by omega]
         first | done | rfl)
      | skip
     ·
      refine ⟨fun h4 => ?_, fun h4 => ?_⟩
      ·
       first
       | (exfalso; omega)
       | contradiction
       | exact absurd hsy (by assumption)
       | (rw [show IntKind.wrap .i64 (rr + szE sf) = plI rr sf by omega]
          first | done | rfl)
       | skip
      ·
       refine ⟨fun h5 => ?_, fun h5 => ?_⟩
       ·
        first
        | (exfalso; omega)
        | contradiction
        | exact absurd hsy (by assumption)
        | (rw [show IntKind.wrap .i64 (rr + szE sf) = plI rr sf by omega]
           first | done | rfl)
        | skip
       ·
        refine ⟨fun h6 => ?_, fun h6 => ?_⟩
        ·
         first
         | (exfalso; omega)
         | contradiction
         | exact absurd hsy (by assumption)
         | (rw [show IntKind.wrap .i64 (rr + szE sf) = plI rr sf by omega]
            first | done | rfl)
         | skip
        ·
         refine ⟨?_, fun h7 => ?_⟩
         ·
          first
          | omega
          | exact hc0
          | exact ⟨hc0, decide_eq_true hp⟩
          | skip
         ·
          refine ⟨fun h8 => ?_, fun h8 => ?_⟩
          ·
           first
           | (exfalso; omega)
           | contradiction
           | exact absurd hsy (by assumption)
           | (rw [show IntKind.wrap .i64 (rr + szE sf) = plI rr sf by omega]
              first | done | rfl)
           | skip
          ·
           refine ⟨?_, fun h9 => ?_⟩
           ·
            first
            | omega
            | exact hc0
            | exact ⟨hc0, decide_eq_true hp⟩
            | skip
           ·
            first
            | (exfalso; omega)
            | contradiction
            | exact absurd hsy (by assumption)
            | (rw [show IntKind.wrap .i64 (rr + szE sf) = plI rr sf by omega]
               first | done | rfl)
            | skip
theorem yng_pofv : ync_pofv.Good Tryd.prog syG (ynE [] [] [] []) := good_of_walk (Γ := ⟨[yic_hcheck, yic_hfac, yac_size], syG, [], [], []⟩) (ρ := ynE [] [] [] []) sym pofv_w rfl (fun _ _ _ _ => (ok_cons (Con.Good.env (Con.Good.up (Con.Good.up (Con.Good.up yig_hcheck yjup rfl) ykup rfl) ynup rfl) _ _ _ _) (ok_cons (Con.Good.env (Con.Good.up (Con.Good.up (Con.Good.up yig_hfac yjup rfl) ykup rfl) ynup rfl) _ _ _ _) (ok_cons (Con.Good.env (Con.Good.up (Con.Good.up (Con.Good.up (Con.Good.up (Con.Good.up (Con.Good.up (Con.Good.up yag_size ybup rfl) ycup rfl) yhup rfl) yiup rfl) yjup rfl) ykup rfl) ynup rfl) _ _ _ _) ok_nil)))) (fun rm rs rr gp gi rl ro hb ht he sf ss e c sy hc hty => pofv_h rm rs rr gp gi rl ro hb ht he sf ss e c sy hc hty)
def pofx_x0 : Tm := (.agg (.cons (.int .i64 (.lit (0))) (.cons (.int .i64 (.lit (0))) (.cons (.int .i64 (.lit (0))) (.cons (.int .i64 (.lit (0))) (.cons (.int .u32 (.lit (0))) (.cons (.int .i64 (.lit (0))) (.cons (.int .u32 (.lit (0))) (.cons (.int .i64 (.lit (0))) (.cons (.int .i64 (.lit (0))) (.cons (.int .i64 (.lit (0))) .nil)))))))))))
def pofx_x1 : Tm := (.tup (.cons (.int .u32 (.var 0)) (.cons (.int .i64 (.var 1)) (.cons (.int .i64 (.var 2)) (.cons (.int .i64 (.var 3)) (.cons (.int .i64 (.var 4)) (.cons (.int .i64 (.var 5)) (.cons (.int .i64 (.var 6)) (.cons (.bool (.bvar 0)) (.cons (.int .i64 (.var 7)) (.cons (.int .i64 (.var 8)) (.cons (.int .i64 (.var 9)) (.cons (.int .i64 (.var 10)) (.cons (.int .i64 (.var 11)) .nil))))))))))))))
def pofx_tree : Tree :=
 (.need (.b2 .and (.b2 .and (.b2 .le (.lit (0)) (.var 0)) (.b2 .le (.var 0) (.lit (4294967295)))) (.b2 .and (.b2 .and (.b2 .le (.lit (-9223372036854775808)) (.var 1)) (.b2 .le (.var 1) (.lit (9223372036854775807)))) (.b2 .and (.b2 .and (.b2 .le (.lit (-9223372036854775808)) (.var 2)) (.b2 .le (.var 2) (.lit (9223372036854775807)))) (.b2 .and (.b2 .and (.b2 .le (.lit (-9223372036854775808)) (.var 3)) (.b2 .le (.var 3) (.lit (9223372036854775807)))) (.b2 .and (.b2 .and (.b2 .le (.lit (-9223372036854775808)) (.var 4)) (.b2 .le (.var 4) (.lit (9223372036854775807)))) (.b2 .and (.b2 .and (.b2 .le (.lit (-9223372036854775808)) (.var 5)) (.b2 .le (.var 5) (.lit (9223372036854775807)))) (.b2 .and (.b2 .and (.b2 .le (.lit (-9223372036854775808)) (.var 6)) (.b2 .le (.var 6) (.lit (9223372036854775807)))) (.b2 .and (.b2 .and (.b2 .le (.lit (-9223372036854775808)) (.var 7)) (.b2 .le (.var 7) (.lit (9223372036854775807)))) (.b2 .and (.b2 .and (.b2 .le (.lit (-9223372036854775808)) (.var 8)) (.b2 .le (.var 8) (.lit (9223372036854775807)))) (.b2 .and (.b2 .and (.b2 .le (.lit (-9223372036854775808)) (.var 9)) (.b2 .le (.var 9) (.lit (9223372036854775807)))) (.b2 .and (.b2 .and (.b2 .le (.lit (-9223372036854775808)) (.var 10)) (.b2 .le (.var 10) (.lit (9223372036854775807)))) (.b2 .and (.b2 .le (.lit (-9223372036854775808)) (.var 11)) (.b2 .le (.var 11) (.lit (9223372036854775807)))))))))))))))
 (.br (.not (.b2 .eq (.iapp 42 (.cons pofx_x1 .nil)) (.lit (0))))
 (.ret (.tup (.cons pofx_x0 (.cons (.iface 229 (.int .i64 (.lit (1)))) .nil))))
 (.br (.b2 .lt (.var 12) (.lit (0)))
 (.ret (.tup (.cons pofx_x0 (.cons (.iface 229 (.int .i64 (.lit (1)))) .nil))))
 (.br (.b2 .lt (.lit (1099511627776)) (.var 12))
 (.ret (.tup (.cons pofx_x0 (.cons (.iface 229 (.int .i64 (.lit (1)))) .nil))))
 (.br (.b2 .lt (.var 13) (.lit (1)))
 (.ret (.tup (.cons pofx_x0 (.cons (.iface 229 (.int .i64 (.lit (1)))) .nil))))
 (.br (.b2 .lt (.lit (1125899906842624)) (.var 13))
 (.ret (.tup (.cons pofx_x0 (.cons (.iface 229 (.int .i64 (.lit (1)))) .nil))))
 (.br (.not (.bvar 0))
 (.ret (.tup (.cons pofx_x0 (.cons (.iface 229 (.int .i64 (.lit (13)))) .nil))))
 (.need (.b2 .and (.b2 .and (.b2 .and (.b2 .le (.lit (0)) (.var 0)) (.b2 .le (.var 0) (.lit (4294967295)))) (.b2 .and (.b2 .and (.b2 .le (.lit (-9223372036854775808)) (.var 1)) (.b2 .le (.var 1) (.lit (9223372036854775807)))) (.b2 .and (.b2 .and (.b2 .le (.lit (-9223372036854775808)) (.var 2)) (.b2 .le (.var 2) (.lit (9223372036854775807)))) (.b2 .and (.b2 .and (.b2 .le (.lit (-9223372036854775808)) (.var 3)) (.b2 .le (.var 3) (.lit (9223372036854775807)))) (.b2 .and (.b2 .and (.b2 .le (.lit (-9223372036854775808)) (.var 4)) (.b2 .le (.var 4) (.lit (9223372036854775807)))) (.b2 .and (.b2 .and (.b2 .le (.lit (-9223372036854775808)) (.var 5)) (.b2 .le (.var 5) (.lit (9223372036854775807)))) (.b2 .and (.b2 .and (.b2 .le (.lit (-9223372036854775808)) (.var 6)) (.b2 .le (.var 6) (.lit (9223372036854775807)))) (.b2 .and (.b2 .and (.b2 .le (.lit (-9223372036854775808)) (.var 7)) (.b2 .le (.var 7) (.lit (9223372036854775807)))) (.b2 .and (.b2 .and (.b2 .le (.lit (-9223372036854775808)) (.var 8)) (.b2 .le (.var 8) (.lit (9223372036854775807)))) (.b2 .and (.b2 .and (.b2 .le (.lit (-9223372036854775808)) (.var 9)) (.b2 .le (.var 9) (.lit (9223372036854775807)))) (.b2 .and (.b2 .and (.b2 .le (.lit (-9223372036854775808)) (.var 10)) (.b2 .le (.var 10) (.lit (9223372036854775807)))) (.b2 .and (.b2 .le (.lit (-9223372036854775808)) (.var 11)) (.b2 .le (.var 11) (.lit (9223372036854775807))))))))))))))) (.bapp 4 (.cons pofx_x1 .nil)))
 (.br (.not (.b2 .eq (.iapp 29 (.cons (.int .u32 (.var 0)) (.cons (.int .i64 (.var 1)) (.cons (.int .i64 (.var 10)) .nil)))) (.lit (0))))
 (.ret (.tup (.cons pofx_x0 (.cons (.err (.iapp 29 (.cons (.int .u32 (.var 0)) (.cons (.int .i64 (.var 1)) (.cons (.int .i64 (.var 10)) .nil))))) .nil))))
 (.need (.b2 .and (.b2 .le (.lit (-9223372036854775808)) (.var 10)) (.b2 .le (.var 10) (.lit (9223372036854775807))))
 (.ret (.tup (.cons (.agg (.cons (.int .i64 (.var 12)) (.cons (.int .i64 (.var 7)) (.cons (.int .i64 (.var 8)) (.cons (.int .i64 (.var 9)) (.cons (.int .u32 (.iapp 27 (.cons (.int .u32 (.var 0)) (.cons (.int .i64 (.var 1)) (.cons (.int .i64 (.var 10)) .nil))))) (.cons (.int .i64 (.iapp 28 (.cons (.int .u32 (.var 0)) (.cons (.int .i64 (.var 1)) (.cons (.int .i64 (.var 10)) .nil))))) (.cons (.int .u32 (.var 0)) (.cons (.int .i64 (.var 1)) (.cons (.int .i64 (.wrap .i64 (.i2 .add (.var 2) (.iapp 0 (.cons (.int .i64 (.var 10)) .nil))))) (.cons (.int .i64 (.var 13)) .nil))))))))))) (.cons (.cst .nilI) .nil))))))))))))))
abbrev ync_pofx : Con := ⟨78, [(.agg (.cons (.int .u32 (.var 0)) (.cons (.int .i64 (.var 1)) (.cons (.int .i64 (.var 2)) (.cons (.int .i64 (.var 3)) (.cons (.int .i64 (.var 4)) (.cons (.int .i64 (.var 5)) (.cons (.int .i64 (.var 6)) (.cons (.bool (.bvar 0)) (.cons (.int .i64 (.var 7)) (.cons (.int .i64 (.var 8)) (.cons (.int .i64 (.var 9)) (.cons (.int .i64 (.var 10)) (.cons (.int .i64 (.var 11)) .nil)))))))))))))), (.int .i64 (.var 12)), (.int .i64 (.var 13))], (.b2 .and (.b2 .and (.b2 .and (.b2 .le (.lit (0)) (.var 0)) (.b2 .le (.var 0) (.lit (4294967295)))) (.b2 .and (.b2 .and (.b2 .le (.lit (-9223372036854775808)) (.var 1)) (.b2 .le (.var 1) (.lit (9223372036854775807)))) (.b2 .and (.b2 .and (.b2 .le (.lit (-9223372036854775808)) (.var 2)) (.b2 .le (.var 2) (.lit (9223372036854775807)))) (.b2 .and (.b2 .and (.b2 .le (.lit (-9223372036854775808)) (.var 3)) (.b2 .le (.var 3) (.lit (9223372036854775807)))) (.b2 .and (.b2 .and (.b2 .le (.lit (-9223372036854775808)) (.var 4)) (.b2 .le (.var 4) (.lit (9223372036854775807)))) (.b2 .and (.b2 .and (.b2 .le (.lit (-9223372036854775808)) (.var 5)) (.b2 .le (.var 5) (.lit (9223372036854775807)))) (.b2 .and (.b2 .and (.b2 .le (.lit (-9223372036854775808)) (.var 6)) (.b2 .le (.var 6) (.lit (9223372036854775807)))) (.b2 .and (.b2 .and (.b2 .le (.lit (-9223372036854775808)) (.var 7)) (.b2 .le (.var 7) (.lit (9223372036854775807)))) (.b2 .and (.b2 .and (.b2 .le (.lit (-9223372036854775808)) (.var 8)) (.b2 .le (.var 8) (.lit (9223372036854775807)))) (.b2 .and (.b2 .and (.b2 .le (.lit (-9223372036854775808)) (.var 9)) (.b2 .le (.var 9) (.lit (9223372036854775807)))) (.b2 .and (.b2 .and (.b2 .le (.lit (-9223372036854775808)) (.var 10)) (.b2 .le (.var 10) (.lit (9223372036854775807)))) (.b2 .and (.b2 .le (.lit (-9223372036854775808)) (.var 11)) (.b2 .le (.var 11) (.lit (9223372036854775807))))))))))))))) (.b2 .and (.b2 .and (.b2 .le (.lit (-9223372036854775808)) (.var 12)) (.b2 .le (.var 12) (.lit (9223372036854775807)))) (.b2 .and (.b2 .and (.b2 .le (.lit (-9223372036854775808)) (.var 13)) (.b2 .le (.var 13) (.lit (9223372036854775807)))) (.not (.b2 .and (.bapp 4 (.cons (.tup (.cons (.int .u32 (.var 0)) (.cons (.int .i64 (.var 1)) (.cons (.int .i64 (.var 2)) (.cons (.int .i64 (.var 3)) (.cons (.int .i64 (.var 4)) (.cons (.int .i64 (.var 5)) (.cons (.int .i64 (.var 6)) (.cons (.bool (.bvar 0)) (.cons (.int .i64 (.var 7)) (.cons (.int .i64 (.var 8)) (.cons (.int .i64 (.var 9)) (.cons (.int .i64 (.var 10)) (.cons (.int .i64 (.var 11)) .nil)))))))))))))) .nil)) (.b2 .and (.bvar 0) (.b2 .and (.b2 .eq (.iapp 29 (.cons (.int .u32 (.var 0)) (.cons (.int .i64 (.var 1)) (.cons (.int .i64 (.var 10)) .nil)))) (.lit (0))) (.b2 .and (.b2 .le (.lit (0)) (.var 12)) (.b2 .and (.b2 .le (.var 12) (.lit (1099511627776))) (.b2 .and (.b2 .le (.lit (1)) (.var 13)) (.b2 .le (.var 13) (.lit (1125899906842624))))))))))))), (.tup (.cons (.agg (.cons (.int .i64 (.lit (0))) (.cons (.int .i64 (.lit (0))) (.cons (.int .i64 (.lit (0))) (.cons (.int .i64 (.lit (0))) (.cons (.int .u32 (.lit (0))) (.cons (.int .i64 (.lit (0))) (.cons (.int .u32 (.lit (0))) (.cons (.int .i64 (.lit (0))) (.cons (.int .i64 (.lit (0))) (.cons (.int .i64 (.lit (0))) .nil))))))))))) (.cons (.err (.iapp 55 (.cons (.tup (.cons (.int .u32 (.var 0)) (.cons (.int .i64 (.var 1)) (.cons (.int .i64 (.var 2)) (.cons (.int .i64 (.var 3)) (.cons (.int .i64 (.var 4)) (.cons (.int .i64 (.var 5)) (.cons (.int .i64 (.var 6)) (.cons (.bool (.bvar 0)) (.cons (.int .i64 (.var 7)) (.cons (.int .i64 (.var 8)) (.cons (.int .i64 (.var 9)) (.cons (.int .i64 (.var 10)) (.cons (.int .i64 (.var 11)) .nil)))))))))))))) (.cons (.int .i64 (.var 12)) (.cons (.int .i64 (.var 13)) .nil))))) .nil))), ⟨14, 1, 0, 0⟩, none⟩
theorem pofx_w : walk Tryd.prog 229 ⟨[yic_hcheck, yic_hfac, yac_size], syG, [], [], []⟩ [] .v ync_pofx ync_pofx.n 3000 = some pofx_tree := by kernel_rfl
theorem pofx_h (rm : Int) (rs : Int) (rr : Int) (gp : Int) (gi : Int) (rl : Int) (ro : Int) (hb : Int) (ht : Int) (he : Int) (sf : Int) (ss : Int) (e : Int) (c : Int) (sy : Bool) (hc : holds (ynE [rm, rs, rr, gp, gi, rl, ro, hb, ht, he, sf, ss, e, c] [sy] [] []) (.b2 .and (.b2 .and (.b2 .and (.b2 .le (.lit (0)) (.var 0)) (.b2 .le (.var 0) (.lit (4294967295)))) (.b2 .and (.b2 .and (.b2 .le (.lit (-9223372036854775808)) (.var 1)) (.b2 .le (.var 1) (.lit (9223372036854775807)))) (.b2 .and (.b2 .and (.b2 .le (.lit (-9223372036854775808)) (.var 2)) (.b2 .le (.var 2) (.lit (9223372036854775807)))) (.b2 .and (.b2 .and (.b2 .le (.lit (-9223372036854775808)) (.var 3)) (.b2 .le (.var 3) (.lit (9223372036854775807)))) (.b2 .and (.b2 .and (.b2 .le (.lit (-9223372036854775808)) (.var 4)) (.b2 .le (.var 4) (.lit (9223372036854775807)))) (.b2 .and (.b2 .and (.b2 .le (.lit (-9223372036854775808)) (.var 5)) (.b2 .le (.var 5) (.lit (9223372036854775807)))) (.b2 .and (.b2 .and (.b2 .le (.lit (-9223372036854775808)) (.var 6)) (.b2 .le (.var 6) (.lit (9223372036854775807)))) (.b2 .and (.b2 .and (.b2 .le (.lit (-9223372036854775808)) (.var 7)) (.b2 .le (.var 7) (.lit (9223372036854775807)))) (.b2 .and (.b2 .and (.b2 .le (.lit (-9223372036854775808)) (.var 8)) (.b2 .le (.var 8) (.lit (9223372036854775807)))) (.b2 .and (.b2 .and (.b2 .le (.lit (-9223372036854775808)) (.var 9)) (.b2 .le (.var 9) (.lit (9223372036854775807)))) (.b2 .and (.b2 .and (.b2 .le (.lit (-9223372036854775808)) (.var 10)) (.b2 .le (.var 10) (.lit (9223372036854775807)))) (.b2 .and (.b2 .le (.lit (-9223372036854775808)) (.var 11)) (.b2 .le (.var 11) (.lit (9223372036854775807))))))))))))))) (.b2 .and (.b2 .and (.b2 .le (.lit (-9223372036854775808)) (.var 12)) (.b2 .le (.var 12) (.lit (9223372036854775807)))) (.b2 .and (.b2 .and (.b2 .le (.lit (-9223372036854775808)) (.var 13)) (.b2 .le (.var 13) (.lit (9223372036854775807)))) (.not (.b2 .and (.bapp 4 (.cons (.tup (.cons (.int .u32 (.var 0)) (.cons (.int .i64 (.var 1)) (.cons (.int .i64 (.var 2)) (.cons (.int .i64 (.var 3)) (.cons (.int .i64 (.var 4)) (.cons (.int .i64 (.var 5)) (.cons (.int .i64 (.var 6)) (.cons (.bool (.bvar 0)) (.cons (.int .i64 (.var 7)) (.cons (.int .i64 (.var 8)) (.cons (.int .i64 (.var 9)) (.cons (.int .i64 (.var 10)) (.cons (.int .i64 (.var 11)) .nil)))))))))))))) .nil)) (.b2 .and (.bvar 0) (.b2 .and (.b2 .eq (.iapp 29 (.cons (.int .u32 (.var 0)) (.cons (.int .i64 (.var 1)) (.cons (.int .i64 (.var 10)) .nil)))) (.lit (0))) (.b2 .and (.b2 .le (.lit (0)) (.var 12)) (.b2 .and (.b2 .le (.var 12) (.lit (1099511627776))) (.b2 .and (.b2 .le (.lit (1)) (.var 13)) (.b2 .le (.var 13) (.lit (1125899906842624)))))))))))))) (hty : patsTyp (ynE [rm, rs, rr, gp, gi, rl, ro, hb, ht, he, sf, ss, e, c] [sy] [] []) [(.agg (.cons (.int .u32 (.var 0)) (.cons (.int .i64 (.var 1)) (.cons (.int .i64 (.var 2)) (.cons (.int .i64 (.var 3)) (.cons (.int .i64 (.var 4)) (.cons (.int .i64 (.var 5)) (.cons (.int .i64 (.var 6)) (.cons (.bool (.bvar 0)) (.cons (.int .i64 (.var 7)) (.cons (.int .i64 (.var 8)) (.cons (.int .i64 (.var 9)) (.cons (.int .i64 (.var 10)) (.cons (.int .i64 (.var 11)) .nil)))))))))))))), (.int .i64 (.var 12)), (.int .i64 (.var 13))]) : pofx_tree.holds (fun v_ => v_ = denV (ynE [rm, rs, rr, gp, gi, rl, ro, hb, ht, he, sf, ss, e, c] [sy] [] []) b0 (.tup (.cons (.agg (.cons (.int .i64 (.lit (0))) (.cons (.int .i64 (.lit (0))) (.cons (.int .i64 (.lit (0))) (.cons (.int .i64 (.lit (0))) (.cons (.int .u32 (.lit (0))) (.cons (.int .i64 (.lit (0))) (.cons (.int .u32 (.lit (0))) (.cons (.int .i64 (.lit (0))) (.cons (.int .i64 (.lit (0))) (.cons (.int .i64 (.lit (0))) .nil))))))))))) (.cons (.err (.iapp 55 (.cons (.tup (.cons (.int .u32 (.var 0)) (.cons (.int .i64 (.var 1)) (.cons (.int .i64 (.var 2)) (.cons (.int .i64 (.var 3)) (.cons (.int .i64 (.var 4)) (.cons (.int .i64 (.var 5)) (.cons (.int .i64 (.var 6)) (.cons (.bool (.bvar 0)) (.cons (.int .i64 (.var 7)) (.cons (.int .i64 (.var 8)) (.cons (.int .i64 (.var 9)) (.cons (.int .i64 (.var 10)) (.cons (.int .i64 (.var 11)) .nil)))))))))))))) (.cons (.int .i64 (.var 12)) (.cons (.int .i64 (.var 13)) .nil))))) .nil)))) (ynE [rm, rs, rr, gp, gi, rl, ro, hb, ht, he, sf, ss, e, c] [sy] [] []) := by
  simp only [Tree.holds, Sy.holds, AllN, Env.more, ynE, List.cons_append, List.nil_append, List.append_nil, denV, denI, denB, denL, I2.den, VOp.den, List.getD_cons_zero, List.getD_cons_succ, Cst.den, syso, syse, syio, sybo, yni_ade, ynb_hm, List.map_nil, List.map_cons, B2.ofInts, B2.denI, B2.denB, if_true, Bool.false_eq_true, if_false, Nat.div_one, Nat.mul_one, Nat.add_zero, holds] at hc
  simp only [patsTyp, patTyp, patTypL, ynE, denV, denL, List.getD_cons_zero, List.getD_cons_succ, and_true, true_and] at hty
  unfold pofx_tree
  simp only [pofx_x0, pofx_x1]
  simp only [Tree.holds, Sy.holds, AllN, Env.more, ynE, List.cons_append, List.nil_append, List.append_nil, denV, denI, denB, denL, I2.den, VOp.den, List.getD_cons_zero, List.getD_cons_succ, Cst.den, syso, syse, syio, sybo, yni_sz, yni_ada, yni_ads, yni_ade, yni_hme, yni_ofe, ynb_hm, List.map_nil, List.map_cons, B2.ofInts, B2.denI, B2.denB, if_true, Bool.false_eq_true, if_false, Nat.div_one, Nat.mul_one, Nat.add_zero]
  simp only [hoL_eq, hoB_eq, ofE_eq]
  have ho := of_or rm rs rr gp gi rl ro hb ht he sf ss sy e c
  have hn := hc.2.2.2
  refine ⟨?_, fun h0 => ?_⟩
  ·
   first
   | omega
   | exact hc.1
   | (rcases ho with ⟨q, e⟩ | ⟨⟨hp, q0, q1, q2, q3, q4⟩, _⟩
      · exfalso; omega
      · exact ⟨hc.1, decide_eq_true hp⟩)
   | skip
  ·
   refine ⟨fun h1 => ?_, fun h1 => ?_⟩
   ·
    rcases ho with ⟨q, e⟩ | ⟨⟨hp, q0, q1, q2, q3, q4⟩, ⟨hs, e⟩ | ⟨hs, e⟩⟩
    all_goals first
    | (exfalso; omega)
    | (rw [e]; done)
    | (rw [e]; rfl)
    | exact absurd hs (by assumption)
    | (subst hs; contradiction)
    | (exfalso; exact hn ⟨decide_eq_true hp, hs, by omega, q1, q2, q3, q4⟩)
    | skip
   ·
    refine ⟨fun h2 => ?_, fun h2 => ?_⟩
    ·
     rcases ho with ⟨q, e⟩ | ⟨⟨hp, q0, q1, q2, q3, q4⟩, ⟨hs, e⟩ | ⟨hs, e⟩⟩
     all_goals first
     | (exfalso; omega)
     | (rw [e]; done)
     | (rw [e]; rfl)
     | exact absurd hs (by assumption)
     | (subst hs; contradiction)
     | (exfalso; exact hn ⟨decide_eq_true hp, hs, by omega, q1, q2, q3, q4⟩)
     | skip
    ·
     refine ⟨fun h3 => ?_, fun h3 => ?_⟩
     ·
      rcases ho with ⟨q, e⟩ | ⟨⟨hp, q0, q1, q2, q3, q4⟩, ⟨hs, e⟩ | ⟨hs, e⟩⟩
      all_goals first
      | (exfalso; omega)
      | (rw [e]; done)
      | (rw [e]; rfl)
      | exact absurd hs (by assumption)
      | (subst hs; contradiction)
      | (exfalso; exact hn ⟨decide_eq_true hp, hs, by omega, q1, q2, q3, q4⟩)
      | skip
     ·
      refine ⟨fun h4 => ?_, fun h4 => ?_⟩
      ·
       rcases ho with ⟨q, e⟩ | ⟨⟨hp, q0, q1, q2, q3, q4⟩, ⟨hs, e⟩ | ⟨hs, e⟩⟩
       all_goals first
       | (exfalso; omega)
       | (rw [e]; done)
       | (rw [e]; rfl)
       | exact absurd hs (by assumption)
       | (subst hs; contradiction)
       | (exfalso; exact hn ⟨decide_eq_true hp, hs, by omega, q1, q2, q3, q4⟩)
       | skip
      ·
       refine ⟨fun h5 => ?_, fun h5 => ?_⟩
       ·
        rcases ho with ⟨q, e⟩ | ⟨⟨hp, q0, q1, q2, q3, q4⟩, ⟨hs, e⟩ | ⟨hs, e⟩⟩
        all_goals first
        | (exfalso; omega)
        | (rw [e]; done)
        | (rw [e]; rfl)
        | exact absurd hs (by assumption)
        | (subst hs; contradiction)
        | (exfalso; exact hn ⟨decide_eq_true hp, hs, by omega, q1, q2, q3, q4⟩)
        | skip
       ·
        refine ⟨fun h6 => ?_, fun h6 => ?_⟩
        ·
         rcases ho with ⟨q, e⟩ | ⟨⟨hp, q0, q1, q2, q3, q4⟩, ⟨hs, e⟩ | ⟨hs, e⟩⟩
         all_goals first
         | (exfalso; omega)
         | (rw [e]; done)
         | (rw [e]; rfl)
         | exact absurd hs (by assumption)
         | (subst hs; contradiction)
         | (exfalso; exact hn ⟨decide_eq_true hp, hs, by omega, q1, q2, q3, q4⟩)
         | skip
        ·
         refine ⟨?_, fun h7 => ?_⟩
         ·
          first
          | omega
          | exact hc.1
          | (rcases ho with ⟨q, e⟩ | ⟨⟨hp, q0, q1, q2, q3, q4⟩, _⟩
             · exfalso; omega
             · exact ⟨hc.1, decide_eq_true hp⟩)
          | skip
         ·
          refine ⟨fun h8 => ?_, fun h8 => ?_⟩
          ·
           rcases ho with ⟨q, e⟩ | ⟨⟨hp, q0, q1, q2, q3, q4⟩, ⟨hs, e⟩ | ⟨hs, e⟩⟩
           all_goals first
           | (exfalso; omega)
           | (rw [e]; done)
           | (rw [e]; rfl)
           | exact absurd hs (by assumption)
           | (subst hs; contradiction)
           | (exfalso; exact hn ⟨decide_eq_true hp, hs, by omega, q1, q2, q3, q4⟩)
           | skip
          ·
           refine ⟨?_, fun h9 => ?_⟩
           ·
            first
            | omega
            | exact hc.1
            | (rcases ho with ⟨q, e⟩ | ⟨⟨hp, q0, q1, q2, q3, q4⟩, _⟩
               · exfalso; omega
               · exact ⟨hc.1, decide_eq_true hp⟩)
            | skip
           ·
            rcases ho with ⟨q, e⟩ | ⟨⟨hp, q0, q1, q2, q3, q4⟩, ⟨hs, e⟩ | ⟨hs, e⟩⟩
            all_goals first
            | (exfalso; omega)
            | (rw [e]; done)
            | (rw [e]; rfl)
            | exact absurd hs (by assumption)
            | (subst hs; contradiction)
            | (exfalso; exact hn ⟨decide_eq_true hp, hs, by omega, q1, q2, q3, q4⟩)
            | skip
theorem yng_pofx : ync_pofx.Good Tryd.prog syG (ynE [] [] [] []) := good_of_walk (Γ := ⟨[yic_hcheck, yic_hfac, yac_size], syG, [], [], []⟩) (ρ := ynE [] [] [] []) sym pofx_w rfl (fun _ _ _ _ => (ok_cons (Con.Good.env (Con.Good.up (Con.Good.up (Con.Good.up yig_hcheck yjup rfl) ykup rfl) ynup rfl) _ _ _ _) (ok_cons (Con.Good.env (Con.Good.up (Con.Good.up (Con.Good.up yig_hfac yjup rfl) ykup rfl) ynup rfl) _ _ _ _) (ok_cons (Con.Good.env (Con.Good.up (Con.Good.up (Con.Good.up (Con.Good.up (Con.Good.up (Con.Good.up (Con.Good.up yag_size ybup rfl) ycup rfl) yhup rfl) yiup rfl) yjup rfl) ykup rfl) ynup rfl) _ _ _ _) ok_nil)))) (fun rm rs rr gp gi rl ro hb ht he sf ss e c sy hc hty => pofx_h rm rs rr gp gi rl ro hb ht he sf ss e c sy hc hty)
def wHostV_x1 : Tm := (.int .u32 (.iapp 27 (.cons (.int .u32 (.var 0)) (.cons (.int .i64 (.var 1)) (.cons (.int .i64 (.var 10)) .nil)))))
def wHostV_x2 : Tm := (.int .i64 (.iapp 28 (.cons (.int .u32 (.var 0)) (.cons (.int .i64 (.var 1)) (.cons (.int .i64 (.var 10)) .nil)))))
def wHostV_x3 : Tm := (.int .i64 (.iapp 34 (.cons (.int .i64 (.var 2)) (.cons (.int .i64 (.var 10)) .nil))))
def wHostV_x0 : Tm := (.int .i64 (.iapp 21 (.cons (.int .i64 (.lit (1))) (.cons (.int .i64 (.var 7)) (.cons (.int .i64 (.var 8)) (.cons (.int .i64 (.var 9)) (.cons wHostV_x1 (.cons wHostV_x2 (.cons (.int .u32 (.var 0)) (.cons (.int .i64 (.var 1)) (.cons wHostV_x3 (.cons (.int .i64 (.var 12)) (.cons (.int .i64 (.i2 .min (.var 13) (.var 14))) .nil)))))))))))))
def wHostV_x4 : Tm := (.int .i64 (.wrap .i64 (.i2 .sub (.iapp 25 (.cons (.int .i64 (.lit (1))) (.cons (.int .i64 (.var 7)) (.cons (.int .i64 (.var 8)) (.cons (.int .i64 (.var 9)) (.cons wHostV_x1 (.cons wHostV_x2 (.cons (.int .u32 (.var 0)) (.cons (.int .i64 (.var 1)) (.cons wHostV_x3 (.cons (.int .i64 (.var 12)) (.cons wHostV_x0 .nil)))))))))))) (.lit (1)))))
def wHostV_x5 : Tm := (.int .i64 (.iapp 25 (.cons (.int .i64 (.lit (1))) (.cons (.int .i64 (.var 7)) (.cons (.int .i64 (.var 8)) (.cons (.int .i64 (.var 9)) (.cons wHostV_x1 (.cons wHostV_x2 (.cons (.int .u32 (.var 0)) (.cons (.int .i64 (.var 1)) (.cons wHostV_x3 (.cons (.int .i64 (.var 12)) (.cons wHostV_x0 .nil)))))))))))))
def wHostV_x6 : Tm := (.tup (.cons (.int .u32 (.var 0)) (.cons (.int .i64 (.var 1)) (.cons (.int .i64 (.var 2)) (.cons (.int .i64 (.var 3)) (.cons (.int .i64 (.var 4)) (.cons (.int .i64 (.var 5)) (.cons (.int .i64 (.var 6)) (.cons (.bool (.bvar 0)) (.cons (.int .i64 (.var 7)) (.cons (.int .i64 (.var 8)) (.cons (.int .i64 (.var 9)) (.cons (.int .i64 (.var 10)) (.cons (.int .i64 (.var 11)) .nil))))))))))))))
def wHostV_tree : Tree :=
 (.need (.b2 .and (.b2 .and (.b2 .and (.b2 .le (.lit (0)) (.var 0)) (.b2 .le (.var 0) (.lit (4294967295)))) (.b2 .and (.b2 .and (.b2 .le (.lit (-9223372036854775808)) (.var 1)) (.b2 .le (.var 1) (.lit (9223372036854775807)))) (.b2 .and (.b2 .and (.b2 .le (.lit (-9223372036854775808)) (.var 2)) (.b2 .le (.var 2) (.lit (9223372036854775807)))) (.b2 .and (.b2 .and (.b2 .le (.lit (-9223372036854775808)) (.var 3)) (.b2 .le (.var 3) (.lit (9223372036854775807)))) (.b2 .and (.b2 .and (.b2 .le (.lit (-9223372036854775808)) (.var 4)) (.b2 .le (.var 4) (.lit (9223372036854775807)))) (.b2 .and (.b2 .and (.b2 .le (.lit (-9223372036854775808)) (.var 5)) (.b2 .le (.var 5) (.lit (9223372036854775807)))) (.b2 .and (.b2 .and (.b2 .le (.lit (-9223372036854775808)) (.var 6)) (.b2 .le (.var 6) (.lit (9223372036854775807)))) (.b2 .and (.b2 .and (.b2 .le (.lit (-9223372036854775808)) (.var 7)) (.b2 .le (.var 7) (.lit (9223372036854775807)))) (.b2 .and (.b2 .and (.b2 .le (.lit (-9223372036854775808)) (.var 8)) (.b2 .le (.var 8) (.lit (9223372036854775807)))) (.b2 .and (.b2 .and (.b2 .le (.lit (-9223372036854775808)) (.var 9)) (.b2 .le (.var 9) (.lit (9223372036854775807)))) (.b2 .and (.b2 .and (.b2 .le (.lit (-9223372036854775808)) (.var 10)) (.b2 .le (.var 10) (.lit (9223372036854775807)))) (.b2 .and (.b2 .le (.lit (-9223372036854775808)) (.var 11)) (.b2 .le (.var 11) (.lit (9223372036854775807))))))))))))))) (.b2 .and (.bapp 4 (.cons wHostV_x6 .nil)) (.b2 .and (.bvar 0) (.b2 .and (.b2 .eq (.iapp 29 (.cons (.int .u32 (.var 0)) (.cons (.int .i64 (.var 1)) (.cons (.int .i64 (.var 10)) .nil)))) (.lit (0))) (.b2 .and (.b2 .le (.lit (1)) (.var 12)) (.b2 .le (.var 12) (.lit (1125899906842624))))))))
 (.need (.b2 .and (.b2 .and (.b2 .and (.b2 .le (.lit (-9223372036854775808)) (.var 7)) (.b2 .le (.var 7) (.lit (9223372036854775807)))) (.b2 .and (.b2 .and (.b2 .le (.lit (-9223372036854775808)) (.var 8)) (.b2 .le (.var 8) (.lit (9223372036854775807)))) (.b2 .and (.b2 .and (.b2 .le (.lit (-9223372036854775808)) (.var 9)) (.b2 .le (.var 9) (.lit (9223372036854775807)))) (.b2 .and (.b2 .and (.b2 .le (.lit (0)) (.iapp 27 (.cons (.int .u32 (.var 0)) (.cons (.int .i64 (.var 1)) (.cons (.int .i64 (.var 10)) .nil))))) (.b2 .le (.iapp 27 (.cons (.int .u32 (.var 0)) (.cons (.int .i64 (.var 1)) (.cons (.int .i64 (.var 10)) .nil)))) (.lit (4294967295)))) (.b2 .and (.b2 .and (.b2 .le (.lit (-9223372036854775808)) (.iapp 28 (.cons (.int .u32 (.var 0)) (.cons (.int .i64 (.var 1)) (.cons (.int .i64 (.var 10)) .nil))))) (.b2 .le (.iapp 28 (.cons (.int .u32 (.var 0)) (.cons (.int .i64 (.var 1)) (.cons (.int .i64 (.var 10)) .nil)))) (.lit (9223372036854775807)))) (.b2 .and (.b2 .and (.b2 .le (.lit (0)) (.var 0)) (.b2 .le (.var 0) (.lit (4294967295)))) (.b2 .and (.b2 .and (.b2 .le (.lit (-9223372036854775808)) (.var 1)) (.b2 .le (.var 1) (.lit (9223372036854775807)))) (.b2 .and (.b2 .and (.b2 .le (.lit (-9223372036854775808)) (.iapp 34 (.cons (.int .i64 (.var 2)) (.cons (.int .i64 (.var 10)) .nil)))) (.b2 .le (.iapp 34 (.cons (.int .i64 (.var 2)) (.cons (.int .i64 (.var 10)) .nil))) (.lit (9223372036854775807)))) (.b2 .and (.b2 .le (.lit (-9223372036854775808)) (.var 12)) (.b2 .le (.var 12) (.lit (9223372036854775807)))))))))))) (.b2 .and (.b2 .le (.lit (-9223372036854775808)) (.i2 .min (.var 13) (.var 14))) (.b2 .le (.i2 .min (.var 13) (.var 14)) (.lit (9223372036854775807)))))
 (.need (.b2 .and (.b2 .and (.b2 .and (.b2 .le (.lit (0)) (.var 0)) (.b2 .le (.var 0) (.lit (4294967295)))) (.b2 .and (.b2 .and (.b2 .le (.lit (-9223372036854775808)) (.var 1)) (.b2 .le (.var 1) (.lit (9223372036854775807)))) (.b2 .and (.b2 .and (.b2 .le (.lit (-9223372036854775808)) (.var 2)) (.b2 .le (.var 2) (.lit (9223372036854775807)))) (.b2 .and (.b2 .and (.b2 .le (.lit (-9223372036854775808)) (.var 3)) (.b2 .le (.var 3) (.lit (9223372036854775807)))) (.b2 .and (.b2 .and (.b2 .le (.lit (-9223372036854775808)) (.var 4)) (.b2 .le (.var 4) (.lit (9223372036854775807)))) (.b2 .and (.b2 .and (.b2 .le (.lit (-9223372036854775808)) (.var 5)) (.b2 .le (.var 5) (.lit (9223372036854775807)))) (.b2 .and (.b2 .and (.b2 .le (.lit (-9223372036854775808)) (.var 6)) (.b2 .le (.var 6) (.lit (9223372036854775807)))) (.b2 .and (.b2 .and (.b2 .le (.lit (-9223372036854775808)) (.var 7)) (.b2 .le (.var 7) (.lit (9223372036854775807)))) (.b2 .and (.b2 .and (.b2 .le (.lit (-9223372036854775808)) (.var 8)) (.b2 .le (.var 8) (.lit (9223372036854775807)))) (.b2 .and (.b2 .and (.b2 .le (.lit (-9223372036854775808)) (.var 9)) (.b2 .le (.var 9) (.lit (9223372036854775807)))) (.b2 .and (.b2 .and (.b2 .le (.lit (-9223372036854775808)) (.var 10)) (.b2 .le (.var 10) (.lit (9223372036854775807)))) (.b2 .and (.b2 .le (.lit (-9223372036854775808)) (.var 11)) (.b2 .le (.var 11) (.lit (9223372036854775807))))))))))))))) (.b2 .and (.b2 .le (.lit (-9223372036854775808)) (.i2 .min (.var 13) (.var 14))) (.b2 .le (.i2 .min (.var 13) (.var 14)) (.lit (9223372036854775807)))))
 (.br (.b2 .eq (.iapp 20 (.cons (.int .i64 (.lit (1))) (.cons (.int .i64 (.var 7)) (.cons (.int .i64 (.var 8)) (.cons (.int .i64 (.var 9)) (.cons wHostV_x1 (.cons wHostV_x2 (.cons (.int .u32 (.var 0)) (.cons (.int .i64 (.var 1)) (.cons wHostV_x3 (.cons (.int .i64 (.var 12)) (.cons (.int .i64 (.i2 .min (.var 13) (.var 14))) .nil)))))))))))) (.lit (0)))
 (.br (.b2 .eq (.iapp 46 (.cons wHostV_x6 (.cons (.int .i64 (.i2 .min (.var 13) (.var 14))) .nil))) (.lit (0)))
 (.br (.not (.b2 .eq (.iapp 21 (.cons (.int .i64 (.lit (1))) (.cons (.int .i64 (.var 7)) (.cons (.int .i64 (.var 8)) (.cons (.int .i64 (.var 9)) (.cons wHostV_x1 (.cons wHostV_x2 (.cons (.int .u32 (.var 0)) (.cons (.int .i64 (.var 1)) (.cons wHostV_x3 (.cons (.int .i64 (.var 12)) (.cons (.int .i64 (.i2 .min (.var 13) (.var 14))) .nil)))))))))))) (.iapp 47 (.cons wHostV_x6 (.cons (.int .i64 (.i2 .min (.var 13) (.var 14))) .nil)))))
 (.ret (.bool (.tt false)))
 (.br (.not (.b2 .eq (.iapp 22 (.cons (.int .i64 (.lit (1))) (.cons (.int .i64 (.var 7)) (.cons (.int .i64 (.var 8)) (.cons (.int .i64 (.var 9)) (.cons wHostV_x1 (.cons wHostV_x2 (.cons (.int .u32 (.var 0)) (.cons (.int .i64 (.var 1)) (.cons wHostV_x3 (.cons (.int .i64 (.var 12)) (.cons (.int .i64 (.i2 .min (.var 13) (.var 14))) .nil)))))))))))) (.iapp 48 (.cons wHostV_x6 (.cons (.int .i64 (.i2 .min (.var 13) (.var 14))) .nil)))))
 (.ret (.bool (.tt false)))
 (.need (.b2 .and (.b2 .and (.b2 .and (.b2 .le (.lit (-9223372036854775808)) (.var 7)) (.b2 .le (.var 7) (.lit (9223372036854775807)))) (.b2 .and (.b2 .and (.b2 .le (.lit (-9223372036854775808)) (.var 8)) (.b2 .le (.var 8) (.lit (9223372036854775807)))) (.b2 .and (.b2 .and (.b2 .le (.lit (-9223372036854775808)) (.var 9)) (.b2 .le (.var 9) (.lit (9223372036854775807)))) (.b2 .and (.b2 .and (.b2 .le (.lit (0)) (.iapp 27 (.cons (.int .u32 (.var 0)) (.cons (.int .i64 (.var 1)) (.cons (.int .i64 (.var 10)) .nil))))) (.b2 .le (.iapp 27 (.cons (.int .u32 (.var 0)) (.cons (.int .i64 (.var 1)) (.cons (.int .i64 (.var 10)) .nil)))) (.lit (4294967295)))) (.b2 .and (.b2 .and (.b2 .le (.lit (-9223372036854775808)) (.iapp 28 (.cons (.int .u32 (.var 0)) (.cons (.int .i64 (.var 1)) (.cons (.int .i64 (.var 10)) .nil))))) (.b2 .le (.iapp 28 (.cons (.int .u32 (.var 0)) (.cons (.int .i64 (.var 1)) (.cons (.int .i64 (.var 10)) .nil)))) (.lit (9223372036854775807)))) (.b2 .and (.b2 .and (.b2 .le (.lit (0)) (.var 0)) (.b2 .le (.var 0) (.lit (4294967295)))) (.b2 .and (.b2 .and (.b2 .le (.lit (-9223372036854775808)) (.var 1)) (.b2 .le (.var 1) (.lit (9223372036854775807)))) (.b2 .and (.b2 .and (.b2 .le (.lit (-9223372036854775808)) (.iapp 34 (.cons (.int .i64 (.var 2)) (.cons (.int .i64 (.var 10)) .nil)))) (.b2 .le (.iapp 34 (.cons (.int .i64 (.var 2)) (.cons (.int .i64 (.var 10)) .nil))) (.lit (9223372036854775807)))) (.b2 .and (.b2 .le (.lit (-9223372036854775808)) (.var 12)) (.b2 .le (.var 12) (.lit (9223372036854775807)))))))))))) (.b2 .and (.b2 .le (.lit (-9223372036854775808)) (.i2 .max (.var 13) (.var 14))) (.b2 .le (.i2 .max (.var 13) (.var 14)) (.lit (9223372036854775807)))))
 (.br (.b2 .eq (.iapp 20 (.cons (.int .i64 (.lit (1))) (.cons (.int .i64 (.var 7)) (.cons (.int .i64 (.var 8)) (.cons (.int .i64 (.var 9)) (.cons wHostV_x1 (.cons wHostV_x2 (.cons (.int .u32 (.var 0)) (.cons (.int .i64 (.var 1)) (.cons wHostV_x3 (.cons (.int .i64 (.var 12)) (.cons (.int .i64 (.i2 .max (.var 13) (.var 14))) .nil)))))))))))) (.lit (0)))
 (.br (.b2 .lt (.iapp 21 (.cons (.int .i64 (.lit (1))) (.cons (.int .i64 (.var 7)) (.cons (.int .i64 (.var 8)) (.cons (.int .i64 (.var 9)) (.cons wHostV_x1 (.cons wHostV_x2 (.cons (.int .u32 (.var 0)) (.cons (.int .i64 (.var 1)) (.cons wHostV_x3 (.cons (.int .i64 (.var 12)) (.cons (.int .i64 (.i2 .max (.var 13) (.var 14))) .nil)))))))))))) (.iapp 21 (.cons (.int .i64 (.lit (1))) (.cons (.int .i64 (.var 7)) (.cons (.int .i64 (.var 8)) (.cons (.int .i64 (.var 9)) (.cons wHostV_x1 (.cons wHostV_x2 (.cons (.int .u32 (.var 0)) (.cons (.int .i64 (.var 1)) (.cons wHostV_x3 (.cons (.int .i64 (.var 12)) (.cons (.int .i64 (.i2 .min (.var 13) (.var 14))) .nil)))))))))))))
 (.ret (.bool (.tt false)))
 (.br (.b2 .lt (.iapp 22 (.cons (.int .i64 (.lit (1))) (.cons (.int .i64 (.var 7)) (.cons (.int .i64 (.var 8)) (.cons (.int .i64 (.var 9)) (.cons wHostV_x1 (.cons wHostV_x2 (.cons (.int .u32 (.var 0)) (.cons (.int .i64 (.var 1)) (.cons wHostV_x3 (.cons (.int .i64 (.var 12)) (.cons (.int .i64 (.i2 .max (.var 13) (.var 14))) .nil)))))))))))) (.iapp 22 (.cons (.int .i64 (.lit (1))) (.cons (.int .i64 (.var 7)) (.cons (.int .i64 (.var 8)) (.cons (.int .i64 (.var 9)) (.cons wHostV_x1 (.cons wHostV_x2 (.cons (.int .u32 (.var 0)) (.cons (.int .i64 (.var 1)) (.cons wHostV_x3 (.cons (.int .i64 (.var 12)) (.cons (.int .i64 (.i2 .min (.var 13) (.var 14))) .nil)))))))))))))
 (.ret (.bool (.tt false)))
 (.need (.b2 .and (.b2 .and (.b2 .and (.b2 .le (.lit (-9223372036854775808)) (.var 7)) (.b2 .le (.var 7) (.lit (9223372036854775807)))) (.b2 .and (.b2 .and (.b2 .le (.lit (-9223372036854775808)) (.var 8)) (.b2 .le (.var 8) (.lit (9223372036854775807)))) (.b2 .and (.b2 .and (.b2 .le (.lit (-9223372036854775808)) (.var 9)) (.b2 .le (.var 9) (.lit (9223372036854775807)))) (.b2 .and (.b2 .and (.b2 .le (.lit (0)) (.iapp 27 (.cons (.int .u32 (.var 0)) (.cons (.int .i64 (.var 1)) (.cons (.int .i64 (.var 10)) .nil))))) (.b2 .le (.iapp 27 (.cons (.int .u32 (.var 0)) (.cons (.int .i64 (.var 1)) (.cons (.int .i64 (.var 10)) .nil)))) (.lit (4294967295)))) (.b2 .and (.b2 .and (.b2 .le (.lit (-9223372036854775808)) (.iapp 28 (.cons (.int .u32 (.var 0)) (.cons (.int .i64 (.var 1)) (.cons (.int .i64 (.var 10)) .nil))))) (.b2 .le (.iapp 28 (.cons (.int .u32 (.var 0)) (.cons (.int .i64 (.var 1)) (.cons (.int .i64 (.var 10)) .nil)))) (.lit (9223372036854775807)))) (.b2 .and (.b2 .and (.b2 .le (.lit (0)) (.var 0)) (.b2 .le (.var 0) (.lit (4294967295)))) (.b2 .and (.b2 .and (.b2 .le (.lit (-9223372036854775808)) (.var 1)) (.b2 .le (.var 1) (.lit (9223372036854775807)))) (.b2 .and (.b2 .and (.b2 .le (.lit (-9223372036854775808)) (.iapp 34 (.cons (.int .i64 (.var 2)) (.cons (.int .i64 (.var 10)) .nil)))) (.b2 .le (.iapp 34 (.cons (.int .i64 (.var 2)) (.cons (.int .i64 (.var 10)) .nil))) (.lit (9223372036854775807)))) (.b2 .and (.b2 .le (.lit (-9223372036854775808)) (.var 12)) (.b2 .le (.var 12) (.lit (9223372036854775807)))))))))))) (.b2 .and (.b2 .le (.lit (-9223372036854775808)) (.iapp 21 (.cons (.int .i64 (.lit (1))) (.cons (.int .i64 (.var 7)) (.cons (.int .i64 (.var 8)) (.cons (.int .i64 (.var 9)) (.cons wHostV_x1 (.cons wHostV_x2 (.cons (.int .u32 (.var 0)) (.cons (.int .i64 (.var 1)) (.cons wHostV_x3 (.cons (.int .i64 (.var 12)) (.cons (.int .i64 (.i2 .min (.var 13) (.var 14))) .nil))))))))))))) (.b2 .le (.iapp 21 (.cons (.int .i64 (.lit (1))) (.cons (.int .i64 (.var 7)) (.cons (.int .i64 (.var 8)) (.cons (.int .i64 (.var 9)) (.cons wHostV_x1 (.cons wHostV_x2 (.cons (.int .u32 (.var 0)) (.cons (.int .i64 (.var 1)) (.cons wHostV_x3 (.cons (.int .i64 (.var 12)) (.cons (.int .i64 (.i2 .min (.var 13) (.var 14))) .nil)))))))))))) (.lit (9223372036854775807)))))
 (.br (.not (.b2 .eq (.iapp 24 (.cons (.int .i64 (.lit (1))) (.cons (.int .i64 (.var 7)) (.cons (.int .i64 (.var 8)) (.cons (.int .i64 (.var 9)) (.cons wHostV_x1 (.cons wHostV_x2 (.cons (.int .u32 (.var 0)) (.cons (.int .i64 (.var 1)) (.cons wHostV_x3 (.cons (.int .i64 (.var 12)) (.cons wHostV_x0 .nil)))))))))))) (.lit (0))))
 (.ret (.bool (.tt false)))
 (.br (.b2 .lt (.i2 .min (.var 13) (.var 14)) (.iapp 25 (.cons (.int .i64 (.lit (1))) (.cons (.int .i64 (.var 7)) (.cons (.int .i64 (.var 8)) (.cons (.int .i64 (.var 9)) (.cons wHostV_x1 (.cons wHostV_x2 (.cons (.int .u32 (.var 0)) (.cons (.int .i64 (.var 1)) (.cons wHostV_x3 (.cons (.int .i64 (.var 12)) (.cons wHostV_x0 .nil)))))))))))))
 (.ret (.bool (.tt false)))
 (.need (.b2 .and (.b2 .and (.b2 .and (.b2 .le (.lit (-9223372036854775808)) (.var 7)) (.b2 .le (.var 7) (.lit (9223372036854775807)))) (.b2 .and (.b2 .and (.b2 .le (.lit (-9223372036854775808)) (.var 8)) (.b2 .le (.var 8) (.lit (9223372036854775807)))) (.b2 .and (.b2 .and (.b2 .le (.lit (-9223372036854775808)) (.var 9)) (.b2 .le (.var 9) (.lit (9223372036854775807)))) (.b2 .and (.b2 .and (.b2 .le (.lit (0)) (.iapp 27 (.cons (.int .u32 (.var 0)) (.cons (.int .i64 (.var 1)) (.cons (.int .i64 (.var 10)) .nil))))) (.b2 .le (.iapp 27 (.cons (.int .u32 (.var 0)) (.cons (.int .i64 (.var 1)) (.cons (.int .i64 (.var 10)) .nil)))) (.lit (4294967295)))) (.b2 .and (.b2 .and (.b2 .le (.lit (-9223372036854775808)) (.iapp 28 (.cons (.int .u32 (.var 0)) (.cons (.int .i64 (.var 1)) (.cons (.int .i64 (.var 10)) .nil))))) (.b2 .le (.iapp 28 (.cons (.int .u32 (.var 0)) (.cons (.int .i64 (.var 1)) (.cons (.int .i64 (.var 10)) .nil)))) (.lit (9223372036854775807)))) (.b2 .and (.b2 .and (.b2 .le (.lit (0)) (.var 0)) (.b2 .le (.var 0) (.lit (4294967295)))) (.b2 .and (.b2 .and (.b2 .le (.lit (-9223372036854775808)) (.var 1)) (.b2 .le (.var 1) (.lit (9223372036854775807)))) (.b2 .and (.b2 .and (.b2 .le (.lit (-9223372036854775808)) (.iapp 34 (.cons (.int .i64 (.var 2)) (.cons (.int .i64 (.var 10)) .nil)))) (.b2 .le (.iapp 34 (.cons (.int .i64 (.var 2)) (.cons (.int .i64 (.var 10)) .nil))) (.lit (9223372036854775807)))) (.b2 .and (.b2 .le (.lit (-9223372036854775808)) (.var 12)) (.b2 .le (.var 12) (.lit (9223372036854775807)))))))))))) (.b2 .and (.b2 .le (.lit (-9223372036854775808)) (.iapp 25 (.cons (.int .i64 (.lit (1))) (.cons (.int .i64 (.var 7)) (.cons (.int .i64 (.var 8)) (.cons (.int .i64 (.var 9)) (.cons wHostV_x1 (.cons wHostV_x2 (.cons (.int .u32 (.var 0)) (.cons (.int .i64 (.var 1)) (.cons wHostV_x3 (.cons (.int .i64 (.var 12)) (.cons wHostV_x0 .nil))))))))))))) (.b2 .le (.iapp 25 (.cons (.int .i64 (.lit (1))) (.cons (.int .i64 (.var 7)) (.cons (.int .i64 (.var 8)) (.cons (.int .i64 (.var 9)) (.cons wHostV_x1 (.cons wHostV_x2 (.cons (.int .u32 (.var 0)) (.cons (.int .i64 (.var 1)) (.cons wHostV_x3 (.cons (.int .i64 (.var 12)) (.cons wHostV_x0 .nil)))))))))))) (.lit (9223372036854775807)))))
 (.need (.b2 .and (.b2 .and (.b2 .and (.b2 .le (.lit (-9223372036854775808)) (.var 7)) (.b2 .le (.var 7) (.lit (9223372036854775807)))) (.b2 .and (.b2 .and (.b2 .le (.lit (-9223372036854775808)) (.var 8)) (.b2 .le (.var 8) (.lit (9223372036854775807)))) (.b2 .and (.b2 .and (.b2 .le (.lit (-9223372036854775808)) (.var 9)) (.b2 .le (.var 9) (.lit (9223372036854775807)))) (.b2 .and (.b2 .and (.b2 .le (.lit (0)) (.iapp 27 (.cons (.int .u32 (.var 0)) (.cons (.int .i64 (.var 1)) (.cons (.int .i64 (.var 10)) .nil))))) (.b2 .le (.iapp 27 (.cons (.int .u32 (.var 0)) (.cons (.int .i64 (.var 1)) (.cons (.int .i64 (.var 10)) .nil)))) (.lit (4294967295)))) (.b2 .and (.b2 .and (.b2 .le (.lit (-9223372036854775808)) (.iapp 28 (.cons (.int .u32 (.var 0)) (.cons (.int .i64 (.var 1)) (.cons (.int .i64 (.var 10)) .nil))))) (.b2 .le (.iapp 28 (.cons (.int .u32 (.var 0)) (.cons (.int .i64 (.var 1)) (.cons (.int .i64 (.var 10)) .nil)))) (.lit (9223372036854775807)))) (.b2 .and (.b2 .and (.b2 .le (.lit (0)) (.var 0)) (.b2 .le (.var 0) (.lit (4294967295)))) (.b2 .and (.b2 .and (.b2 .le (.lit (-9223372036854775808)) (.var 1)) (.b2 .le (.var 1) (.lit (9223372036854775807)))) (.b2 .and (.b2 .and (.b2 .le (.lit (-9223372036854775808)) (.iapp 34 (.cons (.int .i64 (.var 2)) (.cons (.int .i64 (.var 10)) .nil)))) (.b2 .le (.iapp 34 (.cons (.int .i64 (.var 2)) (.cons (.int .i64 (.var 10)) .nil))) (.lit (9223372036854775807)))) (.b2 .and (.b2 .le (.lit (-9223372036854775808)) (.var 12)) (.b2 .le (.var 12) (.lit (9223372036854775807)))))))))))) (.b2 .and (.b2 .le (.lit (-9223372036854775808)) (.wrap .i64 (.i2 .sub (.iapp 25 (.cons (.int .i64 (.lit (1))) (.cons (.int .i64 (.var 7)) (.cons (.int .i64 (.var 8)) (.cons (.int .i64 (.var 9)) (.cons wHostV_x1 (.cons wHostV_x2 (.cons (.int .u32 (.var 0)) (.cons (.int .i64 (.var 1)) (.cons wHostV_x3 (.cons (.int .i64 (.var 12)) (.cons wHostV_x0 .nil)))))))))))) (.lit (1))))) (.b2 .le (.wrap .i64 (.i2 .sub (.iapp 25 (.cons (.int .i64 (.lit (1))) (.cons (.int .i64 (.var 7)) (.cons (.int .i64 (.var 8)) (.cons (.int .i64 (.var 9)) (.cons wHostV_x1 (.cons wHostV_x2 (.cons (.int .u32 (.var 0)) (.cons (.int .i64 (.var 1)) (.cons wHostV_x3 (.cons (.int .i64 (.var 12)) (.cons wHostV_x0 .nil)))))))))))) (.lit (1)))) (.lit (9223372036854775807)))))
 (.need (.b2 .and (.b2 .and (.b2 .and (.b2 .le (.lit (-9223372036854775808)) (.var 7)) (.b2 .le (.var 7) (.lit (9223372036854775807)))) (.b2 .and (.b2 .and (.b2 .le (.lit (-9223372036854775808)) (.var 8)) (.b2 .le (.var 8) (.lit (9223372036854775807)))) (.b2 .and (.b2 .and (.b2 .le (.lit (-9223372036854775808)) (.var 9)) (.b2 .le (.var 9) (.lit (9223372036854775807)))) (.b2 .and (.b2 .and (.b2 .le (.lit (0)) (.iapp 27 (.cons (.int .u32 (.var 0)) (.cons (.int .i64 (.var 1)) (.cons (.int .i64 (.var 10)) .nil))))) (.b2 .le (.iapp 27 (.cons (.int .u32 (.var 0)) (.cons (.int .i64 (.var 1)) (.cons (.int .i64 (.var 10)) .nil)))) (.lit (4294967295)))) (.b2 .and (.b2 .and (.b2 .le (.lit (-9223372036854775808)) (.iapp 28 (.cons (.int .u32 (.var 0)) (.cons (.int .i64 (.var 1)) (.cons (.int .i64 (.var 10)) .nil))))) (.b2 .le (.iapp 28 (.cons (.int .u32 (.var 0)) (.cons (.int .i64 (.var 1)) (.cons (.int .i64 (.var 10)) .nil)))) (.lit (9223372036854775807)))) (.b2 .and (.b2 .and (.b2 .le (.lit (0)) (.var 0)) (.b2 .le (.var 0) (.lit (4294967295)))) (.b2 .and (.b2 .and (.b2 .le (.lit (-9223372036854775808)) (.var 1)) (.b2 .le (.var 1) (.lit (9223372036854775807)))) (.b2 .and (.b2 .and (.b2 .le (.lit (-9223372036854775808)) (.iapp 34 (.cons (.int .i64 (.var 2)) (.cons (.int .i64 (.var 10)) .nil)))) (.b2 .le (.iapp 34 (.cons (.int .i64 (.var 2)) (.cons (.int .i64 (.var 10)) .nil))) (.lit (9223372036854775807)))) (.b2 .and (.b2 .le (.lit (-9223372036854775808)) (.var 12)) (.b2 .le (.var 12) (.lit (9223372036854775807)))))))))))) (.b2 .and (.b2 .le (.lit (-9223372036854775808)) (.wrap .i64 (.i2 .sub (.iapp 25 (.cons (.int .i64 (.lit (1))) (.cons (.int .i64 (.var 7)) (.cons (.int .i64 (.var 8)) (.cons (.int .i64 (.var 9)) (.cons wHostV_x1 (.cons wHostV_x2 (.cons (.int .u32 (.var 0)) (.cons (.int .i64 (.var 1)) (.cons wHostV_x3 (.cons (.int .i64 (.var 12)) (.cons wHostV_x0 .nil)))))))))))) (.lit (1))))) (.b2 .le (.wrap .i64 (.i2 .sub (.iapp 25 (.cons (.int .i64 (.lit (1))) (.cons (.int .i64 (.var 7)) (.cons (.int .i64 (.var 8)) (.cons (.int .i64 (.var 9)) (.cons wHostV_x1 (.cons wHostV_x2 (.cons (.int .u32 (.var 0)) (.cons (.int .i64 (.var 1)) (.cons wHostV_x3 (.cons (.int .i64 (.var 12)) (.cons wHostV_x0 .nil)))))))))))) (.lit (1)))) (.lit (9223372036854775807)))))
 (.br (.b2 .eq (.iapp 20 (.cons (.int .i64 (.lit (1))) (.cons (.int .i64 (.var 7)) (.cons (.int .i64 (.var 8)) (.cons (.int .i64 (.var 9)) (.cons wHostV_x1 (.cons wHostV_x2 (.cons (.int .u32 (.var 0)) (.cons (.int .i64 (.var 1)) (.cons wHostV_x3 (.cons (.int .i64 (.var 12)) (.cons wHostV_x5 .nil)))))))))))) (.lit (0)))
 (.br (.b2 .le (.iapp 21 (.cons (.int .i64 (.lit (1))) (.cons (.int .i64 (.var 7)) (.cons (.int .i64 (.var 8)) (.cons (.int .i64 (.var 9)) (.cons wHostV_x1 (.cons wHostV_x2 (.cons (.int .u32 (.var 0)) (.cons (.int .i64 (.var 1)) (.cons wHostV_x3 (.cons (.int .i64 (.var 12)) (.cons (.int .i64 (.i2 .min (.var 13) (.var 14))) .nil)))))))))))) (.iapp 21 (.cons (.int .i64 (.lit (1))) (.cons (.int .i64 (.var 7)) (.cons (.int .i64 (.var 8)) (.cons (.int .i64 (.var 9)) (.cons wHostV_x1 (.cons wHostV_x2 (.cons (.int .u32 (.var 0)) (.cons (.int .i64 (.var 1)) (.cons wHostV_x3 (.cons (.int .i64 (.var 12)) (.cons wHostV_x5 .nil)))))))))))))
 (.br (.not (.b2 .eq (.iapp 20 (.cons (.int .i64 (.lit (1))) (.cons (.int .i64 (.var 7)) (.cons (.int .i64 (.var 8)) (.cons (.int .i64 (.var 9)) (.cons wHostV_x1 (.cons wHostV_x2 (.cons (.int .u32 (.var 0)) (.cons (.int .i64 (.var 1)) (.cons wHostV_x3 (.cons (.int .i64 (.var 12)) (.cons wHostV_x4 .nil)))))))))))) (.lit (0))))
 (.ret (.bool (.tt true)))
 (.br (.b2 .lt (.iapp 21 (.cons (.int .i64 (.lit (1))) (.cons (.int .i64 (.var 7)) (.cons (.int .i64 (.var 8)) (.cons (.int .i64 (.var 9)) (.cons wHostV_x1 (.cons wHostV_x2 (.cons (.int .u32 (.var 0)) (.cons (.int .i64 (.var 1)) (.cons wHostV_x3 (.cons (.int .i64 (.var 12)) (.cons wHostV_x4 .nil)))))))))))) (.iapp 21 (.cons (.int .i64 (.lit (1))) (.cons (.int .i64 (.var 7)) (.cons (.int .i64 (.var 8)) (.cons (.int .i64 (.var 9)) (.cons wHostV_x1 (.cons wHostV_x2 (.cons (.int .u32 (.var 0)) (.cons (.int .i64 (.var 1)) (.cons wHostV_x3 (.cons (.int .i64 (.var 12)) (.cons (.int .i64 (.i2 .min (.var 13) (.var 14))) .nil)))))))))))))
 (.ret (.bool (.tt true)))
 (.ret (.bool (.tt false)))))
 (.ret (.bool (.tt false))))
 (.ret (.bool (.tt false))))))))))))
 (.need (.b2 .and (.b2 .and (.b2 .and (.b2 .le (.lit (-9223372036854775808)) (.var 7)) (.b2 .le (.var 7) (.lit (9223372036854775807)))) (.b2 .and (.b2 .and (.b2 .le (.lit (-9223372036854775808)) (.var 8)) (.b2 .le (.var 8) (.lit (9223372036854775807)))) (.b2 .and (.b2 .and (.b2 .le (.lit (-9223372036854775808)) (.var 9)) (.b2 .le (.var 9) (.lit (9223372036854775807)))) (.b2 .and (.b2 .and (.b2 .le (.lit (0)) (.iapp 27 (.cons (.int .u32 (.var 0)) (.cons (.int .i64 (.var 1)) (.cons (.int .i64 (.var 10)) .nil))))) (.b2 .le (.iapp 27 (.cons (.int .u32 (.var 0)) (.cons (.int .i64 (.var 1)) (.cons (.int .i64 (.var 10)) .nil)))) (.lit (4294967295)))) (.b2 .and (.b2 .and (.b2 .le (.lit (-9223372036854775808)) (.iapp 28 (.cons (.int .u32 (.var 0)) (.cons (.int .i64 (.var 1)) (.cons (.int .i64 (.var 10)) .nil))))) (.b2 .le (.iapp 28 (.cons (.int .u32 (.var 0)) (.cons (.int .i64 (.var 1)) (.cons (.int .i64 (.var 10)) .nil)))) (.lit (9223372036854775807)))) (.b2 .and (.b2 .and (.b2 .le (.lit (0)) (.var 0)) (.b2 .le (.var 0) (.lit (4294967295)))) (.b2 .and (.b2 .and (.b2 .le (.lit (-9223372036854775808)) (.var 1)) (.b2 .le (.var 1) (.lit (9223372036854775807)))) (.b2 .and (.b2 .and (.b2 .le (.lit (-9223372036854775808)) (.iapp 34 (.cons (.int .i64 (.var 2)) (.cons (.int .i64 (.var 10)) .nil)))) (.b2 .le (.iapp 34 (.cons (.int .i64 (.var 2)) (.cons (.int .i64 (.var 10)) .nil))) (.lit (9223372036854775807)))) (.b2 .and (.b2 .le (.lit (-9223372036854775808)) (.var 12)) (.b2 .le (.var 12) (.lit (9223372036854775807)))))))))))) (.b2 .and (.b2 .le (.lit (-9223372036854775808)) (.iapp 21 (.cons (.int .i64 (.lit (1))) (.cons (.int .i64 (.var 7)) (.cons (.int .i64 (.var 8)) (.cons (.int .i64 (.var 9)) (.cons wHostV_x1 (.cons wHostV_x2 (.cons (.int .u32 (.var 0)) (.cons (.int .i64 (.var 1)) (.cons wHostV_x3 (.cons (.int .i64 (.var 12)) (.cons (.int .i64 (.i2 .min (.var 13) (.var 14))) .nil))))))))))))) (.b2 .le (.iapp 21 (.cons (.int .i64 (.lit (1))) (.cons (.int .i64 (.var 7)) (.cons (.int .i64 (.var 8)) (.cons (.int .i64 (.var 9)) (.cons wHostV_x1 (.cons wHostV_x2 (.cons (.int .u32 (.var 0)) (.cons (.int .i64 (.var 1)) (.cons wHostV_x3 (.cons (.int .i64 (.var 12)) (.cons (.int .i64 (.i2 .min (.var 13) (.var 14))) .nil)))))))))))) (.lit (9223372036854775807)))))
 (.br (.not (.b2 .eq (.iapp 24 (.cons (.int .i64 (.lit (1))) (.cons (.int .i64 (.var 7)) (.cons (.int .i64 (.var 8)) (.cons (.int .i64 (.var 9)) (.cons wHostV_x1 (.cons wHostV_x2 (.cons (.int .u32 (.var 0)) (.cons (.int .i64 (.var 1)) (.cons wHostV_x3 (.cons (.int .i64 (.var 12)) (.cons wHostV_x0 .nil)))))))))))) (.lit (0))))
 (.ret (.bool (.tt false)))
 (.br (.b2 .lt (.i2 .min (.var 13) (.var 14)) (.iapp 25 (.cons (.int .i64 (.lit (1))) (.cons (.int .i64 (.var 7)) (.cons (.int .i64 (.var 8)) (.cons (.int .i64 (.var 9)) (.cons wHostV_x1 (.cons wHostV_x2 (.cons (.int .u32 (.var 0)) (.cons (.int .i64 (.var 1)) (.cons wHostV_x3 (.cons (.int .i64 (.var 12)) (.cons wHostV_x0 .nil)))))))))))))
 (.ret (.bool (.tt false)))
 (.need (.b2 .and (.b2 .and (.b2 .and (.b2 .le (.lit (-9223372036854775808)) (.var 7)) (.b2 .le (.var 7) (.lit (9223372036854775807)))) (.b2 .and (.b2 .and (.b2 .le (.lit (-9223372036854775808)) (.var 8)) (.b2 .le (.var 8) (.lit (9223372036854775807)))) (.b2 .and (.b2 .and (.b2 .le (.lit (-9223372036854775808)) (.var 9)) (.b2 .le (.var 9) (.lit (9223372036854775807)))) (.b2 .and (.b2 .and (.b2 .le (.lit (0)) (.iapp 27 (.cons (.int .u32 (.var 0)) (.cons (.int .i64 (.var 1)) (.cons (.int .i64 (.var 10)) .nil))))) (.b2 .le (.iapp 27 (.cons (.int .u32 (.var 0)) (.cons (.int .i64 (.var 1)) (.cons (.int .i64 (.var 10)) .nil)))) (.lit (4294967295)))) (.b2 .and (.b2 .and (.b2 .le (.lit (-9223372036854775808)) (.iapp 28 (.cons (.int .u32 (.var 0)) (.cons (.int .i64 (.var 1)) (.cons (.int .i64 (.var 10)) .nil))))) (.b2 .le (.iapp 28 (.cons (.int .u32 (.var 0)) (.cons (.int .i64 (.var 1)) (.cons (.int .i64 (.var 10)) .nil)))) (.lit (9223372036854775807)))) (.b2 .and (.b2 .and (.b2 .le (.lit (0)) (.var 0)) (.b2 .le (.var 0) (.lit (4294967295)))) (.b2 .and (.b2 .and (.b2 .le (.lit (-9223372036854775808)) (.var 1)) (.b2 .le (.var 1) (.lit (9223372036854775807)))) (.b2 .and (.b2 .and (.b2 .le (.lit (-9223372036854775808)) (.iapp 34 (.cons (.int .i64 (.var 2)) (.cons (.int .i64 (.var 10)) .nil)))) (.b2 .le (.iapp 34 (.cons (.int .i64 (.var 2)) (.cons (.int .i64 (.var 10)) .nil))) (.lit (9223372036854775807)))) (.b2 .and (.b2 .le (.lit (-9223372036854775808)) (.var 12)) (.b2 .le (.var 12) (.lit (9223372036854775807)))))))))))) (.b2 .and (.b2 .le (.lit (-9223372036854775808)) (.iapp 25 (.cons (.int .i64 (.lit (1))) (.cons (.int .i64 (.var 7)) (.cons (.int .i64 (.var 8)) (.cons (.int .i64 (.var 9)) (.cons wHostV_x1 (.cons wHostV_x2 (.cons (.int .u32 (.var 0)) (.cons (.int .i64 (.var 1)) (.cons wHostV_x3 (.cons (.int .i64 (.var 12)) (.cons wHostV_x0 .nil))))))))))))) (.b2 .le (.iapp 25 (.cons (.int .i64 (.lit (1))) (.cons (.int .i64 (.var 7)) (.cons (.int .i64 (.var 8)) (.cons (.int .i64 (.var 9)) (.cons wHostV_x1 (.cons wHostV_x2 (.cons (.int .u32 (.var 0)) (.cons (.int .i64 (.var 1)) (.cons wHostV_x3 (.cons (.int .i64 (.var 12)) (.cons wHostV_x0 .nil)))))))))))) (.lit (9223372036854775807)))))
 (.need (.b2 .and (.b2 .and (.b2 .and (.b2 .le (.lit (-9223372036854775808)) (.var 7)) (.b2 .le (.var 7) (.lit (9223372036854775807)))) (.b2 .and (.b2 .and (.b2 .le (.lit (-9223372036854775808)) (.var 8)) (.b2 .le (.var 8) (.lit (9223372036854775807)))) (.b2 .and (.b2 .and (.b2 .le (.lit (-9223372036854775808)) (.var 9)) (.b2 .le (.var 9) (.lit (9223372036854775807)))) (.b2 .and (.b2 .and (.b2 .le (.lit (0)) (.iapp 27 (.cons (.int .u32 (.var 0)) (.cons (.int .i64 (.var 1)) (.cons (.int .i64 (.var 10)) .nil))))) (.b2 .le (.iapp 27 (.cons (.int .u32 (.var 0)) (.cons (.int .i64 (.var 1)) (.cons (.int .i64 (.var 10)) .nil)))) (.lit (4294967295)))) (.b2 .and (.b2 .and (.b2 .le (.lit (-9223372036854775808)) (.iapp 28 (.cons (.int .u32 (.var 0)) (.cons (.int .i64 (.var 1)) (.cons (.int .i64 (.var 10)) .nil))))) (.b2 .le (.iapp 28 (.cons (.int .u32 (.var 0)) (.cons (.int .i64 (.var 1)) (.cons (.int .i64 (.var 10)) .nil)))) (.lit (9223372036854775807)))) (.b2 .and (.b2 .and (.b2 .le (.lit (0)) (.var 0)) (.b2 .le (.var 0) (.lit (4294967295)))) (.b2 .and (.b2 .and (.b2 .le (.lit (-9223372036854775808)) (.var 1)) (.b2 .le (.var 1) (.lit (9223372036854775807)))) (.b2 .and (.b2 .and (.b2 .le (.lit (-9223372036854775808)) (.iapp 34 (.cons (.int .i64 (.var 2)) (.cons (.int .i64 (.var 10)) .nil)))) (.b2 .le (.iapp 34 (.cons (.int .i64 (.var 2)) (.cons (.int .i64 (.var 10)) .nil))) (.lit (9223372036854775807)))) (.b2 .and (.b2 .le (.lit (-9223372036854775808)) (.var 12)) (.b2 .le (.var 12) (.lit (9223372036854775807)))))))))))) (.b2 .and (.b2 .le (.lit (-9223372036854775808)) (.wrap .i64 (.i2 .sub (.iapp 25 (.cons (.int .i64 (.lit (1))) (.cons (.int .i64 (.var 7)) (.cons (.int .i64 (.var 8)) (.cons (.int .i64 (.var 9)) (.cons wHostV_x1 (.cons wHostV_x2 (.cons (.int .u32 (.var 0)) (.cons (.int .i64 (.var 1)) (.cons wHostV_x3 (.cons (.int .i64 (.var 12)) (.cons wHostV_x0 .nil)))))))))))) (.lit (1))))) (.b2 .le (.wrap .i64 (.i2 .sub (.iapp 25 (.cons (.int .i64 (.lit (1))) (.cons (.int .i64 (.var 7)) (.cons (.int .i64 (.var 8)) (.cons (.int .i64 (.var 9)) (.cons wHostV_x1 (.cons wHostV_x2 (.cons (.int .u32 (.var 0)) (.cons (.int .i64 (.var 1)) (.cons wHostV_x3 (.cons (.int .i64 (.var 12)) (.cons wHostV_x0 .nil)))))))))))) (.lit (1)))) (.lit (9223372036854775807)))))
 (.need (.b2 .and (.b2 .and (.b2 .and (.b2 .le (.lit (-9223372036854775808)) (.var 7)) (.b2 .le (.var 7) (.lit (9223372036854775807)))) (.b2 .and (.b2 .and (.b2 .le (.lit (-9223372036854775808)) (.var 8)) (.b2 .le (.var 8) (.lit (9223372036854775807)))) (.b2 .and (.b2 .and (.b2 .le (.lit (-9223372036854775808)) (.var 9)) (.b2 .le (.var 9) (.lit (9223372036854775807)))) (.b2 .and (.b2 .and (.b2 .le (.lit (0)) (.iapp 27 (.cons (.int .u32 (.var 0)) (.cons (.int .i64 (.var 1)) (.cons (.int .i64 (.var 10)) .nil))))) (.b2 .le (.iapp 27 (.cons (.int .u32 (.var 0)) (.cons (.int .i64 (.var 1)) (.cons (.int .i64 (.var 10)) .nil)))) (.lit (4294967295)))) (.b2 .and (.b2 .and (.b2 .le (.lit (-9223372036854775808)) (.iapp 28 (.cons (.int .u32 (.var 0)) (.cons (.int .i64 (.var 1)) (.cons (.int .i64 (.var 10)) .nil))))) (.b2 .le (.iapp 28 (.cons (.int .u32 (.var 0)) (.cons (.int .i64 (.var 1)) (.cons (.int .i64 (.var 10)) .nil)))) (.lit (9223372036854775807)))) (.b2 .and (.b2 .and (.b2 .le (.lit (0)) (.var 0)) (.b2 .le (.var 0) (.lit (4294967295)))) (.b2 .and (.b2 .and (.b2 .le (.lit (-9223372036854775808)) (.var 1)) (.b2 .le (.var 1) (.lit (9223372036854775807)))) (.b2 .and (.b2 .and (.b2 .le (.lit (-9223372036854775808)) (.iapp 34 (.cons (.int .i64 (.var 2)) (.cons (.int .i64 (.var 10)) .nil)))) (.b2 .le (.iapp 34 (.cons (.int .i64 (.var 2)) (.cons (.int .i64 (.var 10)) .nil))) (.lit (9223372036854775807)))) (.b2 .and (.b2 .le (.lit (-9223372036854775808)) (.var 12)) (.b2 .le (.var 12) (.lit (9223372036854775807)))))))))))) (.b2 .and (.b2 .le (.lit (-9223372036854775808)) (.wrap .i64 (.i2 .sub (.iapp 25 (.cons (.int .i64 (.lit (1))) (.cons (.int .i64 (.var 7)) (.cons (.int .i64 (.var 8)) (.cons (.int .i64 (.var 9)) (.cons wHostV_x1 (.cons wHostV_x2 (.cons (.int .u32 (.var 0)) (.cons (.int .i64 (.var 1)) (.cons wHostV_x3 (.cons (.int .i64 (.var 12)) (.cons wHostV_x0 .nil)))))))))))) (.lit (1))))) (.b2 .le (.wrap .i64 (.i2 .sub (.iapp 25 (.cons (.int .i64 (.lit (1))) (.cons (.int .i64 (.var 7)) (.cons (.int .i64 (.var 8)) (.cons (.int .i64 (.var 9)) (.cons wHostV_x1 (.cons wHostV_x2 (.cons (.int .u32 (.var 0)) (.cons (.int .i64 (.var 1)) (.cons wHostV_x3 (.cons (.int .i64 (.var 12)) (.cons wHostV_x0 .nil)))))))))))) (.lit (1)))) (.lit (9223372036854775807)))))
 (.br (.b2 .eq (.iapp 20 (.cons (.int .i64 (.lit (1))) (.cons (.int .i64 (.var 7)) (.cons (.int .i64 (.var 8)) (.cons (.int .i64 (.var 9)) (.cons wHostV_x1 (.cons wHostV_x2 (.cons (.int .u32 (.var 0)) (.cons (.int .i64 (.var 1)) (.cons wHostV_x3 (.cons (.int .i64 (.var 12)) (.cons wHostV_x5 .nil)))))))))))) (.lit (0)))
 (.br (.b2 .le (.iapp 21 (.cons (.int .i64 (.lit (1))) (.cons (.int .i64 (.var 7)) (.cons (.int .i64 (.var 8)) (.cons (.int .i64 (.var 9)) (.cons wHostV_x1 (.cons wHostV_x2 (.cons (.int .u32 (.var 0)) (.cons (.int .i64 (.var 1)) (.cons wHostV_x3 (.cons (.int .i64 (.var 12)) (.cons (.int .i64 (.i2 .min (.var 13) (.var 14))) .nil)))))))))))) (.iapp 21 (.cons (.int .i64 (.lit (1))) (.cons (.int .i64 (.var 7)) (.cons (.int .i64 (.var 8)) (.cons (.int .i64 (.var 9)) (.cons wHostV_x1 (.cons wHostV_x2 (.cons (.int .u32 (.var 0)) (.cons (.int .i64 (.var 1)) (.cons wHostV_x3 (.cons (.int .i64 (.var 12)) (.cons wHostV_x5 .nil)))))))))))))
 (.br (.not (.b2 .eq (.iapp 20 (.cons (.int .i64 (.lit (1))) (.cons (.int .i64 (.var 7)) (.cons (.int .i64 (.var 8)) (.cons (.int .i64 (.var 9)) (.cons wHostV_x1 (.cons wHostV_x2 (.cons (.int .u32 (.var 0)) (.cons (.int .i64 (.var 1)) (.cons wHostV_x3 (.cons (.int .i64 (.var 12)) (.cons wHostV_x4 .nil)))))))))))) (.lit (0))))
 (.ret (.bool (.tt true)))
 (.br (.b2 .lt (.iapp 21 (.cons (.int .i64 (.lit (1))) (.cons (.int .i64 (.var 7)) (.cons (.int .i64 (.var 8)) (.cons (.int .i64 (.var 9)) (.cons wHostV_x1 (.cons wHostV_x2 (.cons (.int .u32 (.var 0)) (.cons (.int .i64 (.var 1)) (.cons wHostV_x3 (.cons (.int .i64 (.var 12)) (.cons wHostV_x4 .nil)))))))))))) (.iapp 21 (.cons (.int .i64 (.lit (1))) (.cons (.int .i64 (.var 7)) (.cons (.int .i64 (.var 8)) (.cons (.int .i64 (.var 9)) (.cons wHostV_x1 (.cons wHostV_x2 (.cons (.int .u32 (.var 0)) (.cons (.int .i64 (.var 1)) (.cons wHostV_x3 (.cons (.int .i64 (.var 12)) (.cons (.int .i64 (.i2 .min (.var 13) (.var 14))) .nil)))))))))))))
 (.ret (.bool (.tt true)))
 (.ret (.bool (.tt false)))))
 (.ret (.bool (.tt false))))
 (.ret (.bool (.tt false))))))))))))))
 (.br (.not (.b2 .eq (.iapp 46 (.cons wHostV_x6 (.cons (.int .i64 (.i2 .min (.var 13) (.var 14))) .nil))) (.lit (13))))
 (.ret (.bool (.tt false)))
 (.need (.b2 .and (.b2 .and (.b2 .and (.b2 .le (.lit (-9223372036854775808)) (.var 7)) (.b2 .le (.var 7) (.lit (9223372036854775807)))) (.b2 .and (.b2 .and (.b2 .le (.lit (-9223372036854775808)) (.var 8)) (.b2 .le (.var 8) (.lit (9223372036854775807)))) (.b2 .and (.b2 .and (.b2 .le (.lit (-9223372036854775808)) (.var 9)) (.b2 .le (.var 9) (.lit (9223372036854775807)))) (.b2 .and (.b2 .and (.b2 .le (.lit (0)) (.iapp 27 (.cons (.int .u32 (.var 0)) (.cons (.int .i64 (.var 1)) (.cons (.int .i64 (.var 10)) .nil))))) (.b2 .le (.iapp 27 (.cons (.int .u32 (.var 0)) (.cons (.int .i64 (.var 1)) (.cons (.int .i64 (.var 10)) .nil)))) (.lit (4294967295)))) (.b2 .and (.b2 .and (.b2 .le (.lit (-9223372036854775808)) (.iapp 28 (.cons (.int .u32 (.var 0)) (.cons (.int .i64 (.var 1)) (.cons (.int .i64 (.var 10)) .nil))))) (.b2 .le (.iapp 28 (.cons (.int .u32 (.var 0)) (.cons (.int .i64 (.var 1)) (.cons (.int .i64 (.var 10)) .nil)))) (.lit (9223372036854775807)))) (.b2 .and (.b2 .and (.b2 .le (.lit (0)) (.var 0)) (.b2 .le (.var 0) (.lit (4294967295)))) (.b2 .and (.b2 .and (.b2 .le (.lit (-9223372036854775808)) (.var 1)) (.b2 .le (.var 1) (.lit (9223372036854775807)))) (.b2 .and (.b2 .and (.b2 .le (.lit (-9223372036854775808)) (.iapp 34 (.cons (.int .i64 (.var 2)) (.cons (.int .i64 (.var 10)) .nil)))) (.b2 .le (.iapp 34 (.cons (.int .i64 (.var 2)) (.cons (.int .i64 (.var 10)) .nil))) (.lit (9223372036854775807)))) (.b2 .and (.b2 .le (.lit (-9223372036854775808)) (.var 12)) (.b2 .le (.var 12) (.lit (9223372036854775807)))))))))))) (.b2 .and (.b2 .le (.lit (-9223372036854775808)) (.i2 .max (.var 13) (.var 14))) (.b2 .le (.i2 .max (.var 13) (.var 14)) (.lit (9223372036854775807)))))
 (.br (.b2 .eq (.iapp 20 (.cons (.int .i64 (.lit (1))) (.cons (.int .i64 (.var 7)) (.cons (.int .i64 (.var 8)) (.cons (.int .i64 (.var 9)) (.cons wHostV_x1 (.cons wHostV_x2 (.cons (.int .u32 (.var 0)) (.cons (.int .i64 (.var 1)) (.cons wHostV_x3 (.cons (.int .i64 (.var 12)) (.cons (.int .i64 (.i2 .max (.var 13) (.var 14))) .nil)))))))))))) (.lit (0)))
 (.br (.b2 .lt (.iapp 21 (.cons (.int .i64 (.lit (1))) (.cons (.int .i64 (.var 7)) (.cons (.int .i64 (.var 8)) (.cons (.int .i64 (.var 9)) (.cons wHostV_x1 (.cons wHostV_x2 (.cons (.int .u32 (.var 0)) (.cons (.int .i64 (.var 1)) (.cons wHostV_x3 (.cons (.int .i64 (.var 12)) (.cons (.int .i64 (.i2 .max (.var 13) (.var 14))) .nil)))))))))))) (.iapp 21 (.cons (.int .i64 (.lit (1))) (.cons (.int .i64 (.var 7)) (.cons (.int .i64 (.var 8)) (.cons (.int .i64 (.var 9)) (.cons wHostV_x1 (.cons wHostV_x2 (.cons (.int .u32 (.var 0)) (.cons (.int .i64 (.var 1)) (.cons wHostV_x3 (.cons (.int .i64 (.var 12)) (.cons (.int .i64 (.i2 .min (.var 13) (.var 14))) .nil)))))))))))))
 (.ret (.bool (.tt false)))
 (.br (.b2 .lt (.iapp 22 (.cons (.int .i64 (.lit (1))) (.cons (.int .i64 (.var 7)) (.cons (.int .i64 (.var 8)) (.cons (.int .i64 (.var 9)) (.cons wHostV_x1 (.cons wHostV_x2 (.cons (.int .u32 (.var 0)) (.cons (.int .i64 (.var 1)) (.cons wHostV_x3 (.cons (.int .i64 (.var 12)) (.cons (.int .i64 (.i2 .max (.var 13) (.var 14))) .nil)))))))))))) (.iapp 22 (.cons (.int .i64 (.lit (1))) (.cons (.int .i64 (.var 7)) (.cons (.int .i64 (.var 8)) (.cons (.int .i64 (.var 9)) (.cons wHostV_x1 (.cons wHostV_x2 (.cons (.int .u32 (.var 0)) (.cons (.int .i64 (.var 1)) (.cons wHostV_x3 (.cons (.int .i64 (.var 12)) (.cons (.int .i64 (.i2 .min (.var 13) (.var 14))) .nil)))))))))))))
 (.ret (.bool (.tt false)))
 (.need (.b2 .and (.b2 .and (.b2 .and (.b2 .le (.lit (-9223372036854775808)) (.var 7)) (.b2 .le (.var 7) (.lit (9223372036854775807)))) (.b2 .and (.b2 .and (.b2 .le (.lit (-9223372036854775808)) (.var 8)) (.b2 .le (.var 8) (.lit (9223372036854775807)))) (.b2 .and (.b2 .and (.b2 .le (.lit (-9223372036854775808)) (.var 9)) (.b2 .le (.var 9) (.lit (9223372036854775807)))) (.b2 .and (.b2 .and (.b2 .le (.lit (0)) (.iapp 27 (.cons (.int .u32 (.var 0)) (.cons (.int .i64 (.var 1)) (.cons (.int .i64 (.var 10)) .nil))))) (.b2 .le (.iapp 27 (.cons (.int .u32 (.var 0)) (.cons (.int .i64 (.var 1)) (.cons (.int .i64 (.var 10)) .nil)))) (.lit (4294967295)))) (.b2 .and (.b2 .and (.b2 .le (.lit (-9223372036854775808)) (.iapp 28 (.cons (.int .u32 (.var 0)) (.cons (.int .i64 (.var 1)) (.cons (.int .i64 (.var 10)) .nil))))) (.b2 .le (.iapp 28 (.cons (.int .u32 (.var 0)) (.cons (.int .i64 (.var 1)) (.cons (.int .i64 (.var 10)) .nil)))) (.lit (9223372036854775807)))) (.b2 .and (.b2 .and (.b2 .le (.lit (0)) (.var 0)) (.b2 .le (.var 0) (.lit (4294967295)))) (.b2 .and (.b2 .and (.b2 .le (.lit (-9223372036854775808)) (.var 1)) (.b2 .le (.var 1) (.lit (9223372036854775807)))) (.b2 .and (.b2 .and (.b2 .le (.lit (-9223372036854775808)) (.iapp 34 (.cons (.int .i64 (.var 2)) (.cons (.int .i64 (.var 10)) .nil)))) (.b2 .le (.iapp 34 (.cons (.int .i64 (.var 2)) (.cons (.int .i64 (.var 10)) .nil))) (.lit (9223372036854775807)))) (.b2 .and (.b2 .le (.lit (-9223372036854775808)) (.var 12)) (.b2 .le (.var 12) (.lit (9223372036854775807)))))))))))) (.b2 .and (.b2 .le (.lit (-9223372036854775808)) (.iapp 21 (.cons (.int .i64 (.lit (1))) (.cons (.int .i64 (.var 7)) (.cons (.int .i64 (.var 8)) (.cons (.int .i64 (.var 9)) (.cons wHostV_x1 (.cons wHostV_x2 (.cons (.int .u32 (.var 0)) (.cons (.int .i64 (.var 1)) (.cons wHostV_x3 (.cons (.int .i64 (.var 12)) (.cons (.int .i64 (.i2 .min (.var 13) (.var 14))) .nil))))))))))))) (.b2 .le (.iapp 21 (.cons (.int .i64 (.lit (1))) (.cons (.int .i64 (.var 7)) (.cons (.int .i64 (.var 8)) (.cons (.int .i64 (.var 9)) (.cons wHostV_x1 (.cons wHostV_x2 (.cons (.int .u32 (.var 0)) (.cons (.int .i64 (.var 1)) (.cons wHostV_x3 (.cons (.int .i64 (.var 12)) (.cons (.int .i64 (.i2 .min (.var 13) (.var 14))) .nil)))))))))))) (.lit (9223372036854775807)))))
 (.br (.not (.b2 .eq (.iapp 24 (.cons (.int .i64 (.lit (1))) (.cons (.int .i64 (.var 7)) (.cons (.int .i64 (.var 8)) (.cons (.int .i64 (.var 9)) (.cons wHostV_x1 (.cons wHostV_x2 (.cons (.int .u32 (.var 0)) (.cons (.int .i64 (.var 1)) (.cons wHostV_x3 (.cons (.int .i64 (.var 12)) (.cons wHostV_x0 .nil)))))))))))) (.lit (0))))
 (.ret (.bool (.tt false)))
 (.br (.b2 .lt (.i2 .min (.var 13) (.var 14)) (.iapp 25 (.cons (.int .i64 (.lit (1))) (.cons (.int .i64 (.var 7)) (.cons (.int .i64 (.var 8)) (.cons (.int .i64 (.var 9)) (.cons wHostV_x1 (.cons wHostV_x2 (.cons (.int .u32 (.var 0)) (.cons (.int .i64 (.var 1)) (.cons wHostV_x3 (.cons (.int .i64 (.var 12)) (.cons wHostV_x0 .nil)))))))))))))
 (.ret (.bool (.tt false)))
 (.need (.b2 .and (.b2 .and (.b2 .and (.b2 .le (.lit (-9223372036854775808)) (.var 7)) (.b2 .le (.var 7) (.lit (9223372036854775807)))) (.b2 .and (.b2 .and (.b2 .le (.lit (-9223372036854775808)) (.var 8)) (.b2 .le (.var 8) (.lit (9223372036854775807)))) (.b2 .and (.b2 .and (.b2 .le (.lit (-9223372036854775808)) (.var 9)) (.b2 .le (.var 9) (.lit (9223372036854775807)))) (.b2 .and (.b2 .and (.b2 .le (.lit (0)) (.iapp 27 (.cons (.int .u32 (.var 0)) (.cons (.int .i64 (.var 1)) (.cons (.int .i64 (.var 10)) .nil))))) (.b2 .le (.iapp 27 (.cons (.int .u32 (.var 0)) (.cons (.int .i64 (.var 1)) (.cons (.int .i64 (.var 10)) .nil)))) (.lit (4294967295)))) (.b2 .and (.b2 .and (.b2 .le (.lit (-9223372036854775808)) (.iapp 28 (.cons (.int .u32 (.var 0)) (.cons (.int .i64 (.var 1)) (.cons (.int .i64 (.var 10)) .nil))))) (.b2 .le (.iapp 28 (.cons (.int .u32 (.var 0)) (.cons (.int .i64 (.var 1)) (.cons (.int .i64 (.var 10)) .nil)))) (.lit (9223372036854775807)))) (.b2 .and (.b2 .and (.b2 .le (.lit (0)) (.var 0)) (.b2 .le (.var 0) (.lit (4294967295)))) (.b2 .and (.b2 .and (.b2 .le (.lit (-9223372036854775808)) (.var 1)) (.b2 .le (.var 1) (.lit (9223372036854775807)))) (.b2 .and (.b2 .and (.b2 .le (.lit (-9223372036854775808)) (.iapp 34 (.cons (.int .i64 (.var 2)) (.cons (.int .i64 (.var 10)) .nil)))) (.b2 .le (.iapp 34 (.cons (.int .i64 (.var 2)) (.cons (.int .i64 (.var 10)) .nil))) (.lit (9223372036854775807)))) (.b2 .and (.b2 .le (.lit (-9223372036854775808)) (.var 12)) (.b2 .le (.var 12) (.lit (9223372036854775807)))))))))))) (.b2 .and (.b2 .le (.lit (-9223372036854775808)) (.iapp 25 (.cons (.int .i64 (.lit (1))) (.cons (.int .i64 (.var 7)) (.cons (.int .i64 (.var 8)) (.cons (.int .i64 (.var 9)) (.cons wHostV_x1 (.cons wHostV_x2 (.cons (.int .u32 (.var 0)) (.cons (.int .i64 (.var 1)) (.cons wHostV_x3 (.cons (.int .i64 (.var 12)) (.cons wHostV_x0 .nil))))))))))))) (.b2 .le (.iapp 25 (.cons (.int .i64 (.lit (1))) (.cons (.int .i64 (.var 7)) (.cons (.int .i64 (.var 8)) (.cons (.int .i64 (.var 9)) (.cons wHostV_x1 (.cons wHostV_x2 (.cons (.int .u32 (.var 0)) (.cons (.int .i64 (.var 1)) (.cons wHostV_x3 (.cons (.int .i64 (.var 12)) (.cons wHostV_x0 .nil)))))))))))) (.lit (9223372036854775807)))))
 (.need (.b2 .and (.b2 .and (.b2 .and (.b2 .le (.lit (-9223372036854775808)) (.var 7)) (.b2 .le (.var 7) (.lit (9223372036854775807)))) (.b2 .and (.b2 .and (.b2 .le (.lit (-9223372036854775808)) (.var 8)) (.b2 .le (.var 8) (.lit (9223372036854775807)))) (.b2 .and (.b2 .and (.b2 .le (.lit (-9223372036854775808)) (.var 9)) (.b2 .le (.var 9) (.lit (9223372036854775807)))) (.b2 .and (.b2 .and (.b2 .le (.lit (0)) (.iapp 27 (.cons (.int .u32 (.var 0)) (.cons (.int .i64 (.var 1)) (.cons (.int .i64 (.var 10)) .nil))))) (.b2 .le (.iapp 27 (.cons (.int .u32 (.var 0)) (.cons (.int .i64 (.var 1)) (.cons (.int .i64 (.var 10)) .nil)))) (.lit (4294967295)))) (.b2 .and (.b2 .and (.b2 .le (.lit (-9223372036854775808)) (.iapp 28 (.cons (.int .u32 (.var 0)) (.cons (.int .i64 (.var 1)) (.cons (.int .i64 (.var 10)) .nil))))) (.b2 .le (.iapp 28 (.cons (.int .u32 (.var 0)) (.cons (.int .i64 (.var 1)) (.cons (.int .i64 (.var 10)) .nil)))) (.lit (9223372036854775807)))) (.b2 .and (.b2 .and (.b2 .le (.lit (0)) (.var 0)) (.b2 .le (.var 0) (.lit (4294967295)))) (.b2 .and (.b2 .and (.b2 .le (.lit (-9223372036854775808)) (.var 1)) (.b2 .le (.var 1) (.lit (9223372036854775807)))) (.b2 .and (.b2 .and (.b2 .le (.lit (-9223372036854775808)) (.iapp 34 (.cons (.int .i64 (.var 2)) (.cons (.int .i64 (.var 10)) .nil)))) (.b2 .le (.iapp 34 (.cons (.int .i64 (.var 2)) (.cons (.int .i64 (.var 10)) .nil))) (.lit (9223372036854775807)))) (.b2 .and (.b2 .le (.lit (-9223372036854775808)) (.var 12)) (.b2 .le (.var 12) (.lit (9223372036854775807)))))))))))) (.b2 .and (.b2 .le (.lit (-9223372036854775808)) (.wrap .i64 (.i2 .sub (.iapp 25 (.cons (.int .i64 (.lit (1))) (.cons (.int .i64 (.var 7)) (.cons (.int .i64 (.var 8)) (.cons (.int .i64 (.var 9)) (.cons wHostV_x1 (.cons wHostV_x2 (.cons (.int .u32 (.var 0)) (.cons (.int .i64 (.var 1)) (.cons wHostV_x3 (.cons (.int .i64 (.var 12)) (.cons wHostV_x0 .nil)))))))))))) (.lit (1))))) (.b2 .le (.wrap .i64 (.i2 .sub (.iapp 25 (.cons (.int .i64 (.lit (1))) (.cons (.int .i64 (.var 7)) (.cons (.int .i64 (.var 8)) (.cons (.int .i64 (.var 9)) (.cons wHostV_x1 (.cons wHostV_x2 (.cons (.int .u32 (.var 0)) (.cons (.int .i64 (.var 1)) (.cons wHostV_x3 (.cons (.int .i64 (.var 12)) (.cons wHostV_x0 .nil)))))))))))) (.lit (1)))) (.lit (9223372036854775807)))))
 (.need (.b2 .and (.b2 .and (.b2 .and (.b2 .le (.lit (-9223372036854775808)) (.var 7)) (.b2 .le (.var 7) (.lit (9223372036854775807)))) (.b2 .and (.b2 .and (.b2 .le (.lit (-9223372036854775808)) (.var 8)) (.b2 .le (.var 8) (.lit (9223372036854775807)))) (.b2 .and (.b2 .and (.b2 .le (.lit (-9223372036854775808)) (.var 9)) (.b2 .le (.var 9) (.lit (9223372036854775807)))) (.b2 .and (.b2 .and (.b2 .le (.lit (0)) (.iapp 27 (.cons (.int .u32 (.var 0)) (.cons (.int .i64 (.var 1)) (.cons (.int .i64 (.var 10)) .nil))))) (.b2 .le (.iapp 27 (.cons (.int .u32 (.var 0)) (.cons (.int .i64 (.var 1)) (.cons (.int .i64 (.var 10)) .nil)))) (.lit (4294967295)))) (.b2 .and (.b2 .and (.b2 .le (.lit (-9223372036854775808)) (.iapp 28 (.cons (.int .u32 (.var 0)) (.cons (.int .i64 (.var 1)) (.cons (.int .i64 (.var 10)) .nil))))) (.b2 .le (.iapp 28 (.cons (.int .u32 (.var 0)) (.cons (.int .i64 (.var 1)) (.cons (.int .i64 (.var 10)) .nil)))) (.lit (9223372036854775807)))) (.b2 .and (.b2 .and (.b2 .le (.lit (0)) (.var 0)) (.b2 .le (.var 0) (.lit (4294967295)))) (.b2 .and (.b2 .and (.b2 .le (.lit (-9223372036854775808)) (.var 1)) (.b2 .le (.var 1) (.lit (9223372036854775807)))) (.b2 .and (.b2 .and (.b2 .le (.lit (-9223372036854775808)) (.iapp 34 (.cons (.int .i64 (.var 2)) (.cons (.int .i64 (.var 10)) .nil)))) (.b2 .le (.iapp 34 (.cons (.int .i64 (.var 2)) (.cons (.int .i64 (.var 10)) .nil))) (.lit (9223372036854775807)))) (.b2 .and (.b2 .le (.lit (-9223372036854775808)) (.var 12)) (.b2 .le (.var 12) (.lit (9223372036854775807)))))))))))) (.b2 .and (.b2 .le (.lit (-9223372036854775808)) (.wrap .i64 (.i2 .sub (.iapp 25 (.cons (.int .i64 (.lit (1))) (.cons (.int .i64 (.var 7)) (.cons (.int .i64 (.var 8)) (.cons (.int .i64 (.var 9)) (.cons wHostV_x1 (.cons wHostV_x2 (.cons (.int .u32 (.var 0)) (.cons (.int .i64 (.var 1)) (.cons wHostV_x3 (.cons (.int .i64 (.var 12)) (.cons wHostV_x0 .nil)))))))))))) (.lit (1))))) (.b2 .le (.wrap .i64 (.i2 .sub (.iapp 25 (.cons (.int .i64 (.lit (1))) (.cons (.int .i64 (.var 7)) (.cons (.int .i64 (.var 8)) (.cons (.int .i64 (.var 9)) (.cons wHostV_x1 (.cons wHostV_x2 (.cons (.int .u32 (.var 0)) (.cons (.int .i64 (.var 1)) (.cons wHostV_x3 (.cons (.int .i64 (.var 12)) (.cons wHostV_x0 .nil)))))))))))) (.lit (1)))) (.lit (9223372036854775807)))))
 (.br (.b2 .eq (.iapp 20 (.cons (.int .i64 (.lit (1))) (.cons (.int .i64 (.var 7)) (.cons (.int .i64 (.var 8)) (.cons (.int .i64 (.var 9)) (.cons wHostV_x1 (.cons wHostV_x2 (.cons (.int .u32 (.var 0)) (.cons (.int .i64 (.var 1)) (.cons wHostV_x3 (.cons (.int .i64 (.var 12)) (.cons wHostV_x5 .nil)))))))))))) (.lit (0)))
 (.br (.b2 .le (.iapp 21 (.cons (.int .i64 (.lit (1))) (.cons (.int .i64 (.var 7)) (.cons (.int .i64 (.var 8)) (.cons (.int .i64 (.var 9)) (.cons wHostV_x1 (.cons wHostV_x2 (.cons (.int .u32 (.var 0)) (.cons (.int .i64 (.var 1)) (.cons wHostV_x3 (.cons (.int .i64 (.var 12)) (.cons (.int .i64 (.i2 .min (.var 13) (.var 14))) .nil)))))))))))) (.iapp 21 (.cons (.int .i64 (.lit (1))) (.cons (.int .i64 (.var 7)) (.cons (.int .i64 (.var 8)) (.cons (.int .i64 (.var 9)) (.cons wHostV_x1 (.cons wHostV_x2 (.cons (.int .u32 (.var 0)) (.cons (.int .i64 (.var 1)) (.cons wHostV_x3 (.cons (.int .i64 (.var 12)) (.cons wHostV_x5 .nil)))))))))))))
 (.br (.not (.b2 .eq (.iapp 20 (.cons (.int .i64 (.lit (1))) (.cons (.int .i64 (.var 7)) (.cons (.int .i64 (.var 8)) (.cons (.int .i64 (.var 9)) (.cons wHostV_x1 (.cons wHostV_x2 (.cons (.int .u32 (.var 0)) (.cons (.int .i64 (.var 1)) (.cons wHostV_x3 (.cons (.int .i64 (.var 12)) (.cons wHostV_x4 .nil)))))))))))) (.lit (0))))
 (.ret (.bool (.tt true)))
 (.br (.b2 .lt (.iapp 21 (.cons (.int .i64 (.lit (1))) (.cons (.int .i64 (.var 7)) (.cons (.int .i64 (.var 8)) (.cons (.int .i64 (.var 9)) (.cons wHostV_x1 (.cons wHostV_x2 (.cons (.int .u32 (.var 0)) (.cons (.int .i64 (.var 1)) (.cons wHostV_x3 (.cons (.int .i64 (.var 12)) (.cons wHostV_x4 .nil)))))))))))) (.iapp 21 (.cons (.int .i64 (.lit (1))) (.cons (.int .i64 (.var 7)) (.cons (.int .i64 (.var 8)) (.cons (.int .i64 (.var 9)) (.cons wHostV_x1 (.cons wHostV_x2 (.cons (.int .u32 (.var 0)) (.cons (.int .i64 (.var 1)) (.cons wHostV_x3 (.cons (.int .i64 (.var 12)) (.cons (.int .i64 (.i2 .min (.var 13) (.var 14))) .nil)))))))))))))
 (.ret (.bool (.tt true)))
 (.ret (.bool (.tt false)))))
 (.ret (.bool (.tt false))))
 (.ret (.bool (.tt false))))))))))))
 (.need (.b2 .and (.b2 .and (.b2 .and (.b2 .le (.lit (-9223372036854775808)) (.var 7)) (.b2 .le (.var 7) (.lit (9223372036854775807)))) (.b2 .and (.b2 .and (.b2 .le (.lit (-9223372036854775808)) (.var 8)) (.b2 .le (.var 8) (.lit (9223372036854775807)))) (.b2 .and (.b2 .and (.b2 .le (.lit (-9223372036854775808)) (.var 9)) (.b2 .le (.var 9) (.lit (9223372036854775807)))) (.b2 .and (.b2 .and (.b2 .le (.lit (0)) (.iapp 27 (.cons (.int .u32 (.var 0)) (.cons (.int .i64 (.var 1)) (.cons (.int .i64 (.var 10)) .nil))))) (.b2 .le (.iapp 27 (.cons (.int .u32 (.var 0)) (.cons (.int .i64 (.var 1)) (.cons (.int .i64 (.var 10)) .nil)))) (.lit (4294967295)))) (.b2 .and (.b2 .and (.b2 .le (.lit (-9223372036854775808)) (.iapp 28 (.cons (.int .u32 (.var 0)) (.cons (.int .i64 (.var 1)) (.cons (.int .i64 (.var 10)) .nil))))) (.b2 .le (.iapp 28 (.cons (.int .u32 (.var 0)) (.cons (.int .i64 (.var 1)) (.cons (.int .i64 (.var 10)) .nil)))) (.lit (9223372036854775807)))) (.b2 .and (.b2 .and (.b2 .le (.lit (0)) (.var 0)) (.b2 .le (.var 0) (.lit (4294967295)))) (.b2 .and (.b2 .and (.b2 .le (.lit (-9223372036854775808)) (.var 1)) (.b2 .le (.var 1) (.lit (9223372036854775807)))) (.b2 .and (.b2 .and (.b2 .le (.lit (-9223372036854775808)) (.iapp 34 (.cons (.int .i64 (.var 2)) (.cons (.int .i64 (.var 10)) .nil)))) (.b2 .le (.iapp 34 (.cons (.int .i64 (.var 2)) (.cons (.int .i64 (.var 10)) .nil))) (.lit (9223372036854775807)))) (.b2 .and (.b2 .le (.lit (-9223372036854775808)) (.var 12)) (.b2 .le (.var 12) (.lit (9223372036854775807)))))))))))) (.b2 .and (.b2 .le (.lit (-9223372036854775808)) (.iapp 21 (.cons (.int .i64 (.lit (1))) (.cons (.int .i64 (.var 7)) (.cons (.int .i64 (.var 8)) (.cons (.int .i64 (.var 9)) (.cons wHostV_x1 (.cons wHostV_x2 (.cons (.int .u32 (.var 0)) (.cons (.int .i64 (.var 1)) (.cons wHostV_x3 (.cons (.int .i64 (.var 12)) (.cons (.int .i64 (.i2 .min (.var 13) (.var 14))) .nil))))))))))))) (.b2 .le (.iapp 21 (.cons (.int .i64 (.lit (1))) (.cons (.int .i64 (.var 7)) (.cons (.int .i64 (.var 8)) (.cons (.int .i64 (.var 9)) (.cons wHostV_x1 (.cons wHostV_x2 (.cons (.int .u32 (.var 0)) (.cons (.int .i64 (.var 1)) (.cons wHostV_x3 (.cons (.int .i64 (.var 12)) (.cons (.int .i64 (.i2 .min (.var 13) (.var 14))) .nil)))))))))))) (.lit (9223372036854775807)))))
 (.br (.not (.b2 .eq (.iapp 24 (.cons (.int .i64 (.lit (1))) (.cons (.int .i64 (.var 7)) (.cons (.int .i64 (.var 8)) (.cons (.int .i64 (.var 9)) (.cons wHostV_x1 (.cons wHostV_x2 (.cons (.int .u32 (.var 0)) (.cons (.int .i64 (.var 1)) (.cons wHostV_x3 (.cons (.int .i64 (.var 12)) (.cons wHostV_x0 .nil)))))))))))) (.lit (0))))
 (.ret (.bool (.tt false)))
 (.br (.b2 .lt (.i2 .min (.var 13) (.var 14)) (.iapp 25 (.cons (.int .i64 (.lit (1))) (.cons (.int .i64 (.var 7)) (.cons (.int .i64 (.var 8)) (.cons (.int .i64 (.var 9)) (.cons wHostV_x1 (.cons wHostV_x2 (.cons (.int .u32 (.var 0)) (.cons (.int .i64 (.var 1)) (.cons wHostV_x3 (.cons (.int .i64 (.var 12)) (.cons wHostV_x0 .nil)))))))))))))
 (.ret (.bool (.tt false)))
 (.need (.b2 .and (.b2 .and (.b2 .and (.b2 .le (.lit (-9223372036854775808)) (.var 7)) (.b2 .le (.var 7) (.lit (9223372036854775807)))) (.b2 .and (.b2 .and (.b2 .le (.lit (-9223372036854775808)) (.var 8)) (.b2 .le (.var 8) (.lit (9223372036854775807)))) (.b2 .and (.b2 .and (.b2 .le (.lit (-9223372036854775808)) (.var 9)) (.b2 .le (.var 9) (.lit (9223372036854775807)))) (.b2 .and (.b2 .and (.b2 .le (.lit (0)) (.iapp 27 (.cons (.int .u32 (.var 0)) (.cons (.int .i64 (.var 1)) (.cons (.int .i64 (.var 10)) .nil))))) (.b2 .le (.iapp 27 (.cons (.int .u32 (.var 0)) (.cons (.int .i64 (.var 1)) (.cons (.int .i64 (.var 10)) .nil)))) (.lit (4294967295)))) (.b2 .and (.b2 .and (.b2 .le (.lit (-9223372036854775808)) (.iapp 28 (.cons (.int .u32 (.var 0)) (.cons (.int .i64 (.var 1)) (.cons (.int .i64 (.var 10)) .nil))))) (.b2 .le (.iapp 28 (.cons (.int .u32 (.var 0)) (.cons (.int .i64 (.var 1)) (.cons (.int .i64 (.var 10)) .nil)))) (.lit (9223372036854775807)))) (.b2 .and (.b2 .and (.b2 .le (.lit (0)) (.var 0)) (.b2 .le (.var 0) (.lit (4294967295)))) (.b2 .and (.b2 .and (.b2 .le (.lit (-9223372036854775808)) (.var 1)) (.b2 .le (.var 1) (.lit (9223372036854775807)))) (.b2 .and (.b2 .and (.b2 .le (.lit (-9223372036854775808)) (.iapp 34 (.cons (.int .i64 (.var 2)) (.cons (.int .i64 (.var 10)) .nil)))) (.b2 .le (.iapp 34 (.cons (.int .i64 (.var 2)) (.cons (.int .i64 (.var 10)) .nil))) (.lit (9223372036854775807)))) (.b2 .and (.b2 .le (.lit (-9223372036854775808)) (.var 12)) (.b2 .le (.var 12) (.lit (9223372036854775807)))))))))))) (.b2 .and (.b2 .le (.lit (-9223372036854775808)) (.iapp 25 (.cons (.int .i64 (.lit (1))) (.cons (.int .i64 (.var 7)) (.cons (.int .i64 (.var 8)) (.cons (.int .i64 (.var 9)) (.cons wHostV_x1 (.cons wHostV_x2 (.cons (.int .u32 (.var 0)) (.cons (.int .i64 (.var 1)) (.cons wHostV_x3 (.cons (.int .i64 (.var 12)) (.cons wHostV_x0 .nil))))))))))))) (.b2 .le (.iapp 25 (.cons (.int .i64 (.lit (1))) (.cons (.int .i64 (.var 7)) (.cons (.int .i64 (.var 8)) (.cons (.int .i64 (.var 9)) (.cons wHostV_x1 (.cons wHostV_x2 (.cons (.int .u32 (.var 0)) (.cons (.int .i64 (.var 1)) (.cons wHostV_x3 (.cons (.int .i64 (.var 12)) (.cons wHostV_x0 .nil)))))))))))) (.lit (9223372036854775807)))))
 (.need (.b2 .and (.b2 .and (.b2 .and (.b2 .le (.lit (-9223372036854775808)) (.var 7)) (.b2 .le (.var 7) (.lit (9223372036854775807)))) (.b2 .and (.b2 .and (.b2 .le (.lit (-9223372036854775808)) (.var 8)) (.b2 .le (.var 8) (.lit (9223372036854775807)))) (.b2 .and (.b2 .and (.b2 .le (.lit (-9223372036854775808)) (.var 9)) (.b2 .le (.var 9) (.lit (9223372036854775807)))) (.b2 .and (.b2 .and (.b2 .le (.lit (0)) (.iapp 27 (.cons (.int .u32 (.var 0)) (.cons (.int .i64 (.var 1)) (.cons (.int .i64 (.var 10)) .nil))))) (.b2 .le (.iapp 27 (.cons (.int .u32 (.var 0)) (.cons (.int .i64 (.var 1)) (.cons (.int .i64 (.var 10)) .nil)))) (.lit (4294967295)))) (.b2 .and (.b2 .and (.b2 .le (.lit (-9223372036854775808)) (.iapp 28 (.cons (.int .u32 (.var 0)) (.cons (.int .i64 (.var 1)) (.cons (.int .i64 (.var 10)) .nil))))) (.b2 .le (.iapp 28 (.cons (.int .u32 (.var 0)) (.cons (.int .i64 (.var 1)) (.cons (.int .i64 (.var 10)) .nil)))) (.lit (9223372036854775807)))) (.b2 .and (.b2 .and (.b2 .le (.lit (0)) (.var 0)) (.b2 .le (.var 0) (.lit (4294967295)))) (.b2 .and (.b2 .and (.b2 .le (.lit (-9223372036854775808)) (.var 1)) (.b2 .le (.var 1) (.lit (9223372036854775807)))) (.b2 .and (.b2 .and (.b2 .le (.lit (-9223372036854775808)) (.iapp 34 (.cons (.int .i64 (.var 2)) (.cons (.int .i64 (.var 10)) .nil)))) (.b2 .le (.iapp 34 (.cons (.int .i64 (.var 2)) (.cons (.int .i64 (.var 10)) .nil))) (.lit (9223372036854775807)))) (.b2 .and (.b2 .le (.lit (-9223372036854775808)) (.var 12)) (.b2 .le (.var 12) (.lit (9223372036854775807)))))))))))) (.b2 .and (.b2 .le (.lit (-9223372036854775808)) (.wrap .i64 (.i2 .sub (.iapp 25 (.cons (.int .i64 (.lit (1))) (.cons (.int .i64 (.var 7)) (.cons (.int .i64 (.var 8)) (.cons (.int .i64 (.var 9)) (.cons wHostV_x1 (.cons wHostV_x2 (.cons (.int .u32 (.var 0)) (.cons (.int .i64 (.var 1)) (.cons wHostV_x3 (.cons (.int .i64 (.var 12)) (.cons wHostV_x0 .nil)))))))))))) (.lit (1))))) (.b2 .le (.wrap .i64 (.i2 .sub (.iapp 25 (.cons (.int .i64 (.lit (1))) (.cons (.int .i64 (.var 7)) (.cons (.int .i64 (.var 8)) (.cons (.int .i64 (.var 9)) (.cons wHostV_x1 (.cons wHostV_x2 (.cons (.int .u32 (.var 0)) (.cons (.int .i64 (.var 1)) (.cons wHostV_x3 (.cons (.int .i64 (.var 12)) (.cons wHostV_x0 .nil)))))))))))) (.lit (1)))) (.lit (9223372036854775807)))))
 (.need (.b2 .and (.b2 .and (.b2 .and (.b2 .le (.lit (-9223372036854775808)) (.var 7)) (.b2 .le (.var 7) (.lit (9223372036854775807)))) (.b2 .and (.b2 .and (.b2 .le (.lit (-9223372036854775808)) (.var 8)) (.b2 .le (.var 8) (.lit (9223372036854775807)))) (.b2 .and (.b2 .and (.b2 .le (.lit (-9223372036854775808)) (.var 9)) (.b2 .le (.var 9) (.lit (9223372036854775807)))) (.b2 .and (.b2 .and (.b2 .le (.lit (0)) (.iapp 27 (.cons (.int .u32 (.var 0)) (.cons (.int .i64 (.var 1)) (.cons (.int .i64 (.var 10)) .nil))))) (.b2 .le (.iapp 27 (.cons (.int .u32 (.var 0)) (.cons (.int .i64 (.var 1)) (.cons (.int .i64 (.var 10)) .nil)))) (.lit (4294967295)))) (.b2 .and (.b2 .and (.b2 .le (.lit (-9223372036854775808)) (.iapp 28 (.cons (.int .u32 (.var 0)) (.cons (.int .i64 (.var 1)) (.cons (.int .i64 (.var 10)) .nil))))) (.b2 .le (.iapp 28 (.cons (.int .u32 (.var 0)) (.cons (.int .i64 (.var 1)) (.cons (.int .i64 (.var 10)) .nil)))) (.lit (9223372036854775807)))) (.b2 .and (.b2 .and (.b2 .le (.lit (0)) (.var 0)) (.b2 .le (.var 0) (.lit (4294967295)))) (.b2 .and (.b2 .and (.b2 .le (.lit (-9223372036854775808)) (.var 1)) (.b2 .le (.var 1) (.lit (9223372036854775807)))) (.b2 .and (.b2 .and (.b2 .le (.lit (-9223372036854775808)) (.iapp 34 (.cons (.int .i64 (.var 2)) (.cons (.int .i64 (.var 10)) .nil)))) (.b2 .le (.iapp 34 (.cons (.int .i64 (.var 2)) (.cons (.int .i64 (.var 10)) .nil))) (.lit (9223372036854775807)))) (.b2 .and (.b2 .le (.lit (-9223372036854775808)) (.var 12)) (.b2 .le (.var 12) (.lit (9223372036854775807)))))))))))) (.b2 .and (.b2 .le (.lit (-9223372036854775808)) (.wrap .i64 (.i2 .sub (.iapp 25 (.cons (.int .i64 (.lit (1))) (.cons (.int .i64 (.var 7)) (.cons (.int .i64 (.var 8)) (.cons (.int .i64 (.var 9)) (.cons wHostV_x1 (.cons wHostV_x2 (.cons (.int .u32 (.var 0)) (.cons (.int .i64 (.var 1)) (.cons wHostV_x3 (.cons (.int .i64 (.var 12)) (.cons wHostV_x0 .nil)))))))))))) (.lit (1))))) (.b2 .le (.wrap .i64 (.i2 .sub (.iapp 25 (.cons (.int .i64 (.lit (1))) (.cons (.int .i64 (.var 7)) (.cons (.int .i64 (.var 8)) (.cons (.int .i64 (.var 9)) (.cons wHostV_x1 (.cons wHostV_x2 (.cons (.int .u32 (.var 0)) (.cons (.int .i64 (.var 1)) (.cons wHostV_x3 (.cons (.int .i64 (.var 12)) (.cons wHostV_x0 .nil)))))))))))) (.lit (1)))) (.lit (9223372036854775807)))))
 (.br (.b2 .eq (.iapp 20 (.cons (.int .i64 (.lit (1))) (.cons (.int .i64 (.var 7)) (.cons (.int .i64 (.var 8)) (.cons (.int .i64 (.var 9)) (.cons wHostV_x1 (.cons wHostV_x2 (.cons (.int .u32 (.var 0)) (.cons (.int .i64 (.var 1)) (.cons wHostV_x3 (.cons (.int .i64 (.var 12)) (.cons wHostV_x5 .nil)))))))))))) (.lit (0)))
 (.br (.b2 .le (.iapp 21 (.cons (.int .i64 (.lit (1))) (.cons (.int .i64 (.var 7)) (.cons (.int .i64 (.var 8)) (.cons (.int .i64 (.var 9)) (.cons wHostV_x1 (.cons wHostV_x2 (.cons (.int .u32 (.var 0)) (.cons (.int .i64 (.var 1)) (.cons wHostV_x3 (.cons (.int .i64 (.var 12)) (.cons (.int .i64 (.i2 .min (.var 13) (.var 14))) .nil)))))))))))) (.iapp 21 (.cons (.int .i64 (.lit (1))) (.cons (.int .i64 (.var 7)) (.cons (.int .i64 (.var 8)) (.cons (.int .i64 (.var 9)) (.cons wHostV_x1 (.cons wHostV_x2 (.cons (.int .u32 (.var 0)) (.cons (.int .i64 (.var 1)) (.cons wHostV_x3 (.cons (.int .i64 (.var 12)) (.cons wHostV_x5 .nil)))))))))))))
 (.br (.not (.b2 .eq (.iapp 20 (.cons (.int .i64 (.lit (1))) (.cons (.int .i64 (.var 7)) (.cons (.int .i64 (.var 8)) (.cons (.int .i64 (.var 9)) (.cons wHostV_x1 (.cons wHostV_x2 (.cons (.int .u32 (.var 0)) (.cons (.int .i64 (.var 1)) (.cons wHostV_x3 (.cons (.int .i64 (.var 12)) (.cons wHostV_x4 .nil)))))))))))) (.lit (0))))
 (.ret (.bool (.tt true)))
 (.br (.b2 .lt (.iapp 21 (.cons (.int .i64 (.lit (1))) (.cons (.int .i64 (.var 7)) (.cons (.int .i64 (.var 8)) (.cons (.int .i64 (.var 9)) (.cons wHostV_x1 (.cons wHostV_x2 (.cons (.int .u32 (.var 0)) (.cons (.int .i64 (.var 1)) (.cons wHostV_x3 (.cons (.int .i64 (.var 12)) (.cons wHostV_x4 .nil)))))))))))) (.iapp 21 (.cons (.int .i64 (.lit (1))) (.cons (.int .i64 (.var 7)) (.cons (.int .i64 (.var 8)) (.cons (.int .i64 (.var 9)) (.cons wHostV_x1 (.cons wHostV_x2 (.cons (.int .u32 (.var 0)) (.cons (.int .i64 (.var 1)) (.cons wHostV_x3 (.cons (.int .i64 (.var 12)) (.cons (.int .i64 (.i2 .min (.var 13) (.var 14))) .nil)))))))))))))
 (.ret (.bool (.tt true)))
 (.ret (.bool (.tt false)))))
 (.ret (.bool (.tt false))))
 (.ret (.bool (.tt false))))))))))))))
 (.need (.b2 .and (.b2 .and (.b2 .and (.b2 .le (.lit (-9223372036854775808)) (.var 7)) (.b2 .le (.var 7) (.lit (9223372036854775807)))) (.b2 .and (.b2 .and (.b2 .le (.lit (-9223372036854775808)) (.var 8)) (.b2 .le (.var 8) (.lit (9223372036854775807)))) (.b2 .and (.b2 .and (.b2 .le (.lit (-9223372036854775808)) (.var 9)) (.b2 .le (.var 9) (.lit (9223372036854775807)))) (.b2 .and (.b2 .and (.b2 .le (.lit (0)) (.iapp 27 (.cons (.int .u32 (.var 0)) (.cons (.int .i64 (.var 1)) (.cons (.int .i64 (.var 10)) .nil))))) (.b2 .le (.iapp 27 (.cons (.int .u32 (.var 0)) (.cons (.int .i64 (.var 1)) (.cons (.int .i64 (.var 10)) .nil)))) (.lit (4294967295)))) (.b2 .and (.b2 .and (.b2 .le (.lit (-9223372036854775808)) (.iapp 28 (.cons (.int .u32 (.var 0)) (.cons (.int .i64 (.var 1)) (.cons (.int .i64 (.var 10)) .nil))))) (.b2 .le (.iapp 28 (.cons (.int .u32 (.var 0)) (.cons (.int .i64 (.var 1)) (.cons (.int .i64 (.var 10)) .nil)))) (.lit (9223372036854775807)))) (.b2 .and (.b2 .and (.b2 .le (.lit (0)) (.var 0)) (.b2 .le (.var 0) (.lit (4294967295)))) (.b2 .and (.b2 .and (.b2 .le (.lit (-9223372036854775808)) (.var 1)) (.b2 .le (.var 1) (.lit (9223372036854775807)))) (.b2 .and (.b2 .and (.b2 .le (.lit (-9223372036854775808)) (.iapp 34 (.cons (.int .i64 (.var 2)) (.cons (.int .i64 (.var 10)) .nil)))) (.b2 .le (.iapp 34 (.cons (.int .i64 (.var 2)) (.cons (.int .i64 (.var 10)) .nil))) (.lit (9223372036854775807)))) (.b2 .and (.b2 .le (.lit (-9223372036854775808)) (.var 12)) (.b2 .le (.var 12) (.lit (9223372036854775807)))))))))))) (.b2 .and (.b2 .le (.lit (-9223372036854775808)) (.i2 .max (.var 13) (.var 14))) (.b2 .le (.i2 .max (.var 13) (.var 14)) (.lit (9223372036854775807)))))
 (.br (.b2 .eq (.iapp 20 (.cons (.int .i64 (.lit (1))) (.cons (.int .i64 (.var 7)) (.cons (.int .i64 (.var 8)) (.cons (.int .i64 (.var 9)) (.cons wHostV_x1 (.cons wHostV_x2 (.cons (.int .u32 (.var 0)) (.cons (.int .i64 (.var 1)) (.cons wHostV_x3 (.cons (.int .i64 (.var 12)) (.cons (.int .i64 (.i2 .min (.var 13) (.var 14))) .nil)))))))))))) (.lit (10)))
 (.ret (.bool (.tt true)))
 (.br (.b2 .eq (.iapp 20 (.cons (.int .i64 (.lit (1))) (.cons (.int .i64 (.var 7)) (.cons (.int .i64 (.var 8)) (.cons (.int .i64 (.var 9)) (.cons wHostV_x1 (.cons wHostV_x2 (.cons (.int .u32 (.var 0)) (.cons (.int .i64 (.var 1)) (.cons wHostV_x3 (.cons (.int .i64 (.var 12)) (.cons (.int .i64 (.i2 .min (.var 13) (.var 14))) .nil)))))))))))) (.lit (14)))
 (.ret (.bool (.tt true)))
 (.br (.b2 .eq (.iapp 20 (.cons (.int .i64 (.lit (1))) (.cons (.int .i64 (.var 7)) (.cons (.int .i64 (.var 8)) (.cons (.int .i64 (.var 9)) (.cons wHostV_x1 (.cons wHostV_x2 (.cons (.int .u32 (.var 0)) (.cons (.int .i64 (.var 1)) (.cons wHostV_x3 (.cons (.int .i64 (.var 12)) (.cons (.int .i64 (.i2 .min (.var 13) (.var 14))) .nil)))))))))))) (.lit (2)))
 (.ret (.bool (.tt true)))
 (.ret (.bool (.tt false)))))))))))
abbrev ync_wHostV : Con := ⟨14, [(.agg (.cons (.int .u32 (.var 0)) (.cons (.int .i64 (.var 1)) (.cons (.int .i64 (.var 2)) (.cons (.int .i64 (.var 3)) (.cons (.int .i64 (.var 4)) (.cons (.int .i64 (.var 5)) (.cons (.int .i64 (.var 6)) (.cons (.bool (.bvar 0)) (.cons (.int .i64 (.var 7)) (.cons (.int .i64 (.var 8)) (.cons (.int .i64 (.var 9)) (.cons (.int .i64 (.var 10)) (.cons (.int .i64 (.var 11)) .nil)))))))))))))), (.int .i64 (.var 12)), (.agg (.cons (.int .i64 (.var 13)) (.cons (.int .i64 (.var 14)) .nil)))], (.b2 .and (.b2 .and (.b2 .and (.b2 .and (.b2 .le (.lit (0)) (.var 0)) (.b2 .le (.var 0) (.lit (4294967295)))) (.b2 .and (.b2 .and (.b2 .le (.lit (-9223372036854775808)) (.var 1)) (.b2 .le (.var 1) (.lit (9223372036854775807)))) (.b2 .and (.b2 .and (.b2 .le (.lit (-9223372036854775808)) (.var 2)) (.b2 .le (.var 2) (.lit (9223372036854775807)))) (.b2 .and (.b2 .and (.b2 .le (.lit (-9223372036854775808)) (.var 3)) (.b2 .le (.var 3) (.lit (9223372036854775807)))) (.b2 .and (.b2 .and (.b2 .le (.lit (-9223372036854775808)) (.var 4)) (.b2 .le (.var 4) (.lit (9223372036854775807)))) (.b2 .and (.b2 .and (.b2 .le (.lit (-9223372036854775808)) (.var 5)) (.b2 .le (.var 5) (.lit (9223372036854775807)))) (.b2 .and (.b2 .and (.b2 .le (.lit (-9223372036854775808)) (.var 6)) (.b2 .le (.var 6) (.lit (9223372036854775807)))) (.b2 .and (.b2 .and (.b2 .le (.lit (-9223372036854775808)) (.var 7)) (.b2 .le (.var 7) (.lit (9223372036854775807)))) (.b2 .and (.b2 .and (.b2 .le (.lit (-9223372036854775808)) (.var 8)) (.b2 .le (.var 8) (.lit (9223372036854775807)))) (.b2 .and (.b2 .and (.b2 .le (.lit (-9223372036854775808)) (.var 9)) (.b2 .le (.var 9) (.lit (9223372036854775807)))) (.b2 .and (.b2 .and (.b2 .le (.lit (-9223372036854775808)) (.var 10)) (.b2 .le (.var 10) (.lit (9223372036854775807)))) (.b2 .and (.b2 .le (.lit (-9223372036854775808)) (.var 11)) (.b2 .le (.var 11) (.lit (9223372036854775807))))))))))))))) (.b2 .and (.b2 .and (.b2 .le (.lit (-9223372036854775808)) (.var 12)) (.b2 .le (.var 12) (.lit (9223372036854775807)))) (.b2 .and (.b2 .and (.b2 .le (.lit (-9223372036854775808)) (.var 13)) (.b2 .le (.var 13) (.lit (9223372036854775807)))) (.b2 .and (.b2 .le (.lit (-9223372036854775808)) (.var 14)) (.b2 .le (.var 14) (.lit (9223372036854775807))))))) (.b2 .and (.bapp 4 (.cons (.tup (.cons (.int .u32 (.var 0)) (.cons (.int .i64 (.var 1)) (.cons (.int .i64 (.var 2)) (.cons (.int .i64 (.var 3)) (.cons (.int .i64 (.var 4)) (.cons (.int .i64 (.var 5)) (.cons (.int .i64 (.var 6)) (.cons (.bool (.bvar 0)) (.cons (.int .i64 (.var 7)) (.cons (.int .i64 (.var 8)) (.cons (.int .i64 (.var 9)) (.cons (.int .i64 (.var 10)) (.cons (.int .i64 (.var 11)) .nil)))))))))))))) .nil)) (.b2 .and (.bvar 0) (.b2 .and (.b2 .eq (.iapp 29 (.cons (.int .u32 (.var 0)) (.cons (.int .i64 (.var 1)) (.cons (.int .i64 (.var 10)) .nil)))) (.lit (0))) (.b2 .and (.b2 .le (.lit (0)) (.lit (1))) (.b2 .and (.b2 .le (.lit (1)) (.lit (1099511627776))) (.b2 .and (.b2 .le (.lit (1)) (.var 12)) (.b2 .le (.var 12) (.lit (1125899906842624)))))))))), (.bool (.tt true)), ⟨15, 1, 0, 0⟩, none⟩
theorem wHostV_w : walk Tryd.prog 229 ⟨[ync_giveh, ync_pofv, ybc_time, yic_now, ync_num, ycc_when, ync_sure22], syG, [], [], []⟩ [] .v ync_wHostV ync_wHostV.n 3000 = some wHostV_tree := by kernel_rfl
set_option maxHeartbeats 4000000 in
theorem wHostV_h (rm : Int) (rs : Int) (rr : Int) (gp : Int) (gi : Int) (rl : Int) (ro : Int) (hb : Int) (ht : Int) (he : Int) (sf : Int) (ss : Int) (c : Int) (o0 : Int) (o1 : Int) (sy : Bool) (hc : holds (ynE [rm, rs, rr, gp, gi, rl, ro, hb, ht, he, sf, ss, c, o0, o1] [sy] [] []) (.b2 .and (.b2 .and (.b2 .and (.b2 .and (.b2 .le (.lit (0)) (.var 0)) (.b2 .le (.var 0) (.lit (4294967295)))) (.b2 .and (.b2 .and (.b2 .le (.lit (-9223372036854775808)) (.var 1)) (.b2 .le (.var 1) (.lit (9223372036854775807)))) (.b2 .and (.b2 .and (.b2 .le (.lit (-9223372036854775808)) (.var 2)) (.b2 .le (.var 2) (.lit (9223372036854775807)))) (.b2 .and (.b2 .and (.b2 .le (.lit (-9223372036854775808)) (.var 3)) (.b2 .le (.var 3) (.lit (9223372036854775807)))) (.b2 .and (.b2 .and (.b2 .le (.lit (-9223372036854775808)) (.var 4)) (.b2 .le (.var 4) (.lit (9223372036854775807)))) (.b2 .and (.b2 .and (.b2 .le (.lit (-9223372036854775808)) (.var 5)) (.b2 .le (.var 5) (.lit (9223372036854775807)))) (.b2 .and (.b2 .and (.b2 .le (.lit (-9223372036854775808)) (.var 6)) (.b2 .le (.var 6) (.lit (9223372036854775807)))) (.b2 .and (.b2 .and (.b2 .le (.lit (-9223372036854775808)) (.var 7)) (.b2 .le (.var 7) (.lit (9223372036854775807)))) (.b2 .and (.b2 .and (.b2 .le (.lit (-9223372036854775808)) (.var 8)) (.b2 .le (.var 8) (.lit (9223372036854775807)))) (.b2 .and (.b2 .and (.b2 .le (.lit (-9223372036854775808)) (.var 9)) (.b2 .le (.var 9) (.lit (9223372036854775807)))) (.b2 .and (.b2 .and (.b2 .le (.lit (-9223372036854775808)) (.var 10)) (.b2 .le (.var 10) (.lit (9223372036854775807)))) (.b2 .and (.b2 .le (.lit (-9223372036854775808)) (.var 11)) (.b2 .le (.var 11) (.lit (9223372036854775807))))))))))))))) (.b2 .and (.b2 .and (.b2 .le (.lit (-9223372036854775808)) (.var 12)) (.b2 .le (.var 12) (.lit (9223372036854775807)))) (.b2 .and (.b2 .and (.b2 .le (.lit (-9223372036854775808)) (.var 13)) (.b2 .le (.var 13) (.lit (9223372036854775807)))) (.b2 .and (.b2 .le (.lit (-9223372036854775808)) (.var 14)) (.b2 .le (.var 14) (.lit (9223372036854775807))))))) (.b2 .and (.bapp 4 (.cons (.tup (.cons (.int .u32 (.var 0)) (.cons (.int .i64 (.var 1)) (.cons (.int .i64 (.var 2)) (.cons (.int .i64 (.var 3)) (.cons (.int .i64 (.var 4)) (.cons (.int .i64 (.var 5)) (.cons (.int .i64 (.var 6)) (.cons (.bool (.bvar 0)) (.cons (.int .i64 (.var 7)) (.cons (.int .i64 (.var 8)) (.cons (.int .i64 (.var 9)) (.cons (.int .i64 (.var 10)) (.cons (.int .i64 (.var 11)) .nil)))))))))))))) .nil)) (.b2 .and (.bvar 0) (.b2 .and (.b2 .eq (.iapp 29 (.cons (.int .u32 (.var 0)) (.cons (.int .i64 (.var 1)) (.cons (.int .i64 (.var 10)) .nil)))) (.lit (0))) (.b2 .and (.b2 .le (.lit (0)) (.lit (1))) (.b2 .and (.b2 .le (.lit (1)) (.lit (1099511627776))) (.b2 .and (.b2 .le (.lit (1)) (.var 12)) (.b2 .le (.var 12) (.lit (1125899906842624))))))))))) (hty : patsTyp (ynE [rm, rs, rr, gp, gi, rl, ro, hb, ht, he, sf, ss, c, o0, o1] [sy] [] []) [(.agg (.cons (.int .u32 (.var 0)) (.cons (.int .i64 (.var 1)) (.cons (.int .i64 (.var 2)) (.cons (.int .i64 (.var 3)) (.cons (.int .i64 (.var 4)) (.cons (.int .i64 (.var 5)) (.cons (.int .i64 (.var 6)) (.cons (.bool (.bvar 0)) (.cons (.int .i64 (.var 7)) (.cons (.int .i64 (.var 8)) (.cons (.int .i64 (.var 9)) (.cons (.int .i64 (.var 10)) (.cons (.int .i64 (.var 11)) .nil)))))))))))))), (.int .i64 (.var 12)), (.agg (.cons (.int .i64 (.var 13)) (.cons (.int .i64 (.var 14)) .nil)))]) : wHostV_tree.holds (fun v_ => v_ = denV (ynE [rm, rs, rr, gp, gi, rl, ro, hb, ht, he, sf, ss, c, o0, o1] [sy] [] []) b0 (.bool (.tt true))) (ynE [rm, rs, rr, gp, gi, rl, ro, hb, ht, he, sf, ss, c, o0, o1] [sy] [] []) := by
  simp only [Tree.holds, Sy.holds, AllN, Env.more, ynE, List.cons_append, List.nil_append, List.append_nil, denV, denI, denB, denL, I2.den, VOp.den, List.getD_cons_zero, List.getD_cons_succ, Cst.den, syso, syse, syio, sybo, yni_ade, ynb_hm, List.map_nil, List.map_cons, B2.ofInts, B2.denI, B2.denB, if_true, Bool.false_eq_true, if_false, Nat.div_one, Nat.mul_one, Nat.add_zero, holds] at hc
  simp only [patsTyp, patTyp, patTypL, ynE, denV, denL, List.getD_cons_zero, List.getD_cons_succ, and_true, true_and] at hty
  unfold wHostV_tree
  simp only [wHostV_x0, wHostV_x1, wHostV_x2, wHostV_x3, wHostV_x4, wHostV_x5, wHostV_x6]
  simp only [Tree.holds, Sy.holds, AllN, Env.more, ynE, List.cons_append, List.nil_append, List.append_nil, denV, denI, denB, denL, I2.den, VOp.den, List.getD_cons_zero, List.getD_cons_succ, Cst.den, syso, syse, syio, sybo, yni_tme, yni_tmt, yni_tmo, yni_whe, yni_whv, yni_ada, yni_ads, yni_ade, yni_pl, yni_nwe, yni_nwt, yni_nwo, ynb_hm, List.map_nil, List.map_cons, B2.ofInts, B2.denI, B2.denB, if_true, Bool.false_eq_true, if_false, Nat.div_one, Nat.mul_one, Nat.add_zero]
  obtain ⟨A, hA⟩ : ∃ x, (if o1 < o0 then o1 else o0) = x := ⟨_, rfl⟩
  obtain ⟨B, hB⟩ : ∃ x, (if o1 > o0 then o1 else o0) = x := ⟨_, rfl⟩
  simp only [hA, hB, hoL_eq, hoB_eq, nwE_eq, nwT_eq, nwO_eq]
  have hAB : A ≤ B := by (rw [← hA, ← hB]; split <;> split <;> omega)
  have hAr : -9223372036854775808 ≤ A ∧ A ≤ 9223372036854775807 := by (rw [← hA]; split <;> omega)
  have hBr : -9223372036854775808 ≤ B ∧ B ≤ 9223372036854775807 := by (rw [← hB]; split <;> omega)
  obtain ⟨hc0, hx, hsy, hz, v1, v2, v3, v4⟩ := hc
  have hp : hoP rm rs rr gp gi rl ro hb ht he sf ss := of_decide_eq_true hx
  have hof : ofE rm rs rr gp gi rl ro hb ht he sf ss sy 1 c = 0 := by (rcases of_or rm rs rr gp gi rl ro hb ht he sf ss sy 1 c with ⟨q, _⟩ | ⟨_, ⟨q, _⟩ | ⟨_, q⟩⟩; (have := hoE_y hp; omega); exact absurd (q.symm.trans hsy) (by decide); exact q.trans hz)
  obtain ⟨hp2, hs2, hz2, e1, e2, hcc, hpg⟩ := of_pg hof
  have hr := ad_rngs rm rs sf hc0.1.1 hc0.1.2.1
  have hT := fun k h => ah_nw (k := k) hof h
  have nA : tmE 1 hb ht he (adA rm rs sf) (adS rm rs sf) rm rs (plI rr sf) c A = 0 → (nwE rm rs rr gp gi rl ro hb ht he sf ss sy A = 0 ∧ nwT rm rs rr gp gi rl ro hb ht he sf ss sy A = tmT 1 hb ht he (adA rm rs sf) (adS rm rs sf) rm rs (plI rr sf) c A ∧ nwO rm rs rr gp gi rl ro hb ht he sf ss sy A = tmO 1 hb ht he (adA rm rs sf) (adS rm rs sf) rm rs (plI rr sf) c A) ∨ nwE rm rs rr gp gi rl ro hb ht he sf ss sy A = 13 := hT A
  have mm : tmE 1 hb ht he (adA rm rs sf) (adS rm rs sf) rm rs (plI rr sf) c A = 0 → tmE 1 hb ht he (adA rm rs sf) (adS rm rs sf) rm rs (plI rr sf) c B = 0 → tmT 1 hb ht he (adA rm rs sf) (adS rm rs sf) rm rs (plI rr sf) c A ≤ tmT 1 hb ht he (adA rm rs sf) (adS rm rs sf) rm rs (plI rr sf) c B ∧ tmO 1 hb ht he (adA rm rs sf) (adS rm rs sf) rm rs (plI rr sf) c A ≤ tmO 1 hb ht he (adA rm rs sf) (adS rm rs sf) rm rs (plI rr sf) c B := tm_mono hAB
  have er := tm_err 1 hb ht he (adA rm rs sf) (adS rm rs sf) rm rs (plI rr sf) c A hpg
  have wt : tmE 1 hb ht he (adA rm rs sf) (adS rm rs sf) rm rs (plI rr sf) c A = 0 → _ := fun h => wh_time h rfl
  have hplr : 0 ≤ plI rr sf ∧ plI rr sf ≤ 2097152 := by (obtain ⟨_, _, _, _, _, _, _, _, _, _, w1, w2, _, _⟩ := id hpg; exact ⟨w1, w2⟩)
  obtain ⟨f, a1, a2, a3, a4, a5, a6, a7, a8, a9, a10, a11, a12, a13, a14, a15, a16, a17, a18, a19, a20⟩ := id hp
  have tb : -4611686018427387904 < tmT 1 hb ht he (adA rm rs sf) (adS rm rs sf) rm rs (plI rr sf) c A ∧ tmT 1 hb ht he (adA rm rs sf) (adS rm rs sf) rm rs (plI rr sf) c A < 4611686018427387904 := tm_rng hpg
  have wrW := wr_i64 (whV 1 hb ht he (adA rm rs sf) (adS rm rs sf) rm rs (plI rr sf) c (tmT 1 hb ht he (adA rm rs sf) (adS rm rs sf) rm rs (plI rr sf) c A) - 1)
  refine ⟨?_, fun h0 => ?_⟩
  ·
   first
   | exact True.intro
   | omega
   | exact hc0.1
   | exact ⟨hc0.1, by omega⟩
   | exact ⟨hc0.1, decide_eq_true hp, by omega, by omega, by omega, by omega, by omega, by omega⟩
   | exact ⟨hc0.1, decide_eq_true hp, hsy, hz, v3, v4⟩
   | skip
  ·
   refine ⟨?_, fun h1 => ?_⟩
   ·
    first
    | exact True.intro
    | omega
    | exact hc0.1
    | exact ⟨hc0.1, by omega⟩
    | exact ⟨hc0.1, decide_eq_true hp, by omega, by omega, by omega, by omega, by omega, by omega⟩
    | exact ⟨hc0.1, decide_eq_true hp, hsy, hz, v3, v4⟩
    | skip
   ·
    refine ⟨?_, fun h2 => ?_⟩
    ·
     first
     | exact True.intro
     | omega
     | exact hc0.1
     | exact ⟨hc0.1, by omega⟩
     | exact ⟨hc0.1, decide_eq_true hp, by omega, by omega, by omega, by omega, by omega, by omega⟩
     | exact ⟨hc0.1, decide_eq_true hp, hsy, hz, v3, v4⟩
     | skip
    ·
     refine ⟨fun h3 => ?_, fun h3 => ?_⟩
     ·
      refine ⟨fun h4 => ?_, fun h4 => ?_⟩
      ·
       refine ⟨fun h5 => ?_, fun h5 => ?_⟩
       ·
        first
        | exact True.intro
        | rfl
        | (exfalso; omega)
        | (exfalso
           have q := wt (by omega)
           rw [show IntKind.wrap .i64 ((whV 1 hb ht he (adA rm rs sf) (adS rm rs sf) rm rs (plI rr sf) c (tmT 1 hb ht he (adA rm rs sf) (adS rm rs sf) rm rs (plI rr sf) c A)) - 1) = (whV 1 hb ht he (adA rm rs sf) (adS rm rs sf) rm rs (plI rr sf) c (tmT 1 hb ht he (adA rm rs sf) (adS rm rs sf) rm rs (plI rr sf) c A)) - 1 by omega] at *
           omega)
        | exact absurd True.intro (by assumption)
        | skip
       ·
        refine ⟨fun h6 => ?_, fun h6 => ?_⟩
        ·
         first
         | exact True.intro
         | rfl
         | (exfalso; omega)
         | (exfalso
            have q := wt (by omega)
            rw [show IntKind.wrap .i64 ((whV 1 hb ht he (adA rm rs sf) (adS rm rs sf) rm rs (plI rr sf) c (tmT 1 hb ht he (adA rm rs sf) (adS rm rs sf) rm rs (plI rr sf) c A)) - 1) = (whV 1 hb ht he (adA rm rs sf) (adS rm rs sf) rm rs (plI rr sf) c (tmT 1 hb ht he (adA rm rs sf) (adS rm rs sf) rm rs (plI rr sf) c A)) - 1 by omega] at *
            omega)
         | exact absurd True.intro (by assumption)
         | skip
        ·
         refine ⟨?_, fun h7 => ?_⟩
         ·
          first
          | exact True.intro
          | omega
          | exact hc0.1
          | exact ⟨hc0.1, by omega⟩
          | exact ⟨hc0.1, decide_eq_true hp, by omega, by omega, by omega, by omega, by omega, by omega⟩
          | exact ⟨hc0.1, decide_eq_true hp, hsy, hz, v3, v4⟩
          | skip
         ·
          refine ⟨fun h8 => ?_, fun h8 => ?_⟩
          ·
           refine ⟨fun h9 => ?_, fun h9 => ?_⟩
           ·
            first
            | exact True.intro
            | rfl
            | (exfalso; omega)
            | (exfalso
               have q := wt (by omega)
               rw [show IntKind.wrap .i64 ((whV 1 hb ht he (adA rm rs sf) (adS rm rs sf) rm rs (plI rr sf) c (tmT 1 hb ht he (adA rm rs sf) (adS rm rs sf) rm rs (plI rr sf) c A)) - 1) = (whV 1 hb ht he (adA rm rs sf) (adS rm rs sf) rm rs (plI rr sf) c (tmT 1 hb ht he (adA rm rs sf) (adS rm rs sf) rm rs (plI rr sf) c A)) - 1 by omega] at *
               omega)
            | exact absurd True.intro (by assumption)
            | skip
           ·
            refine ⟨fun h10 => ?_, fun h10 => ?_⟩
            ·
             first
             | exact True.intro
             | rfl
             | (exfalso; omega)
             | (exfalso
                have q := wt (by omega)
                rw [show IntKind.wrap .i64 ((whV 1 hb ht he (adA rm rs sf) (adS rm rs sf) rm rs (plI rr sf) c (tmT 1 hb ht he (adA rm rs sf) (adS rm rs sf) rm rs (plI rr sf) c A)) - 1) = (whV 1 hb ht he (adA rm rs sf) (adS rm rs sf) rm rs (plI rr sf) c (tmT 1 hb ht he (adA rm rs sf) (adS rm rs sf) rm rs (plI rr sf) c A)) - 1 by omega] at *
                omega)
             | exact absurd True.intro (by assumption)
             | skip
            ·
             refine ⟨?_, fun h11 => ?_⟩
             ·
              first
              | exact True.intro
              | omega
              | exact hc0.1
              | exact ⟨hc0.1, by omega⟩
              | exact ⟨hc0.1, decide_eq_true hp, by omega, by omega, by omega, by omega, by omega, by omega⟩
              | exact ⟨hc0.1, decide_eq_true hp, hsy, hz, v3, v4⟩
              | skip
             ·
              refine ⟨fun h12 => ?_, fun h12 => ?_⟩
              ·
               first
               | exact True.intro
               | rfl
               | (exfalso; omega)
               | (exfalso
                  have q := wt (by omega)
                  rw [show IntKind.wrap .i64 ((whV 1 hb ht he (adA rm rs sf) (adS rm rs sf) rm rs (plI rr sf) c (tmT 1 hb ht he (adA rm rs sf) (adS rm rs sf) rm rs (plI rr sf) c A)) - 1) = (whV 1 hb ht he (adA rm rs sf) (adS rm rs sf) rm rs (plI rr sf) c (tmT 1 hb ht he (adA rm rs sf) (adS rm rs sf) rm rs (plI rr sf) c A)) - 1 by omega] at *
                  omega)
               | exact absurd True.intro (by assumption)
               | skip
              ·
               refine ⟨fun h13 => ?_, fun h13 => ?_⟩
               ·
                first
                | exact True.intro
                | rfl
                | (exfalso; omega)
                | (exfalso
                   have q := wt (by omega)
                   rw [show IntKind.wrap .i64 ((whV 1 hb ht he (adA rm rs sf) (adS rm rs sf) rm rs (plI rr sf) c (tmT 1 hb ht he (adA rm rs sf) (adS rm rs sf) rm rs (plI rr sf) c A)) - 1) = (whV 1 hb ht he (adA rm rs sf) (adS rm rs sf) rm rs (plI rr sf) c (tmT 1 hb ht he (adA rm rs sf) (adS rm rs sf) rm rs (plI rr sf) c A)) - 1 by omega] at *
                   omega)
                | exact absurd True.intro (by assumption)
                | skip
               ·
                refine ⟨?_, fun h14 => ?_⟩
                ·
                 first
                 | exact True.intro
                 | omega
                 | exact hc0.1
                 | exact ⟨hc0.1, by omega⟩
                 | exact ⟨hc0.1, decide_eq_true hp, by omega, by omega, by omega, by omega, by omega, by omega⟩
                 | exact ⟨hc0.1, decide_eq_true hp, hsy, hz, v3, v4⟩
                 | skip
                ·
                 refine ⟨?_, fun h15 => ?_⟩
                 ·
                  first
                  | exact True.intro
                  | omega
                  | exact hc0.1
                  | exact ⟨hc0.1, by omega⟩
                  | exact ⟨hc0.1, decide_eq_true hp, by omega, by omega, by omega, by omega, by omega, by omega⟩
                  | exact ⟨hc0.1, decide_eq_true hp, hsy, hz, v3, v4⟩
                  | skip
                 ·
                  refine ⟨?_, fun h16 => ?_⟩
                  ·
                   first
                   | exact True.intro
                   | omega
                   | exact hc0.1
                   | exact ⟨hc0.1, by omega⟩
                   | exact ⟨hc0.1, decide_eq_true hp, by omega, by omega, by omega, by omega, by omega, by omega⟩
                   | exact ⟨hc0.1, decide_eq_true hp, hsy, hz, v3, v4⟩
                   | skip
                  ·
                   refine ⟨fun h17 => ?_, fun h17 => ?_⟩
                   ·
                    refine ⟨fun h18 => ?_, fun h18 => ?_⟩
                    ·
                     try simp only [hw0]
                     refine ⟨fun h19 => ?_, fun h19 => ?_⟩
                     ·
                      first
                      | exact True.intro
                      | rfl
                      | (exfalso; omega)
                      | (exfalso
                         have q := wt (by omega)
                         rw [show IntKind.wrap .i64 ((whV 1 hb ht he (adA rm rs sf) (adS rm rs sf) rm rs (plI rr sf) c (tmT 1 hb ht he (adA rm rs sf) (adS rm rs sf) rm rs (plI rr sf) c A)) - 1) = (whV 1 hb ht he (adA rm rs sf) (adS rm rs sf) rm rs (plI rr sf) c (tmT 1 hb ht he (adA rm rs sf) (adS rm rs sf) rm rs (plI rr sf) c A)) - 1 by omega] at *
                         omega)
                      | exact absurd True.intro (by assumption)
                      | skip
                     ·
                      try simp only [hw0]
                      refine ⟨fun h20 => ?_, fun h20 => ?_⟩
                      ·
                       first
                       | exact True.intro
                       | rfl
                       | (exfalso; omega)
                       | (exfalso
                          have q := wt (by omega)
                          rw [show IntKind.wrap .i64 ((whV 1 hb ht he (adA rm rs sf) (adS rm rs sf) rm rs (plI rr sf) c (tmT 1 hb ht he (adA rm rs sf) (adS rm rs sf) rm rs (plI rr sf) c A)) - 1) = (whV 1 hb ht he (adA rm rs sf) (adS rm rs sf) rm rs (plI rr sf) c (tmT 1 hb ht he (adA rm rs sf) (adS rm rs sf) rm rs (plI rr sf) c A)) - 1 by omega] at *
                          omega)
                       | exact absurd True.intro (by assumption)
                       | skip
                      ·
                       first
                       | exact True.intro
                       | rfl
                       | (exfalso; omega)
                       | (exfalso
                          have q := wt (by omega)
                          rw [show IntKind.wrap .i64 ((whV 1 hb ht he (adA rm rs sf) (adS rm rs sf) rm rs (plI rr sf) c (tmT 1 hb ht he (adA rm rs sf) (adS rm rs sf) rm rs (plI rr sf) c A)) - 1) = (whV 1 hb ht he (adA rm rs sf) (adS rm rs sf) rm rs (plI rr sf) c (tmT 1 hb ht he (adA rm rs sf) (adS rm rs sf) rm rs (plI rr sf) c A)) - 1 by omega] at *
                          omega)
                       | exact absurd True.intro (by assumption)
                       | skip
                    ·
                     first
                     | exact True.intro
                     | rfl
                     | (exfalso; omega)
                     | (exfalso
                        have q := wt (by omega)
                        rw [show IntKind.wrap .i64 ((whV 1 hb ht he (adA rm rs sf) (adS rm rs sf) rm rs (plI rr sf) c (tmT 1 hb ht he (adA rm rs sf) (adS rm rs sf) rm rs (plI rr sf) c A)) - 1) = (whV 1 hb ht he (adA rm rs sf) (adS rm rs sf) rm rs (plI rr sf) c (tmT 1 hb ht he (adA rm rs sf) (adS rm rs sf) rm rs (plI rr sf) c A)) - 1 by omega] at *
                        omega)
                     | exact absurd True.intro (by assumption)
                     | skip
                   ·
                    first
                    | exact True.intro
                    | rfl
                    | (exfalso; omega)
                    | (exfalso
                       have q := wt (by omega)
                       rw [show IntKind.wrap .i64 ((whV 1 hb ht he (adA rm rs sf) (adS rm rs sf) rm rs (plI rr sf) c (tmT 1 hb ht he (adA rm rs sf) (adS rm rs sf) rm rs (plI rr sf) c A)) - 1) = (whV 1 hb ht he (adA rm rs sf) (adS rm rs sf) rm rs (plI rr sf) c (tmT 1 hb ht he (adA rm rs sf) (adS rm rs sf) rm rs (plI rr sf) c A)) - 1 by omega] at *
                       omega)
                    | exact absurd True.intro (by assumption)
                    | skip
          ·
           refine ⟨?_, fun h21 => ?_⟩
           ·
            first
            | exact True.intro
            | omega
            | exact hc0.1
            | exact ⟨hc0.1, by omega⟩
            | exact ⟨hc0.1, decide_eq_true hp, by omega, by omega, by omega, by omega, by omega, by omega⟩
            | exact ⟨hc0.1, decide_eq_true hp, hsy, hz, v3, v4⟩
            | skip
           ·
            refine ⟨fun h22 => ?_, fun h22 => ?_⟩
            ·
             first
             | exact True.intro
             | rfl
             | (exfalso; omega)
             | (exfalso
                have q := wt (by omega)
                rw [show IntKind.wrap .i64 ((whV 1 hb ht he (adA rm rs sf) (adS rm rs sf) rm rs (plI rr sf) c (tmT 1 hb ht he (adA rm rs sf) (adS rm rs sf) rm rs (plI rr sf) c A)) - 1) = (whV 1 hb ht he (adA rm rs sf) (adS rm rs sf) rm rs (plI rr sf) c (tmT 1 hb ht he (adA rm rs sf) (adS rm rs sf) rm rs (plI rr sf) c A)) - 1 by omega] at *
                omega)
             | exact absurd True.intro (by assumption)
             | skip
            ·
             refine ⟨fun h23 => ?_, fun h23 => ?_⟩
             ·
              first
              | exact True.intro
              | rfl
              | (exfalso; omega)
              | (exfalso
                 have q := wt (by omega)
                 rw [show IntKind.wrap .i64 ((whV 1 hb ht he (adA rm rs sf) (adS rm rs sf) rm rs (plI rr sf) c (tmT 1 hb ht he (adA rm rs sf) (adS rm rs sf) rm rs (plI rr sf) c A)) - 1) = (whV 1 hb ht he (adA rm rs sf) (adS rm rs sf) rm rs (plI rr sf) c (tmT 1 hb ht he (adA rm rs sf) (adS rm rs sf) rm rs (plI rr sf) c A)) - 1 by omega] at *
                 omega)
              | exact absurd True.intro (by assumption)
              | skip
             ·
              refine ⟨?_, fun h24 => ?_⟩
              ·
               first
               | exact True.intro
               | omega
               | exact hc0.1
               | exact ⟨hc0.1, by omega⟩
               | exact ⟨hc0.1, decide_eq_true hp, by omega, by omega, by omega, by omega, by omega, by omega⟩
               | exact ⟨hc0.1, decide_eq_true hp, hsy, hz, v3, v4⟩
               | skip
              ·
               refine ⟨?_, fun h25 => ?_⟩
               ·
                first
                | exact True.intro
                | omega
                | exact hc0.1
                | exact ⟨hc0.1, by omega⟩
                | exact ⟨hc0.1, decide_eq_true hp, by omega, by omega, by omega, by omega, by omega, by omega⟩
                | exact ⟨hc0.1, decide_eq_true hp, hsy, hz, v3, v4⟩
                | skip
               ·
                refine ⟨?_, fun h26 => ?_⟩
                ·
                 first
                 | exact True.intro
                 | omega
                 | exact hc0.1
                 | exact ⟨hc0.1, by omega⟩
                 | exact ⟨hc0.1, decide_eq_true hp, by omega, by omega, by omega, by omega, by omega, by omega⟩
                 | exact ⟨hc0.1, decide_eq_true hp, hsy, hz, v3, v4⟩
                 | skip
                ·
                 refine ⟨fun h27 => ?_, fun h27 => ?_⟩
                 ·
                  refine ⟨fun h28 => ?_, fun h28 => ?_⟩
                  ·
                   try simp only [hw1]
                   refine ⟨fun h29 => ?_, fun h29 => ?_⟩
                   ·
                    first
                    | exact True.intro
                    | rfl
                    | (exfalso; omega)
                    | (exfalso
                       have q := wt (by omega)
                       rw [show IntKind.wrap .i64 ((whV 1 hb ht he (adA rm rs sf) (adS rm rs sf) rm rs (plI rr sf) c (tmT 1 hb ht he (adA rm rs sf) (adS rm rs sf) rm rs (plI rr sf) c A)) - 1) = (whV 1 hb ht he (adA rm rs sf) (adS rm rs sf) rm rs (plI rr sf) c (tmT 1 hb ht he (adA rm rs sf) (adS rm rs sf) rm rs (plI rr sf) c A)) - 1 by omega] at *
                       omega)
                    | exact absurd True.intro (by assumption)
                    | skip
                   ·
                    try simp only [hw1]
                    refine ⟨fun h30 => ?_, fun h30 => ?_⟩
                    ·
                     first
                     | exact True.intro
                     | rfl
                     | (exfalso; omega)
                     | (exfalso
                        have q := wt (by omega)
                        rw [show IntKind.wrap .i64 ((whV 1 hb ht he (adA rm rs sf) (adS rm rs sf) rm rs (plI rr sf) c (tmT 1 hb ht he (adA rm rs sf) (adS rm rs sf) rm rs (plI rr sf) c A)) - 1) = (whV 1 hb ht he (adA rm rs sf) (adS rm rs sf) rm rs (plI rr sf) c (tmT 1 hb ht he (adA rm rs sf) (adS rm rs sf) rm rs (plI rr sf) c A)) - 1 by omega] at *
                        omega)
                     | exact absurd True.intro (by assumption)
                     | skip
                    ·
                     first
                     | exact True.intro
                     | rfl
                     | (exfalso; omega)
                     | (exfalso
                        have q := wt (by omega)
                        rw [show IntKind.wrap .i64 ((whV 1 hb ht he (adA rm rs sf) (adS rm rs sf) rm rs (plI rr sf) c (tmT 1 hb ht he (adA rm rs sf) (adS rm rs sf) rm rs (plI rr sf) c A)) - 1) = (whV 1 hb ht he (adA rm rs sf) (adS rm rs sf) rm rs (plI rr sf) c (tmT 1 hb ht he (adA rm rs sf) (adS rm rs sf) rm rs (plI rr sf) c A)) - 1 by omega] at *
                        omega)
                     | exact absurd True.intro (by assumption)
                     | skip
                  ·
                   first
                   | exact True.intro
                   | rfl
                   | (exfalso; omega)
                   | (exfalso
                      have q := wt (by omega)
                      rw [show IntKind.wrap .i64 ((whV 1 hb ht he (adA rm rs sf) (adS rm rs sf) rm rs (plI rr sf) c (tmT 1 hb ht he (adA rm rs sf) (adS rm rs sf) rm rs (plI rr sf) c A)) - 1) = (whV 1 hb ht he (adA rm rs sf) (adS rm rs sf) rm rs (plI rr sf) c (tmT 1 hb ht he (adA rm rs sf) (adS rm rs sf) rm rs (plI rr sf) c A)) - 1 by omega] at *
                      omega)
                   | exact absurd True.intro (by assumption)
                   | skip
                 ·
                  first
                  | exact True.intro
                  | rfl
                  | (exfalso; omega)
                  | (exfalso
                     have q := wt (by omega)
                     rw [show IntKind.wrap .i64 ((whV 1 hb ht he (adA rm rs sf) (adS rm rs sf) rm rs (plI rr sf) c (tmT 1 hb ht he (adA rm rs sf) (adS rm rs sf) rm rs (plI rr sf) c A)) - 1) = (whV 1 hb ht he (adA rm rs sf) (adS rm rs sf) rm rs (plI rr sf) c (tmT 1 hb ht he (adA rm rs sf) (adS rm rs sf) rm rs (plI rr sf) c A)) - 1 by omega] at *
                     omega)
                  | exact absurd True.intro (by assumption)
                  | skip
      ·
       refine ⟨fun h31 => ?_, fun h31 => ?_⟩
       ·
        first
        | exact True.intro
        | rfl
        | (exfalso; omega)
        | (exfalso
           have q := wt (by omega)
           rw [show IntKind.wrap .i64 ((whV 1 hb ht he (adA rm rs sf) (adS rm rs sf) rm rs (plI rr sf) c (tmT 1 hb ht he (adA rm rs sf) (adS rm rs sf) rm rs (plI rr sf) c A)) - 1) = (whV 1 hb ht he (adA rm rs sf) (adS rm rs sf) rm rs (plI rr sf) c (tmT 1 hb ht he (adA rm rs sf) (adS rm rs sf) rm rs (plI rr sf) c A)) - 1 by omega] at *
           omega)
        | exact absurd True.intro (by assumption)
        | skip
       ·
        refine ⟨?_, fun h32 => ?_⟩
        ·
         first
         | exact True.intro
         | omega
         | exact hc0.1
         | exact ⟨hc0.1, by omega⟩
         | exact ⟨hc0.1, decide_eq_true hp, by omega, by omega, by omega, by omega, by omega, by omega⟩
         | exact ⟨hc0.1, decide_eq_true hp, hsy, hz, v3, v4⟩
         | skip
        ·
         refine ⟨fun h33 => ?_, fun h33 => ?_⟩
         ·
          refine ⟨fun h34 => ?_, fun h34 => ?_⟩
          ·
           first
           | exact True.intro
           | rfl
           | (exfalso; omega)
           | (exfalso
              have q := wt (by omega)
              rw [show IntKind.wrap .i64 ((whV 1 hb ht he (adA rm rs sf) (adS rm rs sf) rm rs (plI rr sf) c (tmT 1 hb ht he (adA rm rs sf) (adS rm rs sf) rm rs (plI rr sf) c A)) - 1) = (whV 1 hb ht he (adA rm rs sf) (adS rm rs sf) rm rs (plI rr sf) c (tmT 1 hb ht he (adA rm rs sf) (adS rm rs sf) rm rs (plI rr sf) c A)) - 1 by omega] at *
              omega)
           | exact absurd True.intro (by assumption)
           | skip
          ·
           refine ⟨fun h35 => ?_, fun h35 => ?_⟩
           ·
            first
            | exact True.intro
            | rfl
            | (exfalso; omega)
            | (exfalso
               have q := wt (by omega)
               rw [show IntKind.wrap .i64 ((whV 1 hb ht he (adA rm rs sf) (adS rm rs sf) rm rs (plI rr sf) c (tmT 1 hb ht he (adA rm rs sf) (adS rm rs sf) rm rs (plI rr sf) c A)) - 1) = (whV 1 hb ht he (adA rm rs sf) (adS rm rs sf) rm rs (plI rr sf) c (tmT 1 hb ht he (adA rm rs sf) (adS rm rs sf) rm rs (plI rr sf) c A)) - 1 by omega] at *
               omega)
            | exact absurd True.intro (by assumption)
            | skip
           ·
            refine ⟨?_, fun h36 => ?_⟩
            ·
             first
             | exact True.intro
             | omega
             | exact hc0.1
             | exact ⟨hc0.1, by omega⟩
             | exact ⟨hc0.1, decide_eq_true hp, by omega, by omega, by omega, by omega, by omega, by omega⟩
             | exact ⟨hc0.1, decide_eq_true hp, hsy, hz, v3, v4⟩
             | skip
            ·
             refine ⟨fun h37 => ?_, fun h37 => ?_⟩
             ·
              first
              | exact True.intro
              | rfl
              | (exfalso; omega)
              | (exfalso
                 have q := wt (by omega)
                 rw [show IntKind.wrap .i64 ((whV 1 hb ht he (adA rm rs sf) (adS rm rs sf) rm rs (plI rr sf) c (tmT 1 hb ht he (adA rm rs sf) (adS rm rs sf) rm rs (plI rr sf) c A)) - 1) = (whV 1 hb ht he (adA rm rs sf) (adS rm rs sf) rm rs (plI rr sf) c (tmT 1 hb ht he (adA rm rs sf) (adS rm rs sf) rm rs (plI rr sf) c A)) - 1 by omega] at *
                 omega)
              | exact absurd True.intro (by assumption)
              | skip
             ·
              refine ⟨fun h38 => ?_, fun h38 => ?_⟩
              ·
               first
               | exact True.intro
               | rfl
               | (exfalso; omega)
               | (exfalso
                  have q := wt (by omega)
                  rw [show IntKind.wrap .i64 ((whV 1 hb ht he (adA rm rs sf) (adS rm rs sf) rm rs (plI rr sf) c (tmT 1 hb ht he (adA rm rs sf) (adS rm rs sf) rm rs (plI rr sf) c A)) - 1) = (whV 1 hb ht he (adA rm rs sf) (adS rm rs sf) rm rs (plI rr sf) c (tmT 1 hb ht he (adA rm rs sf) (adS rm rs sf) rm rs (plI rr sf) c A)) - 1 by omega] at *
                  omega)
               | exact absurd True.intro (by assumption)
               | skip
              ·
               refine ⟨?_, fun h39 => ?_⟩
               ·
                first
                | exact True.intro
                | omega
                | exact hc0.1
                | exact ⟨hc0.1, by omega⟩
                | exact ⟨hc0.1, decide_eq_true hp, by omega, by omega, by omega, by omega, by omega, by omega⟩
                | exact ⟨hc0.1, decide_eq_true hp, hsy, hz, v3, v4⟩
                | skip
               ·
                refine ⟨?_, fun h40 => ?_⟩
                ·
                 first
                 | exact True.intro
                 | omega
                 | exact hc0.1
                 | exact ⟨hc0.1, by omega⟩
                 | exact ⟨hc0.1, decide_eq_true hp, by omega, by omega, by omega, by omega, by omega, by omega⟩
                 | exact ⟨hc0.1, decide_eq_true hp, hsy, hz, v3, v4⟩
                 | skip
                ·
                 refine ⟨?_, fun h41 => ?_⟩
                 ·
                  first
                  | exact True.intro
                  | omega
                  | exact hc0.1
                  | exact ⟨hc0.1, by omega⟩
                  | exact ⟨hc0.1, decide_eq_true hp, by omega, by omega, by omega, by omega, by omega, by omega⟩
                  | exact ⟨hc0.1, decide_eq_true hp, hsy, hz, v3, v4⟩
                  | skip
                 ·
                  refine ⟨fun h42 => ?_, fun h42 => ?_⟩
                  ·
                   refine ⟨fun h43 => ?_, fun h43 => ?_⟩
                   ·
                    try simp only [hw2]
                    refine ⟨fun h44 => ?_, fun h44 => ?_⟩
                    ·
                     first
                     | exact True.intro
                     | rfl
                     | (exfalso; omega)
                     | (exfalso
                        have q := wt (by omega)
                        rw [show IntKind.wrap .i64 ((whV 1 hb ht he (adA rm rs sf) (adS rm rs sf) rm rs (plI rr sf) c (tmT 1 hb ht he (adA rm rs sf) (adS rm rs sf) rm rs (plI rr sf) c A)) - 1) = (whV 1 hb ht he (adA rm rs sf) (adS rm rs sf) rm rs (plI rr sf) c (tmT 1 hb ht he (adA rm rs sf) (adS rm rs sf) rm rs (plI rr sf) c A)) - 1 by omega] at *
                        omega)
                     | exact absurd True.intro (by assumption)
                     | skip
                    ·
                     try simp only [hw2]
                     refine ⟨fun h45 => ?_, fun h45 => ?_⟩
                     ·
                      first
                      | exact True.intro
                      | rfl
                      | (exfalso; omega)
                      | (exfalso
                         have q := wt (by omega)
                         rw [show IntKind.wrap .i64 ((whV 1 hb ht he (adA rm rs sf) (adS rm rs sf) rm rs (plI rr sf) c (tmT 1 hb ht he (adA rm rs sf) (adS rm rs sf) rm rs (plI rr sf) c A)) - 1) = (whV 1 hb ht he (adA rm rs sf) (adS rm rs sf) rm rs (plI rr sf) c (tmT 1 hb ht he (adA rm rs sf) (adS rm rs sf) rm rs (plI rr sf) c A)) - 1 by omega] at *
                         omega)
                      | exact absurd True.intro (by assumption)
                      | skip
                     ·
                      first
                      | exact True.intro
                      | rfl
                      | (exfalso; omega)
                      | (exfalso
                         have q := wt (by omega)
                         rw [show IntKind.wrap .i64 ((whV 1 hb ht he (adA rm rs sf) (adS rm rs sf) rm rs (plI rr sf) c (tmT 1 hb ht he (adA rm rs sf) (adS rm rs sf) rm rs (plI rr sf) c A)) - 1) = (whV 1 hb ht he (adA rm rs sf) (adS rm rs sf) rm rs (plI rr sf) c (tmT 1 hb ht he (adA rm rs sf) (adS rm rs sf) rm rs (plI rr sf) c A)) - 1 by omega] at *
                         omega)
                      | exact absurd True.intro (by assumption)
                      | skip
                   ·
                    first
                    | exact True.intro
                    | rfl
                    | (exfalso; omega)
                    | (exfalso
                       have q := wt (by omega)
                       rw [show IntKind.wrap .i64 ((whV 1 hb ht he (adA rm rs sf) (adS rm rs sf) rm rs (plI rr sf) c (tmT 1 hb ht he (adA rm rs sf) (adS rm rs sf) rm rs (plI rr sf) c A)) - 1) = (whV 1 hb ht he (adA rm rs sf) (adS rm rs sf) rm rs (plI rr sf) c (tmT 1 hb ht he (adA rm rs sf) (adS rm rs sf) rm rs (plI rr sf) c A)) - 1 by omega] at *
                       omega)
                    | exact absurd True.intro (by assumption)
                    | skip
                  ·
                   first
                   | exact True.intro
                   | rfl
                   | (exfalso; omega)
                   | (exfalso
                      have q := wt (by omega)
                      rw [show IntKind.wrap .i64 ((whV 1 hb ht he (adA rm rs sf) (adS rm rs sf) rm rs (plI rr sf) c (tmT 1 hb ht he (adA rm rs sf) (adS rm rs sf) rm rs (plI rr sf) c A)) - 1) = (whV 1 hb ht he (adA rm rs sf) (adS rm rs sf) rm rs (plI rr sf) c (tmT 1 hb ht he (adA rm rs sf) (adS rm rs sf) rm rs (plI rr sf) c A)) - 1 by omega] at *
                      omega)
                   | exact absurd True.intro (by assumption)
                   | skip
         ·
          refine ⟨?_, fun h46 => ?_⟩
          ·
           first
           | exact True.intro
           | omega
           | exact hc0.1
           | exact ⟨hc0.1, by omega⟩
           | exact ⟨hc0.1, decide_eq_true hp, by omega, by omega, by omega, by omega, by omega, by omega⟩
           | exact ⟨hc0.1, decide_eq_true hp, hsy, hz, v3, v4⟩
           | skip
          ·
           refine ⟨fun h47 => ?_, fun h47 => ?_⟩
           ·
            first
            | exact True.intro
            | rfl
            | (exfalso; omega)
            | (exfalso
               have q := wt (by omega)
               rw [show IntKind.wrap .i64 ((whV 1 hb ht he (adA rm rs sf) (adS rm rs sf) rm rs (plI rr sf) c (tmT 1 hb ht he (adA rm rs sf) (adS rm rs sf) rm rs (plI rr sf) c A)) - 1) = (whV 1 hb ht he (adA rm rs sf) (adS rm rs sf) rm rs (plI rr sf) c (tmT 1 hb ht he (adA rm rs sf) (adS rm rs sf) rm rs (plI rr sf) c A)) - 1 by omega] at *
               omega)
            | exact absurd True.intro (by assumption)
            | skip
           ·
            refine ⟨fun h48 => ?_, fun h48 => ?_⟩
            ·
             first
             | exact True.intro
             | rfl
             | (exfalso; omega)
             | (exfalso
                have q := wt (by omega)
                rw [show IntKind.wrap .i64 ((whV 1 hb ht he (adA rm rs sf) (adS rm rs sf) rm rs (plI rr sf) c (tmT 1 hb ht he (adA rm rs sf) (adS rm rs sf) rm rs (plI rr sf) c A)) - 1) = (whV 1 hb ht he (adA rm rs sf) (adS rm rs sf) rm rs (plI rr sf) c (tmT 1 hb ht he (adA rm rs sf) (adS rm rs sf) rm rs (plI rr sf) c A)) - 1 by omega] at *
                omega)
             | exact absurd True.intro (by assumption)
             | skip
            ·
             refine ⟨?_, fun h49 => ?_⟩
             ·
              first
              | exact True.intro
              | omega
              | exact hc0.1
              | exact ⟨hc0.1, by omega⟩
              | exact ⟨hc0.1, decide_eq_true hp, by omega, by omega, by omega, by omega, by omega, by omega⟩
              | exact ⟨hc0.1, decide_eq_true hp, hsy, hz, v3, v4⟩
              | skip
             ·
              refine ⟨?_, fun h50 => ?_⟩
              ·
               first
               | exact True.intro
               | omega
               | exact hc0.1
               | exact ⟨hc0.1, by omega⟩
               | exact ⟨hc0.1, decide_eq_true hp, by omega, by omega, by omega, by omega, by omega, by omega⟩
               | exact ⟨hc0.1, decide_eq_true hp, hsy, hz, v3, v4⟩
               | skip
              ·
               refine ⟨?_, fun h51 => ?_⟩
               ·
                first
                | exact True.intro
                | omega
                | exact hc0.1
                | exact ⟨hc0.1, by omega⟩
                | exact ⟨hc0.1, decide_eq_true hp, by omega, by omega, by omega, by omega, by omega, by omega⟩
                | exact ⟨hc0.1, decide_eq_true hp, hsy, hz, v3, v4⟩
                | skip
               ·
                refine ⟨fun h52 => ?_, fun h52 => ?_⟩
                ·
                 refine ⟨fun h53 => ?_, fun h53 => ?_⟩
                 ·
                  try simp only [hw3]
                  refine ⟨fun h54 => ?_, fun h54 => ?_⟩
                  ·
                   first
                   | exact True.intro
                   | rfl
                   | (exfalso; omega)
                   | (exfalso
                      have q := wt (by omega)
                      rw [show IntKind.wrap .i64 ((whV 1 hb ht he (adA rm rs sf) (adS rm rs sf) rm rs (plI rr sf) c (tmT 1 hb ht he (adA rm rs sf) (adS rm rs sf) rm rs (plI rr sf) c A)) - 1) = (whV 1 hb ht he (adA rm rs sf) (adS rm rs sf) rm rs (plI rr sf) c (tmT 1 hb ht he (adA rm rs sf) (adS rm rs sf) rm rs (plI rr sf) c A)) - 1 by omega] at *
                      omega)
                   | exact absurd True.intro (by assumption)
                   | skip
                  ·
                   try simp only [hw3]
                   refine ⟨fun h55 => ?_, fun h55 => ?_⟩
                   ·
                    first
                    | exact True.intro
                    | rfl
                    | (exfalso; omega)
                    | (exfalso
                       have q := wt (by omega)
                       rw [show IntKind.wrap .i64 ((whV 1 hb ht he (adA rm rs sf) (adS rm rs sf) rm rs (plI rr sf) c (tmT 1 hb ht he (adA rm rs sf) (adS rm rs sf) rm rs (plI rr sf) c A)) - 1) = (whV 1 hb ht he (adA rm rs sf) (adS rm rs sf) rm rs (plI rr sf) c (tmT 1 hb ht he (adA rm rs sf) (adS rm rs sf) rm rs (plI rr sf) c A)) - 1 by omega] at *
                       omega)
                    | exact absurd True.intro (by assumption)
                    | skip
                   ·
                    first
                    | exact True.intro
                    | rfl
                    | (exfalso; omega)
                    | (exfalso
                       have q := wt (by omega)
                       rw [show IntKind.wrap .i64 ((whV 1 hb ht he (adA rm rs sf) (adS rm rs sf) rm rs (plI rr sf) c (tmT 1 hb ht he (adA rm rs sf) (adS rm rs sf) rm rs (plI rr sf) c A)) - 1) = (whV 1 hb ht he (adA rm rs sf) (adS rm rs sf) rm rs (plI rr sf) c (tmT 1 hb ht he (adA rm rs sf) (adS rm rs sf) rm rs (plI rr sf) c A)) - 1 by omega] at *
                       omega)
                    | exact absurd True.intro (by assumption)
                    | skip
                 ·
                  first
                  | exact True.intro
                  | rfl
                  | (exfalso; omega)
                  | (exfalso
                     have q := wt (by omega)
                     rw [show IntKind.wrap .i64 ((whV 1 hb ht he (adA rm rs sf) (adS rm rs sf) rm rs (plI rr sf) c (tmT 1 hb ht he (adA rm rs sf) (adS rm rs sf) rm rs (plI rr sf) c A)) - 1) = (whV 1 hb ht he (adA rm rs sf) (adS rm rs sf) rm rs (plI rr sf) c (tmT 1 hb ht he (adA rm rs sf) (adS rm rs sf) rm rs (plI rr sf) c A)) - 1 by omega] at *
                     omega)
                  | exact absurd True.intro (by assumption)
                  | skip
                ·
                 first
                 | exact True.intro
                 | rfl
                 | (exfalso; omega)
                 | (exfalso
                    have q := wt (by omega)
                    rw [show IntKind.wrap .i64 ((whV 1 hb ht he (adA rm rs sf) (adS rm rs sf) rm rs (plI rr sf) c (tmT 1 hb ht he (adA rm rs sf) (adS rm rs sf) rm rs (plI rr sf) c A)) - 1) = (whV 1 hb ht he (adA rm rs sf) (adS rm rs sf) rm rs (plI rr sf) c (tmT 1 hb ht he (adA rm rs sf) (adS rm rs sf) rm rs (plI rr sf) c A)) - 1 by omega] at *
                    omega)
                 | exact absurd True.intro (by assumption)
                 | skip
     ·
      refine ⟨?_, fun h56 => ?_⟩
      ·
       first
       | exact True.intro
       | omega
       | exact hc0.1
       | exact ⟨hc0.1, by omega⟩
       | exact ⟨hc0.1, decide_eq_true hp, by omega, by omega, by omega, by omega, by omega, by omega⟩
       | exact ⟨hc0.1, decide_eq_true hp, hsy, hz, v3, v4⟩
       | skip
      ·
       refine ⟨fun h57 => ?_, fun h57 => ?_⟩
       ·
        first
        | exact True.intro
        | rfl
        | (exfalso; omega)
        | (exfalso
           have q := wt (by omega)
           rw [show IntKind.wrap .i64 ((whV 1 hb ht he (adA rm rs sf) (adS rm rs sf) rm rs (plI rr sf) c (tmT 1 hb ht he (adA rm rs sf) (adS rm rs sf) rm rs (plI rr sf) c A)) - 1) = (whV 1 hb ht he (adA rm rs sf) (adS rm rs sf) rm rs (plI rr sf) c (tmT 1 hb ht he (adA rm rs sf) (adS rm rs sf) rm rs (plI rr sf) c A)) - 1 by omega] at *
           omega)
        | exact absurd True.intro (by assumption)
        | skip
       ·
        refine ⟨fun h58 => ?_, fun h58 => ?_⟩
        ·
         first
         | exact True.intro
         | rfl
         | (exfalso; omega)
         | (exfalso
            have q := wt (by omega)
            rw [show IntKind.wrap .i64 ((whV 1 hb ht he (adA rm rs sf) (adS rm rs sf) rm rs (plI rr sf) c (tmT 1 hb ht he (adA rm rs sf) (adS rm rs sf) rm rs (plI rr sf) c A)) - 1) = (whV 1 hb ht he (adA rm rs sf) (adS rm rs sf) rm rs (plI rr sf) c (tmT 1 hb ht he (adA rm rs sf) (adS rm rs sf) rm rs (plI rr sf) c A)) - 1 by omega] at *
            omega)
         | exact absurd True.intro (by assumption)
         | skip
        ·
         refine ⟨fun h59 => ?_, fun h59 => ?_⟩
         ·
          first
          | exact True.intro
          | rfl
          | (exfalso; omega)
          | (exfalso
             have q := wt (by omega)
             rw [show IntKind.wrap .i64 ((whV 1 hb ht he (adA rm rs sf) (adS rm rs sf) rm rs (plI rr sf) c (tmT 1 hb ht he (adA rm rs sf) (adS rm rs sf) rm rs (plI rr sf) c A)) - 1) = (whV 1 hb ht he (adA rm rs sf) (adS rm rs sf) rm rs (plI rr sf) c (tmT 1 hb ht he (adA rm rs sf) (adS rm rs sf) rm rs (plI rr sf) c A)) - 1 by omega] at *
             omega)
          | exact absurd True.intro (by assumption)
          | skip
         ·
          first
          | exact True.intro
          | rfl
          | (exfalso; omega)
          | (exfalso
             have q := wt (by omega)
             rw [show IntKind.wrap .i64 ((whV 1 hb ht he (adA rm rs sf) (adS rm rs sf) rm rs (plI rr sf) c (tmT 1 hb ht he (adA rm rs sf) (adS rm rs sf) rm rs (plI rr sf) c A)) - 1) = (whV 1 hb ht he (adA rm rs sf) (adS rm rs sf) rm rs (plI rr sf) c (tmT 1 hb ht he (adA rm rs sf) (adS rm rs sf) rm rs (plI rr sf) c A)) - 1 by omega] at *
             omega)
          | exact absurd True.intro (by assumption)
          | skip
theorem yng_wHostV : ync_wHostV.Good Tryd.prog syG (ynE [] [] [] []) := good_of_walk (Γ := ⟨[ync_giveh, ync_pofv, ybc_time, yic_now, ync_num, ycc_when, ync_sure22], syG, [], [], []⟩) (ρ := ynE [] [] [] []) sym wHostV_w rfl (fun _ _ _ _ => (ok_cons (Con.Good.env yng_giveh _ _ _ _) (ok_cons (Con.Good.env yng_pofv _ _ _ _) (ok_cons (Con.Good.env (Con.Good.up (Con.Good.up (Con.Good.up (Con.Good.up (Con.Good.up (Con.Good.up ybg_time ycup rfl) yhup rfl) yiup rfl) yjup rfl) ykup rfl) ynup rfl) _ _ _ _) (ok_cons (Con.Good.env (Con.Good.up (Con.Good.up (Con.Good.up yig_now yjup rfl) ykup rfl) ynup rfl) _ _ _ _) (ok_cons (Con.Good.env yng_num _ _ _ _) (ok_cons (Con.Good.env (Con.Good.up (Con.Good.up (Con.Good.up (Con.Good.up (Con.Good.up ycg_when yhup rfl) yiup rfl) yjup rfl) ykup rfl) ynup rfl) _ _ _ _) (ok_cons (Con.Good.env yng_sure22 _ _ _ _) ok_nil)))))))) (fun rm rs rr gp gi rl ro hb ht he sf ss c o0 o1 sy hc hty => wHostV_h rm rs rr gp gi rl ro hb ht he sf ss c o0 o1 sy hc hty)
def wHostX_x0 : Tm := (.int .i64 (.iapp 21 (.cons (.int .i64 (.lit (0))) (.cons (.int .i64 (.lit (0))) (.cons (.int .i64 (.lit (0))) (.cons (.int .i64 (.lit (0))) (.cons (.int .u32 (.lit (0))) (.cons (.int .i64 (.lit (0))) (.cons (.int .u32 (.lit (0))) (.cons (.int .i64 (.lit (0))) (.cons (.int .i64 (.lit (0))) (.cons (.int .i64 (.lit (0))) (.cons (.int .i64 (.i2 .min (.var 13) (.var 14))) .nil)))))))))))))
def wHostX_x1 : Tm := (.int .i64 (.wrap .i64 (.i2 .sub (.iapp 25 (.cons (.int .i64 (.lit (0))) (.cons (.int .i64 (.lit (0))) (.cons (.int .i64 (.lit (0))) (.cons (.int .i64 (.lit (0))) (.cons (.int .u32 (.lit (0))) (.cons (.int .i64 (.lit (0))) (.cons (.int .u32 (.lit (0))) (.cons (.int .i64 (.lit (0))) (.cons (.int .i64 (.lit (0))) (.cons (.int .i64 (.lit (0))) (.cons wHostX_x0 .nil)))))))))))) (.lit (1)))))
def wHostX_x2 : Tm := (.int .i64 (.iapp 25 (.cons (.int .i64 (.lit (0))) (.cons (.int .i64 (.lit (0))) (.cons (.int .i64 (.lit (0))) (.cons (.int .i64 (.lit (0))) (.cons (.int .u32 (.lit (0))) (.cons (.int .i64 (.lit (0))) (.cons (.int .u32 (.lit (0))) (.cons (.int .i64 (.lit (0))) (.cons (.int .i64 (.lit (0))) (.cons (.int .i64 (.lit (0))) (.cons wHostX_x0 .nil)))))))))))))
def wHostX_x3 : Tm := (.tup (.cons (.int .u32 (.var 0)) (.cons (.int .i64 (.var 1)) (.cons (.int .i64 (.var 2)) (.cons (.int .i64 (.var 3)) (.cons (.int .i64 (.var 4)) (.cons (.int .i64 (.var 5)) (.cons (.int .i64 (.var 6)) (.cons (.bool (.bvar 0)) (.cons (.int .i64 (.var 7)) (.cons (.int .i64 (.var 8)) (.cons (.int .i64 (.var 9)) (.cons (.int .i64 (.var 10)) (.cons (.int .i64 (.var 11)) .nil))))))))))))))
def wHostX_tree : Tree :=
 (.need (.b2 .and (.b2 .and (.b2 .and (.b2 .le (.lit (0)) (.var 0)) (.b2 .le (.var 0) (.lit (4294967295)))) (.b2 .and (.b2 .and (.b2 .le (.lit (-9223372036854775808)) (.var 1)) (.b2 .le (.var 1) (.lit (9223372036854775807)))) (.b2 .and (.b2 .and (.b2 .le (.lit (-9223372036854775808)) (.var 2)) (.b2 .le (.var 2) (.lit (9223372036854775807)))) (.b2 .and (.b2 .and (.b2 .le (.lit (-9223372036854775808)) (.var 3)) (.b2 .le (.var 3) (.lit (9223372036854775807)))) (.b2 .and (.b2 .and (.b2 .le (.lit (-9223372036854775808)) (.var 4)) (.b2 .le (.var 4) (.lit (9223372036854775807)))) (.b2 .and (.b2 .and (.b2 .le (.lit (-9223372036854775808)) (.var 5)) (.b2 .le (.var 5) (.lit (9223372036854775807)))) (.b2 .and (.b2 .and (.b2 .le (.lit (-9223372036854775808)) (.var 6)) (.b2 .le (.var 6) (.lit (9223372036854775807)))) (.b2 .and (.b2 .and (.b2 .le (.lit (-9223372036854775808)) (.var 7)) (.b2 .le (.var 7) (.lit (9223372036854775807)))) (.b2 .and (.b2 .and (.b2 .le (.lit (-9223372036854775808)) (.var 8)) (.b2 .le (.var 8) (.lit (9223372036854775807)))) (.b2 .and (.b2 .and (.b2 .le (.lit (-9223372036854775808)) (.var 9)) (.b2 .le (.var 9) (.lit (9223372036854775807)))) (.b2 .and (.b2 .and (.b2 .le (.lit (-9223372036854775808)) (.var 10)) (.b2 .le (.var 10) (.lit (9223372036854775807)))) (.b2 .and (.b2 .le (.lit (-9223372036854775808)) (.var 11)) (.b2 .le (.var 11) (.lit (9223372036854775807))))))))))))))) (.b2 .and (.b2 .and (.b2 .le (.lit (-9223372036854775808)) (.var 12)) (.b2 .le (.var 12) (.lit (9223372036854775807)))) (.not (.b2 .and (.bapp 4 (.cons wHostX_x3 .nil)) (.b2 .and (.bvar 0) (.b2 .and (.b2 .eq (.iapp 29 (.cons (.int .u32 (.var 0)) (.cons (.int .i64 (.var 1)) (.cons (.int .i64 (.var 10)) .nil)))) (.lit (0))) (.b2 .and (.b2 .le (.lit (1)) (.var 12)) (.b2 .le (.var 12) (.lit (1125899906842624))))))))))
 (.br (.not (.b2 .eq (.iapp 55 (.cons wHostX_x3 (.cons (.int .i64 (.lit (1))) (.cons (.int .i64 (.var 12)) .nil)))) (.lit (0))))
 (.ret (.bool (.tt true)))
 (.need (.b2 .and (.b2 .le (.lit (-9223372036854775808)) (.i2 .min (.var 13) (.var 14))) (.b2 .le (.i2 .min (.var 13) (.var 14)) (.lit (9223372036854775807))))
 (.need (.b2 .and (.b2 .and (.b2 .and (.b2 .le (.lit (0)) (.var 0)) (.b2 .le (.var 0) (.lit (4294967295)))) (.b2 .and (.b2 .and (.b2 .le (.lit (-9223372036854775808)) (.var 1)) (.b2 .le (.var 1) (.lit (9223372036854775807)))) (.b2 .and (.b2 .and (.b2 .le (.lit (-9223372036854775808)) (.var 2)) (.b2 .le (.var 2) (.lit (9223372036854775807)))) (.b2 .and (.b2 .and (.b2 .le (.lit (-9223372036854775808)) (.var 3)) (.b2 .le (.var 3) (.lit (9223372036854775807)))) (.b2 .and (.b2 .and (.b2 .le (.lit (-9223372036854775808)) (.var 4)) (.b2 .le (.var 4) (.lit (9223372036854775807)))) (.b2 .and (.b2 .and (.b2 .le (.lit (-9223372036854775808)) (.var 5)) (.b2 .le (.var 5) (.lit (9223372036854775807)))) (.b2 .and (.b2 .and (.b2 .le (.lit (-9223372036854775808)) (.var 6)) (.b2 .le (.var 6) (.lit (9223372036854775807)))) (.b2 .and (.b2 .and (.b2 .le (.lit (-9223372036854775808)) (.var 7)) (.b2 .le (.var 7) (.lit (9223372036854775807)))) (.b2 .and (.b2 .and (.b2 .le (.lit (-9223372036854775808)) (.var 8)) (.b2 .le (.var 8) (.lit (9223372036854775807)))) (.b2 .and (.b2 .and (.b2 .le (.lit (-9223372036854775808)) (.var 9)) (.b2 .le (.var 9) (.lit (9223372036854775807)))) (.b2 .and (.b2 .and (.b2 .le (.lit (-9223372036854775808)) (.var 10)) (.b2 .le (.var 10) (.lit (9223372036854775807)))) (.b2 .and (.b2 .le (.lit (-9223372036854775808)) (.var 11)) (.b2 .le (.var 11) (.lit (9223372036854775807))))))))))))))) (.b2 .and (.b2 .le (.lit (-9223372036854775808)) (.i2 .min (.var 13) (.var 14))) (.b2 .le (.i2 .min (.var 13) (.var 14)) (.lit (9223372036854775807)))))
 (.br (.b2 .eq (.iapp 20 (.cons (.int .i64 (.lit (0))) (.cons (.int .i64 (.lit (0))) (.cons (.int .i64 (.lit (0))) (.cons (.int .i64 (.lit (0))) (.cons (.int .u32 (.lit (0))) (.cons (.int .i64 (.lit (0))) (.cons (.int .u32 (.lit (0))) (.cons (.int .i64 (.lit (0))) (.cons (.int .i64 (.lit (0))) (.cons (.int .i64 (.lit (0))) (.cons (.int .i64 (.i2 .min (.var 13) (.var 14))) .nil)))))))))))) (.lit (0)))
 (.br (.b2 .eq (.iapp 46 (.cons wHostX_x3 (.cons (.int .i64 (.i2 .min (.var 13) (.var 14))) .nil))) (.lit (0)))
 (.br (.not (.b2 .eq (.iapp 21 (.cons (.int .i64 (.lit (0))) (.cons (.int .i64 (.lit (0))) (.cons (.int .i64 (.lit (0))) (.cons (.int .i64 (.lit (0))) (.cons (.int .u32 (.lit (0))) (.cons (.int .i64 (.lit (0))) (.cons (.int .u32 (.lit (0))) (.cons (.int .i64 (.lit (0))) (.cons (.int .i64 (.lit (0))) (.cons (.int .i64 (.lit (0))) (.cons (.int .i64 (.i2 .min (.var 13) (.var 14))) .nil)))))))))))) (.iapp 47 (.cons wHostX_x3 (.cons (.int .i64 (.i2 .min (.var 13) (.var 14))) .nil)))))
 (.ret (.bool (.tt false)))
 (.br (.not (.b2 .eq (.iapp 22 (.cons (.int .i64 (.lit (0))) (.cons (.int .i64 (.lit (0))) (.cons (.int .i64 (.lit (0))) (.cons (.int .i64 (.lit (0))) (.cons (.int .u32 (.lit (0))) (.cons (.int .i64 (.lit (0))) (.cons (.int .u32 (.lit (0))) (.cons (.int .i64 (.lit (0))) (.cons (.int .i64 (.lit (0))) (.cons (.int .i64 (.lit (0))) (.cons (.int .i64 (.i2 .min (.var 13) (.var 14))) .nil)))))))))))) (.iapp 48 (.cons wHostX_x3 (.cons (.int .i64 (.i2 .min (.var 13) (.var 14))) .nil)))))
 (.ret (.bool (.tt false)))
 (.need (.b2 .and (.b2 .le (.lit (-9223372036854775808)) (.i2 .max (.var 13) (.var 14))) (.b2 .le (.i2 .max (.var 13) (.var 14)) (.lit (9223372036854775807))))
 (.br (.b2 .eq (.iapp 20 (.cons (.int .i64 (.lit (0))) (.cons (.int .i64 (.lit (0))) (.cons (.int .i64 (.lit (0))) (.cons (.int .i64 (.lit (0))) (.cons (.int .u32 (.lit (0))) (.cons (.int .i64 (.lit (0))) (.cons (.int .u32 (.lit (0))) (.cons (.int .i64 (.lit (0))) (.cons (.int .i64 (.lit (0))) (.cons (.int .i64 (.lit (0))) (.cons (.int .i64 (.i2 .max (.var 13) (.var 14))) .nil)))))))))))) (.lit (0)))
 (.br (.b2 .lt (.iapp 21 (.cons (.int .i64 (.lit (0))) (.cons (.int .i64 (.lit (0))) (.cons (.int .i64 (.lit (0))) (.cons (.int .i64 (.lit (0))) (.cons (.int .u32 (.lit (0))) (.cons (.int .i64 (.lit (0))) (.cons (.int .u32 (.lit (0))) (.cons (.int .i64 (.lit (0))) (.cons (.int .i64 (.lit (0))) (.cons (.int .i64 (.lit (0))) (.cons (.int .i64 (.i2 .max (.var 13) (.var 14))) .nil)))))))))))) (.iapp 21 (.cons (.int .i64 (.lit (0))) (.cons (.int .i64 (.lit (0))) (.cons (.int .i64 (.lit (0))) (.cons (.int .i64 (.lit (0))) (.cons (.int .u32 (.lit (0))) (.cons (.int .i64 (.lit (0))) (.cons (.int .u32 (.lit (0))) (.cons (.int .i64 (.lit (0))) (.cons (.int .i64 (.lit (0))) (.cons (.int .i64 (.lit (0))) (.cons (.int .i64 (.i2 .min (.var 13) (.var 14))) .nil)))))))))))))
 (.ret (.bool (.tt false)))
 (.br (.b2 .lt (.iapp 22 (.cons (.int .i64 (.lit (0))) (.cons (.int .i64 (.lit (0))) (.cons (.int .i64 (.lit (0))) (.cons (.int .i64 (.lit (0))) (.cons (.int .u32 (.lit (0))) (.cons (.int .i64 (.lit (0))) (.cons (.int .u32 (.lit (0))) (.cons (.int .i64 (.lit (0))) (.cons (.int .i64 (.lit (0))) (.cons (.int .i64 (.lit (0))) (.cons (.int .i64 (.i2 .max (.var 13) (.var 14))) .nil)))))))))))) (.iapp 22 (.cons (.int .i64 (.lit (0))) (.cons (.int .i64 (.lit (0))) (.cons (.int .i64 (.lit (0))) (.cons (.int .i64 (.lit (0))) (.cons (.int .u32 (.lit (0))) (.cons (.int .i64 (.lit (0))) (.cons (.int .u32 (.lit (0))) (.cons (.int .i64 (.lit (0))) (.cons (.int .i64 (.lit (0))) (.cons (.int .i64 (.lit (0))) (.cons (.int .i64 (.i2 .min (.var 13) (.var 14))) .nil)))))))))))))
 (.ret (.bool (.tt false)))
 (.need (.b2 .and (.b2 .le (.lit (-9223372036854775808)) (.iapp 21 (.cons (.int .i64 (.lit (0))) (.cons (.int .i64 (.lit (0))) (.cons (.int .i64 (.lit (0))) (.cons (.int .i64 (.lit (0))) (.cons (.int .u32 (.lit (0))) (.cons (.int .i64 (.lit (0))) (.cons (.int .u32 (.lit (0))) (.cons (.int .i64 (.lit (0))) (.cons (.int .i64 (.lit (0))) (.cons (.int .i64 (.lit (0))) (.cons (.int .i64 (.i2 .min (.var 13) (.var 14))) .nil))))))))))))) (.b2 .le (.iapp 21 (.cons (.int .i64 (.lit (0))) (.cons (.int .i64 (.lit (0))) (.cons (.int .i64 (.lit (0))) (.cons (.int .i64 (.lit (0))) (.cons (.int .u32 (.lit (0))) (.cons (.int .i64 (.lit (0))) (.cons (.int .u32 (.lit (0))) (.cons (.int .i64 (.lit (0))) (.cons (.int .i64 (.lit (0))) (.cons (.int .i64 (.lit (0))) (.cons (.int .i64 (.i2 .min (.var 13) (.var 14))) .nil)))))))))))) (.lit (9223372036854775807))))
 (.br (.not (.b2 .eq (.iapp 24 (.cons (.int .i64 (.lit (0))) (.cons (.int .i64 (.lit (0))) (.cons (.int .i64 (.lit (0))) (.cons (.int .i64 (.lit (0))) (.cons (.int .u32 (.lit (0))) (.cons (.int .i64 (.lit (0))) (.cons (.int .u32 (.lit (0))) (.cons (.int .i64 (.lit (0))) (.cons (.int .i64 (.lit (0))) (.cons (.int .i64 (.lit (0))) (.cons wHostX_x0 .nil)))))))))))) (.lit (0))))
 (.ret (.bool (.tt false)))
 (.br (.b2 .lt (.i2 .min (.var 13) (.var 14)) (.iapp 25 (.cons (.int .i64 (.lit (0))) (.cons (.int .i64 (.lit (0))) (.cons (.int .i64 (.lit (0))) (.cons (.int .i64 (.lit (0))) (.cons (.int .u32 (.lit (0))) (.cons (.int .i64 (.lit (0))) (.cons (.int .u32 (.lit (0))) (.cons (.int .i64 (.lit (0))) (.cons (.int .i64 (.lit (0))) (.cons (.int .i64 (.lit (0))) (.cons wHostX_x0 .nil)))))))))))))
 (.ret (.bool (.tt false)))
 (.need (.b2 .and (.b2 .le (.lit (-9223372036854775808)) (.iapp 25 (.cons (.int .i64 (.lit (0))) (.cons (.int .i64 (.lit (0))) (.cons (.int .i64 (.lit (0))) (.cons (.int .i64 (.lit (0))) (.cons (.int .u32 (.lit (0))) (.cons (.int .i64 (.lit (0))) (.cons (.int .u32 (.lit (0))) (.cons (.int .i64 (.lit (0))) (.cons (.int .i64 (.lit (0))) (.cons (.int .i64 (.lit (0))) (.cons wHostX_x0 .nil))))))))))))) (.b2 .le (.iapp 25 (.cons (.int .i64 (.lit (0))) (.cons (.int .i64 (.lit (0))) (.cons (.int .i64 (.lit (0))) (.cons (.int .i64 (.lit (0))) (.cons (.int .u32 (.lit (0))) (.cons (.int .i64 (.lit (0))) (.cons (.int .u32 (.lit (0))) (.cons (.int .i64 (.lit (0))) (.cons (.int .i64 (.lit (0))) (.cons (.int .i64 (.lit (0))) (.cons wHostX_x0 .nil)))))))))))) (.lit (9223372036854775807))))
 (.need (.b2 .and (.b2 .le (.lit (-9223372036854775808)) (.wrap .i64 (.i2 .sub (.iapp 25 (.cons (.int .i64 (.lit (0))) (.cons (.int .i64 (.lit (0))) (.cons (.int .i64 (.lit (0))) (.cons (.int .i64 (.lit (0))) (.cons (.int .u32 (.lit (0))) (.cons (.int .i64 (.lit (0))) (.cons (.int .u32 (.lit (0))) (.cons (.int .i64 (.lit (0))) (.cons (.int .i64 (.lit (0))) (.cons (.int .i64 (.lit (0))) (.cons wHostX_x0 .nil)))))))))))) (.lit (1))))) (.b2 .le (.wrap .i64 (.i2 .sub (.iapp 25 (.cons (.int .i64 (.lit (0))) (.cons (.int .i64 (.lit (0))) (.cons (.int .i64 (.lit (0))) (.cons (.int .i64 (.lit (0))) (.cons (.int .u32 (.lit (0))) (.cons (.int .i64 (.lit (0))) (.cons (.int .u32 (.lit (0))) (.cons (.int .i64 (.lit (0))) (.cons (.int .i64 (.lit (0))) (.cons (.int .i64 (.lit (0))) (.cons wHostX_x0 .nil)))))))))))) (.lit (1)))) (.lit (9223372036854775807))))
 (.need (.b2 .and (.b2 .le (.lit (-9223372036854775808)) (.wrap .i64 (.i2 .sub (.iapp 25 (.cons (.int .i64 (.lit (0))) (.cons (.int .i64 (.lit (0))) (.cons (.int .i64 (.lit (0))) (.cons (.int .i64 (.lit (0))) (.cons (.int .u32 (.lit (0))) (.cons (.int .i64 (.lit (0))) (.cons (.int .u32 (.lit (0))) (.cons (.int .i64 (.lit (0))) (.cons (.int .i64 (.lit (0))) (.cons (.int .i64 (.lit (0))) (.cons wHostX_x0 .nil)))))))))))) (.lit (1))))) (.b2 .le (.wrap .i64 (.i2 .sub (.iapp 25 (.cons (.int .i64 (.lit (0))) (.cons (.int .i64 (.lit (0))) (.cons (.int .i64 (.lit (0))) (.cons (.int .i64 (.lit (0))) (.cons (.int .u32 (.lit (0))) (.cons (.int .i64 (.lit (0))) (.cons (.int .u32 (.lit (0))) (.cons (.int .i64 (.lit (0))) (.cons (.int .i64 (.lit (0))) (.cons (.int .i64 (.lit (0))) (.cons wHostX_x0 .nil)))))))))))) (.lit (1)))) (.lit (9223372036854775807))))
 (.br (.b2 .eq (.iapp 20 (.cons (.int .i64 (.lit (0))) (.cons (.int .i64 (.lit (0))) (.cons (.int .i64 (.lit (0))) (.cons (.int .i64 (.lit (0))) (.cons (.int .u32 (.lit (0))) (.cons (.int .i64 (.lit (0))) (.cons (.int .u32 (.lit (0))) (.cons (.int .i64 (.lit (0))) (.cons (.int .i64 (.lit (0))) (.cons (.int .i64 (.lit (0))) (.cons wHostX_x2 .nil)))))))))))) (.lit (0)))
 (.br (.b2 .le (.iapp 21 (.cons (.int .i64 (.lit (0))) (.cons (.int .i64 (.lit (0))) (.cons (.int .i64 (.lit (0))) (.cons (.int .i64 (.lit (0))) (.cons (.int .u32 (.lit (0))) (.cons (.int .i64 (.lit (0))) (.cons (.int .u32 (.lit (0))) (.cons (.int .i64 (.lit (0))) (.cons (.int .i64 (.lit (0))) (.cons (.int .i64 (.lit (0))) (.cons (.int .i64 (.i2 .min (.var 13) (.var 14))) .nil)))))))))))) (.iapp 21 (.cons (.int .i64 (.lit (0))) (.cons (.int .i64 (.lit (0))) (.cons (.int .i64 (.lit (0))) (.cons (.int .i64 (.lit (0))) (.cons (.int .u32 (.lit (0))) (.cons (.int .i64 (.lit (0))) (.cons (.int .u32 (.lit (0))) (.cons (.int .i64 (.lit (0))) (.cons (.int .i64 (.lit (0))) (.cons (.int .i64 (.lit (0))) (.cons wHostX_x2 .nil)))))))))))))
 (.br (.not (.b2 .eq (.iapp 20 (.cons (.int .i64 (.lit (0))) (.cons (.int .i64 (.lit (0))) (.cons (.int .i64 (.lit (0))) (.cons (.int .i64 (.lit (0))) (.cons (.int .u32 (.lit (0))) (.cons (.int .i64 (.lit (0))) (.cons (.int .u32 (.lit (0))) (.cons (.int .i64 (.lit (0))) (.cons (.int .i64 (.lit (0))) (.cons (.int .i64 (.lit (0))) (.cons wHostX_x1 .nil)))))))))))) (.lit (0))))
 (.ret (.bool (.tt true)))
 (.br (.b2 .lt (.iapp 21 (.cons (.int .i64 (.lit (0))) (.cons (.int .i64 (.lit (0))) (.cons (.int .i64 (.lit (0))) (.cons (.int .i64 (.lit (0))) (.cons (.int .u32 (.lit (0))) (.cons (.int .i64 (.lit (0))) (.cons (.int .u32 (.lit (0))) (.cons (.int .i64 (.lit (0))) (.cons (.int .i64 (.lit (0))) (.cons (.int .i64 (.lit (0))) (.cons wHostX_x1 .nil)))))))))))) (.iapp 21 (.cons (.int .i64 (.lit (0))) (.cons (.int .i64 (.lit (0))) (.cons (.int .i64 (.lit (0))) (.cons (.int .i64 (.lit (0))) (.cons (.int .u32 (.lit (0))) (.cons (.int .i64 (.lit (0))) (.cons (.int .u32 (.lit (0))) (.cons (.int .i64 (.lit (0))) (.cons (.int .i64 (.lit (0))) (.cons (.int .i64 (.lit (0))) (.cons (.int .i64 (.i2 .min (.var 13) (.var 14))) .nil)))))))))))))
 (.ret (.bool (.tt true)))
 (.ret (.bool (.tt false)))))
 (.ret (.bool (.tt false))))
 (.ret (.bool (.tt false))))))))))))
 (.need (.b2 .and (.b2 .le (.lit (-9223372036854775808)) (.iapp 21 (.cons (.int .i64 (.lit (0))) (.cons (.int .i64 (.lit (0))) (.cons (.int .i64 (.lit (0))) (.cons (.int .i64 (.lit (0))) (.cons (.int .u32 (.lit (0))) (.cons (.int .i64 (.lit (0))) (.cons (.int .u32 (.lit (0))) (.cons (.int .i64 (.lit (0))) (.cons (.int .i64 (.lit (0))) (.cons (.int .i64 (.lit (0))) (.cons (.int .i64 (.i2 .min (.var 13) (.var 14))) .nil))))))))))))) (.b2 .le (.iapp 21 (.cons (.int .i64 (.lit (0))) (.cons (.int .i64 (.lit (0))) (.cons (.int .i64 (.lit (0))) (.cons (.int .i64 (.lit (0))) (.cons (.int .u32 (.lit (0))) (.cons (.int .i64 (.lit (0))) (.cons (.int .u32 (.lit (0))) (.cons (.int .i64 (.lit (0))) (.cons (.int .i64 (.lit (0))) (.cons (.int .i64 (.lit (0))) (.cons (.int .i64 (.i2 .min (.var 13) (.var 14))) .nil)))))))))))) (.lit (9223372036854775807))))
 (.br (.not (.b2 .eq (.iapp 24 (.cons (.int .i64 (.lit (0))) (.cons (.int .i64 (.lit (0))) (.cons (.int .i64 (.lit (0))) (.cons (.int .i64 (.lit (0))) (.cons (.int .u32 (.lit (0))) (.cons (.int .i64 (.lit (0))) (.cons (.int .u32 (.lit (0))) (.cons (.int .i64 (.lit (0))) (.cons (.int .i64 (.lit (0))) (.cons (.int .i64 (.lit (0))) (.cons wHostX_x0 .nil)))))))))))) (.lit (0))))
 (.ret (.bool (.tt false)))
 (.br (.b2 .lt (.i2 .min (.var 13) (.var 14)) (.iapp 25 (.cons (.int .i64 (.lit (0))) (.cons (.int .i64 (.lit (0))) (.cons (.int .i64 (.lit (0))) (.cons (.int .i64 (.lit (0))) (.cons (.int .u32 (.lit (0))) (.cons (.int .i64 (.lit (0))) (.cons (.int .u32 (.lit (0))) (.cons (.int .i64 (.lit (0))) (.cons (.int .i64 (.lit (0))) (.cons (.int .i64 (.lit (0))) (.cons wHostX_x0 .nil)))))))))))))
 (.ret (.bool (.tt false)))
 (.need (.b2 .and (.b2 .le (.lit (-9223372036854775808)) (.iapp 25 (.cons (.int .i64 (.lit (0))) (.cons (.int .i64 (.lit (0))) (.cons (.int .i64 (.lit (0))) (.cons (.int .i64 (.lit (0))) (.cons (.int .u32 (.lit (0))) (.cons (.int .i64 (.lit (0))) (.cons (.int .u32 (.lit (0))) (.cons (.int .i64 (.lit (0))) (.cons (.int .i64 (.lit (0))) (.cons (.int .i64 (.lit (0))) (.cons wHostX_x0 .nil))))))))))))) (.b2 .le (.iapp 25 (.cons (.int .i64 (.lit (0))) (.cons (.int .i64 (.lit (0))) (.cons (.int .i64 (.lit (0))) (.cons (.int .i64 (.lit (0))) (.cons (.int .u32 (.lit (0))) (.cons (.int .i64 (.lit (0))) (.cons (.int .u32 (.lit (0))) (.cons (.int .i64 (.lit (0))) (.cons (.int .i64 (.lit (0))) (.cons (.int .i64 (.lit (0))) (.cons wHostX_x0 .nil)))))))))))) (.lit (9223372036854775807))))
 (.need (.b2 .and (.b2 .le (.lit (-9223372036854775808)) (.wrap .i64 (.i2 .sub (.iapp 25 (.cons (.int .i64 (.lit (0))) (.cons (.int .i64 (.lit (0))) (.cons (.int .i64 (.lit (0))) (.cons (.int .i64 (.lit (0))) (.cons (.int .u32 (.lit (0))) (.cons (.int .i64 (.lit (0))) (.cons (.int .u32 (.lit (0))) (.cons (.int .i64 (.lit (0))) (.cons (.int .i64 (.lit (0))) (.cons (.int .i64 (.lit (0))) (.cons wHostX_x0 .nil)))))))))))) (.lit (1))))) (.b2 .le (.wrap .i64 (.i2 .sub (.iapp 25 (.cons (.int .i64 (.lit (0))) (.cons (.int .i64 (.lit (0))) (.cons (.int .i64 (.lit (0))) (.cons (.int .i64 (.lit (0))) (.cons (.int .u32 (.lit (0))) (.cons (.int .i64 (.lit (0))) (.cons (.int .u32 (.lit (0))) (.cons (.int .i64 (.lit (0))) (.cons (.int .i64 (.lit (0))) (.cons (.int .i64 (.lit (0))) (.cons wHostX_x0 .nil)))))))))))) (.lit (1)))) (.lit (9223372036854775807))))
 (.need (.b2 .and (.b2 .le (.lit (-9223372036854775808)) (.wrap .i64 (.i2 .sub (.iapp 25 (.cons (.int .i64 (.lit (0))) (.cons (.int .i64 (.lit (0))) (.cons (.int .i64 (.lit (0))) (.cons (.int .i64 (.lit (0))) (.cons (.int .u32 (.lit (0))) (.cons (.int .i64 (.lit (0))) (.cons (.int .u32 (.lit (0))) (.cons (.int .i64 (.lit (0))) (.cons (.int .i64 (.lit (0))) (.cons (.int .i64 (.lit (0))) (.cons wHostX_x0 .nil)))))))))))) (.lit (1))))) (.b2 .le (.wrap .i64 (.i2 .sub (.iapp 25 (.cons (.int .i64 (.lit (0))) (.cons (.int .i64 (.lit (0))) (.cons (.int .i64 (.lit (0))) (.cons (.int .i64 (.lit (0))) (.cons (.int .u32 (.lit (0))) (.cons (.int .i64 (.lit (0))) (.cons (.int .u32 (.lit (0))) (.cons (.int .i64 (.lit (0))) (.cons (.int .i64 (.lit (0))) (.cons (.int .i64 (.lit (0))) (.cons wHostX_x0 .nil)))))))))))) (.lit (1)))) (.lit (9223372036854775807))))
 (.br (.b2 .eq (.iapp 20 (.cons (.int .i64 (.lit (0))) (.cons (.int .i64 (.lit (0))) (.cons (.int .i64 (.lit (0))) (.cons (.int .i64 (.lit (0))) (.cons (.int .u32 (.lit (0))) (.cons (.int .i64 (.lit (0))) (.cons (.int .u32 (.lit (0))) (.cons (.int .i64 (.lit (0))) (.cons (.int .i64 (.lit (0))) (.cons (.int .i64 (.lit (0))) (.cons wHostX_x2 .nil)))))))))))) (.lit (0)))
 (.br (.b2 .le (.iapp 21 (.cons (.int .i64 (.lit (0))) (.cons (.int .i64 (.lit (0))) (.cons (.int .i64 (.lit (0))) (.cons (.int .i64 (.lit (0))) (.cons (.int .u32 (.lit (0))) (.cons (.int .i64 (.lit (0))) (.cons (.int .u32 (.lit (0))) (.cons (.int .i64 (.lit (0))) (.cons (.int .i64 (.lit (0))) (.cons (.int .i64 (.lit (0))) (.cons (.int .i64 (.i2 .min (.var 13) (.var 14))) .nil)))))))))))) (.iapp 21 (.cons (.int .i64 (.lit (0))) (.cons (.int .i64 (.lit (0))) (.cons (.int .i64 (.lit (0))) (.cons (.int .i64 (.lit (0))) (.cons (.int .u32 (.lit (0))) (.cons (.int .i64 (.lit (0))) (.cons (.int .u32 (.lit (0))) (.cons (.int .i64 (.lit (0))) (.cons (.int .i64 (.lit (0))) (.cons (.int .i64 (.lit (0))) (.cons wHostX_x2 .nil)))))))))))))
 (.br (.not (.b2 .eq (.iapp 20 (.cons (.int .i64 (.lit (0))) (.cons (.int .i64 (.lit (0))) (.cons (.int .i64 (.lit (0))) (.cons (.int .i64 (.lit (0))) (.cons (.int .u32 (.lit (0))) (.cons (.int .i64 (.lit (0))) (.cons (.int .u32 (.lit (0))) (.cons (.int .i64 (.lit (0))) (.cons (.int .i64 (.lit (0))) (.cons (.int .i64 (.lit (0))) (.cons wHostX_x1 .nil)))))))))))) (.lit (0))))
 (.ret (.bool (.tt true)))
 (.br (.b2 .lt (.iapp 21 (.cons (.int .i64 (.lit (0))) (.cons (.int .i64 (.lit (0))) (.cons (.int .i64 (.lit (0))) (.cons (.int .i64 (.lit (0))) (.cons (.int .u32 (.lit (0))) (.cons (.int .i64 (.lit (0))) (.cons (.int .u32 (.lit (0))) (.cons (.int .i64 (.lit (0))) (.cons (.int .i64 (.lit (0))) (.cons (.int .i64 (.lit (0))) (.cons wHostX_x1 .nil)))))))))))) (.iapp 21 (.cons (.int .i64 (.lit (0))) (.cons (.int .i64 (.lit (0))) (.cons (.int .i64 (.lit (0))) (.cons (.int .i64 (.lit (0))) (.cons (.int .u32 (.lit (0))) (.cons (.int .i64 (.lit (0))) (.cons (.int .u32 (.lit (0))) (.cons (.int .i64 (.lit (0))) (.cons (.int .i64 (.lit (0))) (.cons (.int .i64 (.lit (0))) (.cons (.int .i64 (.i2 .min (.var 13) (.var 14))) .nil)))))))))))))
 (.ret (.bool (.tt true)))
 (.ret (.bool (.tt false)))))
 (.ret (.bool (.tt false))))
 (.ret (.bool (.tt false))))))))))))))
 (.br (.not (.b2 .eq (.iapp 46 (.cons wHostX_x3 (.cons (.int .i64 (.i2 .min (.var 13) (.var 14))) .nil))) (.lit (13))))
 (.ret (.bool (.tt false)))
 (.need (.b2 .and (.b2 .le (.lit (-9223372036854775808)) (.i2 .max (.var 13) (.var 14))) (.b2 .le (.i2 .max (.var 13) (.var 14)) (.lit (9223372036854775807))))
 (.br (.b2 .eq (.iapp 20 (.cons (.int .i64 (.lit (0))) (.cons (.int .i64 (.lit (0))) (.cons (.int .i64 (.lit (0))) (.cons (.int .i64 (.lit (0))) (.cons (.int .u32 (.lit (0))) (.cons (.int .i64 (.lit (0))) (.cons (.int .u32 (.lit (0))) (.cons (.int .i64 (.lit (0))) (.cons (.int .i64 (.lit (0))) (.cons (.int .i64 (.lit (0))) (.cons (.int .i64 (.i2 .max (.var 13) (.var 14))) .nil)))))))))))) (.lit (0)))
 (.br (.b2 .lt (.iapp 21 (.cons (.int .i64 (.lit (0))) (.cons (.int .i64 (.lit (0))) (.cons (.int .i64 (.lit (0))) (.cons (.int .i64 (.lit (0))) (.cons (.int .u32 (.lit (0))) (.cons (.int .i64 (.lit (0))) (.cons (.int .u32 (.lit (0))) (.cons (.int .i64 (.lit (0))) (.cons (.int .i64 (.lit (0))) (.cons (.int .i64 (.lit (0))) (.cons (.int .i64 (.i2 .max (.var 13) (.var 14))) .nil)))))))))))) (.iapp 21 (.cons (.int .i64 (.lit (0))) (.cons (.int .i64 (.lit (0))) (.cons (.int .i64 (.lit (0))) (.cons (.int .i64 (.lit (0))) (.cons (.int .u32 (.lit (0))) (.cons (.int .i64 (.lit (0))) (.cons (.int .u32 (.lit (0))) (.cons (.int .i64 (.lit (0))) (.cons (.int .i64 (.lit (0))) (.cons (.int .i64 (.lit (0))) (.cons (.int .i64 (.i2 .min (.var 13) (.var 14))) .nil)))))))))))))
 (.ret (.bool (.tt false)))
 (.br (.b2 .lt (.iapp 22 (.cons (.int .i64 (.lit (0))) (.cons (.int .i64 (.lit (0))) (.cons (.int .i64 (.lit (0))) (.cons (.int .i64 (.lit (0))) (.cons (.int .u32 (.lit (0))) (.cons (.int .i64 (.lit (0))) (.cons (.int .u32 (.lit (0))) (.cons (.int .i64 (.lit (0))) (.cons (.int .i64 (.lit (0))) (.cons (.int .i64 (.lit (0))) (.cons (.int .i64 (.i2 .max (.var 13) (.var 14))) .nil)))))))))))) (.iapp 22 (.cons (.int .i64 (.lit (0))) (.cons (.int .i64 (.lit (0))) (.cons (.int .i64 (.lit (0))) (.cons (.int .i64 (.lit (0))) (.cons (.int .u32 (.lit (0))) (.cons (.int .i64 (.lit (0))) (.cons (.int .u32 (.lit (0))) (.cons (.int .i64 (.lit (0))) (.cons (.int .i64 (.lit (0))) (.cons (.int .i64 (.lit (0))) (.cons (.int .i64 (.i2 .min (.var 13) (.var 14))) .nil)))))))))))))
 (.ret (.bool (.tt false)))
 (.need (.b2 .and (.b2 .le (.lit (-9223372036854775808)) (.iapp 21 (.cons (.int .i64 (.lit (0))) (.cons (.int .i64 (.lit (0))) (.cons (.int .i64 (.lit (0))) (.cons (.int .i64 (.lit (0))) (.cons (.int .u32 (.lit (0))) (.cons (.int .i64 (.lit (0))) (.cons (.int .u32 (.lit (0))) (.cons (.int .i64 (.lit (0))) (.cons (.int .i64 (.lit (0))) (.cons (.int .i64 (.lit (0))) (.cons (.int .i64 (.i2 .min (.var 13) (.var 14))) .nil))))))))))))) (.b2 .le (.iapp 21 (.cons (.int .i64 (.lit (0))) (.cons (.int .i64 (.lit (0))) (.cons (.int .i64 (.lit (0))) (.cons (.int .i64 (.lit (0))) (.cons (.int .u32 (.lit (0))) (.cons (.int .i64 (.lit (0))) (.cons (.int .u32 (.lit (0))) (.cons (.int .i64 (.lit (0))) (.cons (.int .i64 (.lit (0))) (.cons (.int .i64 (.lit (0))) (.cons (.int .i64 (.i2 .min (.var 13) (.var 14))) .nil)))))))))))) (.lit (9223372036854775807))))
 (.br (.not (.b2 .eq (.iapp 24 (.cons (.int .i64 (.lit (0))) (.cons (.int .i64 (.lit (0))) (.cons (.int .i64 (.lit (0))) (.cons (.int .i64 (.lit (0))) (.cons (.int .u32 (.lit (0))) (.cons (.int .i64 (.lit (0))) (.cons (.int .u32 (.lit (0))) (.cons (.int .i64 (.lit (0))) (.cons (.int .i64 (.lit (0))) (.cons (.int .i64 (.lit (0))) (.cons wHostX_x0 .nil)))))))))))) (.lit (0))))
 (.ret (.bool (.tt false)))
 (.br (.b2 .lt (.i2 .min (.var 13) (.var 14)) (.iapp 25 (.cons (.int .i64 (.lit (0))) (.cons (.int .i64 (.lit (0))) (.cons (.int .i64 (.lit (0))) (.cons (.int .i64 (.lit (0))) (.cons (.int .u32 (.lit (0))) (.cons (.int .i64 (.lit (0))) (.cons (.int .u32 (.lit (0))) (.cons (.int .i64 (.lit (0))) (.cons (.int .i64 (.lit (0))) (.cons (.int .i64 (.lit (0))) (.cons wHostX_x0 .nil)))))))))))))
 (.ret (.bool (.tt false)))
 (.need (.b2 .and (.b2 .le (.lit (-9223372036854775808)) (.iapp 25 (.cons (.int .i64 (.lit (0))) (.cons (.int .i64 (.lit (0))) (.cons (.int .i64 (.lit (0))) (.cons (.int .i64 (.lit (0))) (.cons (.int .u32 (.lit (0))) (.cons (.int .i64 (.lit (0))) (.cons (.int .u32 (.lit (0))) (.cons (.int .i64 (.lit (0))) (.cons (.int .i64 (.lit (0))) (.cons (.int .i64 (.lit (0))) (.cons wHostX_x0 .nil))))))))))))) (.b2 .le (.iapp 25 (.cons (.int .i64 (.lit (0))) (.cons (.int .i64 (.lit (0))) (.cons (.int .i64 (.lit (0))) (.cons (.int .i64 (.lit (0))) (.cons (.int .u32 (.lit (0))) (.cons (.int .i64 (.lit (0))) (.cons (.int .u32 (.lit (0))) (.cons (.int .i64 (.lit (0))) (.cons (.int .i64 (.lit (0))) (.cons (.int .i64 (.lit (0))) (.cons wHostX_x0 .nil)))))))))))) (.lit (9223372036854775807))))
 (.need (.b2 .and (.b2 .le (.lit (-9223372036854775808)) (.wrap .i64 (.i2 .sub (.iapp 25 (.cons (.int .i64 (.lit (0))) (.cons (.int .i64 (.lit (0))) (.cons (.int .i64 (.lit (0))) (.cons (.int .i64 (.lit (0))) (.cons (.int .u32 (.lit (0))) (.cons (.int .i64 (.lit (0))) (.cons (.int .u32 (.lit (0))) (.cons (.int .i64 (.lit (0))) (.cons (.int .i64 (.lit (0))) (.cons (.int .i64 (.lit (0))) (.cons wHostX_x0 .nil)))))))))))) (.lit (1))))) (.b2 .le (.wrap .i64 (.i2 .sub (.iapp 25 (.cons (.int .i64 (.lit (0))) (.cons (.int .i64 (.lit (0))) (.cons (.int .i64 (.lit (0))) (.cons (.int .i64 (.lit (0))) (.cons (.int .u32 (.lit (0))) (.cons (.int .i64 (.lit (0))) (.cons (.int .u32 (.lit (0))) (.cons (.int .i64 (.lit (0))) (.cons (.int .i64 (.lit (0))) (.cons (.int .i64 (.lit (0))) (.cons wHostX_x0 .nil)))))))))))) (.lit (1)))) (.lit (9223372036854775807))))
 (.need (.b2 .and (.b2 .le (.lit (-9223372036854775808)) (.wrap .i64 (.i2 .sub (.iapp 25 (.cons (.int .i64 (.lit (0))) (.cons (.int .i64 (.lit (0))) (.cons (.int .i64 (.lit (0))) (.cons (.int .i64 (.lit (0))) (.cons (.int .u32 (.lit (0))) (.cons (.int .i64 (.lit (0))) (.cons (.int .u32 (.lit (0))) (.cons (.int .i64 (.lit (0))) (.cons (.int .i64 (.lit (0))) (.cons (.int .i64 (.lit (0))) (.cons wHostX_x0 .nil)))))))))))) (.lit (1))))) (.b2 .le (.wrap .i64 (.i2 .sub (.iapp 25 (.cons (.int .i64 (.lit (0))) (.cons (.int .i64 (.lit (0))) (.cons (.int .i64 (.lit (0))) (.cons (.int .i64 (.lit (0))) (.cons (.int .u32 (.lit (0))) (.cons (.int .i64 (.lit (0))) (.cons (.int .u32 (.lit (0))) (.cons (.int .i64 (.lit (0))) (.cons (.int .i64 (.lit (0))) (.cons (.int .i64 (.lit (0))) (.cons wHostX_x0 .nil)))))))))))) (.lit (1)))) (.lit (9223372036854775807))))
 (.br (.b2 .eq (.iapp 20 (.cons (.int .i64 (.lit (0))) (.cons (.int .i64 (.lit (0))) (.cons (.int .i64 (.lit (0))) (.cons (.int .i64 (.lit (0))) (.cons (.int .u32 (.lit (0))) (.cons (.int .i64 (.lit (0))) (.cons (.int .u32 (.lit (0))) (.cons (.int .i64 (.lit (0))) (.cons (.int .i64 (.lit (0))) (.cons (.int .i64 (.lit (0))) (.cons wHostX_x2 .nil)))))))))))) (.lit (0)))
 (.br (.b2 .le (.iapp 21 (.cons (.int .i64 (.lit (0))) (.cons (.int .i64 (.lit (0))) (.cons (.int .i64 (.lit (0))) (.cons (.int .i64 (.lit (0))) (.cons (.int .u32 (.lit (0))) (.cons (.int .i64 (.lit (0))) (.cons (.int .u32 (.lit (0))) (.cons (.int .i64 (.lit (0))) (.cons (.int .i64 (.lit (0))) (.cons (.int .i64 (.lit (0))) (.cons (.int .i64 (.i2 .min (.var 13) (.var 14))) .nil)))))))))))) (.iapp 21 (.cons (.int .i64 (.lit (0))) (.cons (.int .i64 (.lit (0))) (.cons (.int .i64 (.lit (0))) (.cons (.int .i64 (.lit (0))) (.cons (.int .u32 (.lit (0))) (.cons (.int .i64 (.lit (0))) (.cons (.int .u32 (.lit (0))) (.cons (.int .i64 (.lit (0))) (.cons (.int .i64 (.lit (0))) (.cons (.int .i64 (.lit (0))) (.cons wHostX_x2 .nil)))))))))))))
 (.br (.not (.b2 .eq (.iapp 20 (.cons (.int .i64 (.lit (0))) (.cons (.int .i64 (.lit (0))) (.cons (.int .i64 (.lit (0))) (.cons (.int .i64 (.lit (0))) (.cons (.int .u32 (.lit (0))) (.cons (.int .i64 (.lit (0))) (.cons (.int .u32 (.lit (0))) (.cons (.int .i64 (.lit (0))) (.cons (.int .i64 (.lit (0))) (.cons (.int .i64 (.lit (0))) (.cons wHostX_x1 .nil)))))))))))) (.lit (0))))
 (.ret (.bool (.tt true)))
 (.br (.b2 .lt (.iapp 21 (.cons (.int .i64 (.lit (0))) (.cons (.int .i64 (.lit (0))) (.cons (.int .i64 (.lit (0))) (.cons (.int .i64 (.lit (0))) (.cons (.int .u32 (.lit (0))) (.cons (.int .i64 (.lit (0))) (.cons (.int .u32 (.lit (0))) (.cons (.int .i64 (.lit (0))) (.cons (.int .i64 (.lit (0))) (.cons (.int .i64 (.lit (0))) (.cons wHostX_x1 .nil)))))))))))) (.iapp 21 (.cons (.int .i64 (.lit (0))) (.cons (.int .i64 (.lit (0))) (.cons (.int .i64 (.lit (0))) (.cons (.int .i64 (.lit (0))) (.cons (.int .u32 (.lit (0))) (.cons (.int .i64 (.lit (0))) (.cons (.int .u32 (.lit (0))) (.cons (.int .i64 (.lit (0))) (.cons (.int .i64 (.lit (0))) (.cons (.int .i64 (.lit (0))) (.cons (.int .i64 (.i2 .min (.var 13) (.var 14))) .nil)))))))))))))
 (.ret (.bool (.tt true)))
 (.ret (.bool (.tt false)))))
 (.ret (.bool (.tt false))))
 (.ret (.bool (.tt false))))))))))))
 (.need (.b2 .and (.b2 .le (.lit (-9223372036854775808)) (.iapp 21 (.cons (.int .i64 (.lit (0))) (.cons (.int .i64 (.lit (0))) (.cons (.int .i64 (.lit (0))) (.cons (.int .i64 (.lit (0))) (.cons (.int .u32 (.lit (0))) (.cons (.int .i64 (.lit (0))) (.cons (.int .u32 (.lit (0))) (.cons (.int .i64 (.lit (0))) (.cons (.int .i64 (.lit (0))) (.cons (.int .i64 (.lit (0))) (.cons (.int .i64 (.i2 .min (.var 13) (.var 14))) .nil))))))))))))) (.b2 .le (.iapp 21 (.cons (.int .i64 (.lit (0))) (.cons (.int .i64 (.lit (0))) (.cons (.int .i64 (.lit (0))) (.cons (.int .i64 (.lit (0))) (.cons (.int .u32 (.lit (0))) (.cons (.int .i64 (.lit (0))) (.cons (.int .u32 (.lit (0))) (.cons (.int .i64 (.lit (0))) (.cons (.int .i64 (.lit (0))) (.cons (.int .i64 (.lit (0))) (.cons (.int .i64 (.i2 .min (.var 13) (.var 14))) .nil)))))))))))) (.lit (9223372036854775807))))
 (.br (.not (.b2 .eq (.iapp 24 (.cons (.int .i64 (.lit (0))) (.cons (.int .i64 (.lit (0))) (.cons (.int .i64 (.lit (0))) (.cons (.int .i64 (.lit (0))) (.cons (.int .u32 (.lit (0))) (.cons (.int .i64 (.lit (0))) (.cons (.int .u32 (.lit (0))) (.cons (.int .i64 (.lit (0))) (.cons (.int .i64 (.lit (0))) (.cons (.int .i64 (.lit (0))) (.cons wHostX_x0 .nil)))))))))))) (.lit (0))))
 (.ret (.bool (.tt false)))
 (.br (.b2 .lt (.i2 .min (.var 13) (.var 14)) (.iapp 25 (.cons (.int .i64 (.lit (0))) (.cons (.int .i64 (.lit (0))) (.cons (.int .i64 (.lit (0))) (.cons (.int .i64 (.lit (0))) (.cons (.int .u32 (.lit (0))) (.cons (.int .i64 (.lit (0))) (.cons (.int .u32 (.lit (0))) (.cons (.int .i64 (.lit (0))) (.cons (.int .i64 (.lit (0))) (.cons (.int .i64 (.lit (0))) (.cons wHostX_x0 .nil)))))))))))))
 (.ret (.bool (.tt false)))
 (.need (.b2 .and (.b2 .le (.lit (-9223372036854775808)) (.iapp 25 (.cons (.int .i64 (.lit (0))) (.cons (.int .i64 (.lit (0))) (.cons (.int .i64 (.lit (0))) (.cons (.int .i64 (.lit (0))) (.cons (.int .u32 (.lit (0))) (.cons (.int .i64 (.lit (0))) (.cons (.int .u32 (.lit (0))) (.cons (.int .i64 (.lit (0))) (.cons (.int .i64 (.lit (0))) (.cons (.int .i64 (.lit (0))) (.cons wHostX_x0 .nil))))))))))))) (.b2 .le (.iapp 25 (.cons (.int .i64 (.lit (0))) (.cons (.int .i64 (.lit (0))) (.cons (.int .i64 (.lit (0))) (.cons (.int .i64 (.lit (0))) (.cons (.int .u32 (.lit (0))) (.cons (.int .i64 (.lit (0))) (.cons (.int .u32 (.lit (0))) (.cons (.int .i64 (.lit (0))) (.cons (.int .i64 (.lit (0))) (.cons (.int .i64 (.lit (0))) (.cons wHostX_x0 .nil)))))))))))) (.lit (9223372036854775807))))
 (.need (.b2 .and (.b2 .le (.lit (-9223372036854775808)) (.wrap .i64 (.i2 .sub (.iapp 25 (.cons (.int .i64 (.lit (0))) (.cons (.int .i64 (.lit (0))) (.cons (.int .i64 (.lit (0))) (.cons (.int .i64 (.lit (0))) (.cons (.int .u32 (.lit (0))) (.cons (.int .i64 (.lit (0))) (.cons (.int .u32 (.lit (0))) (.cons (.int .i64 (.lit (0))) (.cons (.int .i64 (.lit (0))) (.cons (.int .i64 (.lit (0))) (.cons wHostX_x0 .nil)))))))))))) (.lit (1))))) (.b2 .le (.wrap .i64 (.i2 .sub (.iapp 25 (.cons (.int .i64 (.lit (0))) (.cons (.int .i64 (.lit (0))) (.cons (.int .i64 (.lit (0))) (.cons (.int .i64 (.lit (0))) (.cons (.int .u32 (.lit (0))) (.cons (.int .i64 (.lit (0))) (.cons (.int .u32 (.lit (0))) (.cons (.int .i64 (.lit (0))) (.cons (.int .i64 (.lit (0))) (.cons (.int .i64 (.lit (0))) (.cons wHostX_x0 .nil)))))))))))) (.lit (1)))) (.lit (9223372036854775807))))
 (.need (.b2 .and (.b2 .le (.lit (-9223372036854775808)) (.wrap .i64 (.i2 .sub (.iapp 25 (.cons (.int .i64 (.lit (0))) (.cons (.int .i64 (.lit (0))) (.cons (.int .i64 (.lit (0))) (.cons (.int .i64 (.lit (0))) (.cons (.int .u32 (.lit (0))) (.cons (.int .i64 (.lit (0))) (.cons (.int .u32 (.lit (0))) (.cons (.int .i64 (.lit (0))) (.cons (.int .i64 (.lit (0))) (.cons (.int .i64 (.lit (0))) (.cons wHostX_x0 .nil)))))))))))) (.lit (1))))) (.b2 .le (.wrap .i64 (.i2 .sub (.iapp 25 (.cons (.int .i64 (.lit (0))) (.cons (.int .i64 (.lit (0))) (.cons (.int .i64 (.lit (0))) (.cons (.int .i64 (.lit (0))) (.cons (.int .u32 (.lit (0))) (.cons (.int .i64 (.lit (0))) (.cons (.int .u32 (.lit (0))) (.cons (.int .i64 (.lit (0))) (.cons (.int .i64 (.lit (0))) (.cons (.int .i64 (.lit (0))) (.cons wHostX_x0 .nil)))))))))))) (.lit (1)))) (.lit (9223372036854775807))))
 (.br (.b2 .eq (.iapp 20 (.cons (.int .i64 (.lit (0))) (.cons (.int .i64 (.lit (0))) (.cons (.int .i64 (.lit (0))) (.cons (.int .i64 (.lit (0))) (.cons (.int .u32 (.lit (0))) (.cons (.int .i64 (.lit (0))) (.cons (.int .u32 (.lit (0))) (.cons (.int .i64 (.lit (0))) (.cons (.int .i64 (.lit (0))) (.cons (.int .i64 (.lit (0))) (.cons wHostX_x2 .nil)))))))))))) (.lit (0)))
 (.br (.b2 .le (.iapp 21 (.cons (.int .i64 (.lit (0))) (.cons (.int .i64 (.lit (0))) (.cons (.int .i64 (.lit (0))) (.cons (.int .i64 (.lit (0))) (.cons (.int .u32 (.lit (0))) (.cons (.int .i64 (.lit (0))) (.cons (.int .u32 (.lit (0))) (.cons (.int .i64 (.lit (0))) (.cons (.int .i64 (.lit (0))) (.cons (.int .i64 (.lit (0))) (.cons (.int .i64 (.i2 .min (.var 13) (.var 14))) .nil)))))))))))) (.iapp 21 (.cons (.int .i64 (.lit (0))) (.cons (.int .i64 (.lit (0))) (.cons (.int .i64 (.lit (0))) (.cons (.int .i64 (.lit (0))) (.cons (.int .u32 (.lit (0))) (.cons (.int .i64 (.lit (0))) (.cons (.int .u32 (.lit (0))) (.cons (.int .i64 (.lit (0))) (.cons (.int .i64 (.lit (0))) (.cons (.int .i64 (.lit (0))) (.cons wHostX_x2 .nil)))))))))))))
 (.br (.not (.b2 .eq (.iapp 20 (.cons (.int .i64 (.lit (0))) (.cons (.int .i64 (.lit (0))) (.cons (.int .i64 (.lit (0))) (.cons (.int .i64 (.lit (0))) (.cons (.int .u32 (.lit (0))) (.cons (.int .i64 (.lit (0))) (.cons (.int .u32 (.lit (0))) (.cons (.int .i64 (.lit (0))) (.cons (.int .i64 (.lit (0))) (.cons (.int .i64 (.lit (0))) (.cons wHostX_x1 .nil)))))))))))) (.lit (0))))
 (.ret (.bool (.tt true)))
 (.br (.b2 .lt (.iapp 21 (.cons (.int .i64 (.lit (0))) (.cons (.int .i64 (.lit (0))) (.cons (.int .i64 (.lit (0))) (.cons (.int .i64 (.lit (0))) (.cons (.int .u32 (.lit (0))) (.cons (.int .i64 (.lit (0))) (.cons (.int .u32 (.lit (0))) (.cons (.int .i64 (.lit (0))) (.cons (.int .i64 (.lit (0))) (.cons (.int .i64 (.lit (0))) (.cons wHostX_x1 .nil)))))))))))) (.iapp 21 (.cons (.int .i64 (.lit (0))) (.cons (.int .i64 (.lit (0))) (.cons (.int .i64 (.lit (0))) (.cons (.int .i64 (.lit (0))) (.cons (.int .u32 (.lit (0))) (.cons (.int .i64 (.lit (0))) (.cons (.int .u32 (.lit (0))) (.cons (.int .i64 (.lit (0))) (.cons (.int .i64 (.lit (0))) (.cons (.int .i64 (.lit (0))) (.cons (.int .i64 (.i2 .min (.var 13) (.var 14))) .nil)))))))))))))
 (.ret (.bool (.tt true)))
 (.ret (.bool (.tt false)))))
 (.ret (.bool (.tt false))))
 (.ret (.bool (.tt false))))))))))))))
 (.need (.b2 .and (.b2 .le (.lit (-9223372036854775808)) (.i2 .max (.var 13) (.var 14))) (.b2 .le (.i2 .max (.var 13) (.var 14)) (.lit (9223372036854775807))))
 (.br (.b2 .eq (.iapp 20 (.cons (.int .i64 (.lit (0))) (.cons (.int .i64 (.lit (0))) (.cons (.int .i64 (.lit (0))) (.cons (.int .i64 (.lit (0))) (.cons (.int .u32 (.lit (0))) (.cons (.int .i64 (.lit (0))) (.cons (.int .u32 (.lit (0))) (.cons (.int .i64 (.lit (0))) (.cons (.int .i64 (.lit (0))) (.cons (.int .i64 (.lit (0))) (.cons (.int .i64 (.i2 .min (.var 13) (.var 14))) .nil)))))))))))) (.lit (10)))
 (.ret (.bool (.tt true)))
 (.br (.b2 .eq (.iapp 20 (.cons (.int .i64 (.lit (0))) (.cons (.int .i64 (.lit (0))) (.cons (.int .i64 (.lit (0))) (.cons (.int .i64 (.lit (0))) (.cons (.int .u32 (.lit (0))) (.cons (.int .i64 (.lit (0))) (.cons (.int .u32 (.lit (0))) (.cons (.int .i64 (.lit (0))) (.cons (.int .i64 (.lit (0))) (.cons (.int .i64 (.lit (0))) (.cons (.int .i64 (.i2 .min (.var 13) (.var 14))) .nil)))))))))))) (.lit (14)))
 (.ret (.bool (.tt true)))
 (.br (.b2 .eq (.iapp 20 (.cons (.int .i64 (.lit (0))) (.cons (.int .i64 (.lit (0))) (.cons (.int .i64 (.lit (0))) (.cons (.int .i64 (.lit (0))) (.cons (.int .u32 (.lit (0))) (.cons (.int .i64 (.lit (0))) (.cons (.int .u32 (.lit (0))) (.cons (.int .i64 (.lit (0))) (.cons (.int .i64 (.lit (0))) (.cons (.int .i64 (.lit (0))) (.cons (.int .i64 (.i2 .min (.var 13) (.var 14))) .nil)))))))))))) (.lit (2)))
 (.ret (.bool (.tt true)))
 (.ret (.bool (.tt false))))))))))))
abbrev ync_wHostX : Con := ⟨14, [(.agg (.cons (.int .u32 (.var 0)) (.cons (.int .i64 (.var 1)) (.cons (.int .i64 (.var 2)) (.cons (.int .i64 (.var 3)) (.cons (.int .i64 (.var 4)) (.cons (.int .i64 (.var 5)) (.cons (.int .i64 (.var 6)) (.cons (.bool (.bvar 0)) (.cons (.int .i64 (.var 7)) (.cons (.int .i64 (.var 8)) (.cons (.int .i64 (.var 9)) (.cons (.int .i64 (.var 10)) (.cons (.int .i64 (.var 11)) .nil)))))))))))))), (.int .i64 (.var 12)), (.agg (.cons (.int .i64 (.var 13)) (.cons (.int .i64 (.var 14)) .nil)))], (.b2 .and (.b2 .and (.b2 .and (.b2 .and (.b2 .le (.lit (0)) (.var 0)) (.b2 .le (.var 0) (.lit (4294967295)))) (.b2 .and (.b2 .and (.b2 .le (.lit (-9223372036854775808)) (.var 1)) (.b2 .le (.var 1) (.lit (9223372036854775807)))) (.b2 .and (.b2 .and (.b2 .le (.lit (-9223372036854775808)) (.var 2)) (.b2 .le (.var 2) (.lit (9223372036854775807)))) (.b2 .and (.b2 .and (.b2 .le (.lit (-9223372036854775808)) (.var 3)) (.b2 .le (.var 3) (.lit (9223372036854775807)))) (.b2 .and (.b2 .and (.b2 .le (.lit (-9223372036854775808)) (.var 4)) (.b2 .le (.var 4) (.lit (9223372036854775807)))) (.b2 .and (.b2 .and (.b2 .le (.lit (-9223372036854775808)) (.var 5)) (.b2 .le (.var 5) (.lit (9223372036854775807)))) (.b2 .and (.b2 .and (.b2 .le (.lit (-9223372036854775808)) (.var 6)) (.b2 .le (.var 6) (.lit (9223372036854775807)))) (.b2 .and (.b2 .and (.b2 .le (.lit (-9223372036854775808)) (.var 7)) (.b2 .le (.var 7) (.lit (9223372036854775807)))) (.b2 .and (.b2 .and (.b2 .le (.lit (-9223372036854775808)) (.var 8)) (.b2 .le (.var 8) (.lit (9223372036854775807)))) (.b2 .and (.b2 .and (.b2 .le (.lit (-9223372036854775808)) (.var 9)) (.b2 .le (.var 9) (.lit (9223372036854775807)))) (.b2 .and (.b2 .and (.b2 .le (.lit (-9223372036854775808)) (.var 10)) (.b2 .le (.var 10) (.lit (9223372036854775807)))) (.b2 .and (.b2 .le (.lit (-9223372036854775808)) (.var 11)) (.b2 .le (.var 11) (.lit (9223372036854775807))))))))))))))) (.b2 .and (.b2 .and (.b2 .le (.lit (-9223372036854775808)) (.var 12)) (.b2 .le (.var 12) (.lit (9223372036854775807)))) (.b2 .and (.b2 .and (.b2 .le (.lit (-9223372036854775808)) (.var 13)) (.b2 .le (.var 13) (.lit (9223372036854775807)))) (.b2 .and (.b2 .le (.lit (-9223372036854775808)) (.var 14)) (.b2 .le (.var 14) (.lit (9223372036854775807))))))) (.not (.b2 .and (.bapp 4 (.cons (.tup (.cons (.int .u32 (.var 0)) (.cons (.int .i64 (.var 1)) (.cons (.int .i64 (.var 2)) (.cons (.int .i64 (.var 3)) (.cons (.int .i64 (.var 4)) (.cons (.int .i64 (.var 5)) (.cons (.int .i64 (.var 6)) (.cons (.bool (.bvar 0)) (.cons (.int .i64 (.var 7)) (.cons (.int .i64 (.var 8)) (.cons (.int .i64 (.var 9)) (.cons (.int .i64 (.var 10)) (.cons (.int .i64 (.var 11)) .nil)))))))))))))) .nil)) (.b2 .and (.bvar 0) (.b2 .and (.b2 .eq (.iapp 29 (.cons (.int .u32 (.var 0)) (.cons (.int .i64 (.var 1)) (.cons (.int .i64 (.var 10)) .nil)))) (.lit (0))) (.b2 .and (.b2 .le (.lit (0)) (.lit (1))) (.b2 .and (.b2 .le (.lit (1)) (.lit (1099511627776))) (.b2 .and (.b2 .le (.lit (1)) (.var 12)) (.b2 .le (.var 12) (.lit (1125899906842624))))))))))), (.bool (.tt true)), ⟨15, 1, 0, 0⟩, none⟩
theorem wHostX_w : walk Tryd.prog 229 ⟨[ync_giveh, ync_pofx, ybc_time, yic_now, ync_num, ycc_when, ync_sure22], syG, [], [], []⟩ [] .v ync_wHostX ync_wHostX.n 3000 = some wHostX_tree := by kernel_rfl
theorem wHostX_h (rm : Int) (rs : Int) (rr : Int) (gp : Int) (gi : Int) (rl : Int) (ro : Int) (hb : Int) (ht : Int) (he : Int) (sf : Int) (ss : Int) (c : Int) (o0 : Int) (o1 : Int) (sy : Bool) (hc : holds (ynE [rm, rs, rr, gp, gi, rl, ro, hb, ht, he, sf, ss, c, o0, o1] [sy] [] []) (.b2 .and (.b2 .and (.b2 .and (.b2 .and (.b2 .le (.lit (0)) (.var 0)) (.b2 .le (.var 0) (.lit (4294967295)))) (.b2 .and (.b2 .and (.b2 .le (.lit (-9223372036854775808)) (.var 1)) (.b2 .le (.var 1) (.lit (9223372036854775807)))) (.b2 .and (.b2 .and (.b2 .le (.lit (-9223372036854775808)) (.var 2)) (.b2 .le (.var 2) (.lit (9223372036854775807)))) (.b2 .and (.b2 .and (.b2 .le (.lit (-9223372036854775808)) (.var 3)) (.b2 .le (.var 3) (.lit (9223372036854775807)))) (.b2 .and (.b2 .and (.b2 .le (.lit (-9223372036854775808)) (.var 4)) (.b2 .le (.var 4) (.lit (9223372036854775807)))) (.b2 .and (.b2 .and (.b2 .le (.lit (-9223372036854775808)) (.var 5)) (.b2 .le (.var 5) (.lit (9223372036854775807)))) (.b2 .and (.b2 .and (.b2 .le (.lit (-9223372036854775808)) (.var 6)) (.b2 .le (.var 6) (.lit (9223372036854775807)))) (.b2 .and (.b2 .and (.b2 .le (.lit (-9223372036854775808)) (.var 7)) (.b2 .le (.var 7) (.lit (9223372036854775807)))) (.b2 .and (.b2 .and (.b2 .le (.lit (-9223372036854775808)) (.var 8)) (.b2 .le (.var 8) (.lit (9223372036854775807)))) (.b2 .and (.b2 .and (.b2 .le (.lit (-9223372036854775808)) (.var 9)) (.b2 .le (.var 9) (.lit (9223372036854775807)))) (.b2 .and (.b2 .and (.b2 .le (.lit (-9223372036854775808)) (.var 10)) (.b2 .le (.var 10) (.lit (9223372036854775807)))) (.b2 .and (.b2 .le (.lit (-9223372036854775808)) (.var 11)) (.b2 .le (.var 11) (.lit (9223372036854775807))))))))))))))) (.b2 .and (.b2 .and (.b2 .le (.lit (-9223372036854775808)) (.var 12)) (.b2 .le (.var 12) (.lit (9223372036854775807)))) (.b2 .and (.b2 .and (.b2 .le (.lit (-9223372036854775808)) (.var 13)) (.b2 .le (.var 13) (.lit (9223372036854775807)))) (.b2 .and (.b2 .le (.lit (-9223372036854775808)) (.var 14)) (.b2 .le (.var 14) (.lit (9223372036854775807))))))) (.not (.b2 .and (.bapp 4 (.cons (.tup (.cons (.int .u32 (.var 0)) (.cons (.int .i64 (.var 1)) (.cons (.int .i64 (.var 2)) (.cons (.int .i64 (.var 3)) (.cons (.int .i64 (.var 4)) (.cons (.int .i64 (.var 5)) (.cons (.int .i64 (.var 6)) (.cons (.bool (.bvar 0)) (.cons (.int .i64 (.var 7)) (.cons (.int .i64 (.var 8)) (.cons (.int .i64 (.var 9)) (.cons (.int .i64 (.var 10)) (.cons (.int .i64 (.var 11)) .nil)))))))))))))) .nil)) (.b2 .and (.bvar 0) (.b2 .and (.b2 .eq (.iapp 29 (.cons (.int .u32 (.var 0)) (.cons (.int .i64 (.var 1)) (.cons (.int .i64 (.var 10)) .nil)))) (.lit (0))) (.b2 .and (.b2 .le (.lit (0)) (.lit (1))) (.b2 .and (.b2 .le (.lit (1)) (.lit (1099511627776))) (.b2 .and (.b2 .le (.lit (1)) (.var 12)) (.b2 .le (.var 12) (.lit (1125899906842624)))))))))))) (hty : patsTyp (ynE [rm, rs, rr, gp, gi, rl, ro, hb, ht, he, sf, ss, c, o0, o1] [sy] [] []) [(.agg (.cons (.int .u32 (.var 0)) (.cons (.int .i64 (.var 1)) (.cons (.int .i64 (.var 2)) (.cons (.int .i64 (.var 3)) (.cons (.int .i64 (.var 4)) (.cons (.int .i64 (.var 5)) (.cons (.int .i64 (.var 6)) (.cons (.bool (.bvar 0)) (.cons (.int .i64 (.var 7)) (.cons (.int .i64 (.var 8)) (.cons (.int .i64 (.var 9)) (.cons (.int .i64 (.var 10)) (.cons (.int .i64 (.var 11)) .nil)))))))))))))), (.int .i64 (.var 12)), (.agg (.cons (.int .i64 (.var 13)) (.cons (.int .i64 (.var 14)) .nil)))]) : wHostX_tree.holds (fun v_ => v_ = denV (ynE [rm, rs, rr, gp, gi, rl, ro, hb, ht, he, sf, ss, c, o0, o1] [sy] [] []) b0 (.bool (.tt true))) (ynE [rm, rs, rr, gp, gi, rl, ro, hb, ht, he, sf, ss, c, o0, o1] [sy] [] []) := by
  simp only [Tree.holds, Sy.holds, AllN, Env.more, ynE, List.cons_append, List.nil_append, List.append_nil, denV, denI, denB, denL, I2.den, VOp.den, List.getD_cons_zero, List.getD_cons_succ, Cst.den, syso, syse, syio, sybo, yni_ade, ynb_hm, List.map_nil, List.map_cons, B2.ofInts, B2.denI, B2.denB, if_true, Bool.false_eq_true, if_false, Nat.div_one, Nat.mul_one, Nat.add_zero, holds] at hc
  simp only [patsTyp, patTyp, patTypL, ynE, denV, denL, List.getD_cons_zero, List.getD_cons_succ, and_true, true_and] at hty
  unfold wHostX_tree
  simp only [wHostX_x0, wHostX_x1, wHostX_x2, wHostX_x3]
  simp only [Tree.holds, Sy.holds, AllN, Env.more, ynE, List.cons_append, List.nil_append, List.append_nil, denV, denI, denB, denL, I2.den, VOp.den, List.getD_cons_zero, List.getD_cons_succ, Cst.den, syso, syse, syio, sybo, yni_tme, yni_tmt, yni_tmo, yni_whe, yni_whv, yni_ade, yni_nwe, yni_nwt, yni_nwo, yni_ofe, ynb_hm, List.map_nil, List.map_cons, B2.ofInts, B2.denI, B2.denB, if_true, Bool.false_eq_true, if_false, Nat.div_one, Nat.mul_one, Nat.add_zero]
  simp only [hoL_eq, hoB_eq, ofE_eq]
  have hn := hc.2
  have ho := of_or rm rs rr gp gi rl ro hb ht he sf ss sy 1 c
  refine ⟨?_, fun h0 => ?_⟩
  ·
   first
   | exact True.intro
   | omega
   | exact ⟨hc.1.1, hc.1.2.1, fun h => hn ⟨h.1, h.2.1, h.2.2.1, by decide, by decide, h.2.2.2⟩⟩
   | exact ⟨hc.1.1, by omega, by omega, hn⟩
   | (exfalso; rcases ho with ⟨q, e⟩ | ⟨⟨hp, q0, q1, q2, q3, q4⟩, ⟨hs, e⟩ | ⟨hs, e⟩⟩ <;> first | omega | exact hn ⟨decide_eq_true hp, hs, by omega, by decide, by decide, q3, q4⟩)
   | exact ⟨hc.1.1, (by constructor <;> omega), hn⟩
   | skip
  ·
   refine ⟨fun h1 => ?_, fun h1 => ?_⟩
   ·
    first
    | exact True.intro
    | rfl
    | (exfalso; rcases ho with ⟨q, e⟩ | ⟨⟨hp, q0, q1, q2, q3, q4⟩, ⟨hs, e⟩ | ⟨hs, e⟩⟩ <;> first | omega | exact hn ⟨decide_eq_true hp, hs, by omega, by decide, by decide, q3, q4⟩)
    | skip
   ·
    refine ⟨?_, fun h2 => ?_⟩
    ·
     first
     | exact True.intro
     | omega
     | exact ⟨hc.1.1, hc.1.2.1, fun h => hn ⟨h.1, h.2.1, h.2.2.1, by decide, by decide, h.2.2.2⟩⟩
     | exact ⟨hc.1.1, by omega, by omega, hn⟩
     | (exfalso; rcases ho with ⟨q, e⟩ | ⟨⟨hp, q0, q1, q2, q3, q4⟩, ⟨hs, e⟩ | ⟨hs, e⟩⟩ <;> first | omega | exact hn ⟨decide_eq_true hp, hs, by omega, by decide, by decide, q3, q4⟩)
     | exact ⟨hc.1.1, (by constructor <;> omega), hn⟩
     | skip
    ·
     refine ⟨?_, fun h3 => ?_⟩
     ·
      first
      | exact True.intro
      | omega
      | exact ⟨hc.1.1, hc.1.2.1, fun h => hn ⟨h.1, h.2.1, h.2.2.1, by decide, by decide, h.2.2.2⟩⟩
      | exact ⟨hc.1.1, by omega, by omega, hn⟩
      | (exfalso; rcases ho with ⟨q, e⟩ | ⟨⟨hp, q0, q1, q2, q3, q4⟩, ⟨hs, e⟩ | ⟨hs, e⟩⟩ <;> first | omega | exact hn ⟨decide_eq_true hp, hs, by omega, by decide, by decide, q3, q4⟩)
      | exact ⟨hc.1.1, (by constructor <;> omega), hn⟩
      | skip
     ·
      refine ⟨fun h4 => ?_, fun h4 => ?_⟩
      ·
       refine ⟨fun h5 => ?_, fun h5 => ?_⟩
       ·
        refine ⟨fun h6 => ?_, fun h6 => ?_⟩
        ·
         first
         | exact True.intro
         | rfl
         | (exfalso; rcases ho with ⟨q, e⟩ | ⟨⟨hp, q0, q1, q2, q3, q4⟩, ⟨hs, e⟩ | ⟨hs, e⟩⟩ <;> first | omega | exact hn ⟨decide_eq_true hp, hs, by omega, by decide, by decide, q3, q4⟩)
         | skip
        ·
         refine ⟨fun h7 => ?_, fun h7 => ?_⟩
         ·
          first
          | exact True.intro
          | rfl
          | (exfalso; rcases ho with ⟨q, e⟩ | ⟨⟨hp, q0, q1, q2, q3, q4⟩, ⟨hs, e⟩ | ⟨hs, e⟩⟩ <;> first | omega | exact hn ⟨decide_eq_true hp, hs, by omega, by decide, by decide, q3, q4⟩)
          | skip
         ·
          refine ⟨?_, fun h8 => ?_⟩
          ·
           first
           | exact True.intro
           | omega
           | exact ⟨hc.1.1, hc.1.2.1, fun h => hn ⟨h.1, h.2.1, h.2.2.1, by decide, by decide, h.2.2.2⟩⟩
           | exact ⟨hc.1.1, by omega, by omega, hn⟩
           | (exfalso; rcases ho with ⟨q, e⟩ | ⟨⟨hp, q0, q1, q2, q3, q4⟩, ⟨hs, e⟩ | ⟨hs, e⟩⟩ <;> first | omega | exact hn ⟨decide_eq_true hp, hs, by omega, by decide, by decide, q3, q4⟩)
           | exact ⟨hc.1.1, (by constructor <;> omega), hn⟩
           | skip
          ·
           refine ⟨fun h9 => ?_, fun h9 => ?_⟩
           ·
            refine ⟨fun h10 => ?_, fun h10 => ?_⟩
            ·
             first
             | exact True.intro
             | rfl
             | (exfalso; rcases ho with ⟨q, e⟩ | ⟨⟨hp, q0, q1, q2, q3, q4⟩, ⟨hs, e⟩ | ⟨hs, e⟩⟩ <;> first | omega | exact hn ⟨decide_eq_true hp, hs, by omega, by decide, by decide, q3, q4⟩)
             | skip
            ·
             refine ⟨fun h11 => ?_, fun h11 => ?_⟩
             ·
              first
              | exact True.intro
              | rfl
              | (exfalso; rcases ho with ⟨q, e⟩ | ⟨⟨hp, q0, q1, q2, q3, q4⟩, ⟨hs, e⟩ | ⟨hs, e⟩⟩ <;> first | omega | exact hn ⟨decide_eq_true hp, hs, by omega, by decide, by decide, q3, q4⟩)
              | skip
             ·
              refine ⟨?_, fun h12 => ?_⟩
              ·
               first
               | exact True.intro
               | omega
               | exact ⟨hc.1.1, hc.1.2.1, fun h => hn ⟨h.1, h.2.1, h.2.2.1, by decide, by decide, h.2.2.2⟩⟩
               | exact ⟨hc.1.1, by omega, by omega, hn⟩
               | (exfalso; rcases ho with ⟨q, e⟩ | ⟨⟨hp, q0, q1, q2, q3, q4⟩, ⟨hs, e⟩ | ⟨hs, e⟩⟩ <;> first | omega | exact hn ⟨decide_eq_true hp, hs, by omega, by decide, by decide, q3, q4⟩)
               | exact ⟨hc.1.1, (by constructor <;> omega), hn⟩
               | skip
              ·
               refine ⟨fun h13 => ?_, fun h13 => ?_⟩
               ·
                first
                | exact True.intro
                | rfl
                | (exfalso; rcases ho with ⟨q, e⟩ | ⟨⟨hp, q0, q1, q2, q3, q4⟩, ⟨hs, e⟩ | ⟨hs, e⟩⟩ <;> first | omega | exact hn ⟨decide_eq_true hp, hs, by omega, by decide, by decide, q3, q4⟩)
                | skip
               ·
                refine ⟨fun h14 => ?_, fun h14 => ?_⟩
                ·
                 first
                 | exact True.intro
                 | rfl
                 | (exfalso; rcases ho with ⟨q, e⟩ | ⟨⟨hp, q0, q1, q2, q3, q4⟩, ⟨hs, e⟩ | ⟨hs, e⟩⟩ <;> first | omega | exact hn ⟨decide_eq_true hp, hs, by omega, by decide, by decide, q3, q4⟩)
                 | skip
                ·
                 refine ⟨?_, fun h15 => ?_⟩
                 ·
                  first
                  | exact True.intro
                  | omega
                  | exact ⟨hc.1.1, hc.1.2.1, fun h => hn ⟨h.1, h.2.1, h.2.2.1, by decide, by decide, h.2.2.2⟩⟩
                  | exact ⟨hc.1.1, by omega, by omega, hn⟩
                  | (exfalso; rcases ho with ⟨q, e⟩ | ⟨⟨hp, q0, q1, q2, q3, q4⟩, ⟨hs, e⟩ | ⟨hs, e⟩⟩ <;> first | omega | exact hn ⟨decide_eq_true hp, hs, by omega, by decide, by decide, q3, q4⟩)
                  | exact ⟨hc.1.1, (by constructor <;> omega), hn⟩
                  | skip
                 ·
                  refine ⟨?_, fun h16 => ?_⟩
                  ·
                   first
                   | exact True.intro
                   | omega
                   | exact ⟨hc.1.1, hc.1.2.1, fun h => hn ⟨h.1, h.2.1, h.2.2.1, by decide, by decide, h.2.2.2⟩⟩
                   | exact ⟨hc.1.1, by omega, by omega, hn⟩
                   | (exfalso; rcases ho with ⟨q, e⟩ | ⟨⟨hp, q0, q1, q2, q3, q4⟩, ⟨hs, e⟩ | ⟨hs, e⟩⟩ <;> first | omega | exact hn ⟨decide_eq_true hp, hs, by omega, by decide, by decide, q3, q4⟩)
                   | exact ⟨hc.1.1, (by constructor <;> omega), hn⟩
                   | skip
                  ·
                   refine ⟨?_, fun h17 => ?_⟩
                   ·
                    first
                    | exact True.intro
                    | omega
                    | exact ⟨hc.1.1, hc.1.2.1, fun h => hn ⟨h.1, h.2.1, h.2.2.1, by decide, by decide, h.2.2.2⟩⟩
                    | exact ⟨hc.1.1, by omega, by omega, hn⟩
                    | (exfalso; rcases ho with ⟨q, e⟩ | ⟨⟨hp, q0, q1, q2, q3, q4⟩, ⟨hs, e⟩ | ⟨hs, e⟩⟩ <;> first | omega | exact hn ⟨decide_eq_true hp, hs, by omega, by decide, by decide, q3, q4⟩)
                    | exact ⟨hc.1.1, (by constructor <;> omega), hn⟩
                    | skip
                   ·
                    refine ⟨fun h18 => ?_, fun h18 => ?_⟩
                    ·
                     refine ⟨fun h19 => ?_, fun h19 => ?_⟩
                     ·
                      try simp only [hw0]
                      refine ⟨fun h20 => ?_, fun h20 => ?_⟩
                      ·
                       first
                       | exact True.intro
                       | rfl
                       | (exfalso; rcases ho with ⟨q, e⟩ | ⟨⟨hp, q0, q1, q2, q3, q4⟩, ⟨hs, e⟩ | ⟨hs, e⟩⟩ <;> first | omega | exact hn ⟨decide_eq_true hp, hs, by omega, by decide, by decide, q3, q4⟩)
                       | skip
                      ·
                       try simp only [hw0]
                       refine ⟨fun h21 => ?_, fun h21 => ?_⟩
                       ·
                        first
                        | exact True.intro
                        | rfl
                        | (exfalso; rcases ho with ⟨q, e⟩ | ⟨⟨hp, q0, q1, q2, q3, q4⟩, ⟨hs, e⟩ | ⟨hs, e⟩⟩ <;> first | omega | exact hn ⟨decide_eq_true hp, hs, by omega, by decide, by decide, q3, q4⟩)
                        | skip
                       ·
                        first
                        | exact True.intro
                        | rfl
                        | (exfalso; rcases ho with ⟨q, e⟩ | ⟨⟨hp, q0, q1, q2, q3, q4⟩, ⟨hs, e⟩ | ⟨hs, e⟩⟩ <;> first | omega | exact hn ⟨decide_eq_true hp, hs, by omega, by decide, by decide, q3, q4⟩)
                        | skip
                     ·
                      first
                      | exact True.intro
                      | rfl
                      | (exfalso; rcases ho with ⟨q, e⟩ | ⟨⟨hp, q0, q1, q2, q3, q4⟩, ⟨hs, e⟩ | ⟨hs, e⟩⟩ <;> first | omega | exact hn ⟨decide_eq_true hp, hs, by omega, by decide, by decide, q3, q4⟩)
                      | skip
                    ·
                     first
                     | exact True.intro
                     | rfl
                     | (exfalso; rcases ho with ⟨q, e⟩ | ⟨⟨hp, q0, q1, q2, q3, q4⟩, ⟨hs, e⟩ | ⟨hs, e⟩⟩ <;> first | omega | exact hn ⟨decide_eq_true hp, hs, by omega, by decide, by decide, q3, q4⟩)
                     | skip
           ·
            refine ⟨?_, fun h22 => ?_⟩
            ·
             first
             | exact True.intro
             | omega
             | exact ⟨hc.1.1, hc.1.2.1, fun h => hn ⟨h.1, h.2.1, h.2.2.1, by decide, by decide, h.2.2.2⟩⟩
             | exact ⟨hc.1.1, by omega, by omega, hn⟩
             | (exfalso; rcases ho with ⟨q, e⟩ | ⟨⟨hp, q0, q1, q2, q3, q4⟩, ⟨hs, e⟩ | ⟨hs, e⟩⟩ <;> first | omega | exact hn ⟨decide_eq_true hp, hs, by omega, by decide, by decide, q3, q4⟩)
             | exact ⟨hc.1.1, (by constructor <;> omega), hn⟩
             | skip
            ·
             refine ⟨fun h23 => ?_, fun h23 => ?_⟩
             ·
              first
              | exact True.intro
              | rfl
              | (exfalso; rcases ho with ⟨q, e⟩ | ⟨⟨hp, q0, q1, q2, q3, q4⟩, ⟨hs, e⟩ | ⟨hs, e⟩⟩ <;> first | omega | exact hn ⟨decide_eq_true hp, hs, by omega, by decide, by decide, q3, q4⟩)
              | skip
             ·
              refine ⟨fun h24 => ?_, fun h24 => ?_⟩
              ·
               first
               | exact True.intro
               | rfl
               | (exfalso; rcases ho with ⟨q, e⟩ | ⟨⟨hp, q0, q1, q2, q3, q4⟩, ⟨hs, e⟩ | ⟨hs, e⟩⟩ <;> first | omega | exact hn ⟨decide_eq_true hp, hs, by omega, by decide, by decide, q3, q4⟩)
               | skip
              ·
               refine ⟨?_, fun h25 => ?_⟩
               ·
                first
                | exact True.intro
                | omega
                | exact ⟨hc.1.1, hc.1.2.1, fun h => hn ⟨h.1, h.2.1, h.2.2.1, by decide, by decide, h.2.2.2⟩⟩
                | exact ⟨hc.1.1, by omega, by omega, hn⟩
                | (exfalso; rcases ho with ⟨q, e⟩ | ⟨⟨hp, q0, q1, q2, q3, q4⟩, ⟨hs, e⟩ | ⟨hs, e⟩⟩ <;> first | omega | exact hn ⟨decide_eq_true hp, hs, by omega, by decide, by decide, q3, q4⟩)
                | exact ⟨hc.1.1, (by constructor <;> omega), hn⟩
                | skip
               ·
                refine ⟨?_, fun h26 => ?_⟩
                ·
                 first
                 | exact True.intro
                 | omega
                 | exact ⟨hc.1.1, hc.1.2.1, fun h => hn ⟨h.1, h.2.1, h.2.2.1, by decide, by decide, h.2.2.2⟩⟩
                 | exact ⟨hc.1.1, by omega, by omega, hn⟩
                 | (exfalso; rcases ho with ⟨q, e⟩ | ⟨⟨hp, q0, q1, q2, q3, q4⟩, ⟨hs, e⟩ | ⟨hs, e⟩⟩ <;> first | omega | exact hn ⟨decide_eq_true hp, hs, by omega, by decide, by decide, q3, q4⟩)
                 | exact ⟨hc.1.1, (by constructor <;> omega), hn⟩
                 | skip
                ·
                 refine ⟨?_, fun h27 => ?_⟩
                 ·
                  first
                  | exact True.intro
                  | omega
                  | exact ⟨hc.1.1, hc.1.2.1, fun h => hn ⟨h.1, h.2.1, h.2.2.1, by decide, by decide, h.2.2.2⟩⟩
                  | exact ⟨hc.1.1, by omega, by omega, hn⟩
                  | (exfalso; rcases ho with ⟨q, e⟩ | ⟨⟨hp, q0, q1, q2, q3, q4⟩, ⟨hs, e⟩ | ⟨hs, e⟩⟩ <;> first | omega | exact hn ⟨decide_eq_true hp, hs, by omega, by decide, by decide, q3, q4⟩)
                  | exact ⟨hc.1.1, (by constructor <;> omega), hn⟩
                  | skip
                 ·
                  refine ⟨fun h28 => ?_, fun h28 => ?_⟩
                  ·
                   refine ⟨fun h29 => ?_, fun h29 => ?_⟩
                   ·
                    try simp only [hw1]
                    refine ⟨fun h30 => ?_, fun h30 => ?_⟩
                    ·
                     first
                     | exact True.intro
                     | rfl
                     | (exfalso; rcases ho with ⟨q, e⟩ | ⟨⟨hp, q0, q1, q2, q3, q4⟩, ⟨hs, e⟩ | ⟨hs, e⟩⟩ <;> first | omega | exact hn ⟨decide_eq_true hp, hs, by omega, by decide, by decide, q3, q4⟩)
                     | skip
                    ·
                     try simp only [hw1]
                     refine ⟨fun h31 => ?_, fun h31 => ?_⟩
                     ·
                      first
                      | exact True.intro
                      | rfl
                      | (exfalso; rcases ho with ⟨q, e⟩ | ⟨⟨hp, q0, q1, q2, q3, q4⟩, ⟨hs, e⟩ | ⟨hs, e⟩⟩ <;> first | omega | exact hn ⟨decide_eq_true hp, hs, by omega, by decide, by decide, q3, q4⟩)
                      | skip
                     ·
                      first
                      | exact True.intro
                      | rfl
                      | (exfalso; rcases ho with ⟨q, e⟩ | ⟨⟨hp, q0, q1, q2, q3, q4⟩, ⟨hs, e⟩ | ⟨hs, e⟩⟩ <;> first | omega | exact hn ⟨decide_eq_true hp, hs, by omega, by decide, by decide, q3, q4⟩)
                      | skip
                   ·
                    first
                    | exact True.intro
                    | rfl
                    | (exfalso; rcases ho with ⟨q, e⟩ | ⟨⟨hp, q0, q1, q2, q3, q4⟩, ⟨hs, e⟩ | ⟨hs, e⟩⟩ <;> first | omega | exact hn ⟨decide_eq_true hp, hs, by omega, by decide, by decide, q3, q4⟩)
                    | skip
                  ·
                   first
                   | exact True.intro
                   | rfl
                   | (exfalso; rcases ho with ⟨q, e⟩ | ⟨⟨hp, q0, q1, q2, q3, q4⟩, ⟨hs, e⟩ | ⟨hs, e⟩⟩ <;> first | omega | exact hn ⟨decide_eq_true hp, hs, by omega, by decide, by decide, q3, q4⟩)
                   | skip
       ·
        refine ⟨fun h32 => ?_, fun h32 => ?_⟩
        ·
         first
         | exact True.intro
         | rfl
         | (exfalso; rcases ho with ⟨q, e⟩ | ⟨⟨hp, q0, q1, q2, q3, q4⟩, ⟨hs, e⟩ | ⟨hs, e⟩⟩ <;> first | omega | exact hn ⟨decide_eq_true hp, hs, by omega, by decide, by decide, q3, q4⟩)
         | skip
        ·
         refine ⟨?_, fun h33 => ?_⟩
         ·
          first
          | exact True.intro
          | omega
          | exact ⟨hc.1.1, hc.1.2.1, fun h => hn ⟨h.1, h.2.1, h.2.2.1, by decide, by decide, h.2.2.2⟩⟩
          | exact ⟨hc.1.1, by omega, by omega, hn⟩
          | (exfalso; rcases ho with ⟨q, e⟩ | ⟨⟨hp, q0, q1, q2, q3, q4⟩, ⟨hs, e⟩ | ⟨hs, e⟩⟩ <;> first | omega | exact hn ⟨decide_eq_true hp, hs, by omega, by decide, by decide, q3, q4⟩)
          | exact ⟨hc.1.1, (by constructor <;> omega), hn⟩
          | skip
         ·
          refine ⟨fun h34 => ?_, fun h34 => ?_⟩
          ·
           refine ⟨fun h35 => ?_, fun h35 => ?_⟩
           ·
            first
            | exact True.intro
            | rfl
            | (exfalso; rcases ho with ⟨q, e⟩ | ⟨⟨hp, q0, q1, q2, q3, q4⟩, ⟨hs, e⟩ | ⟨hs, e⟩⟩ <;> first | omega | exact hn ⟨decide_eq_true hp, hs, by omega, by decide, by decide, q3, q4⟩)
            | skip
           ·
            refine ⟨fun h36 => ?_, fun h36 => ?_⟩
            ·
             first
             | exact True.intro
             | rfl
             | (exfalso; rcases ho with ⟨q, e⟩ | ⟨⟨hp, q0, q1, q2, q3, q4⟩, ⟨hs, e⟩ | ⟨hs, e⟩⟩ <;> first | omega | exact hn ⟨decide_eq_true hp, hs, by omega, by decide, by decide, q3, q4⟩)
             | skip
            ·
             refine ⟨?_, fun h37 => ?_⟩
             ·
              first
              | exact True.intro
              | omega
              | exact ⟨hc.1.1, hc.1.2.1, fun h => hn ⟨h.1, h.2.1, h.2.2.1, by decide, by decide, h.2.2.2⟩⟩
              | exact ⟨hc.1.1, by omega, by omega, hn⟩
              | (exfalso; rcases ho with ⟨q, e⟩ | ⟨⟨hp, q0, q1, q2, q3, q4⟩, ⟨hs, e⟩ | ⟨hs, e⟩⟩ <;> first | omega | exact hn ⟨decide_eq_true hp, hs, by omega, by decide, by decide, q3, q4⟩)
              | exact ⟨hc.1.1, (by constructor <;> omega), hn⟩
              | skip
             ·
              refine ⟨fun h38 => ?_, fun h38 => ?_⟩
              ·
               first
               | exact True.intro
               | rfl
               | (exfalso; rcases ho with ⟨q, e⟩ | ⟨⟨hp, q0, q1, q2, q3, q4⟩, ⟨hs, e⟩ | ⟨hs, e⟩⟩ <;> first | omega | exact hn ⟨decide_eq_true hp, hs, by omega, by decide, by decide, q3, q4⟩)
               | skip
              ·
               refine ⟨fun h39 => ?_, fun h39 => ?_⟩
               ·
                first
                | exact True.intro
                | rfl
                | (exfalso; rcases ho with ⟨q, e⟩ | ⟨⟨hp, q0, q1, q2, q3, q4⟩, ⟨hs, e⟩ | ⟨hs, e⟩⟩ <;> first | omega | exact hn ⟨decide_eq_true hp, hs, by omega, by decide, by decide, q3, q4⟩)
                | skip
               ·
                refine ⟨?_, fun h40 => ?_⟩
                ·
                 first
                 | exact True.intro
                 | omega
                 | exact ⟨hc.1.1, hc.1.2.1, fun h => hn ⟨h.1, h.2.1, h.2.2.1, by decide, by decide, h.2.2.2⟩⟩
                 | exact ⟨hc.1.1, by omega, by omega, hn⟩
                 | (exfalso; rcases ho with ⟨q, e⟩ | ⟨⟨hp, q0, q1, q2, q3, q4⟩, ⟨hs, e⟩ | ⟨hs, e⟩⟩ <;> first | omega | exact hn ⟨decide_eq_true hp, hs, by omega, by decide, by decide, q3, q4⟩)
                 | exact ⟨hc.1.1, (by constructor <;> omega), hn⟩
                 | skip
                ·
                 refine ⟨?_, fun h41 => ?_⟩
                 ·
                  first
                  | exact True.intro
                  | omega
                  | exact ⟨hc.1.1, hc.1.2.1, fun h => hn ⟨h.1, h.2.1, h.2.2.1, by decide, by decide, h.2.2.2⟩⟩
                  | exact ⟨hc.1.1, by omega, by omega, hn⟩
                  | (exfalso; rcases ho with ⟨q, e⟩ | ⟨⟨hp, q0, q1, q2, q3, q4⟩, ⟨hs, e⟩ | ⟨hs, e⟩⟩ <;> first | omega | exact hn ⟨decide_eq_true hp, hs, by omega, by decide, by decide, q3, q4⟩)
                  | exact ⟨hc.1.1, (by constructor <;> omega), hn⟩
                  | skip
                 ·
                  refine ⟨?_, fun h42 => ?_⟩
                  ·
                   first
                   | exact True.intro
                   | omega
                   | exact ⟨hc.1.1, hc.1.2.1, fun h => hn ⟨h.1, h.2.1, h.2.2.1, by decide, by decide, h.2.2.2⟩⟩
                   | exact ⟨hc.1.1, by omega, by omega, hn⟩
                   | (exfalso; rcases ho with ⟨q, e⟩ | ⟨⟨hp, q0, q1, q2, q3, q4⟩, ⟨hs, e⟩ | ⟨hs, e⟩⟩ <;> first | omega | exact hn ⟨decide_eq_true hp, hs, by omega, by decide, by decide, q3, q4⟩)
                   | exact ⟨hc.1.1, (by constructor <;> omega), hn⟩
                   | skip
                  ·
                   refine ⟨fun h43 => ?_, fun h43 => ?_⟩
                   ·
                    refine ⟨fun h44 => ?_, fun h44 => ?_⟩
                    ·
                     try simp only [hw2]
                     refine ⟨fun h45 => ?_, fun h45 => ?_⟩
                     ·
                      first
                      | exact True.intro
                      | rfl
                      | (exfalso; rcases ho with ⟨q, e⟩ | ⟨⟨hp, q0, q1, q2, q3, q4⟩, ⟨hs, e⟩ | ⟨hs, e⟩⟩ <;> first | omega | exact hn ⟨decide_eq_true hp, hs, by omega, by decide, by decide, q3, q4⟩)
                      | skip
                     ·
                      try simp only [hw2]
                      refine ⟨fun h46 => ?_, fun h46 => ?_⟩
                      ·
                       first
                       | exact True.intro
                       | rfl
                       | (exfalso; rcases ho with ⟨q, e⟩ | ⟨⟨hp, q0, q1, q2, q3, q4⟩, ⟨hs, e⟩ | ⟨hs, e⟩⟩ <;> first | omega | exact hn ⟨decide_eq_true hp, hs, by omega, by decide, by decide, q3, q4⟩)
                       | skip
                      ·
                       first
                       | exact True.intro
                       | rfl
                       | (exfalso; rcases ho with ⟨q, e⟩ | ⟨⟨hp, q0, q1, q2, q3, q4⟩, ⟨hs, e⟩ | ⟨hs, e⟩⟩ <;> first | omega | exact hn ⟨decide_eq_true hp, hs, by omega, by decide, by decide, q3, q4⟩)
                       | skip
                    ·
                     first
                     | exact True.intro
                     | rfl
                     | (exfalso; rcases ho with ⟨q, e⟩ | ⟨⟨hp, q0, q1, q2, q3, q4⟩, ⟨hs, e⟩ | ⟨hs, e⟩⟩ <;> first | omega | exact hn ⟨decide_eq_true hp, hs, by omega, by decide, by decide, q3, q4⟩)
                     | skip
                   ·
                    first
                    | exact True.intro
                    | rfl
                    | (exfalso; rcases ho with ⟨q, e⟩ | ⟨⟨hp, q0, q1, q2, q3, q4⟩, ⟨hs, e⟩ | ⟨hs, e⟩⟩ <;> first | omega | exact hn ⟨decide_eq_true hp, hs, by omega, by decide, by decide, q3, q4⟩)
                    | skip
          ·
           refine ⟨?_, fun h47 => ?_⟩
           ·
            first
            | exact True.intro
            | omega
            | exact ⟨hc.1.1, hc.1.2.1, fun h => hn ⟨h.1, h.2.1, h.2.2.1, by decide, by decide, h.2.2.2⟩⟩
            | exact ⟨hc.1.1, by omega, by omega, hn⟩
            | (exfalso; rcases ho with ⟨q, e⟩ | ⟨⟨hp, q0, q1, q2, q3, q4⟩, ⟨hs, e⟩ | ⟨hs, e⟩⟩ <;> first | omega | exact hn ⟨decide_eq_true hp, hs, by omega, by decide, by decide, q3, q4⟩)
            | exact ⟨hc.1.1, (by constructor <;> omega), hn⟩
            | skip
           ·
            refine ⟨fun h48 => ?_, fun h48 => ?_⟩
            ·
             first
             | exact True.intro
             | rfl
             | (exfalso; rcases ho with ⟨q, e⟩ | ⟨⟨hp, q0, q1, q2, q3, q4⟩, ⟨hs, e⟩ | ⟨hs, e⟩⟩ <;> first | omega | exact hn ⟨decide_eq_true hp, hs, by omega, by decide, by decide, q3, q4⟩)
             | skip
            ·
             refine ⟨fun h49 => ?_, fun h49 => ?_⟩
             ·
              first
              | exact True.intro
              | rfl
              | (exfalso; rcases ho with ⟨q, e⟩ | ⟨⟨hp, q0, q1, q2, q3, q4⟩, ⟨hs, e⟩ | ⟨hs, e⟩⟩ <;> first | omega | exact hn ⟨decide_eq_true hp, hs, by omega, by decide, by decide, q3, q4⟩)
              | skip
             ·
              refine ⟨?_, fun h50 => ?_⟩
              ·
               first
               | exact True.intro
               | omega
               | exact ⟨hc.1.1, hc.1.2.1, fun h => hn ⟨h.1, h.2.1, h.2.2.1, by decide, by decide, h.2.2.2⟩⟩
               | exact ⟨hc.1.1, by omega, by omega, hn⟩
               | (exfalso; rcases ho with ⟨q, e⟩ | ⟨⟨hp, q0, q1, q2, q3, q4⟩, ⟨hs, e⟩ | ⟨hs, e⟩⟩ <;> first | omega | exact hn ⟨decide_eq_true hp, hs, by omega, by decide, by decide, q3, q4⟩)
               | exact ⟨hc.1.1, (by constructor <;> omega), hn⟩
               | skip
              ·
               refine ⟨?_, fun h51 => ?_⟩
               ·
                first
                | exact True.intro
                | omega
                | exact ⟨hc.1.1, hc.1.2.1, fun h => hn ⟨h.1, h.2.1, h.2.2.1, by decide, by decide, h.2.2.2⟩⟩
                | exact ⟨hc.1.1, by omega, by omega, hn⟩
                | (exfalso; rcases ho with ⟨q, e⟩ | ⟨⟨hp, q0, q1, q2, q3, q4⟩, ⟨hs, e⟩ | ⟨hs, e⟩⟩ <;> first | omega | exact hn ⟨decide_eq_true hp, hs, by omega, by decide, by decide, q3, q4⟩)
                | exact ⟨hc.1.1, (by constructor <;> omega), hn⟩
                | skip
               ·
                refine ⟨?_, fun h52 => ?_⟩
                ·
                 first
                 | exact True.intro
                 | omega
                 | exact ⟨hc.1.1, hc.1.2.1, fun h => hn ⟨h.1, h.2.1, h.2.2.1, by decide, by decide, h.2.2.2⟩⟩
                 | exact ⟨hc.1.1, by omega, by omega, hn⟩
                 | (exfalso; rcases ho with ⟨q, e⟩ | ⟨⟨hp, q0, q1, q2, q3, q4⟩, ⟨hs, e⟩ | ⟨hs, e⟩⟩ <;> first | omega | exact hn ⟨decide_eq_true hp, hs, by omega, by decide, by decide, q3, q4⟩)
                 | exact ⟨hc.1.1, (by constructor <;> omega), hn⟩
                 | skip
                ·
                 refine ⟨fun h53 => ?_, fun h53 => ?_⟩
                 ·
                  refine ⟨fun h54 => ?_, fun h54 => ?_⟩
                  ·
                   try simp only [hw3]
                   refine ⟨fun h55 => ?_, fun h55 => ?_⟩
                   ·
                    first
                    | exact True.intro
                    | rfl
                    | (exfalso; rcases ho with ⟨q, e⟩ | ⟨⟨hp, q0, q1, q2, q3, q4⟩, ⟨hs, e⟩ | ⟨hs, e⟩⟩ <;> first | omega | exact hn ⟨decide_eq_true hp, hs, by omega, by decide, by decide, q3, q4⟩)
                    | skip
                   ·
                    try simp only [hw3]
                    refine ⟨fun h56 => ?_, fun h56 => ?_⟩
                    ·
                     first
                     | exact True.intro
                     | rfl
                     | (exfalso; rcases ho with ⟨q, e⟩ | ⟨⟨hp, q0, q1, q2, q3, q4⟩, ⟨hs, e⟩ | ⟨hs, e⟩⟩ <;> first | omega | exact hn ⟨decide_eq_true hp, hs, by omega, by decide, by decide, q3, q4⟩)
                     | skip
                    ·
                     first
                     | exact True.intro
                     | rfl
                     | (exfalso; rcases ho with ⟨q, e⟩ | ⟨⟨hp, q0, q1, q2, q3, q4⟩, ⟨hs, e⟩ | ⟨hs, e⟩⟩ <;> first | omega | exact hn ⟨decide_eq_true hp, hs, by omega, by decide, by decide, q3, q4⟩)
                     | skip
                  ·
                   first
                   | exact True.intro
                   | rfl
                   | (exfalso; rcases ho with ⟨q, e⟩ | ⟨⟨hp, q0, q1, q2, q3, q4⟩, ⟨hs, e⟩ | ⟨hs, e⟩⟩ <;> first | omega | exact hn ⟨decide_eq_true hp, hs, by omega, by decide, by decide, q3, q4⟩)
                   | skip
                 ·
                  first
                  | exact True.intro
                  | rfl
                  | (exfalso; rcases ho with ⟨q, e⟩ | ⟨⟨hp, q0, q1, q2, q3, q4⟩, ⟨hs, e⟩ | ⟨hs, e⟩⟩ <;> first | omega | exact hn ⟨decide_eq_true hp, hs, by omega, by decide, by decide, q3, q4⟩)
                  | skip
      ·
       refine ⟨?_, fun h57 => ?_⟩
       ·
        first
        | exact True.intro
        | omega
        | exact ⟨hc.1.1, hc.1.2.1, fun h => hn ⟨h.1, h.2.1, h.2.2.1, by decide, by decide, h.2.2.2⟩⟩
        | exact ⟨hc.1.1, by omega, by omega, hn⟩
        | (exfalso; rcases ho with ⟨q, e⟩ | ⟨⟨hp, q0, q1, q2, q3, q4⟩, ⟨hs, e⟩ | ⟨hs, e⟩⟩ <;> first | omega | exact hn ⟨decide_eq_true hp, hs, by omega, by decide, by decide, q3, q4⟩)
        | exact ⟨hc.1.1, (by constructor <;> omega), hn⟩
        | skip
       ·
        refine ⟨fun h58 => ?_, fun h58 => ?_⟩
        ·
         first
         | exact True.intro
         | rfl
         | (exfalso; rcases ho with ⟨q, e⟩ | ⟨⟨hp, q0, q1, q2, q3, q4⟩, ⟨hs, e⟩ | ⟨hs, e⟩⟩ <;> first | omega | exact hn ⟨decide_eq_true hp, hs, by omega, by decide, by decide, q3, q4⟩)
         | skip
        ·
         refine ⟨fun h59 => ?_, fun h59 => ?_⟩
         ·
          first
          | exact True.intro
          | rfl
          | (exfalso; rcases ho with ⟨q, e⟩ | ⟨⟨hp, q0, q1, q2, q3, q4⟩, ⟨hs, e⟩ | ⟨hs, e⟩⟩ <;> first | omega | exact hn ⟨decide_eq_true hp, hs, by omega, by decide, by decide, q3, q4⟩)
          | skip
         ·
          refine ⟨fun h60 => ?_, fun h60 => ?_⟩
          ·
           first
           | exact True.intro
           | rfl
           | (exfalso; rcases ho with ⟨q, e⟩ | ⟨⟨hp, q0, q1, q2, q3, q4⟩, ⟨hs, e⟩ | ⟨hs, e⟩⟩ <;> first | omega | exact hn ⟨decide_eq_true hp, hs, by omega, by decide, by decide, q3, q4⟩)
           | skip
          ·
           first
           | exact True.intro
           | rfl
           | (exfalso; rcases ho with ⟨q, e⟩ | ⟨⟨hp, q0, q1, q2, q3, q4⟩, ⟨hs, e⟩ | ⟨hs, e⟩⟩ <;> first | omega | exact hn ⟨decide_eq_true hp, hs, by omega, by decide, by decide, q3, q4⟩)
           | skip
theorem yng_wHostX : ync_wHostX.Good Tryd.prog syG (ynE [] [] [] []) := good_of_walk (Γ := ⟨[ync_giveh, ync_pofx, ybc_time, yic_now, ync_num, ycc_when, ync_sure22], syG, [], [], []⟩) (ρ := ynE [] [] [] []) sym wHostX_w rfl (fun _ _ _ _ => (ok_cons (Con.Good.env yng_giveh _ _ _ _) (ok_cons (Con.Good.env yng_pofx _ _ _ _) (ok_cons (Con.Good.env (Con.Good.up (Con.Good.up (Con.Good.up (Con.Good.up (Con.Good.up (Con.Good.up ybg_time ycup rfl) yhup rfl) yiup rfl) yjup rfl) ykup rfl) ynup rfl) _ _ _ _) (ok_cons (Con.Good.env (Con.Good.up (Con.Good.up (Con.Good.up yig_now yjup rfl) ykup rfl) ynup rfl) _ _ _ _) (ok_cons (Con.Good.env yng_num _ _ _ _) (ok_cons (Con.Good.env (Con.Good.up (Con.Good.up (Con.Good.up (Con.Good.up (Con.Good.up ycg_when yhup rfl) yiup rfl) yjup rfl) ykup rfl) ynup rfl) _ _ _ _) (ok_cons (Con.Good.env yng_sure22 _ _ _ _) ok_nil)))))))) (fun rm rs rr gp gi rl ro hb ht he sf ss c o0 o1 sy hc hty => wHostX_h rm rs rr gp gi rl ro hb ht he sf ss c o0 o1 sy hc hty)
abbrev ync_wHost : Con := ⟨14, [(.agg (.cons (.int .u32 (.var 0)) (.cons (.int .i64 (.var 1)) (.cons (.int .i64 (.var 2)) (.cons (.int .i64 (.var 3)) (.cons (.int .i64 (.var 4)) (.cons (.int .i64 (.var 5)) (.cons (.int .i64 (.var 6)) (.cons (.bool (.bvar 0)) (.cons (.int .i64 (.var 7)) (.cons (.int .i64 (.var 8)) (.cons (.int .i64 (.var 9)) (.cons (.int .i64 (.var 10)) (.cons (.int .i64 (.var 11)) .nil)))))))))))))), (.int .i64 (.var 12)), (.agg (.cons (.int .i64 (.var 13)) (.cons (.int .i64 (.var 14)) .nil)))], (.b2 .and (.b2 .and (.b2 .and (.b2 .le (.lit (0)) (.var 0)) (.b2 .le (.var 0) (.lit (4294967295)))) (.b2 .and (.b2 .and (.b2 .le (.lit (-9223372036854775808)) (.var 1)) (.b2 .le (.var 1) (.lit (9223372036854775807)))) (.b2 .and (.b2 .and (.b2 .le (.lit (-9223372036854775808)) (.var 2)) (.b2 .le (.var 2) (.lit (9223372036854775807)))) (.b2 .and (.b2 .and (.b2 .le (.lit (-9223372036854775808)) (.var 3)) (.b2 .le (.var 3) (.lit (9223372036854775807)))) (.b2 .and (.b2 .and (.b2 .le (.lit (-9223372036854775808)) (.var 4)) (.b2 .le (.var 4) (.lit (9223372036854775807)))) (.b2 .and (.b2 .and (.b2 .le (.lit (-9223372036854775808)) (.var 5)) (.b2 .le (.var 5) (.lit (9223372036854775807)))) (.b2 .and (.b2 .and (.b2 .le (.lit (-9223372036854775808)) (.var 6)) (.b2 .le (.var 6) (.lit (9223372036854775807)))) (.b2 .and (.b2 .and (.b2 .le (.lit (-9223372036854775808)) (.var 7)) (.b2 .le (.var 7) (.lit (9223372036854775807)))) (.b2 .and (.b2 .and (.b2 .le (.lit (-9223372036854775808)) (.var 8)) (.b2 .le (.var 8) (.lit (9223372036854775807)))) (.b2 .and (.b2 .and (.b2 .le (.lit (-9223372036854775808)) (.var 9)) (.b2 .le (.var 9) (.lit (9223372036854775807)))) (.b2 .and (.b2 .and (.b2 .le (.lit (-9223372036854775808)) (.var 10)) (.b2 .le (.var 10) (.lit (9223372036854775807)))) (.b2 .and (.b2 .le (.lit (-9223372036854775808)) (.var 11)) (.b2 .le (.var 11) (.lit (9223372036854775807))))))))))))))) (.b2 .and (.b2 .and (.b2 .le (.lit (-9223372036854775808)) (.var 12)) (.b2 .le (.var 12) (.lit (9223372036854775807)))) (.b2 .and (.b2 .and (.b2 .le (.lit (-9223372036854775808)) (.var 13)) (.b2 .le (.var 13) (.lit (9223372036854775807)))) (.b2 .and (.b2 .le (.lit (-9223372036854775808)) (.var 14)) (.b2 .le (.var 14) (.lit (9223372036854775807))))))), (.bool (.tt true)), ⟨15, 1, 0, 0⟩, none⟩
theorem yng_wHost : ync_wHost.Good Tryd.prog syG (ynE [] [] [] []) := by
  exact good_split (.b2 .and (.bapp 4 (.cons (.tup (.cons (.int .u32 (.var 0)) (.cons (.int .i64 (.var 1)) (.cons (.int .i64 (.var 2)) (.cons (.int .i64 (.var 3)) (.cons (.int .i64 (.var 4)) (.cons (.int .i64 (.var 5)) (.cons (.int .i64 (.var 6)) (.cons (.bool (.bvar 0)) (.cons (.int .i64 (.var 7)) (.cons (.int .i64 (.var 8)) (.cons (.int .i64 (.var 9)) (.cons (.int .i64 (.var 10)) (.cons (.int .i64 (.var 11)) .nil)))))))))))))) .nil)) (.b2 .and (.bvar 0) (.b2 .and (.b2 .eq (.iapp 29 (.cons (.int .u32 (.var 0)) (.cons (.int .i64 (.var 1)) (.cons (.int .i64 (.var 10)) .nil)))) (.lit (0))) (.b2 .and (.b2 .le (.lit (0)) (.lit (1))) (.b2 .and (.b2 .le (.lit (1)) (.lit (1099511627776))) (.b2 .and (.b2 .le (.lit (1)) (.var 12)) (.b2 .le (.var 12) (.lit (1125899906842624))))))))) yng_wHostV yng_wHostX
end Go.Proofs.YtjhjgfnodhbacaaDoor
