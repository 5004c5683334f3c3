/-
  Layer 18 by the second engine: hosts set.
-/
import Derived.Test.YtjhjgfnodhbacaaDoorSychb
import Derived.Test.YtjhjgfnodhbacaaDoorYihb
import Derived.Test.YtjhjgfnodhbacaaDoorE00hb
import Derived.Test.YtjhjgfnodhbacaaDoorEishb
namespace Go.Proofs.YtjhjgfnodhbacaaDoor
open Go.RowKit Go.Extern.Stop Go.Stop Go.Extern Go.Proofs.YtjhjgfnodhbacaaDoor.Sy
set_option linter.unusedVariables false
set_option linter.unusedSimpArgs false
def gbF (b : Bool) (x : Int) : Int := if b then x else 0
theorem gb_y (x : Int) : gbF true x = x := rfl
theorem gb_n (x : Int) : gbF false x = 0 := rfl
theorem eis_any (n : Int) (w : World) : Calls Tryd.prog 147 #[errVal 229 n, .iface 229 (.int .i64 2)] w fun e w' => e = .returned (.bool (n == 2)) ∧ Below w.heap.size w w' := by
  unfold errVal
  split
  · rename_i h
    subst h
    exact (ei_nil 2 w).mono fun e w' ⟨h1, h2⟩ => ⟨h1, h2 ▸ Below.refl _ _⟩
  · exact (ei_err n 2 w (n == 2) rfl).mono fun e w' ⟨h1, h2⟩ => ⟨h1, h2 ▸ Below.refl _ _⟩
theorem rk_bd {rm rs rr gp gi rl ro hb ht he sf ss k : Int} (hp : hoP rm rs rr gp gi rl ro hb ht he sf ss) : 0 ≤ rkO rm rs rr hb ht he sf k ∧ rkO rm rs rr hb ht he sf k ≤ 9223372036854775807 ∧ -4611686018427387904 < rkT rm rs hb ht sf k ∧ rkT rm rs hb ht sf k < 4611686018427387904 := by
  obtain ⟨f, a1, a2, a3, a4, a5, a6, a7, a8, a9, a10, a11, a12, a13, a14, a15, a16, a17, a18, a19, a20⟩ := id hp
  rcases rk_spec rm rs rr hb ht he sf k with ⟨_, _, e1, e2⟩ | ⟨_, _, e1, e2⟩ | ⟨⟨k1, k2, k3, k4, k5⟩, _, e1, e2⟩
  · rw [e1, e2]; omega
  · rw [e1, e2]; omega
  · rw [e1, e2]
    have q1 := (ms_spec (ad_fm k3) (show 0 ≤ k - hb by omega)).1
    refine ⟨?_, ?_, by omega, by omega⟩
    · unfold bnO
      have q2 := (ms_spec f (show 0 ≤ k - hb by omega)).1
      have p := pabs_spec sf
      have s1 := satE_spec (qE rm rs (k - hb) + 1)
      have m := Int.mul_nonneg (show 0 ≤ satE (qE rm rs (k - hb) + 1) by omega) (show 0 ≤ rr + pabs sf by omega)
      have u : 0 ≤ upK (satE (qE rm rs (k - hb) + 1) * (rr + pabs sf)) := by unfold upK; omega
      have v := (hv_bd (n := k - hb) (s := rs) (by omega)).1
      have s2 := satE_spec (he + upK (satE (qE rm rs (k - hb) + 1) * (rr + pabs sf)))
      have s3 := satE_spec (satE (he + upK (satE (qE rm rs (k - hb) + 1) * (rr + pabs sf))) + ((k - hb) / 2 ^ rs.toNat + 2))
      have s4 := satE_spec (satE (satE (he + upK (satE (qE rm rs (k - hb) + 1) * (rr + pabs sf))) + ((k - hb) / 2 ^ rs.toNat + 2)) + 2)
      omega
    · unfold bnO
      have s4 := satE_spec (satE (satE (he + upK (satE (qE rm rs (k - hb) + 1) * (rr + pabs sf))) + ((k - hb) / 2 ^ rs.toNat + 2)) + 2)
      omega
theorem sy_uns {rm rs rr gp gi rl ro hb ht he sf ss k a b : Int} {sy : Bool} (h : sy = false ∨ rkE rm rs hb ht sf k ≠ 0) : syT rm rs rr gp gi rl ro hb ht he sf ss sy k a b = miI a b ∧ syR rm rs rr gp gi rl ro hb ht he sf ss sy k a b = satE (b - miI a b) ∧ syF rm rs rr gp gi rl ro hb ht he sf ss sy k a b = sf ∧ syS rm rs rr gp gi rl ro hb ht he sf ss sy k a b = ss := by
  have h1 : ¬ syM rm rs rr gp gi rl ro hb ht he sf ss sy k a b := fun hx => by
    rcases h with h | h
    · exact absurd (h.symm.trans hx.1) (by decide)
    · exact h hx.2.1
  have h2 : ¬ (sy = true ∧ rkE rm rs hb ht sf k = 0) := fun hx => by
    rcases h with h | h
    · exact absurd (h.symm.trans hx.1) (by decide)
    · exact h hx.2
  have hL : syL rm rs rr gp gi rl ro hb ht he sf ss sy k a b = a := by unfold syL; rw [if_neg h1]
  have hH : syH rm rs rr gp gi rl ro hb ht he sf ss sy k a b = b := by unfold syH; rw [if_neg h1]
  have hT : syT rm rs rr gp gi rl ro hb ht he sf ss sy k a b = miI a b := by unfold syT; rw [hL, hH]
  refine ⟨hT, by unfold syR; rw [hH, hT], by unfold syF; rw [if_neg h2], by unfold syS; rw [if_neg h2]⟩
theorem sy_m {rm rs rr gp gi rl ro hb ht he sf ss k a b L H : Int} (h0 : rkE rm rs hb ht sf k = 0) (hL : (if satE (rkT rm rs hb ht sf k - rkO rm rs rr hb ht he sf k) > a then satE (rkT rm rs hb ht sf k - rkO rm rs rr hb ht he sf k) else a) = L) (hH : (if satE (rkT rm rs hb ht sf k + rkO rm rs rr hb ht he sf k) < b then satE (rkT rm rs hb ht sf k + rkO rm rs rr hb ht he sf k) else b) = H) (h : L ≤ H) : syT rm rs rr gp gi rl ro hb ht he sf ss true k a b = miI L H ∧ syR rm rs rr gp gi rl ro hb ht he sf ss true k a b = satE (H - miI L H) ∧ syF rm rs rr gp gi rl ro hb ht he sf ss true k a b = stF gp gi rl ss (satE (miI L H - rkT rm rs hb ht sf k)) ∧ syS rm rs rr gp gi rl ro hb ht he sf ss true k a b = stS ss (satE (miI L H - rkT rm rs hb ht sf k)) := by
  have h1 : syM rm rs rr gp gi rl ro hb ht he sf ss true k a b := ⟨rfl, h0, by rw [← hL, ← hH] at h; exact h⟩
  have eL : syL rm rs rr gp gi rl ro hb ht he sf ss true k a b = L := by unfold syL; rw [if_pos h1]; exact hL
  have eH : syH rm rs rr gp gi rl ro hb ht he sf ss true k a b = H := by unfold syH; rw [if_pos h1]; exact hH
  have eT : syT rm rs rr gp gi rl ro hb ht he sf ss true k a b = miI L H := by unfold syT; rw [eL, eH]
  refine ⟨eT, by unfold syR; rw [eH, eT], by unfold syF; rw [if_pos ⟨rfl, h0⟩, eT], by unfold syS; rw [if_pos ⟨rfl, h0⟩, eT]⟩
theorem sy_n {rm rs rr gp gi rl ro hb ht he sf ss k a b L H : Int} (h0 : rkE rm rs hb ht sf k = 0) (hL : (if satE (rkT rm rs hb ht sf k - rkO rm rs rr hb ht he sf k) > a then satE (rkT rm rs hb ht sf k - rkO rm rs rr hb ht he sf k) else a) = L) (hH : (if satE (rkT rm rs hb ht sf k + rkO rm rs rr hb ht he sf k) < b then satE (rkT rm rs hb ht sf k + rkO rm rs rr hb ht he sf k) else b) = H) (h : ¬ L ≤ H) : syT rm rs rr gp gi rl ro hb ht he sf ss true k a b = miI a b ∧ syR rm rs rr gp gi rl ro hb ht he sf ss true k a b = satE (b - miI a b) ∧ syF rm rs rr gp gi rl ro hb ht he sf ss true k a b = stF gp gi rl ss (satE (miI a b - rkT rm rs hb ht sf k)) ∧ syS rm rs rr gp gi rl ro hb ht he sf ss true k a b = stS ss (satE (miI a b - rkT rm rs hb ht sf k)) := by
  have h1 : ¬ syM rm rs rr gp gi rl ro hb ht he sf ss true k a b := fun hx => by
    rw [← hL, ← hH] at h
    exact h hx.2.2
  have eL : syL rm rs rr gp gi rl ro hb ht he sf ss true k a b = a := by unfold syL; rw [if_neg h1]
  have eH : syH rm rs rr gp gi rl ro hb ht he sf ss true k a b = b := by unfold syH; rw [if_neg h1]
  have eT : syT rm rs rr gp gi rl ro hb ht he sf ss true k a b = miI a b := by unfold syT; rw [eL, eH]
  refine ⟨eT, by unfold syR; rw [eH, eT], by unfold syF; rw [if_pos ⟨rfl, h0⟩, eT], by unfold syS; rw [if_pos ⟨rfl, h0⟩, eT]⟩
noncomputable def yjI : Nat → List Value → Int
  | 56, [.bool b, .int _ x] => gbF b x
  | i, l => yiI i l
noncomputable def yjB : Nat → List Value → Bool
  | i, l => yiB i l
noncomputable def yjV : Nat → List Value → Value
  | i, l => yiV i l
noncomputable abbrev yjE (iv : List Int) (bv : List Bool) (vv : List Value) (sv : List ByteArray) : Env := { iv := iv, bv := bv, vv := vv, sv := sv, fi := yjI, fb := yjB, fv := yjV, et := 229 }
set_option maxHeartbeats 8000000 in
theorem yjup : Agree 56 5 2 (yiE [] [] [] []) (yjE [] [] [] []) := ⟨rfl, (by
    intro f hf
    funext l
    show yjI f l = yiI f l
    unfold yjI
    split <;> first | rfl | omega), (by
    intro f hf
    funext l
    show yjB f l = yiB f l
    unfold yjB
    split <;> first | rfl | omega), (by
    intro f hf
    funext l
    show yjV f l = yiV f l
    unfold yjV
    split <;> first | rfl | omega)⟩
theorem yji_sa (k1 : IntKind) (a : Int) : yjI 1 [.int k1 a] = satE a := rfl
theorem yji_se (k1 : IntKind) (a : Int) (k2 : IntKind) (b : Int) : yjI 30 [.int k1 a, .int k2 b] = spI a b := rfl
theorem yji_mi (k1 : IntKind) (a : Int) (k2 : IntKind) (b : Int) : yjI 31 [.int k1 a, .int k2 b] = miI a b := rfl
theorem yji_gb (b : Bool) (k1 : IntKind) (x : Int) : yjI 56 [.bool b, .int k1 x] = gbF b x := rfl
abbrev yjc_eis : Con := ⟨147, [(.err (.var 0)), (.iface 229 (.int .i64 (.lit (2))))], (.tt true), (.bool (.b2 .eq (.var 0) (.lit (2)))), ⟨1, 0, 0, 0⟩, none⟩
theorem yjg_eis : yjc_eis.Good Tryd.prog syG (yjE [] [] [] []) := good_flat rfl rfl rfl (by
  intro n hc β ok w hG
  have hc' := hc
  simp only [Tree.holds, Sy.holds, AllN, Env.more, yjE, List.cons_append, List.nil_append, List.append_nil, denV, denI, denB, denL, I2.den, VOp.den, List.getD_cons_zero, List.getD_cons_succ, Cst.den, syso, syse, syio, sybo, List.map_nil, List.map_cons, B2.ofInts, B2.denI, B2.denB, if_true, Bool.false_eq_true, if_false, Nat.div_one, Nat.mul_one, Nat.add_zero, holds] at hc
  exact eis_any n w)
def set_tree : Tree :=
 (.need (.b2 .and (.b2 .le (.var 13) (.var 14)) (.b2 .and (.b2 .and (.b2 .le (.lit (-9223372036854775808)) (.var 13)) (.b2 .le (.var 13) (.lit (9223372036854775807)))) (.b2 .and (.b2 .le (.lit (-9223372036854775808)) (.var 14)) (.b2 .le (.var 14) (.lit (9223372036854775807))))))
 (.ret (.tup (.cons (.agg (.cons (.int .u32 (.var 0)) (.cons (.int .i64 (.var 1)) (.cons (.int .i64 (.var 2)) (.cons (.int .i64 (.var 3)) (.cons (.int .i64 (.var 4)) (.cons (.int .i64 (.var 5)) (.cons (.int .i64 (.var 6)) (.cons (.bool (.tt true)) (.cons (.int .i64 (.var 12)) (.cons (.int .i64 (.iapp 31 (.cons (.int .i64 (.var 13)) (.cons (.int .i64 (.var 14)) .nil)))) (.cons (.int .i64 (.iapp 1 (.cons (.int .i64 (.i2 .sub (.var 14) (.iapp 31 (.cons (.int .i64 (.var 13)) (.cons (.int .i64 (.var 14)) .nil))))) .nil))) (.cons (.int .i64 (.var 10)) (.cons (.int .i64 (.var 11)) .nil)))))))))))))) (.cons (.cst .nilI) .nil)))))
abbrev yjc_set : Con := ⟨145, [(.agg (.cons (.int .u32 (.var 0)) (.cons (.int .i64 (.var 1)) (.cons (.int .i64 (.var 2)) (.cons (.int .i64 (.var 3)) (.cons (.int .i64 (.var 4)) (.cons (.int .i64 (.var 5)) (.cons (.int .i64 (.var 6)) (.cons (.bool (.bvar 0)) (.cons (.int .i64 (.var 7)) (.cons (.int .i64 (.var 8)) (.cons (.int .i64 (.var 9)) (.cons (.int .i64 (.var 10)) (.cons (.int .i64 (.var 11)) .nil)))))))))))))), (.int .i64 (.var 12)), (.agg (.cons (.int .i64 (.var 13)) (.cons (.int .i64 (.var 14)) .nil)))], (.b2 .and (.b2 .and (.b2 .and (.b2 .le (.lit (0)) (.var 0)) (.b2 .le (.var 0) (.lit (4294967295)))) (.b2 .and (.b2 .and (.b2 .le (.lit (-9223372036854775808)) (.var 1)) (.b2 .le (.var 1) (.lit (9223372036854775807)))) (.b2 .and (.b2 .and (.b2 .le (.lit (-9223372036854775808)) (.var 2)) (.b2 .le (.var 2) (.lit (9223372036854775807)))) (.b2 .and (.b2 .and (.b2 .le (.lit (-9223372036854775808)) (.var 3)) (.b2 .le (.var 3) (.lit (9223372036854775807)))) (.b2 .and (.b2 .and (.b2 .le (.lit (-9223372036854775808)) (.var 4)) (.b2 .le (.var 4) (.lit (9223372036854775807)))) (.b2 .and (.b2 .and (.b2 .le (.lit (-9223372036854775808)) (.var 5)) (.b2 .le (.var 5) (.lit (9223372036854775807)))) (.b2 .and (.b2 .and (.b2 .le (.lit (-9223372036854775808)) (.var 6)) (.b2 .le (.var 6) (.lit (9223372036854775807)))) (.b2 .and (.b2 .and (.b2 .le (.lit (-9223372036854775808)) (.var 7)) (.b2 .le (.var 7) (.lit (9223372036854775807)))) (.b2 .and (.b2 .and (.b2 .le (.lit (-9223372036854775808)) (.var 8)) (.b2 .le (.var 8) (.lit (9223372036854775807)))) (.b2 .and (.b2 .and (.b2 .le (.lit (-9223372036854775808)) (.var 9)) (.b2 .le (.var 9) (.lit (9223372036854775807)))) (.b2 .and (.b2 .and (.b2 .le (.lit (-9223372036854775808)) (.var 10)) (.b2 .le (.var 10) (.lit (9223372036854775807)))) (.b2 .and (.b2 .le (.lit (-9223372036854775808)) (.var 11)) (.b2 .le (.var 11) (.lit (9223372036854775807))))))))))))))) (.b2 .and (.b2 .and (.b2 .le (.lit (-9223372036854775808)) (.var 12)) (.b2 .le (.var 12) (.lit (9223372036854775807)))) (.b2 .and (.b2 .le (.var 13) (.var 14)) (.b2 .and (.b2 .and (.b2 .le (.lit (-9223372036854775808)) (.var 13)) (.b2 .le (.var 13) (.lit (9223372036854775807)))) (.b2 .and (.b2 .le (.lit (-9223372036854775808)) (.var 14)) (.b2 .le (.var 14) (.lit (9223372036854775807)))))))), (.tup (.cons (.agg (.cons (.int .u32 (.var 0)) (.cons (.int .i64 (.var 1)) (.cons (.int .i64 (.var 2)) (.cons (.int .i64 (.var 3)) (.cons (.int .i64 (.var 4)) (.cons (.int .i64 (.var 5)) (.cons (.int .i64 (.var 6)) (.cons (.bool (.tt true)) (.cons (.int .i64 (.var 12)) (.cons (.int .i64 (.iapp 31 (.cons (.int .i64 (.var 13)) (.cons (.int .i64 (.var 14)) .nil)))) (.cons (.int .i64 (.iapp 1 (.cons (.int .i64 (.i2 .sub (.var 14) (.iapp 31 (.cons (.int .i64 (.var 13)) (.cons (.int .i64 (.var 14)) .nil))))) .nil))) (.cons (.int .i64 (.var 10)) (.cons (.int .i64 (.var 11)) .nil)))))))))))))) (.cons (.err (.lit (0))) .nil))), ⟨15, 1, 0, 0⟩, none⟩
theorem set_w : walk Tryd.prog 229 ⟨[yhc_mid], syG, [], [], []⟩ [] .v yjc_set yjc_set.n 3000 = some set_tree := by kernel_rfl
theorem set_h (rm : Int) (rs : Int) (rr : Int) (gp : Int) (gi : Int) (rl : Int) (ro : Int) (hb : Int) (ht : Int) (he : Int) (sf : Int) (ss : Int) (k : Int) (a : Int) (b : Int) (sy : Bool) (hc : holds (yjE [rm, rs, rr, gp, gi, rl, ro, hb, ht, he, sf, ss, k, a, b] [sy] [] []) (.b2 .and (.b2 .and (.b2 .and (.b2 .le (.lit (0)) (.var 0)) (.b2 .le (.var 0) (.lit (4294967295)))) (.b2 .and (.b2 .and (.b2 .le (.lit (-9223372036854775808)) (.var 1)) (.b2 .le (.var 1) (.lit (9223372036854775807)))) (.b2 .and (.b2 .and (.b2 .le (.lit (-9223372036854775808)) (.var 2)) (.b2 .le (.var 2) (.lit (9223372036854775807)))) (.b2 .and (.b2 .and (.b2 .le (.lit (-9223372036854775808)) (.var 3)) (.b2 .le (.var 3) (.lit (9223372036854775807)))) (.b2 .and (.b2 .and (.b2 .le (.lit (-9223372036854775808)) (.var 4)) (.b2 .le (.var 4) (.lit (9223372036854775807)))) (.b2 .and (.b2 .and (.b2 .le (.lit (-9223372036854775808)) (.var 5)) (.b2 .le (.var 5) (.lit (9223372036854775807)))) (.b2 .and (.b2 .and (.b2 .le (.lit (-9223372036854775808)) (.var 6)) (.b2 .le (.var 6) (.lit (9223372036854775807)))) (.b2 .and (.b2 .and (.b2 .le (.lit (-9223372036854775808)) (.var 7)) (.b2 .le (.var 7) (.lit (9223372036854775807)))) (.b2 .and (.b2 .and (.b2 .le (.lit (-9223372036854775808)) (.var 8)) (.b2 .le (.var 8) (.lit (9223372036854775807)))) (.b2 .and (.b2 .and (.b2 .le (.lit (-9223372036854775808)) (.var 9)) (.b2 .le (.var 9) (.lit (9223372036854775807)))) (.b2 .and (.b2 .and (.b2 .le (.lit (-9223372036854775808)) (.var 10)) (.b2 .le (.var 10) (.lit (9223372036854775807)))) (.b2 .and (.b2 .le (.lit (-9223372036854775808)) (.var 11)) (.b2 .le (.var 11) (.lit (9223372036854775807))))))))))))))) (.b2 .and (.b2 .and (.b2 .le (.lit (-9223372036854775808)) (.var 12)) (.b2 .le (.var 12) (.lit (9223372036854775807)))) (.b2 .and (.b2 .le (.var 13) (.var 14)) (.b2 .and (.b2 .and (.b2 .le (.lit (-9223372036854775808)) (.var 13)) (.b2 .le (.var 13) (.lit (9223372036854775807)))) (.b2 .and (.b2 .le (.lit (-9223372036854775808)) (.var 14)) (.b2 .le (.var 14) (.lit (9223372036854775807))))))))) (hty : patsTyp (yjE [rm, rs, rr, gp, gi, rl, ro, hb, ht, he, sf, ss, k, a, b] [sy] [] []) [(.agg (.cons (.int .u32 (.var 0)) (.cons (.int .i64 (.var 1)) (.cons (.int .i64 (.var 2)) (.cons (.int .i64 (.var 3)) (.cons (.int .i64 (.var 4)) (.cons (.int .i64 (.var 5)) (.cons (.int .i64 (.var 6)) (.cons (.bool (.bvar 0)) (.cons (.int .i64 (.var 7)) (.cons (.int .i64 (.var 8)) (.cons (.int .i64 (.var 9)) (.cons (.int .i64 (.var 10)) (.cons (.int .i64 (.var 11)) .nil)))))))))))))), (.int .i64 (.var 12)), (.agg (.cons (.int .i64 (.var 13)) (.cons (.int .i64 (.var 14)) .nil)))]) : set_tree.holds (fun v_ => v_ = denV (yjE [rm, rs, rr, gp, gi, rl, ro, hb, ht, he, sf, ss, k, a, b] [sy] [] []) b0 (.tup (.cons (.agg (.cons (.int .u32 (.var 0)) (.cons (.int .i64 (.var 1)) (.cons (.int .i64 (.var 2)) (.cons (.int .i64 (.var 3)) (.cons (.int .i64 (.var 4)) (.cons (.int .i64 (.var 5)) (.cons (.int .i64 (.var 6)) (.cons (.bool (.tt true)) (.cons (.int .i64 (.var 12)) (.cons (.int .i64 (.iapp 31 (.cons (.int .i64 (.var 13)) (.cons (.int .i64 (.var 14)) .nil)))) (.cons (.int .i64 (.iapp 1 (.cons (.int .i64 (.i2 .sub (.var 14) (.iapp 31 (.cons (.int .i64 (.var 13)) (.cons (.int .i64 (.var 14)) .nil))))) .nil))) (.cons (.int .i64 (.var 10)) (.cons (.int .i64 (.var 11)) .nil)))))))))))))) (.cons (.err (.lit (0))) .nil)))) (yjE [rm, rs, rr, gp, gi, rl, ro, hb, ht, he, sf, ss, k, a, b] [sy] [] []) := by
  simp only [Tree.holds, Sy.holds, AllN, Env.more, yjE, List.cons_append, List.nil_append, List.append_nil, denV, denI, denB, denL, I2.den, VOp.den, List.getD_cons_zero, List.getD_cons_succ, Cst.den, syso, syse, syio, sybo, List.map_nil, List.map_cons, B2.ofInts, B2.denI, B2.denB, if_true, Bool.false_eq_true, if_false, Nat.div_one, Nat.mul_one, Nat.add_zero, holds] at hc
  simp only [patsTyp, patTyp, patTypL, yjE, denV, denL, List.getD_cons_zero, List.getD_cons_succ, and_true, true_and] at hty
  unfold set_tree
  simp only [Tree.holds, Sy.holds, AllN, Env.more, yjE, List.cons_append, List.nil_append, List.append_nil, denV, denI, denB, denL, I2.den, VOp.den, List.getD_cons_zero, List.getD_cons_succ, Cst.den, syso, syse, syio, sybo, yji_sa, yji_mi, List.map_nil, List.map_cons, B2.ofInts, B2.denI, B2.denB, if_true, Bool.false_eq_true, if_false, Nat.div_one, Nat.mul_one, Nat.add_zero]
  refine ⟨?_, fun h0 => ?_⟩
  ·
   omega
  ·
   first
   | exact True.intro
   | rfl
   | skip
theorem yjg_set : yjc_set.Good Tryd.prog syG (yjE [] [] [] []) := good_of_walk (Γ := ⟨[yhc_mid], syG, [], [], []⟩) (ρ := yjE [] [] [] []) sym set_w rfl (fun _ _ _ _ => (ok_cons (Con.Good.env (Con.Good.up (Con.Good.up yhg_mid yiup rfl) yjup rfl) _ _ _ _) ok_nil)) (fun rm rs rr gp gi rl ro hb ht he sf ss k a b sy hc hty => set_h rm rs rr gp gi rl ro hb ht he sf ss k a b sy hc hty)
def meet_tree : Tree :=
 (.br (.not (.b2 .eq (.iapp 30 (.cons (.int .i64 (.var 0)) (.cons (.int .i64 (.var 1)) .nil))) (.lit (0))))
 (.ret (.tup (.cons (.agg (.cons (.int .i64 (.lit (0))) (.cons (.int .i64 (.lit (0))) .nil))) (.cons (.bool (.tt false)) .nil))))
 (.br (.not (.b2 .eq (.iapp 30 (.cons (.int .i64 (.var 2)) (.cons (.int .i64 (.var 3)) .nil))) (.lit (0))))
 (.ret (.tup (.cons (.agg (.cons (.int .i64 (.lit (0))) (.cons (.int .i64 (.lit (0))) .nil))) (.cons (.bool (.tt false)) .nil))))
 (.br (.not (.b2 .eq (.iapp 30 (.cons (.int .i64 (.i2 .max (.var 0) (.var 2))) (.cons (.int .i64 (.i2 .min (.var 1) (.var 3))) .nil))) (.lit (0))))
 (.ret (.tup (.cons (.agg (.cons (.int .i64 (.lit (0))) (.cons (.int .i64 (.lit (0))) .nil))) (.cons (.bool (.tt false)) .nil))))
 (.ret (.tup (.cons (.agg (.cons (.int .i64 (.i2 .max (.var 0) (.var 2))) (.cons (.int .i64 (.i2 .min (.var 1) (.var 3))) .nil))) (.cons (.bool (.tt true)) .nil)))))))
abbrev yjc_meet : Con := ⟨149, [(.agg (.cons (.int .i64 (.var 0)) (.cons (.int .i64 (.var 1)) .nil))), (.agg (.cons (.int .i64 (.var 2)) (.cons (.int .i64 (.var 3)) .nil)))], (.b2 .and (.b2 .le (.var 0) (.var 1)) (.b2 .le (.var 2) (.var 3))), (.tup (.cons (.agg (.cons (.int .i64 (.iapp 56 (.cons (.bool (.b2 .le (.i2 .max (.var 0) (.var 2)) (.i2 .min (.var 1) (.var 3)))) (.cons (.int .i64 (.i2 .max (.var 0) (.var 2))) .nil)))) (.cons (.int .i64 (.iapp 56 (.cons (.bool (.b2 .le (.i2 .max (.var 0) (.var 2)) (.i2 .min (.var 1) (.var 3)))) (.cons (.int .i64 (.i2 .min (.var 1) (.var 3))) .nil)))) .nil))) (.cons (.bool (.b2 .le (.i2 .max (.var 0) (.var 2)) (.i2 .min (.var 1) (.var 3)))) .nil))), ⟨4, 0, 0, 0⟩, none⟩
theorem meet_w : walk Tryd.prog 229 ⟨[yhc_spck], syG, [], [], []⟩ [] .v yjc_meet yjc_meet.n 3000 = some meet_tree := by kernel_rfl
theorem meet_h (a : Int) (b : Int) (c : Int) (d : Int) (hc : holds (yjE [a, b, c, d] [] [] []) (.b2 .and (.b2 .le (.var 0) (.var 1)) (.b2 .le (.var 2) (.var 3)))) (hty : patsTyp (yjE [a, b, c, d] [] [] []) [(.agg (.cons (.int .i64 (.var 0)) (.cons (.int .i64 (.var 1)) .nil))), (.agg (.cons (.int .i64 (.var 2)) (.cons (.int .i64 (.var 3)) .nil)))]) : meet_tree.holds (fun v_ => v_ = denV (yjE [a, b, c, d] [] [] []) b0 (.tup (.cons (.agg (.cons (.int .i64 (.iapp 56 (.cons (.bool (.b2 .le (.i2 .max (.var 0) (.var 2)) (.i2 .min (.var 1) (.var 3)))) (.cons (.int .i64 (.i2 .max (.var 0) (.var 2))) .nil)))) (.cons (.int .i64 (.iapp 56 (.cons (.bool (.b2 .le (.i2 .max (.var 0) (.var 2)) (.i2 .min (.var 1) (.var 3)))) (.cons (.int .i64 (.i2 .min (.var 1) (.var 3))) .nil)))) .nil))) (.cons (.bool (.b2 .le (.i2 .max (.var 0) (.var 2)) (.i2 .min (.var 1) (.var 3)))) .nil)))) (yjE [a, b, c, d] [] [] []) := by
  simp only [Tree.holds, Sy.holds, AllN, Env.more, yjE, List.cons_append, List.nil_append, List.append_nil, denV, denI, denB, denL, I2.den, VOp.den, List.getD_cons_zero, List.getD_cons_succ, Cst.den, syso, syse, syio, sybo, List.map_nil, List.map_cons, B2.ofInts, B2.denI, B2.denB, if_true, Bool.false_eq_true, if_false, Nat.div_one, Nat.mul_one, Nat.add_zero, holds] at hc
  simp only [patsTyp, patTyp, patTypL, yjE, denV, denL, List.getD_cons_zero, List.getD_cons_succ, and_true, true_and] at hty
  unfold meet_tree
  simp only [Tree.holds, Sy.holds, AllN, Env.more, yjE, List.cons_append, List.nil_append, List.append_nil, denV, denI, denB, denL, I2.den, VOp.den, List.getD_cons_zero, List.getD_cons_succ, Cst.den, syso, syse, syio, sybo, yji_se, yji_gb, List.map_nil, List.map_cons, B2.ofInts, B2.denI, B2.denB, if_true, Bool.false_eq_true, if_false, Nat.div_one, Nat.mul_one, Nat.add_zero]
  have s1 := spI_spec a b
  have s2 := spI_spec c d
  have s3 := spI_spec (if c > a then c else a) (if d < b then d else b)
  refine ⟨fun h0 => ?_, fun h0 => ?_⟩
  ·
   first
   | (exfalso; omega)
   | (rw [show decide ((if c > a then c else a) ≤ (if d < b then d else b)) = true from decide_eq_true (by omega)]; rfl)
   | (rw [show decide ((if c > a then c else a) ≤ (if d < b then d else b)) = false from decide_eq_false (by omega)]; rfl)
   | skip
  ·
   refine ⟨fun h1 => ?_, fun h1 => ?_⟩
   ·
    first
    | (exfalso; omega)
    | (rw [show decide ((if c > a then c else a) ≤ (if d < b then d else b)) = true from decide_eq_true (by omega)]; rfl)
    | (rw [show decide ((if c > a then c else a) ≤ (if d < b then d else b)) = false from decide_eq_false (by omega)]; rfl)
    | skip
   ·
    refine ⟨fun h2 => ?_, fun h2 => ?_⟩
    ·
     first
     | (exfalso; omega)
     | (rw [show decide ((if c > a then c else a) ≤ (if d < b then d else b)) = true from decide_eq_true (by omega)]; rfl)
     | (rw [show decide ((if c > a then c else a) ≤ (if d < b then d else b)) = false from decide_eq_false (by omega)]; rfl)
     | skip
    ·
     first
     | (exfalso; omega)
     | (rw [show decide ((if c > a then c else a) ≤ (if d < b then d else b)) = true from decide_eq_true (by omega)]; rfl)
     | (rw [show decide ((if c > a then c else a) ≤ (if d < b then d else b)) = false from decide_eq_false (by omega)]; rfl)
     | skip
theorem yjg_meet : yjc_meet.Good Tryd.prog syG (yjE [] [] [] []) := good_of_walk (Γ := ⟨[yhc_spck], syG, [], [], []⟩) (ρ := yjE [] [] [] []) sym meet_w rfl (fun _ _ _ _ => (ok_cons (Con.Good.env (Con.Good.up (Con.Good.up yhg_spck yiup rfl) yjup rfl) _ _ _ _) ok_nil)) (fun a b c d hc hty => meet_h a b c d hc hty)
end Go.Proofs.YtjhjgfnodhbacaaDoor
