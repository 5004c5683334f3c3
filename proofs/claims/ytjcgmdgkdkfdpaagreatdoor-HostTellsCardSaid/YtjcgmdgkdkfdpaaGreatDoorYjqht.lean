/-
 Layer 18 by the second engine: hosts set.
-/
import Derived.Test.YtjcgmdgkdkfdpaaGreatDoorSycqht
import Derived.Test.YtjcgmdgkdkfdpaaGreatDoorYiqht
import Derived.Test.YtjcgmdgkdkfdpaaGreatDoorE00qht
import Derived.Test.YtjcgmdgkdkfdpaaGreatDoorEisqht
namespace Go.Proofs.YtjcgmdgkdkfdpaaGreatDoor
open Go.RowKit Go.Extern.Stop Go.Stop Go.Extern Go.Proofs.YtjcgmdgkdkfdpaaGreatDoor.Sy
set_option linter.unusedVariables false
set_option linter.unusedSimpArgs false
abbrev xryjqhtk0_ : Tm := (.tup (.cons (.int .u32 v0_) (.cons z1_ (.cons z2_ (.cons z3_ (.cons z4_ (.cons z5_ (.cons z6_ (.cons (.bool (.bvar 0)) (.cons z7_ (.cons z8_ (.cons z9_ (.cons (.int .i64 (.var 10)) (.cons (.int .i64 (.var 11)) .nil))))))))))))))
abbrev xryjqhtk7_ : Tm := (.iapp 44 (.cons xryjqhtk0_ (.cons (.int .i64 (.var 12)) .nil)))
abbrev xryjqhtk9_ : Tm := (.iapp 45 (.cons xryjqhtk0_ (.cons (.int .i64 (.var 12)) .nil)))
abbrev xryjqhtk3_ : Tm := (le_ (.i2 .max (.var 13) (.iapp 1 (.cons (.int .i64 (sb_ xryjqhtk7_ xryjqhtk9_)) .nil))) (.i2 .min (.var 14) (.iapp 1 (.cons (.int .i64 (ad_ xryjqhtk7_ xryjqhtk9_)) .nil))))
abbrev xryjqhtk13_ : Tm := (.iapp 56 (.cons (.bool xryjqhtk3_) (.cons (.int .i64 (.i2 .max (.var 13) (.iapp 1 (.cons (.int .i64 (sb_ xryjqhtk7_ xryjqhtk9_)) .nil)))) .nil)))
abbrev xryjqhtk11_ : Tm := (.iapp 56 (.cons (.bool xryjqhtk3_) (.cons (.int .i64 (.i2 .min (.var 14) (.iapp 1 (.cons (.int .i64 (ad_ xryjqhtk7_ xryjqhtk9_)) .nil)))) .nil)))
abbrev xryjqhtk1_ : Tm := (.iapp 31 (.cons (.int .i64 xryjqhtk13_) (.cons (.int .i64 xryjqhtk11_) .nil)))
abbrev xryjqhtk2_ : Tm := (an_ (an_ (le_ (.lit 0) v0_) (le_ v0_ (.lit 4294967295))) (an_ (an_ (le_ lm_ v1_) (le_ v1_ lM_)) (an_ (an_ (le_ lm_ v2_) (le_ v2_ lM_)) (an_ (an_ (le_ lm_ v3_) (le_ v3_ lM_)) (an_ (an_ (le_ lm_ v4_) (le_ v4_ lM_)) (an_ (an_ (le_ lm_ v5_) (le_ v5_ lM_)) (an_ (an_ (le_ lm_ v6_) (le_ v6_ lM_)) (an_ (an_ (le_ lm_ v7_) (le_ v7_ lM_)) (an_ (an_ (le_ lm_ v8_) (le_ v8_ lM_)) (an_ (an_ (le_ lm_ v9_) (le_ v9_ lM_)) (an_ (an_ (le_ lm_ (.var 10)) (le_ (.var 10) lM_)) (an_ (le_ lm_ (.var 11)) (le_ (.var 11) lM_)))))))))))))
abbrev xryjqhtk4_ : Tm := (.agg (.cons (.int .u32 (.lit 0)) (.cons (.int .i64 (.lit 0)) (.cons (.int .i64 (.lit 0)) (.cons (.int .i64 (.lit 0)) (.cons (.int .i64 (.lit 0)) (.cons (.int .i64 (.lit 0)) (.cons (.int .i64 (.lit 0)) (.cons (.bool (.tt false)) (.cons (.int .i64 (.lit 0)) (.cons (.int .i64 (.lit 0)) (.cons (.int .i64 (.lit 0)) (.cons (.int .i64 (.lit 0)) (.cons (.int .i64 (.lit 0)) .nil))))))))))))))
abbrev xryjqhtk5_ : Tm := (.iapp 49 (.cons xryjqhtk0_ (.cons (.int .i64 (.var 12)) (.cons (.int .i64 (.var 13)) (.cons (.int .i64 (.var 14)) .nil)))))
abbrev xryjqhtk10_ : Tm := (.iapp 31 (.cons (.int .i64 (.var 13)) (.cons (.int .i64 (.var 14)) .nil)))
abbrev xryjqhtk6_ : Tm := (.agg (.cons (.int .u32 v0_) (.cons z1_ (.cons z2_ (.cons z3_ (.cons z4_ (.cons z5_ (.cons z6_ (.cons (.bool (.tt true)) (.cons (.int .i64 (.var 12)) (.cons (.int .i64 xryjqhtk10_) (.cons (.int .i64 (.iapp 1 (.cons (.int .i64 (sb_ (.var 14) xryjqhtk10_)) .nil))) (.cons (.int .i64 (.var 10)) (.cons (.int .i64 (.var 11)) .nil))))))))))))))
abbrev xryjqhtk8_ : Tm := (an_ xryjqhtk2_ (an_ (an_ (le_ lm_ (.var 12)) (le_ (.var 12) lM_)) (an_ (le_ (.var 13) (.var 14)) (an_ (an_ (le_ lm_ (.var 13)) (le_ (.var 13) lM_)) (an_ (le_ lm_ (.var 14)) (le_ (.var 14) lM_))))))
abbrev xryjqhtk12_ : Tm := (.tup (.cons xryjqhtk4_ (.cons (.iface 94 (.int .i64 (.lit 1))) .nil)))
abbrev xryjqhtk14_ : Tm := (.agg (.cons (.int .u32 v0_) (.cons z1_ (.cons z2_ (.cons z3_ (.cons z4_ (.cons z5_ (.cons z6_ (.cons (.bool (.bvar 0)) (.cons z7_ (.cons z8_ (.cons z9_ (.cons (.int .i64 (.var 10)) (.cons (.int .i64 (.var 11)) .nil))))))))))))))
abbrev xryjqhtk15_ : Tm := (.tup (.cons (.agg (.cons (.int .i64 (.lit 0)) (.cons (.int .i64 (.lit 0)) .nil))) (.cons (.bool (.tt false)) .nil)))
def gbF (b : Bool) (x : Int) : Int := if b then x else 0
theorem gb_y (x : Int) : gbF true x = x := rfl
theorem gb_n (x : Int) : gbF false x = 0 := rfl
theorem eis_any (n : Int) (w : World) : Calls Tryz.prog 39 #[errVal 94 n, .iface 94 (.int .i64 2)] w fun e w' => e = .returned (.bool (n == 2)) ∧ Below w.heap.size w w' := by
 unfold errVal
 split
 · rename_i h
   subst h
   exact (ei_nil 2 w).mono fun e w' ⟨h1, h2⟩ => ⟨h1, h2 ▸ Below.refl _ _⟩
 · exact (ei_err n 2 w (n == 2) rfl).mono fun e w' ⟨h1, h2⟩ => ⟨h1, h2 ▸ Below.refl _ _⟩
theorem hoE_or (rm rs rr gp gi rl ro hb ht he sf ss : Int) : (hoP rm rs rr gp gi rl ro hb ht he sf ss ∧ hoE rm rs rr gp gi rl ro hb ht he sf ss = 0) ∨ (¬ hoP rm rs rr gp gi rl ro hb ht he sf ss ∧ hoE rm rs rr gp gi rl ro hb ht he sf ss = 1) := by
 by_cases h : hoP rm rs rr gp gi rl ro hb ht he sf ss
 · exact .inl ⟨h, hoE_y h⟩
 · exact .inr ⟨h, hoE_n h⟩
theorem sy_cases (rm rs rr gp gi rl ro hb ht he sf ss : Int) (sy : Bool) (k a b : Int) : ((hoE rm rs rr gp gi rl ro hb ht he sf ss = 1 ∨ k < 0 ∨ 1152921504606846976 < k ∨ b < a ∨ a ≤ -2305843009213693952 ∨ 2305843009213693952 ≤ b) ∧ syE rm rs rr gp gi rl ro hb ht he sf ss sy k a b = 1) ∨ ((hoP rm rs rr gp gi rl ro hb ht he sf ss ∧ hoE rm rs rr gp gi rl ro hb ht he sf ss = 0 ∧ 0 ≤ k ∧ k ≤ 1152921504606846976 ∧ a ≤ b ∧ -2305843009213693952 < a ∧ b < 2305843009213693952) ∧ ((sy = true ∧ k < hb ∧ syE rm rs rr gp gi rl ro hb ht he sf ss sy k a b = 10) ∨ ((sy = false ∨ hb ≤ k) ∧ syE rm rs rr gp gi rl ro hb ht he sf ss sy k a b = 0))) := by
 have hoo := hoE_or rm rs rr gp gi rl ro hb ht he sf ss
 unfold syE
 by_cases h : ¬ hoP rm rs rr gp gi rl ro hb ht he sf ss ∨ k < 0 ∨ 1152921504606846976 < k ∨ b < a ∨ a ≤ -2305843009213693952 ∨ 2305843009213693952 ≤ b
 · left
   rw [if_pos h]
   refine ⟨?_, rfl⟩
   rcases h with h | h
   · rcases hoo with ⟨x, _⟩ | ⟨_, x⟩
     · exact absurd x h
     · exact .inl x
   · exact .inr h
 · right
   rw [if_neg h]
   rcases hoo with ⟨x, y⟩ | ⟨x, _⟩
   · refine ⟨⟨x, y, by omega, by omega, by omega, by omega, by omega⟩, ?_⟩
     by_cases h2 : sy = true ∧ k < hb
     · rw [if_pos h2]; exact .inl ⟨h2.1, h2.2, rfl⟩
     · rw [if_neg h2]
       refine .inr ⟨?_, rfl⟩
       cases sy
       · exact .inl rfl
       · refine .inr ?_
         apply Decidable.byContradiction
         intro h3
         exact h2 ⟨rfl, by omega⟩
   · exact absurd (.inl x) h
theorem rk_bd {rm rs rr gp gi rl ro hb ht he sf ss k : Int} (hp : hoP rm rs rr gp gi rl ro hb ht he sf ss) : 0 ≤ rkO rm rs rr hb ht he sf k ∧ rkO rm rs rr hb ht he sf k ≤ 9223372036854775807 ∧ -4611686018427387904 < rkT rm rs hb ht sf k ∧ rkT rm rs hb ht sf k < 4611686018427387904 := by
 obtain ⟨f, a1, a2, a3, a4, a5, a6, a7, a8, a9, a10, a11, a12, a13, a14, a15, a16, a17, a18, a19, a20⟩ := id hp
 rcases rk_spec rm rs rr hb ht he sf k with ⟨_, _, e1, e2⟩ | ⟨_, _, e1, e2⟩ | ⟨⟨k1, k2, k3, k4, k5⟩, _, e1, e2⟩
 · rw [e1, e2]; omega
 · rw [e1, e2]; omega
 · rw [e1, e2]
   have q1 := (ms_spec (ad_fm k3) (show 0 ≤ k - hb by omega)).1
   refine ⟨?_, ?_, by omega, by omega⟩
   · unfold bnO
     have q2 := (ms_spec f (show 0 ≤ k - hb by omega)).1
     have p := pabs_spec sf
     have s1 := satE_spec (qE rm rs (k - hb) + 1)
     have m := Int.mul_nonneg (show 0 ≤ satE (qE rm rs (k - hb) + 1) by omega) (show 0 ≤ rr + pabs sf by omega)
     have u : 0 ≤ upK (satE (qE rm rs (k - hb) + 1) * (rr + pabs sf)) := by unfold upK; omega
     have v := (hv_bd (n := k - hb) (s := rs) (by omega)).1
     have s2 := satE_spec (he + upK (satE (qE rm rs (k - hb) + 1) * (rr + pabs sf)))
     have s3 := satE_spec (satE (he + upK (satE (qE rm rs (k - hb) + 1) * (rr + pabs sf))) + ((k - hb) / 2 ^ rs.toNat + 2))
     have s4 := satE_spec (satE (satE (he + upK (satE (qE rm rs (k - hb) + 1) * (rr + pabs sf))) + ((k - hb) / 2 ^ rs.toNat + 2)) + 2)
     omega
   · unfold bnO
     have s4 := satE_spec (satE (satE (he + upK (satE (qE rm rs (k - hb) + 1) * (rr + pabs sf))) + ((k - hb) / 2 ^ rs.toNat + 2)) + 2)
     omega
theorem sy_uns {rm rs rr gp gi rl ro hb ht he sf ss k a b : Int} {sy : Bool} (h : sy = false ∨ rkE rm rs hb ht sf k ≠ 0) : syT rm rs rr gp gi rl ro hb ht he sf ss sy k a b = miI a b ∧ syR rm rs rr gp gi rl ro hb ht he sf ss sy k a b = satE (b - miI a b) ∧ syF rm rs rr gp gi rl ro hb ht he sf ss sy k a b = sf ∧ syS rm rs rr gp gi rl ro hb ht he sf ss sy k a b = ss := by
 have h1 : ¬ syM rm rs rr gp gi rl ro hb ht he sf ss sy k a b := fun hx => by
   rcases h with h | h
   · exact absurd (h.symm.trans hx.1) (by decide)
   · exact h hx.2.1
 have h2 : ¬ (sy = true ∧ rkE rm rs hb ht sf k = 0) := fun hx => by
   rcases h with h | h
   · exact absurd (h.symm.trans hx.1) (by decide)
   · exact h hx.2
 have hL : syL rm rs rr gp gi rl ro hb ht he sf ss sy k a b = a := by unfold syL; rw [if_neg h1]
 have hH : syH rm rs rr gp gi rl ro hb ht he sf ss sy k a b = b := by unfold syH; rw [if_neg h1]
 have hT : syT rm rs rr gp gi rl ro hb ht he sf ss sy k a b = miI a b := by unfold syT; rw [hL, hH]
 refine ⟨hT, by unfold syR; rw [hH, hT], by unfold syF; rw [if_neg h2], by unfold syS; rw [if_neg h2]⟩
theorem sy_m {rm rs rr gp gi rl ro hb ht he sf ss k a b L H : Int} (h0 : rkE rm rs hb ht sf k = 0) (hL : (if satE (rkT rm rs hb ht sf k - rkO rm rs rr hb ht he sf k) > a then satE (rkT rm rs hb ht sf k - rkO rm rs rr hb ht he sf k) else a) = L) (hH : (if satE (rkT rm rs hb ht sf k + rkO rm rs rr hb ht he sf k) < b then satE (rkT rm rs hb ht sf k + rkO rm rs rr hb ht he sf k) else b) = H) (h : L ≤ H) : syT rm rs rr gp gi rl ro hb ht he sf ss true k a b = miI L H ∧ syR rm rs rr gp gi rl ro hb ht he sf ss true k a b = satE (H - miI L H) ∧ syF rm rs rr gp gi rl ro hb ht he sf ss true k a b = stF gp gi rl ss (satE (miI L H - rkT rm rs hb ht sf k)) ∧ syS rm rs rr gp gi rl ro hb ht he sf ss true k a b = stS ss (satE (miI L H - rkT rm rs hb ht sf k)) := by
 have h1 : syM rm rs rr gp gi rl ro hb ht he sf ss true k a b := ⟨rfl, h0, by rw [← hL, ← hH] at h; exact h⟩
 have eL : syL rm rs rr gp gi rl ro hb ht he sf ss true k a b = L := by unfold syL; rw [if_pos h1]; exact hL
 have eH : syH rm rs rr gp gi rl ro hb ht he sf ss true k a b = H := by unfold syH; rw [if_pos h1]; exact hH
 have eT : syT rm rs rr gp gi rl ro hb ht he sf ss true k a b = miI L H := by unfold syT; rw [eL, eH]
 refine ⟨eT, by unfold syR; rw [eH, eT], by unfold syF; rw [if_pos ⟨rfl, h0⟩, eT], by unfold syS; rw [if_pos ⟨rfl, h0⟩, eT]⟩
theorem sy_n {rm rs rr gp gi rl ro hb ht he sf ss k a b L H : Int} (h0 : rkE rm rs hb ht sf k = 0) (hL : (if satE (rkT rm rs hb ht sf k - rkO rm rs rr hb ht he sf k) > a then satE (rkT rm rs hb ht sf k - rkO rm rs rr hb ht he sf k) else a) = L) (hH : (if satE (rkT rm rs hb ht sf k + rkO rm rs rr hb ht he sf k) < b then satE (rkT rm rs hb ht sf k + rkO rm rs rr hb ht he sf k) else b) = H) (h : ¬ L ≤ H) : syT rm rs rr gp gi rl ro hb ht he sf ss true k a b = miI a b ∧ syR rm rs rr gp gi rl ro hb ht he sf ss true k a b = satE (b - miI a b) ∧ syF rm rs rr gp gi rl ro hb ht he sf ss true k a b = stF gp gi rl ss (satE (miI a b - rkT rm rs hb ht sf k)) ∧ syS rm rs rr gp gi rl ro hb ht he sf ss true k a b = stS ss (satE (miI a b - rkT rm rs hb ht sf k)) := by
 have h1 : ¬ syM rm rs rr gp gi rl ro hb ht he sf ss true k a b := fun hx => by
   rw [← hL, ← hH] at h
   exact h hx.2.2
 have eL : syL rm rs rr gp gi rl ro hb ht he sf ss true k a b = a := by unfold syL; rw [if_neg h1]
 have eH : syH rm rs rr gp gi rl ro hb ht he sf ss true k a b = b := by unfold syH; rw [if_neg h1]
 have eT : syT rm rs rr gp gi rl ro hb ht he sf ss true k a b = miI a b := by unfold syT; rw [eL, eH]
 refine ⟨eT, by unfold syR; rw [eH, eT], by unfold syF; rw [if_pos ⟨rfl, h0⟩, eT], by unfold syS; rw [if_pos ⟨rfl, h0⟩, eT]⟩
noncomputable def yjI : Nat → List Value → Int
 | 56, [.bool b, .int _ x] => gbF b x
 | i, l => yiI i l
noncomputable def yjB : Nat → List Value → Bool
 | i, l => yiB i l
noncomputable def yjV : Nat → List Value → Value
 | i, l => yiV i l
noncomputable abbrev yjE (iv : List Int) (bv : List Bool) (vv : List Value) (sv : List ByteArray) : Env := { iv := iv, bv := bv, vv := vv, sv := sv, fi := yjI, fb := yjB, fv := yjV, et := 94 }
set_option maxHeartbeats 8000000 in
theorem yjup : Agree 56 5 2 (yiE [] [] [] []) (yjE [] [] [] []) := ⟨rfl, (by
   intro f hf
   funext l
   show yjI f l = yiI f l
   unfold yjI
   split <;> first | rfl | omega), (by
   intro f hf
   funext l
   show yjB f l = yiB f l
   unfold yjB
   split <;> first | rfl | omega), (by
   intro f hf
   funext l
   show yjV f l = yiV f l
   unfold yjV
   split <;> first | rfl | omega)⟩
theorem yji_sa (k1 : IntKind) (a : Int) : yjI 1 [.int k1 a] = satE a := rfl
theorem yji_se (k1 : IntKind) (a : Int) (k2 : IntKind) (b : Int) : yjI 30 [.int k1 a, .int k2 b] = spI a b := rfl
theorem yji_mi (k1 : IntKind) (a : Int) (k2 : IntKind) (b : Int) : yjI 31 [.int k1 a, .int k2 b] = miI a b := rfl
theorem yji_sve (k1 : IntKind) (p : Int) (k2 : IntKind) (q : Int) (k3 : IntKind) (l : Int) : yjI 35 [.int k1 p, .int k2 q, .int k3 l] = svK p q l := rfl
theorem yji_sts (k1 : IntKind) (s : Int) (k2 : IntKind) (o : Int) : yjI 36 [.int k1 s, .int k2 o] = stS s o := rfl
theorem yji_stf (k1 : IntKind) (p : Int) (k2 : IntKind) (q : Int) (k3 : IntKind) (l : Int) (k4 : IntKind) (s : Int) (k5 : IntKind) (o : Int) : yjI 41 [.int k1 p, .int k2 q, .int k3 l, .int k4 s, .int k5 o] = stF p q l s o := rfl
theorem yji_hme (l : Value) : yjI 42 [l] = hoL (rows l) := rfl
theorem yji_rke (l : Value) (k1 : IntKind) (k : Int) : yjI 43 [l, .int k1 k] = rkEl (rows l) k := rfl
theorem yji_rkt (l : Value) (k1 : IntKind) (k : Int) : yjI 44 [l, .int k1 k] = rkTl (rows l) k := rfl
theorem yji_rko (l : Value) (k1 : IntKind) (k : Int) : yjI 45 [l, .int k1 k] = rkOl (rows l) k := rfl
theorem yji_sye (l : Value) (k1 : IntKind) (k : Int) (k2 : IntKind) (a : Int) (k3 : IntKind) (b : Int) : yjI 49 [l, .int k1 k, .int k2 a, .int k3 b] = syEl (rows l) k a b := rfl
theorem yji_syt (l : Value) (k1 : IntKind) (k : Int) (k2 : IntKind) (a : Int) (k3 : IntKind) (b : Int) : yjI 50 [l, .int k1 k, .int k2 a, .int k3 b] = syTl (rows l) k a b := rfl
theorem yji_syr (l : Value) (k1 : IntKind) (k : Int) (k2 : IntKind) (a : Int) (k3 : IntKind) (b : Int) : yjI 51 [l, .int k1 k, .int k2 a, .int k3 b] = syRl (rows l) k a b := rfl
theorem yji_syf (l : Value) (k1 : IntKind) (k : Int) (k2 : IntKind) (a : Int) (k3 : IntKind) (b : Int) : yjI 52 [l, .int k1 k, .int k2 a, .int k3 b] = syFl (rows l) k a b := rfl
theorem yji_sys (l : Value) (k1 : IntKind) (k : Int) (k2 : IntKind) (a : Int) (k3 : IntKind) (b : Int) : yjI 53 [l, .int k1 k, .int k2 a, .int k3 b] = sySl (rows l) k a b := rfl
theorem yji_gd (k1 : IntKind) (e : Int) (k2 : IntKind) (x : Int) : yjI 54 [.int k1 e, .int k2 x] = gdF e x := rfl
theorem yji_gb (b : Bool) (k1 : IntKind) (x : Int) : yjI 56 [.bool b, .int k1 x] = gbF b x := rfl
theorem yjb_hm (l : Value) : yjB 4 [l] = hoB (rows l) := rfl
abbrev yjc_eis : Con := ⟨39, [(.err v0_), (.iface 94 (.int .i64 (.lit 2)))], (.tt true), (.bool (eq_ v0_ (.lit 2))), ⟨1, 0, 0, 0⟩, none⟩
theorem yjg_eis : yjc_eis.Good Tryz.prog syG (yjE [] [] [] []) := good_flat rfl rfl rfl (by
 intro n hc β ok w hG
 have hc' := hc
 simp only [Tree.holds, Sy.holds, AllN, Env.more, yjE, List.cons_append, List.nil_append, List.append_nil, denV, denI, denB, denL, I2.den, VOp.den, List.getD_cons_zero, List.getD_cons_succ, Cst.den, syso, syse, syio, sybo, List.map_nil, List.map_cons, B2.ofInts, B2.denI, B2.denB, if_true, Bool.false_eq_true, if_false, Nat.div_one, Nat.mul_one, Nat.add_zero, holds] at hc
 exact eis_any n w)
def set_tree : Tree :=
 (.need (an_ (le_ (.var 13) (.var 14)) (an_ (an_ (le_ lm_ (.var 13)) (le_ (.var 13) lM_)) (an_ (le_ lm_ (.var 14)) (le_ (.var 14) lM_))))
 (.ret (.tup (.cons xryjqhtk6_ (.cons (.cst .nilI) .nil)))))
abbrev yjc_set : Con := ⟨38, [xryjqhtk14_, (.int .i64 (.var 12)), (.agg (.cons (.int .i64 (.var 13)) (.cons (.int .i64 (.var 14)) .nil)))], xryjqhtk8_, (.tup (.cons xryjqhtk6_ (.cons (.err (.lit 0)) .nil))), ⟨15, 1, 0, 0⟩, none⟩
theorem set_w : walk Tryz.prog 94 ⟨[yhc_mid], syG, [], [], []⟩ [] .v yjc_set yjc_set.n 3000 = some set_tree := by kernel_rfl
theorem set_h (rm rs rr gp gi rl ro hb ht he sf ss k a b : Int) (sy : Bool) : Hyp_ yjc_set set_tree (yjE [rm, rs, rr, gp, gi, rl, ro, hb, ht, he, sf, ss, k, a, b] [sy] [] []) := by
 intro hc hty
 simp only [yjc_set, Sy.holds, yjE, denV, denI, denB, denL, I2.den, VOp.den, List.getD_cons_zero, List.getD_cons_succ, Cst.den, syso, syse, syio, sybo, B2.ofInts, B2.denI, B2.denB, if_true, Bool.false_eq_true, if_false, Nat.div_one, Nat.mul_one, Nat.add_zero] at hc
 simp only [yjc_set, patsTyp, patTyp, patTypL, yjE, denV, denL, List.getD_cons_zero, List.getD_cons_succ, and_true, true_and] at hty
 unfold set_tree
 simp only [yjc_set, Tree.holds, Sy.holds, yjE, denV, denI, denB, denL, I2.den, VOp.den, List.getD_cons_zero, List.getD_cons_succ, Cst.den, syso, syse, syio, sybo, yji_sa, yji_mi, B2.ofInts, B2.denI, B2.denB, if_true, Bool.false_eq_true, if_false, Nat.div_one, Nat.mul_one, Nat.add_zero]
 refine ⟨?_, fun h0 => ?_⟩
 ·
  omega
 ·
  first
  | exact True.intro
  | rfl
  | skip
theorem yjg_set : yjc_set.Good Tryz.prog syG (yjE [] [] [] []) := good_of_walk (Γ := ⟨[yhc_mid], syG, [], [], []⟩) (ρ := yjE [] [] [] []) sym set_w rfl (fun _ _ _ _ => (ok_cons (Con.Good.env (Con.Good.up (Con.Good.up yhg_mid yiup rfl) yjup rfl) _ _ _ _) ok_nil)) set_h
def meet_tree : Tree :=
 (.br (.not (eq_ (.iapp 30 (.cons z0_ (.cons z1_ .nil))) (.lit 0)))
 (.ret xryjqhtk15_)
 (.br (.not (eq_ (.iapp 30 (.cons z2_ (.cons z3_ .nil))) (.lit 0)))
 (.ret xryjqhtk15_)
 (.br (.not (eq_ (.iapp 30 (.cons (.int .i64 (.i2 .max v0_ v2_)) (.cons (.int .i64 (.i2 .min v1_ v3_)) .nil))) (.lit 0)))
 (.ret xryjqhtk15_)
 (.ret (.tup (.cons (.agg (.cons (.int .i64 (.i2 .max v0_ v2_)) (.cons (.int .i64 (.i2 .min v1_ v3_)) .nil))) (.cons (.bool (.tt true)) .nil)))))))
abbrev yjc_meet : Con := ⟨41, [(.agg (.cons z0_ (.cons z1_ .nil))), (.agg (.cons z2_ (.cons z3_ .nil)))], (an_ (le_ v0_ v1_) (le_ v2_ v3_)), (.tup (.cons (.agg (.cons (.int .i64 (.iapp 56 (.cons (.bool (le_ (.i2 .max v0_ v2_) (.i2 .min v1_ v3_))) (.cons (.int .i64 (.i2 .max v0_ v2_)) .nil)))) (.cons (.int .i64 (.iapp 56 (.cons (.bool (le_ (.i2 .max v0_ v2_) (.i2 .min v1_ v3_))) (.cons (.int .i64 (.i2 .min v1_ v3_)) .nil)))) .nil))) (.cons (.bool (le_ (.i2 .max v0_ v2_) (.i2 .min v1_ v3_))) .nil))), ⟨4, 0, 0, 0⟩, none⟩
theorem meet_w : walk Tryz.prog 94 ⟨[yhc_spck], syG, [], [], []⟩ [] .v yjc_meet yjc_meet.n 3000 = some meet_tree := by kernel_rfl
theorem meet_h (a b c d : Int) : Hyp_ yjc_meet meet_tree (yjE [a, b, c, d] [] [] []) := by
 intro hc hty
 simp only [yjc_meet, Sy.holds, yjE, denV, denI, denB, denL, I2.den, VOp.den, List.getD_cons_zero, List.getD_cons_succ, Cst.den, syso, syse, syio, sybo, B2.ofInts, B2.denI, B2.denB, if_true, Bool.false_eq_true, if_false, Nat.div_one, Nat.mul_one, Nat.add_zero] at hc
 simp only [yjc_meet, patsTyp, patTyp, patTypL, yjE, denV, denL, List.getD_cons_zero, List.getD_cons_succ, and_true, true_and] at hty
 unfold meet_tree
 simp only [yjc_meet, Tree.holds, Sy.holds, yjE, denV, denI, denB, denL, I2.den, VOp.den, List.getD_cons_zero, List.getD_cons_succ, Cst.den, syso, syse, syio, sybo, yji_se, yji_gb, B2.ofInts, B2.denI, B2.denB, if_true, Bool.false_eq_true, if_false, Nat.div_one, Nat.mul_one, Nat.add_zero]
 have s1 := spI_spec a b
 have s2 := spI_spec c d
 have s3 := spI_spec (if c > a then c else a) (if d < b then d else b)
 refine ⟨fun h0 => ?_, fun h0 => ?_⟩
 refine ?a0; rotate_left
 refine ⟨fun h1 => ?_, fun h1 => ?_⟩
 refine ?a1; rotate_left
 refine ⟨fun h2 => ?_, fun h2 => ?_⟩
 refine ?a2; rotate_left
 refine ?a3; rotate_left
 case a0 | a1 | a2 | a3 =>
  first
  | (exfalso; omega)
  | (rw [show decide ((if c > a then c else a) ≤ (if d < b then d else b)) = true from decide_eq_true (by omega)]; rfl)
  | (rw [show decide ((if c > a then c else a) ≤ (if d < b then d else b)) = false from decide_eq_false (by omega)]; rfl)
  | skip
theorem yjg_meet : yjc_meet.Good Tryz.prog syG (yjE [] [] [] []) := good_of_walk (Γ := ⟨[yhc_spck], syG, [], [], []⟩) (ρ := yjE [] [] [] []) sym meet_w rfl (fun _ _ _ _ => (ok_cons (Con.Good.env (Con.Good.up (Con.Good.up yhg_spck yiup rfl) yjup rfl) _ _ _ _) ok_nil)) meet_h
def sync_tree : Tree :=
 (.need xryjqhtk2_
 (.br (.not (eq_ (.iapp 42 (.cons xryjqhtk0_ .nil)) (.lit 0)))
 (.ret xryjqhtk12_)
 (.br (lt_ (.var 12) (.lit 0))
 (.ret xryjqhtk12_)
 (.br (lt_ (.lit 1152921504606846976) (.var 12))
 (.ret xryjqhtk12_)
 (.br (.not (eq_ (.iapp 30 (.cons (.int .i64 (.var 13)) (.cons (.int .i64 (.var 14)) .nil))) (.lit 0)))
 (.ret xryjqhtk12_)
 (.br (le_ (.var 13) (.lit (-2305843009213693952)))
 (.ret xryjqhtk12_)
 (.br (le_ (.lit 2305843009213693952) (.var 14))
 (.ret xryjqhtk12_)
 (.br (.not (.bvar 0))
 (.need xryjqhtk8_
 (.ret (.tup (.cons xryjqhtk6_ (.cons (.err (.lit 0)) .nil)))))
 (.need (an_ xryjqhtk2_ (an_ (.bapp 4 (.cons xryjqhtk0_ .nil)) (an_ (le_ lm_ (.var 12)) (le_ (.var 12) lM_))))
 (.br (eq_ (.iapp 43 (.cons xryjqhtk0_ (.cons (.int .i64 (.var 12)) .nil))) (.lit 2))
 (.need xryjqhtk8_
 (.ret (.tup (.cons xryjqhtk6_ (.cons (.err (.lit 0)) .nil)))))
 (.br (.not (eq_ (.iapp 43 (.cons xryjqhtk0_ (.cons (.int .i64 (.var 12)) .nil))) (.lit 0)))
 (.ret (.tup (.cons xryjqhtk4_ (.cons (.err (.iapp 43 (.cons xryjqhtk0_ (.cons (.int .i64 (.var 12)) .nil)))) .nil))))
 (.need (an_ (le_ (.lit 0) xryjqhtk9_) (an_ (an_ (le_ lm_ xryjqhtk7_) (le_ xryjqhtk7_ lM_)) (an_ (an_ (le_ lm_ xryjqhtk7_) (le_ xryjqhtk7_ lM_)) (an_ (le_ lm_ xryjqhtk9_) (le_ xryjqhtk9_ lM_)))))
 (.need (an_ (le_ (.var 13) (.var 14)) (le_ (.iapp 1 (.cons (.int .i64 (sb_ xryjqhtk7_ xryjqhtk9_)) .nil)) (.iapp 1 (.cons (.int .i64 (ad_ xryjqhtk7_ xryjqhtk9_)) .nil))))
 (.br xryjqhtk3_
 (.need (an_ xryjqhtk2_ (an_ (an_ (le_ lm_ (.var 12)) (le_ (.var 12) lM_)) (an_ (le_ xryjqhtk13_ xryjqhtk11_) (an_ (an_ (le_ lm_ xryjqhtk13_) (le_ xryjqhtk13_ lM_)) (an_ (le_ lm_ xryjqhtk11_) (le_ xryjqhtk11_ lM_))))))
 (.need (an_ (an_ (le_ lm_ xryjqhtk1_) (le_ xryjqhtk1_ lM_)) (an_ (le_ lm_ xryjqhtk7_) (le_ xryjqhtk7_ lM_)))
 (.need (an_ (eq_ (.iapp 35 (.cons z3_ (.cons z4_ (.cons z5_ .nil)))) (.lit 0)) (an_ (an_ (le_ lm_ (.iapp 1 (.cons (.int .i64 (sb_ xryjqhtk1_ xryjqhtk7_)) .nil))) (le_ (.iapp 1 (.cons (.int .i64 (sb_ xryjqhtk1_ xryjqhtk7_)) .nil)) lM_)) (an_ (le_ lm_ (.var 11)) (le_ (.var 11) lM_))))
 (.ret (.tup (.cons (.agg (.cons (.int .u32 v0_) (.cons z1_ (.cons z2_ (.cons z3_ (.cons z4_ (.cons z5_ (.cons z6_ (.cons (.bool (.tt true)) (.cons (.int .i64 (.var 12)) (.cons (.int .i64 xryjqhtk1_) (.cons (.int .i64 (.iapp 1 (.cons (.int .i64 (sb_ xryjqhtk11_ xryjqhtk1_)) .nil))) (.cons (.int .i64 (.iapp 41 (.cons z3_ (.cons z4_ (.cons z5_ (.cons (.int .i64 (.var 11)) (.cons (.int .i64 (.iapp 1 (.cons (.int .i64 (sb_ xryjqhtk1_ xryjqhtk7_)) .nil))) .nil))))))) (.cons (.int .i64 (.iapp 36 (.cons (.int .i64 (.var 11)) (.cons (.int .i64 (.iapp 1 (.cons (.int .i64 (sb_ xryjqhtk1_ xryjqhtk7_)) .nil))) .nil)))) .nil)))))))))))))) (.cons (.cst .nilI) .nil)))))))
 (.need xryjqhtk8_
 (.need (an_ (an_ (le_ lm_ xryjqhtk10_) (le_ xryjqhtk10_ lM_)) (an_ (le_ lm_ xryjqhtk7_) (le_ xryjqhtk7_ lM_)))
 (.need (an_ (eq_ (.iapp 35 (.cons z3_ (.cons z4_ (.cons z5_ .nil)))) (.lit 0)) (an_ (an_ (le_ lm_ (.iapp 1 (.cons (.int .i64 (sb_ xryjqhtk10_ xryjqhtk7_)) .nil))) (le_ (.iapp 1 (.cons (.int .i64 (sb_ xryjqhtk10_ xryjqhtk7_)) .nil)) lM_)) (an_ (le_ lm_ (.var 11)) (le_ (.var 11) lM_))))
 (.ret (.tup (.cons (.agg (.cons (.int .u32 v0_) (.cons z1_ (.cons z2_ (.cons z3_ (.cons z4_ (.cons z5_ (.cons z6_ (.cons (.bool (.tt true)) (.cons (.int .i64 (.var 12)) (.cons (.int .i64 xryjqhtk10_) (.cons (.int .i64 (.iapp 1 (.cons (.int .i64 (sb_ (.var 14) xryjqhtk10_)) .nil))) (.cons (.int .i64 (.iapp 41 (.cons z3_ (.cons z4_ (.cons z5_ (.cons (.int .i64 (.var 11)) (.cons (.int .i64 (.iapp 1 (.cons (.int .i64 (sb_ xryjqhtk10_ xryjqhtk7_)) .nil))) .nil))))))) (.cons (.int .i64 (.iapp 36 (.cons (.int .i64 (.var 11)) (.cons (.int .i64 (.iapp 1 (.cons (.int .i64 (sb_ xryjqhtk10_ xryjqhtk7_)) .nil))) .nil)))) .nil)))))))))))))) (.cons (.cst .nilI) .nil)))))))))))))))))))))
abbrev yjc_sync : Con := ⟨9, [xryjqhtk14_, (.int .i64 (.var 12)), (.agg (.cons (.int .i64 (.var 13)) (.cons (.int .i64 (.var 14)) .nil)))], (an_ xryjqhtk2_ (an_ (an_ (le_ lm_ (.var 12)) (le_ (.var 12) lM_)) (an_ (an_ (le_ lm_ (.var 13)) (le_ (.var 13) lM_)) (an_ (le_ lm_ (.var 14)) (le_ (.var 14) lM_))))), (.tup (.cons (.agg (.cons (.int .u32 (.iapp 54 (.cons (.int .i64 xryjqhtk5_) (.cons z0_ .nil)))) (.cons (.int .i64 (.iapp 54 (.cons (.int .i64 xryjqhtk5_) (.cons z1_ .nil)))) (.cons (.int .i64 (.iapp 54 (.cons (.int .i64 xryjqhtk5_) (.cons z2_ .nil)))) (.cons (.int .i64 (.iapp 54 (.cons (.int .i64 xryjqhtk5_) (.cons z3_ .nil)))) (.cons (.int .i64 (.iapp 54 (.cons (.int .i64 xryjqhtk5_) (.cons z4_ .nil)))) (.cons (.int .i64 (.iapp 54 (.cons (.int .i64 xryjqhtk5_) (.cons z5_ .nil)))) (.cons (.int .i64 (.iapp 54 (.cons (.int .i64 xryjqhtk5_) (.cons z6_ .nil)))) (.cons (.bool (eq_ xryjqhtk5_ (.lit 0))) (.cons (.int .i64 (.iapp 54 (.cons (.int .i64 xryjqhtk5_) (.cons (.int .i64 (.var 12)) .nil)))) (.cons (.int .i64 (.iapp 54 (.cons (.int .i64 xryjqhtk5_) (.cons (.int .i64 (.iapp 50 (.cons xryjqhtk0_ (.cons (.int .i64 (.var 12)) (.cons (.int .i64 (.var 13)) (.cons (.int .i64 (.var 14)) .nil)))))) .nil)))) (.cons (.int .i64 (.iapp 54 (.cons (.int .i64 xryjqhtk5_) (.cons (.int .i64 (.iapp 51 (.cons xryjqhtk0_ (.cons (.int .i64 (.var 12)) (.cons (.int .i64 (.var 13)) (.cons (.int .i64 (.var 14)) .nil)))))) .nil)))) (.cons (.int .i64 (.iapp 54 (.cons (.int .i64 xryjqhtk5_) (.cons (.int .i64 (.iapp 52 (.cons xryjqhtk0_ (.cons (.int .i64 (.var 12)) (.cons (.int .i64 (.var 13)) (.cons (.int .i64 (.var 14)) .nil)))))) .nil)))) (.cons (.int .i64 (.iapp 54 (.cons (.int .i64 xryjqhtk5_) (.cons (.int .i64 (.iapp 53 (.cons xryjqhtk0_ (.cons (.int .i64 (.var 12)) (.cons (.int .i64 (.var 13)) (.cons (.int .i64 (.var 14)) .nil)))))) .nil)))) .nil)))))))))))))) (.cons (.err xryjqhtk5_) .nil))), ⟨15, 1, 0, 0⟩, none⟩
theorem sync_w : walk Tryz.prog 94 ⟨[yic_hcheck, yhc_spck, yjc_set, yic_est, yjc_eis, yhc_sgrow, yjc_meet, yac_subsat, yhc_step], syG, [], [], []⟩ [] .v yjc_sync yjc_sync.n 3000 = some sync_tree := by kernel_rfl
set_option maxHeartbeats 4000000 in
theorem sync_h (rm rs rr gp gi rl ro hb ht he sf ss k a b : Int) (sy : Bool) : Hyp_ yjc_sync sync_tree (yjE [rm, rs, rr, gp, gi, rl, ro, hb, ht, he, sf, ss, k, a, b] [sy] [] []) := by
 intro hc hty
 simp only [yjc_sync, Sy.holds, yjE, denV, denI, denB, denL, I2.den, VOp.den, List.getD_cons_zero, List.getD_cons_succ, Cst.den, syso, syse, syio, sybo, B2.ofInts, B2.denI, B2.denB, if_true, Bool.false_eq_true, if_false, Nat.div_one, Nat.mul_one, Nat.add_zero] at hc
 simp only [yjc_sync, patsTyp, patTyp, patTypL, yjE, denV, denL, List.getD_cons_zero, List.getD_cons_succ, and_true, true_and] at hty
 unfold sync_tree
 simp only [yjc_sync, Tree.holds, Sy.holds, yjE, denV, denI, denB, denL, I2.den, VOp.den, List.getD_cons_zero, List.getD_cons_succ, Cst.den, syso, syse, syio, sybo, yji_sa, yji_se, yji_mi, yji_sve, yji_sts, yji_stf, yji_hme, yji_rke, yji_rkt, yji_rko, yji_sye, yji_syt, yji_syr, yji_syf, yji_sys, yji_gd, yji_gb, yjb_hm, B2.ofInts, B2.denI, B2.denB, if_true, Bool.false_eq_true, if_false, Nat.div_one, Nat.mul_one, Nat.add_zero]
 obtain ⟨L, hL0⟩ : ∃ x, (if satE (rkTl (Sy.rows (hoT rm rs rr gp gi rl ro hb ht he sf ss sy)) k - rkOl (Sy.rows (hoT rm rs rr gp gi rl ro hb ht he sf ss sy)) k) > a then satE (rkTl (Sy.rows (hoT rm rs rr gp gi rl ro hb ht he sf ss sy)) k - rkOl (Sy.rows (hoT rm rs rr gp gi rl ro hb ht he sf ss sy)) k) else a) = x := ⟨_, rfl⟩
 obtain ⟨H, hH0⟩ : ∃ x, (if satE (rkTl (Sy.rows (hoT rm rs rr gp gi rl ro hb ht he sf ss sy)) k + rkOl (Sy.rows (hoT rm rs rr gp gi rl ro hb ht he sf ss sy)) k) < b then satE (rkTl (Sy.rows (hoT rm rs rr gp gi rl ro hb ht he sf ss sy)) k + rkOl (Sy.rows (hoT rm rs rr gp gi rl ro hb ht he sf ss sy)) k) else b) = x := ⟨_, rfl⟩
 simp only [hL0, hH0]
 simp only [hoL_eq, hoB_eq, rkE_eq, rkT_eq, rkO_eq, syE_eq, syT_eq, syR_eq, syF_eq, syS_eq]
 have hk := rk_spec rm rs rr hb ht he sf k
 have hcs := sy_cases rm rs rr gp gi rl ro hb ht he sf ss sy k a b
 have hsv := sv_spec gp gi rl
 have hL : (if satE (rkT rm rs hb ht sf k - rkO rm rs rr hb ht he sf k) > a then satE (rkT rm rs hb ht sf k - rkO rm rs rr hb ht he sf k) else a) = L := hL0
 have hH : (if satE (rkT rm rs hb ht sf k + rkO rm rs rr hb ht he sf k) < b then satE (rkT rm rs hb ht sf k + rkO rm rs rr hb ht he sf k) else b) = H := hH0
 have uL := satE_spec (rkT rm rs hb ht sf k - rkO rm rs rr hb ht he sf k)
 have uH := satE_spec (rkT rm rs hb ht sf k + rkO rm rs rr hb ht he sf k)
 have hL2 : -9223372036854775808 ≤ L ∧ L ≤ 9223372036854775807 := by (rw [← hL]; split <;> omega)
 have hH2 : -9223372036854775808 ≤ H ∧ H ≤ 9223372036854775807 := by (rw [← hH]; split <;> omega)
 have hLH : (L ≤ H ∧ decide (L ≤ H) = true) ∨ (¬ L ≤ H ∧ decide (L ≤ H) = false) := by (by_cases h : L ≤ H; exact .inl ⟨h, decide_eq_true h⟩; exact .inr ⟨h, decide_eq_false h⟩)
 have hoo := hoE_or rm rs rr gp gi rl ro hb ht he sf ss
 have hsp := spI_spec a b
 cases sy
 all_goals
  refine ⟨?_, fun h0 => ?_⟩
  rotate_left
  refine ⟨fun h1 => ?_, fun h1 => ?_⟩
  rotate_left
  refine ⟨fun h2 => ?_, fun h2 => ?_⟩
  rotate_left
  refine ⟨fun h3 => ?_, fun h3 => ?_⟩
  rotate_left
  refine ⟨fun h4 => ?_, fun h4 => ?_⟩
  rotate_left
  refine ⟨fun h5 => ?_, fun h5 => ?_⟩
  rotate_left
  refine ⟨fun h6 => ?_, fun h6 => ?_⟩
  rotate_left
  refine ⟨fun h7 => ?_, fun h7 => ?_⟩
  refine ⟨?_, fun h8 => ?_⟩
  rotate_left
  rotate_left
  refine ⟨?_, fun h9 => ?_⟩
  rotate_left
  refine ⟨fun h10 => ?_, fun h10 => ?_⟩
  refine ⟨?_, fun h11 => ?_⟩
  rotate_left
  rotate_left
  refine ⟨fun h12 => ?_, fun h12 => ?_⟩
  rotate_left
  refine ⟨?_, fun h13 => ?_⟩
  rotate_left
  refine ⟨?_, fun h14 => ?_⟩
  rotate_left
  refine ⟨fun h15 => ?_, fun h15 => ?_⟩
  refine ⟨?_, fun h16 => ?_⟩
  rotate_left
  refine ⟨?_, fun h17 => ?_⟩
  rotate_left
  refine ⟨?_, fun h18 => ?_⟩
  rotate_left
  rotate_left
  refine ⟨?_, fun h19 => ?_⟩
  rotate_left
  refine ⟨?_, fun h20 => ?_⟩
  rotate_left
  refine ⟨?_, fun h21 => ?_⟩
  rotate_left
  rotate_left
 all_goals first
 | exact True.intro
 | (show @Eq Value _ _
    first
    | contradiction
    | (rcases hcs with ⟨q, e⟩ | ⟨⟨hp, q0, q1, q2, q3, q4, q5⟩, ⟨hs, q6, e⟩ | ⟨q6, e⟩⟩ <;> (try contradiction) <;> (try (simp only [true_or, false_or, reduceCtorEq] at q6))
       all_goals first
       | (exfalso; omega)
       | (rw [show rkE rm rs hb ht sf k = 10 by omega]; simp only [e, gdq_n (show (1 : Int) ≠ 0 by decide), gdq_n (show (10 : Int) ≠ 0 by decide), gdq_y (show (0 : Int) = 0 from rfl), gb_y, gb_n]; rfl)
       | (simp only [e, gdq_n (show (1 : Int) ≠ 0 by decide), gdq_n (show (10 : Int) ≠ 0 by decide), gdq_y (show (0 : Int) = 0 from rfl), gb_y, gb_n]; done)
       | (simp only [e, gdq_n (show (1 : Int) ≠ 0 by decide), gdq_n (show (10 : Int) ≠ 0 by decide), gdq_y (show (0 : Int) = 0 from rfl), gb_y, gb_n]; rfl)
       | (obtain ⟨u1, u2, u3, u4⟩ := @sy_uns rm rs rr gp gi rl ro hb ht he sf ss k a b _ (.inl rfl)
          simp only [e, u1, u2, u3, u4, gdq_n (show (1 : Int) ≠ 0 by decide), gdq_n (show (10 : Int) ≠ 0 by decide), gdq_y (show (0 : Int) = 0 from rfl), gb_y, gb_n]
          first | done | rfl)
       | (obtain ⟨u1, u2, u3, u4⟩ := @sy_uns rm rs rr gp gi rl ro hb ht he sf ss k a b true (.inr (by omega))
          simp only [e, u1, u2, u3, u4, gdq_n (show (1 : Int) ≠ 0 by decide), gdq_n (show (10 : Int) ≠ 0 by decide), gdq_y (show (0 : Int) = 0 from rfl), gb_y, gb_n]
          first | done | rfl)
       | (have h0 : rkE rm rs hb ht sf k = 0 := by omega
          rcases hLH with ⟨q, dd⟩ | ⟨q, dd⟩
          · obtain ⟨u1, u2, u3, u4⟩ := sy_m (gp := gp) (gi := gi) (rl := rl) (ro := ro) (ss := ss) h0 hL hH q
            first
            | contradiction
            | (simp only [e, dd, u1, u2, u3, u4, gdq_n (show (1 : Int) ≠ 0 by decide), gdq_n (show (10 : Int) ≠ 0 by decide), gdq_y (show (0 : Int) = 0 from rfl), gb_y, gb_n, gb_y]
               first | done | rfl)
          · obtain ⟨u1, u2, u3, u4⟩ := sy_n (gp := gp) (gi := gi) (rl := rl) (ro := ro) (ss := ss) h0 hL hH q
            first
            | contradiction
            | (simp only [e, dd, u1, u2, u3, u4, gdq_n (show (1 : Int) ≠ 0 by decide), gdq_n (show (10 : Int) ≠ 0 by decide), gdq_y (show (0 : Int) = 0 from rfl), gb_y, gb_n]
               first | done | rfl))
       | skip)
    done)
 | (skip
    first
    | omega
    | exact hc.1
    | contradiction
    | (rcases hcs with ⟨q, e⟩ | ⟨⟨hp, q0, q1, q2, q3, q4, q5⟩, hcs⟩
       · exfalso; omega
       · obtain ⟨f, a1, a2, a3, a4, a5, a6, a7, a8, a9, a10, a11, a12, a13, a14, a15, a16, a17, a18, a19, a20⟩ := id hp
         have hbd := rk_bd (k := k) hp
         have hmm := mi_bd (show a ≤ b by omega)
         first
         | omega
         | exact ⟨hc.1, decide_eq_true hp, hc.2.1⟩
         | exact ⟨hc.1, hc.2.1, by omega⟩
         | (have u3 := satE_spec (miI a b - rkT rm rs hb ht sf k)
            omega)
         | (rcases hLH with ⟨q, dd⟩ | ⟨q, dd⟩
            · have hm2 := mi_bd q
              have u4 := satE_spec (miI L H - rkT rm rs hb ht sf k)
              simp only [dd, gb_y]
              first
              | omega
              | exact ⟨hc.1, hc.2.1, q, hL2, hH2⟩
            · contradiction)
         | skip)
    | skip
    done)
theorem yjg_sync : yjc_sync.Good Tryz.prog syG (yjE [] [] [] []) := good_of_walk (Γ := ⟨[yic_hcheck, yhc_spck, yjc_set, yic_est, yjc_eis, yhc_sgrow, yjc_meet, yac_subsat, yhc_step], syG, [], [], []⟩) (ρ := yjE [] [] [] []) sym sync_w rfl (fun _ _ _ _ => (ok_cons (Con.Good.env (Con.Good.up yig_hcheck yjup rfl) _ _ _ _) (ok_cons (Con.Good.env (Con.Good.up (Con.Good.up yhg_spck yiup rfl) yjup rfl) _ _ _ _) (ok_cons (Con.Good.env yjg_set _ _ _ _) (ok_cons (Con.Good.env (Con.Good.up yig_est yjup rfl) _ _ _ _) (ok_cons (Con.Good.env yjg_eis _ _ _ _) (ok_cons (Con.Good.env (Con.Good.up (Con.Good.up yhg_sgrow yiup rfl) yjup rfl) _ _ _ _) (ok_cons (Con.Good.env yjg_meet _ _ _ _) (ok_cons (Con.Good.env (Con.Good.up (Con.Good.up (Con.Good.up (Con.Good.up (Con.Good.up yag_subsat ybup rfl) ycup rfl) yhup rfl) yiup rfl) yjup rfl) _ _ _ _) (ok_cons (Con.Good.env (Con.Good.up (Con.Good.up yhg_step yiup rfl) yjup rfl) _ _ _ _) ok_nil)))))))))) sync_h
end Go.Proofs.YtjcgmdgkdkfdpaaGreatDoor
