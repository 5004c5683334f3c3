/-
 Layer 41 by the second engine: packets; NtpHolds.
-/
import Derived.Test.YtgondiedehjkhaaDoorSycforms
import Derived.Test.YtgondiedehjkhaaDoorYaforms
import Derived.Test.YtgondiedehjkhaaDoorE00forms
import Derived.Test.YtgondiedehjkhaaDoorNumforms
import Derived.Test.YtgondiedehjkhaaDoorW02bforms
namespace Go.Proofs.YtgondiedehjkhaaDoor
open Go.RowKit Go.Extern.Stop Go.Stop Go.Extern Go.Proofs.YtgondiedehjkhaaDoor.Sy
set_option linter.unusedVariables false
set_option linter.unusedSimpArgs false
abbrev xtformsk0_ : Tm := (.agg (.cons (.int .u8 (.lit 0)) (.cons (.int .u8 (.lit 4)) (.cons (.int .u8 (.lit 3)) (.cons (.int .u8 (.lit 0)) (.cons (.int .i8 (.lit 0)) (.cons (.int .i8 (.lit 0)) (.cons (.int .u32 (.lit 0)) (.cons (.int .u32 (.lit 0)) (.cons (.int .u8 (.lit 0)) (.cons (.int .u8 (.lit 0)) (.cons (.int .u8 (.lit 0)) (.cons (.int .u8 (.lit 0)) (.cons (.int .u64 (.lit 0)) (.cons (.int .u64 (.lit 0)) (.cons (.int .u64 (.lit 0)) (.cons (.int .u64 (.iapp 26 (.cons z0_ .nil))) .nil)))))))))))))))))
abbrev xtformsk1_ : Tm := (.agg (.cons (.int .u8 v0_) (.cons (.int .u8 v1_) (.cons (.int .u8 v2_) (.cons (.int .u8 v3_) (.cons (.int .i8 v4_) (.cons (.int .i8 v5_) (.cons (.int .u32 v6_) (.cons (.int .u32 v7_) (.cons (.int .u8 v8_) (.cons (.int .u8 v9_) (.cons (.int .u8 (.var 10)) (.cons (.int .u8 (.var 11)) (.cons (.int .u64 (.var 12)) (.cons (.int .u64 (.var 13)) (.cons (.int .u64 (.var 14)) (.cons (.int .u64 (.var 15)) .nil)))))))))))))))))
abbrev xtformsk2_ : Tm := (an_ (lt_ (.lit (-4611686018427387904)) v0_) (lt_ v0_ (.lit 4611686018427387904)))
abbrev xtformsk3_ : Tm := (.iapp 37 (.cons z0_ (.cons (.int .i64 (.lit 1000000000)) .nil)))
def stV (t : Int) : Int := ((t / 1000000000 + 2208988800) % 4294967296) * 4294967296 + (t % 1000000000) * 4294967296 / 1000000000
def nrN (s t : Int) : Int := if 2147483648000000000 < (t - ((s / 4294967296 - 2208988800) * 1000000000 + -((-(s % 4294967296 * 1000000000)) / 4294967296))) % 4294967296000000000 then t - (t - ((s / 4294967296 - 2208988800) * 1000000000 + -((-(s % 4294967296 * 1000000000)) / 4294967296))) % 4294967296000000000 + 4294967296000000000 else t - (t - ((s / 4294967296 - 2208988800) * 1000000000 + -((-(s % 4294967296 * 1000000000)) / 4294967296))) % 4294967296000000000
def byI (v j : Int) : Int := v / 256 ^ j.toNat % 256
def fbI (l v m : Int) : Int := l * 64 + v * 8 + m
def shI (n : Int) : Int := (n * 1000000000 + 65535) / 65536
def spI (e : Int) : Int := ((e - 1) * 65536) / 1000000000 + 1
def ckE (l v m : Int) : Int := if l ≤ 3 ∧ 1 ≤ v ∧ v ≤ 4 ∧ 1 ≤ m ∧ m ≤ 5 then 0 else 1
def tmP (t : Int) : Prop := -4611686018427387904 < t ∧ t < 4611686018427387904
instance (t : Int) : Decidable (tmP t) := by unfold tmP; infer_instance
def scP (a c s g e : Int) : Prop := tmP a ∧ tmP c ∧ tmP s ∧ tmP g ∧ 0 ≤ e ∧ e ≤ 1099511627776 ∧ 0 ≤ g - a ∧ 0 ≤ s - c ∧ g - a ≤ 1099511627776 ∧ s - c ≤ g - a
instance (a c s g e : Int) : Decidable (scP a c s g e) := by unfold scP; infer_instance
def scE (a c s g e : Int) : Int := if scP a c s g e then 0 else 1
def e2I (x : Int) : Int := if x = 0 then 0 else 2
def gnF (e x : Int) : Int := if e = 0 then x else 0
theorem gn_y {e : Int} (h : e = 0) (x : Int) : gnF e x = x := by unfold gnF; rw [if_pos h]
theorem gn_n {e : Int} (h : e ≠ 0) (x : Int) : gnF e x = 0 := by unfold gnF; rw [if_neg h]
theorem ck_spec (l v m : Int) : ((l ≤ 3 ∧ 1 ≤ v ∧ v ≤ 4 ∧ 1 ≤ m ∧ m ≤ 5) ∧ ckE l v m = 0) ∨ ((3 < l ∨ v < 1 ∨ 4 < v ∨ m < 1 ∨ 5 < m) ∧ ckE l v m = 1) := by
 unfold ckE
 split
 · exact .inl ⟨by assumption, rfl⟩
 · exact .inr ⟨by omega, rfl⟩
theorem tdv_spec (a : Int) {d : Int} (hd : 0 < d) : (0 ≤ a ∧ a.tdiv d = a / d) ∨ (a < 0 ∧ a.tdiv d = -((-a) / d)) := by
 by_cases h : 0 ≤ a
 · exact .inl ⟨h, Int.tdiv_eq_ediv_of_nonneg h⟩
 · refine .inr ⟨by omega, ?_⟩
   have e := Int.neg_tdiv (-a) d
   rw [Int.neg_neg] at e
   rw [e, Int.tdiv_eq_ediv_of_nonneg (by omega)]
theorem shr32 (x : Int) : x.fdiv (2 ^ (Min.min (Int.toNat 32) (IntKind.bits .u64))) = x / 4294967296 := Int.fdiv_eq_ediv_of_nonneg _ (by decide)
theorem shr16 (x : Int) : x.fdiv (2 ^ (Min.min (Int.toNat 16) (IntKind.bits .i64))) = x / 65536 := Int.fdiv_eq_ediv_of_nonneg _ (by decide)
theorem or32 {a b : Int} (a0 : 0 ≤ a) (a1 : a ≤ 4294967295) (b0 : 0 ≤ b) (b1 : b ≤ 4294967295) : bitsV .or .u64 (IntKind.wrap .u64 (a * 2 ^ (Min.min (Int.toNat 32) (IntKind.bits .u64)))) b = a * 4294967296 + b := by
 have h := or_add (n := 32) (a := a) (b := b) (by decide) a0 b0 (by omega) (by omega)
 have e2 : (2 : Int) ^ (Min.min (Int.toNat 32) (IntKind.bits .u64)) = 4294967296 := by decide
 have e : IntKind.wrap .u64 (a * 2 ^ (Min.min (Int.toNat 32) (IntKind.bits .u64))) = a * 2 ^ 32 := by
   rw [e2, IntKind.wrap_u64]
   show a * 4294967296 % 18446744073709551616 = a * 4294967296
   omega
 rw [e]
 exact h
theorem or8 {a b : Int} (a0 : 0 ≤ a) (a1 : a ≤ 72057594037927935) (b0 : 0 ≤ b) (b1 : b ≤ 255) : bitsV .or .u64 (IntKind.wrap .u64 (a * 2 ^ (Min.min (Int.toNat 8) (IntKind.bits .u64)))) b = a * 256 + b := by
 have h := or_add (n := 8) (a := a) (b := b) (by decide) a0 b0 (by omega) (by omega)
 have e2 : (2 : Int) ^ (Min.min (Int.toNat 8) (IntKind.bits .u64)) = 256 := by decide
 have e : IntKind.wrap .u64 (a * 2 ^ (Min.min (Int.toNat 8) (IntKind.bits .u64))) = a * 2 ^ 8 := by
   rw [e2, IntKind.wrap_u64]
   show a * 256 % 18446744073709551616 = a * 256
   omega
 rw [e]
 exact h
theorem fb_all : ∀ l : Fin 4, ∀ v : Fin 5, ∀ m : Fin 6, bitsV .or .u8 (bitsV .or .u8 (IntKind.wrap .u8 ((l.val : Int) * 2 ^ (Min.min (Int.toNat 6) (IntKind.bits .u8)))) (IntKind.wrap .u8 ((v.val : Int) * 2 ^ (Min.min (Int.toNat 3) (IntKind.bits .u8))))) (m.val : Int) = fbI l.val v.val m.val := by decide
theorem fb_or {l v m : Int} (l0 : 0 ≤ l) (l1 : l ≤ 3) (v0 : 0 ≤ v) (v1 : v ≤ 4) (m0 : 0 ≤ m) (m1 : m ≤ 5) : bitsV .or .u8 (bitsV .or .u8 (IntKind.wrap .u8 (l * 2 ^ (Min.min (Int.toNat 6) (IntKind.bits .u8)))) (IntKind.wrap .u8 (v * 2 ^ (Min.min (Int.toNat 3) (IntKind.bits .u8))))) m = fbI l v m := by
 have h := fb_all ⟨l.toNat, by omega⟩ ⟨v.toNat, by omega⟩ ⟨m.toNat, by omega⟩
 simp only [show ((l.toNat : Nat) : Int) = l by omega, show ((v.toNat : Nat) : Int) = v by omega, show ((m.toNat : Nat) : Int) = m by omega] at h
 exact h
theorem by_s0 (v : Int) (h0 : 0 ≤ v) : IntKind.wrap .u8 (v.fdiv (2 ^ (Min.min (Int.toNat 0) (IntKind.bits .u64)))) = byI v 0 := by
 have e : v.fdiv (2 ^ (Min.min (Int.toNat 0) (IntKind.bits .u64))) = v / 1 := Int.fdiv_eq_ediv_of_nonneg _ (by decide)
 rw [e, show IntKind.wrap .u8 (v / 1) = v / 1 % 256 from IntKind.wrap_u8 _]
 rfl
theorem by_s1 (v : Int) (h0 : 0 ≤ v) : IntKind.wrap .u8 (v.fdiv (2 ^ (Min.min (Int.toNat 8) (IntKind.bits .u64)))) = byI v 1 := by
 have e : v.fdiv (2 ^ (Min.min (Int.toNat 8) (IntKind.bits .u64))) = v / 256 := Int.fdiv_eq_ediv_of_nonneg _ (by decide)
 rw [e, show IntKind.wrap .u8 (v / 256) = v / 256 % 256 from IntKind.wrap_u8 _]
 rfl
theorem by_s2 (v : Int) (h0 : 0 ≤ v) : IntKind.wrap .u8 (v.fdiv (2 ^ (Min.min (Int.toNat 16) (IntKind.bits .u64)))) = byI v 2 := by
 have e : v.fdiv (2 ^ (Min.min (Int.toNat 16) (IntKind.bits .u64))) = v / 65536 := Int.fdiv_eq_ediv_of_nonneg _ (by decide)
 rw [e, show IntKind.wrap .u8 (v / 65536) = v / 65536 % 256 from IntKind.wrap_u8 _]
 rfl
theorem by_s3 (v : Int) (h0 : 0 ≤ v) : IntKind.wrap .u8 (v.fdiv (2 ^ (Min.min (Int.toNat 24) (IntKind.bits .u64)))) = byI v 3 := by
 have e : v.fdiv (2 ^ (Min.min (Int.toNat 24) (IntKind.bits .u64))) = v / 16777216 := Int.fdiv_eq_ediv_of_nonneg _ (by decide)
 rw [e, show IntKind.wrap .u8 (v / 16777216) = v / 16777216 % 256 from IntKind.wrap_u8 _]
 rfl
theorem by_s4 (v : Int) (h0 : 0 ≤ v) : IntKind.wrap .u8 (v.fdiv (2 ^ (Min.min (Int.toNat 32) (IntKind.bits .u64)))) = byI v 4 := by
 have e : v.fdiv (2 ^ (Min.min (Int.toNat 32) (IntKind.bits .u64))) = v / 4294967296 := Int.fdiv_eq_ediv_of_nonneg _ (by decide)
 rw [e, show IntKind.wrap .u8 (v / 4294967296) = v / 4294967296 % 256 from IntKind.wrap_u8 _]
 rfl
theorem by_s5 (v : Int) (h0 : 0 ≤ v) : IntKind.wrap .u8 (v.fdiv (2 ^ (Min.min (Int.toNat 40) (IntKind.bits .u64)))) = byI v 5 := by
 have e : v.fdiv (2 ^ (Min.min (Int.toNat 40) (IntKind.bits .u64))) = v / 1099511627776 := Int.fdiv_eq_ediv_of_nonneg _ (by decide)
 rw [e, show IntKind.wrap .u8 (v / 1099511627776) = v / 1099511627776 % 256 from IntKind.wrap_u8 _]
 rfl
theorem by_s6 (v : Int) (h0 : 0 ≤ v) : IntKind.wrap .u8 (v.fdiv (2 ^ (Min.min (Int.toNat 48) (IntKind.bits .u64)))) = byI v 6 := by
 have e : v.fdiv (2 ^ (Min.min (Int.toNat 48) (IntKind.bits .u64))) = v / 281474976710656 := Int.fdiv_eq_ediv_of_nonneg _ (by decide)
 rw [e, show IntKind.wrap .u8 (v / 281474976710656) = v / 281474976710656 % 256 from IntKind.wrap_u8 _]
 rfl
theorem by_s7 (v : Int) (h0 : 0 ≤ v) : IntKind.wrap .u8 (v.fdiv (2 ^ (Min.min (Int.toNat 56) (IntKind.bits .u64)))) = byI v 7 := by
 have e : v.fdiv (2 ^ (Min.min (Int.toNat 56) (IntKind.bits .u64))) = v / 72057594037927936 := Int.fdiv_eq_ediv_of_nonneg _ (by decide)
 rw [e, show IntKind.wrap .u8 (v / 72057594037927936) = v / 72057594037927936 % 256 from IntKind.wrap_u8 _]
 rfl
theorem st_rng (t : Int) : 0 ≤ stV t ∧ stV t ≤ 18446744073709551615 := by
 unfold stV
 omega
theorem st_parts (t : Int) : stV t % 4294967296 = (t % 1000000000) * 4294967296 / 1000000000 ∧ stV t / 4294967296 = (t / 1000000000 + 2208988800) % 4294967296 := by
 unfold stV
 omega
theorem nr_st2 {t u : Int} (h0 : -2000000000000000000 < u - t) (h1 : u - t < 2147483648000000000) : nrN (stV t) u = t := by
 obtain ⟨e1, e2⟩ := st_parts t
 have ex : -((-(stV t % 4294967296 * 1000000000)) / 4294967296) = t % 1000000000 := by
   rw [e1]
   omega
 have key : ∃ k : Int, (stV t / 4294967296 - 2208988800) * 1000000000 + t % 1000000000 = t - k * 4294967296000000000 := by
   rw [e2]
   refine ⟨(t / 1000000000 + 2208988800) / 4294967296, ?_⟩
   omega
 obtain ⟨k, hk⟩ := key
 unfold nrN
 rw [ex, hk]
 by_cases h : 0 ≤ u - t
 · have eb : (u - (t - k * 4294967296000000000)) % 4294967296000000000 = u - t := by omega
   rw [eb, if_neg (by omega)]
   omega
 · have eb : (u - (t - k * 4294967296000000000)) % 4294967296000000000 = u - t + 4294967296000000000 := by omega
   rw [eb, if_pos (by omega)]
   omega
theorem num41_any (n : Int) (w : World) (hg : w.cell? ⟨0, 0, none⟩ = some asHandle) : Calls Tryd.prog 56 #[errVal 142 n] w fun e w' => e = .returned (.int .i64 n) ∧ Below w.heap.size w w' := by
 unfold errVal
 split
 · rename_i h; subst h; exact num41_nil _
 · exact num41_err _ _ hg
noncomputable def ntI : Nat → List Value → Int
 | 26, [.int _ t] => stV t
 | 27, [.int _ s, .int _ t] => nrN s t
 | 28, [.int _ v, .int _ j] => byI v j
 | 29, [.int _ l, .int _ v, .int _ m] => fbI l v m
 | 30, [.int _ n] => shI n
 | 31, [.int _ e] => spI e
 | 32, [.int _ l, .int _ v, .int _ m] => ckE l v m
 | 33, [.int _ a, .int _ c, .int _ s, .int _ g, .int _ e] => scE a c s g e
 | 34, [.int _ x] => e2I x
 | 35, [.int _ e, .int _ x] => gnF e x
 | 36, [.int _ a, .int _ b] => a / b
 | 37, [.int _ a, .int _ b] => a % b
 | 38, [.int _ a, .int _ b] => -((-a) / b)
 | i, l => yaI i l
noncomputable def ntB : Nat → List Value → Bool
 | i, l => yaB i l
noncomputable def ntV : Nat → List Value → Value
 | i, l => yaV i l
noncomputable abbrev ntE (iv : List Int) (bv : List Bool) (vv : List Value) (sv : List ByteArray) : Env := { iv := iv, bv := bv, vv := vv, sv := sv, fi := ntI, fb := ntB, fv := ntV, et := 142 }
set_option maxHeartbeats 8000000 in
theorem ntup : Agree 26 3 0 (yaE [] [] [] []) (ntE [] [] [] []) := ⟨rfl, (by
   intro f hf
   funext l
   show ntI f l = yaI f l
   unfold ntI
   split <;> first | rfl | omega), (by
   intro f hf
   funext l
   show ntB f l = yaB f l
   unfold ntB
   split <;> first | rfl | omega), (by
   intro f hf
   funext l
   show ntV f l = yaV f l
   unfold ntV
   split <;> first | rfl | omega)⟩
theorem nti_sz (k1 : IntKind) (a : Int) : ntI 0 [.int k1 a] = szE a := rfl
theorem nti_mdn (k1 : IntKind) (a : Int) (k2 : IntKind) (b : Int) (k3 : IntKind) (c : Int) : ntI 6 [.int k1 a, .int k2 b, .int k3 c] = mdN a b c := rfl
theorem nti_mde (k1 : IntKind) (a : Int) (k2 : IntKind) (b : Int) (k3 : IntKind) (c : Int) : ntI 7 [.int k1 a, .int k2 b, .int k3 c] = mdE a b c := rfl
theorem nti_stv (k1 : IntKind) (t : Int) : ntI 26 [.int k1 t] = stV t := rfl
theorem nti_by (k1 : IntKind) (v : Int) (k2 : IntKind) (j : Int) : ntI 28 [.int k1 v, .int k2 j] = byI v j := rfl
theorem nti_fb (k1 : IntKind) (l : Int) (k2 : IntKind) (v : Int) (k3 : IntKind) (m : Int) : ntI 29 [.int k1 l, .int k2 v, .int k3 m] = fbI l v m := rfl
theorem nti_sh (k1 : IntKind) (n : Int) : ntI 30 [.int k1 n] = shI n := rfl
theorem nti_ck (k1 : IntKind) (l : Int) (k2 : IntKind) (v : Int) (k3 : IntKind) (m : Int) : ntI 32 [.int k1 l, .int k2 v, .int k3 m] = ckE l v m := rfl
theorem nti_dv (k1 : IntKind) (a : Int) (k2 : IntKind) (b : Int) : ntI 36 [.int k1 a, .int k2 b] = a / b := rfl
theorem nti_dw (k1 : IntKind) (a : Int) (k2 : IntKind) (b : Int) : ntI 37 [.int k1 a, .int k2 b] = a % b := rfl
theorem nti_cl (k1 : IntKind) (a : Int) (k2 : IntKind) (b : Int) : ntI 38 [.int k1 a, .int k2 b] = -((-a) / b) := rfl
abbrev ntc_num : Con := ⟨56, [(.err v0_)], (.tt true), z0_, ⟨1, 0, 0, 0⟩, none⟩
theorem ntg_num : ntc_num.Good Tryd.prog syG (ntE [] [] [] []) := good_flat rfl rfl rfl (by
 intro n hc β ok w hG
 have hc' := hc
 simp only [Tree.holds, Sy.holds, AllN, Env.more, ntE, List.cons_append, List.nil_append, List.append_nil, denV, denI, denB, denL, I2.den, VOp.den, List.getD_cons_zero, List.getD_cons_succ, Cst.den, syso, syse, syio, sybo, List.map_nil, List.map_cons, B2.ofInts, B2.denI, B2.denB, if_true, Bool.false_eq_true, if_false, Nat.div_one, Nat.mul_one, Nat.add_zero, holds] at hc
 exact num41_any n w (hG _ (List.mem_singleton.2 rfl)).2.2)
def istime_tree : Tree :=
 (.need (an_ (le_ lm_ v0_) (le_ v0_ lM_))
 (.ret (.bool (lt_ (.iapp 0 (.cons z0_ .nil)) (.lit 4611686018427387904)))))
abbrev ntc_istime : Con := ⟨120, [z0_], (an_ (le_ lm_ v0_) (le_ v0_ lM_)), (.bool xtformsk2_), ⟨1, 0, 0, 0⟩, none⟩
theorem istime_w : walk Tryd.prog 142 ⟨[yac_size], syG, [], [], []⟩ [] .v ntc_istime ntc_istime.n 3000 = some istime_tree := by kernel_rfl
theorem istime_h (t : Int) : Hyp_ ntc_istime istime_tree (ntE [t] [] [] []) := by
 intro hc hty
 simp only [ntc_istime, Sy.holds, ntE, denV, denI, denB, denL, I2.den, VOp.den, List.getD_cons_zero, List.getD_cons_succ, Cst.den, syso, syse, syio, sybo, B2.ofInts, B2.denI, B2.denB, if_true, Bool.false_eq_true, if_false, Nat.div_one, Nat.mul_one, Nat.add_zero] at hc
 simp only [ntc_istime, patsTyp, patTyp, patTypL, ntE, denV, denL, List.getD_cons_zero, List.getD_cons_succ, and_true, true_and] at hty
 unfold istime_tree
 simp only [ntc_istime, Tree.holds, Sy.holds, ntE, denV, denI, denB, denL, I2.den, VOp.den, List.getD_cons_zero, List.getD_cons_succ, Cst.den, syso, syse, syio, sybo, nti_sz, B2.ofInts, B2.denI, B2.denB, if_true, Bool.false_eq_true, if_false, Nat.div_one, Nat.mul_one, Nat.add_zero]
 have hz := szE_spec t ⟨by omega, by omega⟩
 refine ⟨?_, fun h0 => ?_⟩
 ·
  omega
 ·
  refine congrArg Value.bool ?_
  first
  | rfl
  | (refine Bool.eq_iff_iff.2 ?_; simp only [decide_eq_true_eq, Bool.and_eq_true]; omega)
  | skip
theorem ntg_istime : ntc_istime.Good Tryd.prog syG (ntE [] [] [] []) := good_of_walk (Γ := ⟨[yac_size], syG, [], [], []⟩) (ρ := ntE [] [] [] []) sym istime_w rfl (fun _ _ _ _ => (ok_cons (Con.Good.env (Con.Good.up yag_size ntup rfl) _ _ _ _) ok_nil)) istime_h
def divs_tree : Tree :=
 (.br (lt_ (.i2 .rem v0_ (.lit 1000000000)) (.lit 0))
 (.ret (.tup (.cons (.int .i64 (wr_ (sb_ (wr_ (.i2 .quo v0_ (.lit 1000000000))) (.lit 1)))) (.cons (.int .i64 (wr_ (ad_ (.i2 .rem v0_ (.lit 1000000000)) (.lit 1000000000)))) (.cons (.cst .nilI) .nil)))))
 (.ret (.tup (.cons (.int .i64 (wr_ (.i2 .quo v0_ (.lit 1000000000)))) (.cons (.int .i64 (.i2 .rem v0_ (.lit 1000000000))) (.cons (.cst .nilI) .nil))))))
abbrev ntc_divs : Con := ⟨121, [z0_, (.int .i64 (.lit 1000000000))], (an_ (le_ lm_ v0_) (le_ v0_ lM_)), (.tup (.cons (.int .i64 (.iapp 36 (.cons z0_ (.cons (.int .i64 (.lit 1000000000)) .nil)))) (.cons (.int .i64 xtformsk3_) (.cons (.err (.lit 0)) .nil)))), ⟨1, 0, 0, 0⟩, none⟩
theorem divs_w : walk Tryd.prog 142 ⟨[], syG, [], [], []⟩ [] .v ntc_divs ntc_divs.n 3000 = some divs_tree := by kernel_rfl
theorem divs_h (a : Int) : Hyp_ ntc_divs divs_tree (ntE [a] [] [] []) := by
 intro hc hty
 simp only [ntc_divs, Sy.holds, ntE, denV, denI, denB, denL, I2.den, VOp.den, List.getD_cons_zero, List.getD_cons_succ, Cst.den, syso, syse, syio, sybo, B2.ofInts, B2.denI, B2.denB, if_true, Bool.false_eq_true, if_false, Nat.div_one, Nat.mul_one, Nat.add_zero] at hc
 simp only [ntc_divs, patsTyp, patTyp, patTypL, ntE, denV, denL, List.getD_cons_zero, List.getD_cons_succ, and_true, true_and] at hty
 unfold divs_tree
 simp only [ntc_divs, Tree.holds, Sy.holds, ntE, denV, denI, denB, denL, I2.den, VOp.den, List.getD_cons_zero, List.getD_cons_succ, Cst.den, syso, syse, syio, sybo, nti_dv, nti_dw, B2.ofInts, B2.denI, B2.denB, if_true, Bool.false_eq_true, if_false, Nat.div_one, Nat.mul_one, Nat.add_zero]
 have e1 := tdv_spec a (show (0 : Int) < 1000000000 by decide)
 have e2 : a.tmod 1000000000 = a - 1000000000 * a.tdiv 1000000000 := Int.tmod_def a 1000000000
 refine ⟨fun h0 => ?_, fun h0 => ?_⟩
 have wf0 := wr_i64 (Int.tdiv a 1000000000)
 have wf1 := wr_i64 ((IntKind.wrap .i64 (Int.tdiv a 1000000000)) - 1)
 have wf2 := wr_i64 ((Int.tmod a 1000000000) + 1000000000)
 refine ?a0; rotate_left
 have wf3 := wr_i64 (Int.tdiv a 1000000000)
 refine ?a1; rotate_left
 case a0 | a1 =>
  first
  | (exfalso; omega)
  | (rw [show IntKind.wrap .i64 (a.tdiv 1000000000) = a / 1000000000 by omega, show a.tmod 1000000000 = a % 1000000000 by omega]; first | done | rfl)
  | (rw [show IntKind.wrap .i64 (IntKind.wrap .i64 (a.tdiv 1000000000) - 1) = a / 1000000000 by omega, show IntKind.wrap .i64 (a.tmod 1000000000 + 1000000000) = a % 1000000000 by omega]; first | done | rfl)
  | skip
theorem ntg_divs : ntc_divs.Good Tryd.prog syG (ntE [] [] [] []) := good_of_walk (Γ := ⟨[], syG, [], [], []⟩) (ρ := ntE [] [] [] []) sym divs_w rfl (fun _ _ _ _ => ok_nil) divs_h
def divp_tree : Tree :=
 (.br (lt_ (.i2 .rem v0_ (.lit 4294967296000000000)) (.lit 0))
 (.ret (.tup (.cons (.int .i64 (wr_ (sb_ (wr_ (.i2 .quo v0_ (.lit 4294967296000000000))) (.lit 1)))) (.cons (.int .i64 (wr_ (ad_ (.i2 .rem v0_ (.lit 4294967296000000000)) (.lit 4294967296000000000)))) (.cons (.cst .nilI) .nil)))))
 (.ret (.tup (.cons (.int .i64 (wr_ (.i2 .quo v0_ (.lit 4294967296000000000)))) (.cons (.int .i64 (.i2 .rem v0_ (.lit 4294967296000000000))) (.cons (.cst .nilI) .nil))))))
abbrev ntc_divp : Con := ⟨121, [z0_, (.int .i64 (.lit 4294967296000000000))], (an_ (le_ lm_ v0_) (le_ v0_ lM_)), (.tup (.cons (.int .i64 (.iapp 36 (.cons z0_ (.cons (.int .i64 (.lit 4294967296000000000)) .nil)))) (.cons (.int .i64 (.iapp 37 (.cons z0_ (.cons (.int .i64 (.lit 4294967296000000000)) .nil)))) (.cons (.err (.lit 0)) .nil)))), ⟨1, 0, 0, 0⟩, none⟩
theorem divp_w : walk Tryd.prog 142 ⟨[], syG, [], [], []⟩ [] .v ntc_divp ntc_divp.n 3000 = some divp_tree := by kernel_rfl
theorem divp_h (a : Int) : Hyp_ ntc_divp divp_tree (ntE [a] [] [] []) := by
 intro hc hty
 simp only [ntc_divp, Sy.holds, ntE, denV, denI, denB, denL, I2.den, VOp.den, List.getD_cons_zero, List.getD_cons_succ, Cst.den, syso, syse, syio, sybo, B2.ofInts, B2.denI, B2.denB, if_true, Bool.false_eq_true, if_false, Nat.div_one, Nat.mul_one, Nat.add_zero] at hc
 simp only [ntc_divp, patsTyp, patTyp, patTypL, ntE, denV, denL, List.getD_cons_zero, List.getD_cons_succ, and_true, true_and] at hty
 unfold divp_tree
 simp only [ntc_divp, Tree.holds, Sy.holds, ntE, denV, denI, denB, denL, I2.den, VOp.den, List.getD_cons_zero, List.getD_cons_succ, Cst.den, syso, syse, syio, sybo, nti_dv, nti_dw, B2.ofInts, B2.denI, B2.denB, if_true, Bool.false_eq_true, if_false, Nat.div_one, Nat.mul_one, Nat.add_zero]
 have e1 := tdv_spec a (show (0 : Int) < 4294967296000000000 by decide)
 have e2 : a.tmod 4294967296000000000 = a - 4294967296000000000 * a.tdiv 4294967296000000000 := Int.tmod_def a 4294967296000000000
 refine ⟨fun h0 => ?_, fun h0 => ?_⟩
 have wf0 := wr_i64 (Int.tdiv a 4294967296000000000)
 have wf1 := wr_i64 ((IntKind.wrap .i64 (Int.tdiv a 4294967296000000000)) - 1)
 have wf2 := wr_i64 ((Int.tmod a 4294967296000000000) + 4294967296000000000)
 refine ?a0; rotate_left
 have wf3 := wr_i64 (Int.tdiv a 4294967296000000000)
 refine ?a1; rotate_left
 case a0 | a1 =>
  first
  | (exfalso; omega)
  | (rw [show IntKind.wrap .i64 (a.tdiv 4294967296000000000) = a / 4294967296000000000 by omega, show a.tmod 4294967296000000000 = a % 4294967296000000000 by omega]; first | done | rfl)
  | (rw [show IntKind.wrap .i64 (IntKind.wrap .i64 (a.tdiv 4294967296000000000) - 1) = a / 4294967296000000000 by omega, show IntKind.wrap .i64 (a.tmod 4294967296000000000 + 4294967296000000000) = a % 4294967296000000000 by omega]; first | done | rfl)
  | skip
theorem ntg_divp : ntc_divp.Good Tryd.prog syG (ntE [] [] [] []) := good_of_walk (Γ := ⟨[], syG, [], [], []⟩) (ρ := ntE [] [] [] []) sym divp_w rfl (fun _ _ _ _ => ok_nil) divp_h
def ceilr_tree : Tree :=
 (.br (lt_ (.lit 0) (.i2 .rem v0_ (.lit 4294967296)))
 (.ret (.tup (.cons (.int .i64 (wr_ (ad_ (wr_ (.i2 .quo v0_ (.lit 4294967296))) (.lit 1)))) (.cons (.cst .nilI) .nil))))
 (.ret (.tup (.cons (.int .i64 (wr_ (.i2 .quo v0_ (.lit 4294967296)))) (.cons (.cst .nilI) .nil)))))
abbrev ntc_ceilr : Con := ⟨125, [z0_, (.int .i64 (.lit 4294967296))], (an_ (le_ (.lit 0) v0_) (le_ v0_ lM_)), (.tup (.cons (.int .i64 (.iapp 38 (.cons z0_ (.cons (.int .i64 (.lit 4294967296)) .nil)))) (.cons (.err (.lit 0)) .nil))), ⟨1, 0, 0, 0⟩, none⟩
theorem ceilr_w : walk Tryd.prog 142 ⟨[], syG, [], [], []⟩ [] .v ntc_ceilr ntc_ceilr.n 3000 = some ceilr_tree := by kernel_rfl
theorem ceilr_h (a : Int) : Hyp_ ntc_ceilr ceilr_tree (ntE [a] [] [] []) := by
 intro hc hty
 simp only [ntc_ceilr, Sy.holds, ntE, denV, denI, denB, denL, I2.den, VOp.den, List.getD_cons_zero, List.getD_cons_succ, Cst.den, syso, syse, syio, sybo, B2.ofInts, B2.denI, B2.denB, if_true, Bool.false_eq_true, if_false, Nat.div_one, Nat.mul_one, Nat.add_zero] at hc
 simp only [ntc_ceilr, patsTyp, patTyp, patTypL, ntE, denV, denL, List.getD_cons_zero, List.getD_cons_succ, and_true, true_and] at hty
 unfold ceilr_tree
 simp only [ntc_ceilr, Tree.holds, Sy.holds, ntE, denV, denI, denB, denL, I2.den, VOp.den, List.getD_cons_zero, List.getD_cons_succ, Cst.den, syso, syse, syio, sybo, nti_cl, B2.ofInts, B2.denI, B2.denB, if_true, Bool.false_eq_true, if_false, Nat.div_one, Nat.mul_one, Nat.add_zero]
 have e1 : a.tdiv 4294967296 = a / 4294967296 := Int.tdiv_eq_ediv_of_nonneg hc.1
 have e2 : a.tmod 4294967296 = a % 4294967296 := Int.tmod_eq_emod_of_nonneg hc.1
 refine ⟨fun h0 => ?_, fun h0 => ?_⟩
 have wf0 := wr_i64 (Int.tdiv a 4294967296)
 have wf1 := wr_i64 ((IntKind.wrap .i64 (Int.tdiv a 4294967296)) + 1)
 refine ?a0; rotate_left
 have wf2 := wr_i64 (Int.tdiv a 4294967296)
 refine ?a1; rotate_left
 case a0 | a1 =>
  first
  | (exfalso; omega)
  | (rw [show IntKind.wrap .i64 (a.tdiv 4294967296) = -(-a / 4294967296) by omega]; first | done | rfl)
  | (rw [show IntKind.wrap .i64 (IntKind.wrap .i64 (a.tdiv 4294967296) + 1) = -(-a / 4294967296) by omega]; first | done | rfl)
  | skip
theorem ntg_ceilr : ntc_ceilr.Good Tryd.prog syG (ntE [] [] [] []) := good_of_walk (Γ := ⟨[], syG, [], [], []⟩) (ρ := ntE [] [] [] []) sym ceilr_w rfl (fun _ _ _ _ => ok_nil) ceilr_h
def stamp_tree : Tree :=
 (.need (an_ (le_ lm_ v0_) (le_ v0_ lM_))
 (.br (.not xtformsk2_)
 (.ret (.tup (.cons (.int .u64 (.lit 0)) (.cons (.iface 142 (.int .i64 (.lit 1))) .nil))))
 (.need (an_ (le_ lm_ v0_) (le_ v0_ lM_))
 (.need (an_ (le_ lm_ xtformsk3_) (le_ xtformsk3_ lM_))
 (.br (.not (eq_ (.iapp 7 (.cons (.int .i64 xtformsk3_) (.cons (.int .i64 (.lit 4294967296)) (.cons (.int .i64 (.lit 1000000000)) .nil)))) (.lit 0)))
 (.ret (.tup (.cons (.int .u64 (.lit 0)) (.cons (.err (.iapp 7 (.cons (.int .i64 xtformsk3_) (.cons (.int .i64 (.lit 4294967296)) (.cons (.int .i64 (.lit 1000000000)) .nil))))) .nil))))
 (.ret (.tup (.cons (.int .u64 (.i2 (.bits .or .u64) (.i2 (.shl .u64) (.wrap .u64 (.wrap .u32 (wr_ (ad_ (.iapp 36 (.cons z0_ (.cons (.int .i64 (.lit 1000000000)) .nil))) (.lit 2208988800))))) (.lit 32)) (.wrap .u64 (.iapp 6 (.cons (.int .i64 xtformsk3_) (.cons (.int .i64 (.lit 4294967296)) (.cons (.int .i64 (.lit 1000000000)) .nil))))))) (.cons (.cst .nilI) .nil)))))))))
abbrev ntc_stamp : Con := ⟨52, [z0_], xtformsk2_, (.tup (.cons (.int .u64 (.iapp 26 (.cons z0_ .nil))) (.cons (.err (.lit 0)) .nil))), ⟨1, 0, 0, 0⟩, none⟩
theorem stamp_w : walk Tryd.prog 142 ⟨[ntc_istime, ntc_divs, yac_mdiv], syG, [], [], []⟩ [] .v ntc_stamp ntc_stamp.n 3000 = some stamp_tree := by kernel_rfl
theorem stamp_h (t : Int) : Hyp_ ntc_stamp stamp_tree (ntE [t] [] [] []) := by
 intro hc hty
 simp only [ntc_stamp, Sy.holds, ntE, denV, denI, denB, denL, I2.den, VOp.den, List.getD_cons_zero, List.getD_cons_succ, Cst.den, syso, syse, syio, sybo, B2.ofInts, B2.denI, B2.denB, if_true, Bool.false_eq_true, if_false, Nat.div_one, Nat.mul_one, Nat.add_zero] at hc
 simp only [ntc_stamp, patsTyp, patTyp, patTypL, ntE, denV, denL, List.getD_cons_zero, List.getD_cons_succ, and_true, true_and] at hty
 unfold stamp_tree
 simp only [ntc_stamp, Tree.holds, Sy.holds, ntE, denV, denI, denB, denL, I2.den, VOp.den, List.getD_cons_zero, List.getD_cons_succ, Cst.den, syso, syse, syio, sybo, nti_mdn, nti_mde, nti_stv, nti_dv, nti_dw, B2.ofInts, B2.denI, B2.denB, if_true, Bool.false_eq_true, if_false, Nat.div_one, Nat.mul_one, Nat.add_zero]
 have ms : mdN (t % 1000000000) 4294967296 1000000000 = (t % 1000000000) * 4294967296 / 1000000000 ∧ mdE (t % 1000000000) 4294967296 1000000000 = 0 := by (have hin : InR (t % 1000000000 * 4294967296 / 1000000000) := (by (constructor <;> omega)); unfold mdN mdE; rw [if_neg (show ¬ (1000000000 : Int) < 1 by decide), if_pos hin, if_neg (show ¬ (1000000000 : Int) < 1 by decide), if_pos hin]; exact ⟨rfl, rfl⟩)
 have w1 := wr_i64 (t / 1000000000 + 2208988800)
 have w2 : IntKind.wrap .u32 (t / 1000000000 + 2208988800) = (t / 1000000000 + 2208988800) % 4294967296 := IntKind.wrap_u32 _
 refine ⟨?_, fun h0 => ?_⟩
 ·
  omega
 refine ⟨fun h1 => ?_, fun h1 => ?_⟩
 refine ?a0; rotate_left
 refine ⟨?_, fun h2 => ?_⟩
 ·
  omega
 refine ⟨?_, fun h3 => ?_⟩
 ·
  omega
 refine ⟨fun h4 => ?_, fun h4 => ?_⟩
 refine ?a1; rotate_left
 refine ?a2; rotate_left
 case a0 | a1 | a2 =>
  first
  | (exfalso; omega)
  | (exfalso; rw [ms.2] at *; omega)
  | (rw [show IntKind.wrap .i64 (t / 1000000000 + 2208988800) = t / 1000000000 + 2208988800 by omega, w2, ms.1]
     have w3 := wr_u64 ((t / 1000000000 + 2208988800) % 4294967296)
     have w4 := wr_u64 (t % 1000000000 * 4294967296 / 1000000000)
     rw [show IntKind.wrap .u64 ((t / 1000000000 + 2208988800) % 4294967296) = (t / 1000000000 + 2208988800) % 4294967296 by omega, show IntKind.wrap .u64 (t % 1000000000 * 4294967296 / 1000000000) = t % 1000000000 * 4294967296 / 1000000000 by omega, or32 (by omega) (by omega) (by omega) (by omega)]
     rfl)
  | skip
theorem ntg_stamp : ntc_stamp.Good Tryd.prog syG (ntE [] [] [] []) := good_of_walk (Γ := ⟨[ntc_istime, ntc_divs, yac_mdiv], syG, [], [], []⟩) (ρ := ntE [] [] [] []) sym stamp_w rfl (fun _ _ _ _ => (ok_cons (Con.Good.env ntg_istime _ _ _ _) (ok_cons (Con.Good.env ntg_divs _ _ _ _) (ok_cons (Con.Good.env (Con.Good.up yag_mdiv ntup rfl) _ _ _ _) ok_nil)))) stamp_h
def short_tree : Tree :=
 (.ret (.int .i64 (.i2 (.shr .i64) (wr_ (sb_ (wr_ (ad_ (wr_ (ml_ (wr_ v0_) (.lit 1000000000))) (.lit 65536))) (.lit 1))) (.lit 16))))
abbrev ntc_short : Con := ⟨57, [(.int .u32 v0_)], (an_ (le_ (.lit 0) v0_) (le_ v0_ (.lit 4294967295))), (.int .i64 (.iapp 30 (.cons (.int .u32 v0_) .nil))), ⟨1, 0, 0, 0⟩, none⟩
theorem short_w : walk Tryd.prog 142 ⟨[], syG, [], [], []⟩ [] .v ntc_short ntc_short.n 3000 = some short_tree := by kernel_rfl
theorem short_h (n : Int) : Hyp_ ntc_short short_tree (ntE [n] [] [] []) := by
 intro hc hty
 simp only [ntc_short, Sy.holds, ntE, denV, denI, denB, denL, I2.den, VOp.den, List.getD_cons_zero, List.getD_cons_succ, Cst.den, syso, syse, syio, sybo, B2.ofInts, B2.denI, B2.denB, if_true, Bool.false_eq_true, if_false, Nat.div_one, Nat.mul_one, Nat.add_zero] at hc
 simp only [ntc_short, patsTyp, patTyp, patTypL, ntE, denV, denL, List.getD_cons_zero, List.getD_cons_succ, and_true, true_and] at hty
 unfold short_tree
 simp only [ntc_short, Tree.holds, Sy.holds, ntE, denV, denI, denB, denL, I2.den, VOp.den, List.getD_cons_zero, List.getD_cons_succ, Cst.den, syso, syse, syio, sybo, nti_sh, B2.ofInts, B2.denI, B2.denB, if_true, Bool.false_eq_true, if_false, Nat.div_one, Nat.mul_one, Nat.add_zero]
 simp only [shr16]
 have wf0 := wr_i64 n
 have wf1 := wr_i64 ((IntKind.wrap .i64 n) * 1000000000)
 have wf2 := wr_i64 ((IntKind.wrap .i64 ((IntKind.wrap .i64 n) * 1000000000)) + 65536)
 have wf3 := wr_i64 ((IntKind.wrap .i64 ((IntKind.wrap .i64 ((IntKind.wrap .i64 n) * 1000000000)) + 65536)) - 1)
 refine congrArg (Value.int .i64) ?_
 unfold shI
 omega
theorem ntg_short : ntc_short.Good Tryd.prog syG (ntE [] [] [] []) := good_of_walk (Γ := ⟨[], syG, [], [], []⟩) (ρ := ntE [] [] [] []) sym short_w rfl (fun _ _ _ _ => ok_nil) short_h
def check_tree : Tree :=
 (.br (lt_ (.lit 3) v0_)
 (.ret (.iface 142 (.int .i64 (.lit 1))))
 (.br (lt_ v1_ (.lit 1))
 (.ret (.iface 142 (.int .i64 (.lit 1))))
 (.br (lt_ (.lit 4) v1_)
 (.ret (.iface 142 (.int .i64 (.lit 1))))
 (.br (lt_ v2_ (.lit 1))
 (.ret (.iface 142 (.int .i64 (.lit 1))))
 (.br (lt_ (.lit 5) v2_)
 (.ret (.iface 142 (.int .i64 (.lit 1))))
 (.ret (.cst .nilI)))))))
abbrev ntc_check : Con := ⟨59, [xtformsk1_], (.tt true), (.err (.iapp 32 (.cons (.int .u8 v0_) (.cons (.int .u8 v1_) (.cons (.int .u8 v2_) .nil))))), ⟨16, 0, 0, 0⟩, none⟩
theorem check_w : walk Tryd.prog 142 ⟨[], syG, [], [], []⟩ [] .v ntc_check ntc_check.n 3000 = some check_tree := by kernel_rfl
theorem check_h (le ve mo su po pr dl sp n0 n1 n2 n3 se ak ca sn : Int) : Hyp_ ntc_check check_tree (ntE [le, ve, mo, su, po, pr, dl, sp, n0, n1, n2, n3, se, ak, ca, sn] [] [] []) := by
 intro hc hty
 simp only [ntc_check, Sy.holds, ntE, denV, denI, denB, denL, I2.den, VOp.den, List.getD_cons_zero, List.getD_cons_succ, Cst.den, syso, syse, syio, sybo, B2.ofInts, B2.denI, B2.denB, if_true, Bool.false_eq_true, if_false, Nat.div_one, Nat.mul_one, Nat.add_zero] at hc
 simp only [ntc_check, patsTyp, patTyp, patTypL, ntE, denV, denL, List.getD_cons_zero, List.getD_cons_succ, and_true, true_and] at hty
 unfold check_tree
 simp only [ntc_check, Tree.holds, Sy.holds, ntE, denV, denI, denB, denL, I2.den, VOp.den, List.getD_cons_zero, List.getD_cons_succ, Cst.den, syso, syse, syio, sybo, nti_ck, B2.ofInts, B2.denI, B2.denB, if_true, Bool.false_eq_true, if_false, Nat.div_one, Nat.mul_one, Nat.add_zero]
 have hk := ck_spec le ve mo
 refine ⟨fun h0 => ?_, fun h0 => ?_⟩
 refine ?a0; rotate_left
 refine ⟨fun h1 => ?_, fun h1 => ?_⟩
 refine ?a1; rotate_left
 refine ⟨fun h2 => ?_, fun h2 => ?_⟩
 refine ?a2; rotate_left
 refine ⟨fun h3 => ?_, fun h3 => ?_⟩
 refine ?a3; rotate_left
 refine ⟨fun h4 => ?_, fun h4 => ?_⟩
 refine ?a4; rotate_left
 refine ?a5; rotate_left
 case a0 | a1 | a2 | a3 | a4 | a5 =>
  first
  | (rw [show ckE le ve mo = 0 by omega]; first | done | rfl)
  | (rw [show ckE le ve mo = 1 by omega]; first | done | rfl)
  | skip
theorem ntg_check : ntc_check.Good Tryd.prog syG (ntE [] [] [] []) := good_of_walk (Γ := ⟨[], syG, [], [], []⟩) (ρ := ntE [] [] [] []) sym check_w rfl (fun _ _ _ _ => ok_nil) check_h
def ask_tree : Tree :=
 (.need xtformsk2_
 (.ret (.tup (.cons xtformsk0_ (.cons (.cst .nilI) .nil)))))
abbrev ntc_ask : Con := ⟨61, [z0_], xtformsk2_, (.tup (.cons xtformsk0_ (.cons (.err (.lit 0)) .nil))), ⟨1, 0, 0, 0⟩, none⟩
theorem ask_w : walk Tryd.prog 142 ⟨[ntc_stamp], syG, [], [], []⟩ [] .v ntc_ask ntc_ask.n 3000 = some ask_tree := by kernel_rfl
theorem ask_h (t : Int) : Hyp_ ntc_ask ask_tree (ntE [t] [] [] []) := by
 intro hc hty
 simp only [ntc_ask, Sy.holds, ntE, denV, denI, denB, denL, I2.den, VOp.den, List.getD_cons_zero, List.getD_cons_succ, Cst.den, syso, syse, syio, sybo, B2.ofInts, B2.denI, B2.denB, if_true, Bool.false_eq_true, if_false, Nat.div_one, Nat.mul_one, Nat.add_zero] at hc
 simp only [ntc_ask, patsTyp, patTyp, patTypL, ntE, denV, denL, List.getD_cons_zero, List.getD_cons_succ, and_true, true_and] at hty
 unfold ask_tree
 simp only [ntc_ask, Tree.holds, Sy.holds, ntE, denV, denI, denB, denL, I2.den, VOp.den, List.getD_cons_zero, List.getD_cons_succ, Cst.den, syso, syse, syio, sybo, nti_stv, B2.ofInts, B2.denI, B2.denB, if_true, Bool.false_eq_true, if_false, Nat.div_one, Nat.mul_one, Nat.add_zero]
 refine ⟨?_, fun h0 => ?_⟩
 ·
  first
  | exact hc
  | omega
 ·
  first
  | exact True.intro
  | rfl
  | skip
theorem ntg_ask : ntc_ask.Good Tryd.prog syG (ntE [] [] [] []) := good_of_walk (Γ := ⟨[ntc_stamp], syG, [], [], []⟩) (ρ := ntE [] [] [] []) sym ask_w rfl (fun _ _ _ _ => (ok_cons (Con.Good.env ntg_stamp _ _ _ _) ok_nil)) ask_h
def nb4_tree : Tree :=
 (.ret (.hs (.new 5) (.cons (.int .u8) .nil) (.tup (.cons (.int .u8 v0_) (.cons (.int .u8 v1_) (.cons (.int .u8 v2_) (.cons (.int .u8 v3_) (.cons (.int .u8 (.wrap .u8 (.i2 (.shr .u64) (.wrap .u64 v4_) (.lit 24)))) (.cons (.int .u8 (.wrap .u8 (.i2 (.shr .u64) (.wrap .u64 v4_) (.lit 16)))) (.cons (.int .u8 (.wrap .u8 (.i2 (.shr .u64) (.wrap .u64 v4_) (.lit 8)))) (.cons (.int .u8 (.wrap .u8 (.i2 (.shr .u64) (.wrap .u64 v4_) (.lit 0)))) .nil)))))))))))
abbrev ntc_nb4 : Con := ⟨116, [(.hs .no (.cons (.int .u8) .nil) (.tup (.cons (.int .u8 v0_) (.cons (.int .u8 v1_) (.cons (.int .u8 v2_) (.cons (.int .u8 v3_) .nil)))))), (.int .u64 (.wrap .u64 v4_)), (.int .i64 (.lit 4))], (an_ (le_ (.lit 0) v4_) (le_ v4_ (.lit 4294967295))), (.hs (.new 5) (.cons (.int .u8) .nil) (.tup (.cons (.int .u8 v0_) (.cons (.int .u8 v1_) (.cons (.int .u8 v2_) (.cons (.int .u8 v3_) (.cons (.int .u8 (.iapp 28 (.cons (.int .u64 (.wrap .u64 v4_)) (.cons (.int .i64 (.lit 3)) .nil)))) (.cons (.int .u8 (.iapp 28 (.cons (.int .u64 (.wrap .u64 v4_)) (.cons (.int .i64 (.lit 2)) .nil)))) (.cons (.int .u8 (.iapp 28 (.cons (.int .u64 (.wrap .u64 v4_)) (.cons (.int .i64 (.lit 1)) .nil)))) (.cons (.int .u8 (.iapp 28 (.cons (.int .u64 (.wrap .u64 v4_)) (.cons (.int .i64 (.lit 0)) .nil)))) .nil)))))))))), ⟨5, 0, 0, 0⟩, some (0, 5, (.cons (.int .u8) .nil))⟩
theorem nb4_w : walk Tryd.prog 142 ⟨[], syG, [], [], []⟩ [] (.o 5 (.cons (.int .u8) .nil)) ntc_nb4 ntc_nb4.n 3000 = some nb4_tree := by kernel_rfl
theorem nb4_h (c0 c1 c2 c3 v : Int) : Hyp_ ntc_nb4 nb4_tree (ntE [c0, c1, c2, c3, v] [] [] []) := by
 intro hc hty
 simp only [ntc_nb4, Sy.holds, ntE, denV, denI, denB, denL, I2.den, VOp.den, List.getD_cons_zero, List.getD_cons_succ, Cst.den, syso, syse, syio, sybo, B2.ofInts, B2.denI, B2.denB, if_true, Bool.false_eq_true, if_false, Nat.div_one, Nat.mul_one, Nat.add_zero] at hc
 simp only [ntc_nb4, patsTyp, patTyp, patTypL, ntE, denV, denL, List.getD_cons_zero, List.getD_cons_succ, and_true, true_and] at hty
 unfold nb4_tree
 simp only [ntc_nb4, Tree.holds, Sy.holds, ntE, denV, denI, denB, denL, I2.den, VOp.den, List.getD_cons_zero, List.getD_cons_succ, Cst.den, syso, syse, syio, sybo, nti_by, B2.ofInts, B2.denI, B2.denB, if_true, Bool.false_eq_true, if_false, Nat.div_one, Nat.mul_one, Nat.add_zero]
 have hx := wr_u64 v
 have h0 : 0 ≤ IntKind.wrap .u64 v := by omega
 first
 | (simp only [by_s0 _ h0, by_s1 _ h0, by_s2 _ h0, by_s3 _ h0]; first | done | rfl)
 | (simp only [by_s0 v hc.1, by_s1 v hc.1, by_s2 v hc.1, by_s3 v hc.1, by_s4 v hc.1, by_s5 v hc.1, by_s6 v hc.1, by_s7 v hc.1]; first | done | rfl)
 | skip
theorem ntg_nb4 : ntc_nb4.Good Tryd.prog syG (ntE [] [] [] []) := good_of_walk (Γ := ⟨[], syG, [], [], []⟩) (ρ := ntE [] [] [] []) sym nb4_w rfl (fun _ _ _ _ => ok_nil) nb4_h
def nb8_tree : Tree :=
 (.ret (.hs (.new 5) (.cons (.int .u8) .nil) (.tup (.cons (.int .u8 v0_) (.cons (.int .u8 v1_) (.cons (.int .u8 v2_) (.cons (.int .u8 v3_) (.cons (.int .u8 v4_) (.cons (.int .u8 v5_) (.cons (.int .u8 v6_) (.cons (.int .u8 v7_) (.cons (.int .u8 (.wrap .u8 (.i2 (.shr .u64) (.wrap .u64 v8_) (.lit 24)))) (.cons (.int .u8 (.wrap .u8 (.i2 (.shr .u64) (.wrap .u64 v8_) (.lit 16)))) (.cons (.int .u8 (.wrap .u8 (.i2 (.shr .u64) (.wrap .u64 v8_) (.lit 8)))) (.cons (.int .u8 (.wrap .u8 (.i2 (.shr .u64) (.wrap .u64 v8_) (.lit 0)))) .nil)))))))))))))))
abbrev ntc_nb8 : Con := ⟨116, [(.hs .no (.cons (.int .u8) .nil) (.tup (.cons (.int .u8 v0_) (.cons (.int .u8 v1_) (.cons (.int .u8 v2_) (.cons (.int .u8 v3_) (.cons (.int .u8 v4_) (.cons (.int .u8 v5_) (.cons (.int .u8 v6_) (.cons (.int .u8 v7_) .nil)))))))))), (.int .u64 (.wrap .u64 v8_)), (.int .i64 (.lit 4))], (an_ (le_ (.lit 0) v8_) (le_ v8_ (.lit 4294967295))), (.hs (.new 5) (.cons (.int .u8) .nil) (.tup (.cons (.int .u8 v0_) (.cons (.int .u8 v1_) (.cons (.int .u8 v2_) (.cons (.int .u8 v3_) (.cons (.int .u8 v4_) (.cons (.int .u8 v5_) (.cons (.int .u8 v6_) (.cons (.int .u8 v7_) (.cons (.int .u8 (.iapp 28 (.cons (.int .u64 (.wrap .u64 v8_)) (.cons (.int .i64 (.lit 3)) .nil)))) (.cons (.int .u8 (.iapp 28 (.cons (.int .u64 (.wrap .u64 v8_)) (.cons (.int .i64 (.lit 2)) .nil)))) (.cons (.int .u8 (.iapp 28 (.cons (.int .u64 (.wrap .u64 v8_)) (.cons (.int .i64 (.lit 1)) .nil)))) (.cons (.int .u8 (.iapp 28 (.cons (.int .u64 (.wrap .u64 v8_)) (.cons (.int .i64 (.lit 0)) .nil)))) .nil)))))))))))))), ⟨9, 0, 0, 0⟩, some (0, 5, (.cons (.int .u8) .nil))⟩
theorem nb8_w : walk Tryd.prog 142 ⟨[], syG, [], [], []⟩ [] (.o 5 (.cons (.int .u8) .nil)) ntc_nb8 ntc_nb8.n 3000 = some nb8_tree := by kernel_rfl
theorem nb8_h (c0 c1 c2 c3 c4 c5 c6 c7 v : Int) : Hyp_ ntc_nb8 nb8_tree (ntE [c0, c1, c2, c3, c4, c5, c6, c7, v] [] [] []) := by
 intro hc hty
 simp only [ntc_nb8, Sy.holds, ntE, denV, denI, denB, denL, I2.den, VOp.den, List.getD_cons_zero, List.getD_cons_succ, Cst.den, syso, syse, syio, sybo, B2.ofInts, B2.denI, B2.denB, if_true, Bool.false_eq_true, if_false, Nat.div_one, Nat.mul_one, Nat.add_zero] at hc
 simp only [ntc_nb8, patsTyp, patTyp, patTypL, ntE, denV, denL, List.getD_cons_zero, List.getD_cons_succ, and_true, true_and] at hty
 unfold nb8_tree
 simp only [ntc_nb8, Tree.holds, Sy.holds, ntE, denV, denI, denB, denL, I2.den, VOp.den, List.getD_cons_zero, List.getD_cons_succ, Cst.den, syso, syse, syio, sybo, nti_by, B2.ofInts, B2.denI, B2.denB, if_true, Bool.false_eq_true, if_false, Nat.div_one, Nat.mul_one, Nat.add_zero]
 have hx := wr_u64 v
 have h0 : 0 ≤ IntKind.wrap .u64 v := by omega
 first
 | (simp only [by_s0 _ h0, by_s1 _ h0, by_s2 _ h0, by_s3 _ h0]; first | done | rfl)
 | (simp only [by_s0 v hc.1, by_s1 v hc.1, by_s2 v hc.1, by_s3 v hc.1, by_s4 v hc.1, by_s5 v hc.1, by_s6 v hc.1, by_s7 v hc.1]; first | done | rfl)
 | skip
theorem ntg_nb8 : ntc_nb8.Good Tryd.prog syG (ntE [] [] [] []) := good_of_walk (Γ := ⟨[], syG, [], [], []⟩) (ρ := ntE [] [] [] []) sym nb8_w rfl (fun _ _ _ _ => ok_nil) nb8_h
def nc16_tree : Tree :=
 (.ret (.hs (.new 5) (.cons (.int .u8) .nil) (.tup (.cons (.int .u8 v0_) (.cons (.int .u8 v1_) (.cons (.int .u8 v2_) (.cons (.int .u8 v3_) (.cons (.int .u8 v4_) (.cons (.int .u8 v5_) (.cons (.int .u8 v6_) (.cons (.int .u8 v7_) (.cons (.int .u8 v8_) (.cons (.int .u8 v9_) (.cons (.int .u8 (.var 10)) (.cons (.int .u8 (.var 11)) (.cons (.int .u8 (.var 12)) (.cons (.int .u8 (.var 13)) (.cons (.int .u8 (.var 14)) (.cons (.int .u8 (.var 15)) (.cons (.int .u8 (.wrap .u8 (.i2 (.shr .u64) (.var 16) (.lit 56)))) (.cons (.int .u8 (.wrap .u8 (.i2 (.shr .u64) (.var 16) (.lit 48)))) (.cons (.int .u8 (.wrap .u8 (.i2 (.shr .u64) (.var 16) (.lit 40)))) (.cons (.int .u8 (.wrap .u8 (.i2 (.shr .u64) (.var 16) (.lit 32)))) (.cons (.int .u8 (.wrap .u8 (.i2 (.shr .u64) (.var 16) (.lit 24)))) (.cons (.int .u8 (.wrap .u8 (.i2 (.shr .u64) (.var 16) (.lit 16)))) (.cons (.int .u8 (.wrap .u8 (.i2 (.shr .u64) (.var 16) (.lit 8)))) (.cons (.int .u8 (.wrap .u8 (.i2 (.shr .u64) (.var 16) (.lit 0)))) .nil)))))))))))))))))))))))))))
abbrev ntc_nc16 : Con := ⟨116, [(.hs .no (.cons (.int .u8) .nil) (.tup (.cons (.int .u8 v0_) (.cons (.int .u8 v1_) (.cons (.int .u8 v2_) (.cons (.int .u8 v3_) (.cons (.int .u8 v4_) (.cons (.int .u8 v5_) (.cons (.int .u8 v6_) (.cons (.int .u8 v7_) (.cons (.int .u8 v8_) (.cons (.int .u8 v9_) (.cons (.int .u8 (.var 10)) (.cons (.int .u8 (.var 11)) (.cons (.int .u8 (.var 12)) (.cons (.int .u8 (.var 13)) (.cons (.int .u8 (.var 14)) (.cons (.int .u8 (.var 15)) .nil)))))))))))))))))), (.int .u64 (.var 16)), (.int .i64 (.lit 8))], (an_ (le_ (.lit 0) (.var 16)) (le_ (.var 16) (.lit 18446744073709551615))), (.hs (.new 5) (.cons (.int .u8) .nil) (.tup (.cons (.int .u8 v0_) (.cons (.int .u8 v1_) (.cons (.int .u8 v2_) (.cons (.int .u8 v3_) (.cons (.int .u8 v4_) (.cons (.int .u8 v5_) (.cons (.int .u8 v6_) (.cons (.int .u8 v7_) (.cons (.int .u8 v8_) (.cons (.int .u8 v9_) (.cons (.int .u8 (.var 10)) (.cons (.int .u8 (.var 11)) (.cons (.int .u8 (.var 12)) (.cons (.int .u8 (.var 13)) (.cons (.int .u8 (.var 14)) (.cons (.int .u8 (.var 15)) (.cons (.int .u8 (.iapp 28 (.cons (.int .u64 (.var 16)) (.cons (.int .i64 (.lit 7)) .nil)))) (.cons (.int .u8 (.iapp 28 (.cons (.int .u64 (.var 16)) (.cons (.int .i64 (.lit 6)) .nil)))) (.cons (.int .u8 (.iapp 28 (.cons (.int .u64 (.var 16)) (.cons (.int .i64 (.lit 5)) .nil)))) (.cons (.int .u8 (.iapp 28 (.cons (.int .u64 (.var 16)) (.cons (.int .i64 (.lit 4)) .nil)))) (.cons (.int .u8 (.iapp 28 (.cons (.int .u64 (.var 16)) (.cons (.int .i64 (.lit 3)) .nil)))) (.cons (.int .u8 (.iapp 28 (.cons (.int .u64 (.var 16)) (.cons (.int .i64 (.lit 2)) .nil)))) (.cons (.int .u8 (.iapp 28 (.cons (.int .u64 (.var 16)) (.cons (.int .i64 (.lit 1)) .nil)))) (.cons (.int .u8 (.iapp 28 (.cons (.int .u64 (.var 16)) (.cons (.int .i64 (.lit 0)) .nil)))) .nil)))))))))))))))))))))))))), ⟨17, 0, 0, 0⟩, some (0, 5, (.cons (.int .u8) .nil))⟩
theorem nc16_w : walk Tryd.prog 142 ⟨[], syG, [], [], []⟩ [] (.o 5 (.cons (.int .u8) .nil)) ntc_nc16 ntc_nc16.n 3000 = some nc16_tree := by kernel_rfl
theorem nc16_h (c0 c1 c2 c3 c4 c5 c6 c7 c8 c9 c10 c11 c12 c13 c14 c15 v : Int) : Hyp_ ntc_nc16 nc16_tree (ntE [c0, c1, c2, c3, c4, c5, c6, c7, c8, c9, c10, c11, c12, c13, c14, c15, v] [] [] []) := by
 intro hc hty
 simp only [ntc_nc16, Sy.holds, ntE, denV, denI, denB, denL, I2.den, VOp.den, List.getD_cons_zero, List.getD_cons_succ, Cst.den, syso, syse, syio, sybo, B2.ofInts, B2.denI, B2.denB, if_true, Bool.false_eq_true, if_false, Nat.div_one, Nat.mul_one, Nat.add_zero] at hc
 simp only [ntc_nc16, patsTyp, patTyp, patTypL, ntE, denV, denL, List.getD_cons_zero, List.getD_cons_succ, and_true, true_and] at hty
 unfold nc16_tree
 simp only [ntc_nc16, Tree.holds, Sy.holds, ntE, denV, denI, denB, denL, I2.den, VOp.den, List.getD_cons_zero, List.getD_cons_succ, Cst.den, syso, syse, syio, sybo, nti_by, B2.ofInts, B2.denI, B2.denB, if_true, Bool.false_eq_true, if_false, Nat.div_one, Nat.mul_one, Nat.add_zero]
 have hx := wr_u64 v
 have h0 : 0 ≤ IntKind.wrap .u64 v := by omega
 first
 | (simp only [by_s0 _ h0, by_s1 _ h0, by_s2 _ h0, by_s3 _ h0]; first | done | rfl)
 | (simp only [by_s0 v hc.1, by_s1 v hc.1, by_s2 v hc.1, by_s3 v hc.1, by_s4 v hc.1, by_s5 v hc.1, by_s6 v hc.1, by_s7 v hc.1]; first | done | rfl)
 | skip
theorem ntg_nc16 : ntc_nc16.Good Tryd.prog syG (ntE [] [] [] []) := good_of_walk (Γ := ⟨[], syG, [], [], []⟩) (ρ := ntE [] [] [] []) sym nc16_w rfl (fun _ _ _ _ => ok_nil) nc16_h
def nc24_tree : Tree :=
 (.ret (.hs (.new 5) (.cons (.int .u8) .nil) (.tup (.cons (.int .u8 v0_) (.cons (.int .u8 v1_) (.cons (.int .u8 v2_) (.cons (.int .u8 v3_) (.cons (.int .u8 v4_) (.cons (.int .u8 v5_) (.cons (.int .u8 v6_) (.cons (.int .u8 v7_) (.cons (.int .u8 v8_) (.cons (.int .u8 v9_) (.cons (.int .u8 (.var 10)) (.cons (.int .u8 (.var 11)) (.cons (.int .u8 (.var 12)) (.cons (.int .u8 (.var 13)) (.cons (.int .u8 (.var 14)) (.cons (.int .u8 (.var 15)) (.cons (.int .u8 (.var 16)) (.cons (.int .u8 (.var 17)) (.cons (.int .u8 (.var 18)) (.cons (.int .u8 (.var 19)) (.cons (.int .u8 (.var 20)) (.cons (.int .u8 (.var 21)) (.cons (.int .u8 (.var 22)) (.cons (.int .u8 (.var 23)) (.cons (.int .u8 (.wrap .u8 (.i2 (.shr .u64) (.var 24) (.lit 56)))) (.cons (.int .u8 (.wrap .u8 (.i2 (.shr .u64) (.var 24) (.lit 48)))) (.cons (.int .u8 (.wrap .u8 (.i2 (.shr .u64) (.var 24) (.lit 40)))) (.cons (.int .u8 (.wrap .u8 (.i2 (.shr .u64) (.var 24) (.lit 32)))) (.cons (.int .u8 (.wrap .u8 (.i2 (.shr .u64) (.var 24) (.lit 24)))) (.cons (.int .u8 (.wrap .u8 (.i2 (.shr .u64) (.var 24) (.lit 16)))) (.cons (.int .u8 (.wrap .u8 (.i2 (.shr .u64) (.var 24) (.lit 8)))) (.cons (.int .u8 (.wrap .u8 (.i2 (.shr .u64) (.var 24) (.lit 0)))) .nil)))))))))))))))))))))))))))))))))))
abbrev ntc_nc24 : Con := ⟨116, [(.hs .no (.cons (.int .u8) .nil) (.tup (.cons (.int .u8 v0_) (.cons (.int .u8 v1_) (.cons (.int .u8 v2_) (.cons (.int .u8 v3_) (.cons (.int .u8 v4_) (.cons (.int .u8 v5_) (.cons (.int .u8 v6_) (.cons (.int .u8 v7_) (.cons (.int .u8 v8_) (.cons (.int .u8 v9_) (.cons (.int .u8 (.var 10)) (.cons (.int .u8 (.var 11)) (.cons (.int .u8 (.var 12)) (.cons (.int .u8 (.var 13)) (.cons (.int .u8 (.var 14)) (.cons (.int .u8 (.var 15)) (.cons (.int .u8 (.var 16)) (.cons (.int .u8 (.var 17)) (.cons (.int .u8 (.var 18)) (.cons (.int .u8 (.var 19)) (.cons (.int .u8 (.var 20)) (.cons (.int .u8 (.var 21)) (.cons (.int .u8 (.var 22)) (.cons (.int .u8 (.var 23)) .nil)))))))))))))))))))))))))), (.int .u64 (.var 24)), (.int .i64 (.lit 8))], (an_ (le_ (.lit 0) (.var 24)) (le_ (.var 24) (.lit 18446744073709551615))), (.hs (.new 5) (.cons (.int .u8) .nil) (.tup (.cons (.int .u8 v0_) (.cons (.int .u8 v1_) (.cons (.int .u8 v2_) (.cons (.int .u8 v3_) (.cons (.int .u8 v4_) (.cons (.int .u8 v5_) (.cons (.int .u8 v6_) (.cons (.int .u8 v7_) (.cons (.int .u8 v8_) (.cons (.int .u8 v9_) (.cons (.int .u8 (.var 10)) (.cons (.int .u8 (.var 11)) (.cons (.int .u8 (.var 12)) (.cons (.int .u8 (.var 13)) (.cons (.int .u8 (.var 14)) (.cons (.int .u8 (.var 15)) (.cons (.int .u8 (.var 16)) (.cons (.int .u8 (.var 17)) (.cons (.int .u8 (.var 18)) (.cons (.int .u8 (.var 19)) (.cons (.int .u8 (.var 20)) (.cons (.int .u8 (.var 21)) (.cons (.int .u8 (.var 22)) (.cons (.int .u8 (.var 23)) (.cons (.int .u8 (.iapp 28 (.cons (.int .u64 (.var 24)) (.cons (.int .i64 (.lit 7)) .nil)))) (.cons (.int .u8 (.iapp 28 (.cons (.int .u64 (.var 24)) (.cons (.int .i64 (.lit 6)) .nil)))) (.cons (.int .u8 (.iapp 28 (.cons (.int .u64 (.var 24)) (.cons (.int .i64 (.lit 5)) .nil)))) (.cons (.int .u8 (.iapp 28 (.cons (.int .u64 (.var 24)) (.cons (.int .i64 (.lit 4)) .nil)))) (.cons (.int .u8 (.iapp 28 (.cons (.int .u64 (.var 24)) (.cons (.int .i64 (.lit 3)) .nil)))) (.cons (.int .u8 (.iapp 28 (.cons (.int .u64 (.var 24)) (.cons (.int .i64 (.lit 2)) .nil)))) (.cons (.int .u8 (.iapp 28 (.cons (.int .u64 (.var 24)) (.cons (.int .i64 (.lit 1)) .nil)))) (.cons (.int .u8 (.iapp 28 (.cons (.int .u64 (.var 24)) (.cons (.int .i64 (.lit 0)) .nil)))) .nil)))))))))))))))))))))))))))))))))), ⟨25, 0, 0, 0⟩, some (0, 5, (.cons (.int .u8) .nil))⟩
theorem nc24_w : walk Tryd.prog 142 ⟨[], syG, [], [], []⟩ [] (.o 5 (.cons (.int .u8) .nil)) ntc_nc24 ntc_nc24.n 3000 = some nc24_tree := by kernel_rfl
theorem nc24_h (c0 c1 c2 c3 c4 c5 c6 c7 c8 c9 c10 c11 c12 c13 c14 c15 c16 c17 c18 c19 c20 c21 c22 c23 v : Int) : Hyp_ ntc_nc24 nc24_tree (ntE [c0, c1, c2, c3, c4, c5, c6, c7, c8, c9, c10, c11, c12, c13, c14, c15, c16, c17, c18, c19, c20, c21, c22, c23, v] [] [] []) := by
 intro hc hty
 simp only [ntc_nc24, Sy.holds, ntE, denV, denI, denB, denL, I2.den, VOp.den, List.getD_cons_zero, List.getD_cons_succ, Cst.den, syso, syse, syio, sybo, B2.ofInts, B2.denI, B2.denB, if_true, Bool.false_eq_true, if_false, Nat.div_one, Nat.mul_one, Nat.add_zero] at hc
 simp only [ntc_nc24, patsTyp, patTyp, patTypL, ntE, denV, denL, List.getD_cons_zero, List.getD_cons_succ, and_true, true_and] at hty
 unfold nc24_tree
 simp only [ntc_nc24, Tree.holds, Sy.holds, ntE, denV, denI, denB, denL, I2.den, VOp.den, List.getD_cons_zero, List.getD_cons_succ, Cst.den, syso, syse, syio, sybo, nti_by, B2.ofInts, B2.denI, B2.denB, if_true, Bool.false_eq_true, if_false, Nat.div_one, Nat.mul_one, Nat.add_zero]
 have hx := wr_u64 v
 have h0 : 0 ≤ IntKind.wrap .u64 v := by omega
 first
 | (simp only [by_s0 _ h0, by_s1 _ h0, by_s2 _ h0, by_s3 _ h0]; first | done | rfl)
 | (simp only [by_s0 v hc.1, by_s1 v hc.1, by_s2 v hc.1, by_s3 v hc.1, by_s4 v hc.1, by_s5 v hc.1, by_s6 v hc.1, by_s7 v hc.1]; first | done | rfl)
 | skip
theorem ntg_nc24 : ntc_nc24.Good Tryd.prog syG (ntE [] [] [] []) := good_of_walk (Γ := ⟨[], syG, [], [], []⟩) (ρ := ntE [] [] [] []) sym nc24_w rfl (fun _ _ _ _ => ok_nil) nc24_h
def nc32_tree : Tree :=
 (.ret (.hs (.new 5) (.cons (.int .u8) .nil) (.tup (.cons (.int .u8 v0_) (.cons (.int .u8 v1_) (.cons (.int .u8 v2_) (.cons (.int .u8 v3_) (.cons (.int .u8 v4_) (.cons (.int .u8 v5_) (.cons (.int .u8 v6_) (.cons (.int .u8 v7_) (.cons (.int .u8 v8_) (.cons (.int .u8 v9_) (.cons (.int .u8 (.var 10)) (.cons (.int .u8 (.var 11)) (.cons (.int .u8 (.var 12)) (.cons (.int .u8 (.var 13)) (.cons (.int .u8 (.var 14)) (.cons (.int .u8 (.var 15)) (.cons (.int .u8 (.var 16)) (.cons (.int .u8 (.var 17)) (.cons (.int .u8 (.var 18)) (.cons (.int .u8 (.var 19)) (.cons (.int .u8 (.var 20)) (.cons (.int .u8 (.var 21)) (.cons (.int .u8 (.var 22)) (.cons (.int .u8 (.var 23)) (.cons (.int .u8 (.var 24)) (.cons (.int .u8 (.var 25)) (.cons (.int .u8 (.var 26)) (.cons (.int .u8 (.var 27)) (.cons (.int .u8 (.var 28)) (.cons (.int .u8 (.var 29)) (.cons (.int .u8 (.var 30)) (.cons (.int .u8 (.var 31)) (.cons (.int .u8 (.wrap .u8 (.i2 (.shr .u64) (.var 32) (.lit 56)))) (.cons (.int .u8 (.wrap .u8 (.i2 (.shr .u64) (.var 32) (.lit 48)))) (.cons (.int .u8 (.wrap .u8 (.i2 (.shr .u64) (.var 32) (.lit 40)))) (.cons (.int .u8 (.wrap .u8 (.i2 (.shr .u64) (.var 32) (.lit 32)))) (.cons (.int .u8 (.wrap .u8 (.i2 (.shr .u64) (.var 32) (.lit 24)))) (.cons (.int .u8 (.wrap .u8 (.i2 (.shr .u64) (.var 32) (.lit 16)))) (.cons (.int .u8 (.wrap .u8 (.i2 (.shr .u64) (.var 32) (.lit 8)))) (.cons (.int .u8 (.wrap .u8 (.i2 (.shr .u64) (.var 32) (.lit 0)))) .nil)))))))))))))))))))))))))))))))))))))))))))
abbrev ntc_nc32 : Con := ⟨116, [(.hs .no (.cons (.int .u8) .nil) (.tup (.cons (.int .u8 v0_) (.cons (.int .u8 v1_) (.cons (.int .u8 v2_) (.cons (.int .u8 v3_) (.cons (.int .u8 v4_) (.cons (.int .u8 v5_) (.cons (.int .u8 v6_) (.cons (.int .u8 v7_) (.cons (.int .u8 v8_) (.cons (.int .u8 v9_) (.cons (.int .u8 (.var 10)) (.cons (.int .u8 (.var 11)) (.cons (.int .u8 (.var 12)) (.cons (.int .u8 (.var 13)) (.cons (.int .u8 (.var 14)) (.cons (.int .u8 (.var 15)) (.cons (.int .u8 (.var 16)) (.cons (.int .u8 (.var 17)) (.cons (.int .u8 (.var 18)) (.cons (.int .u8 (.var 19)) (.cons (.int .u8 (.var 20)) (.cons (.int .u8 (.var 21)) (.cons (.int .u8 (.var 22)) (.cons (.int .u8 (.var 23)) (.cons (.int .u8 (.var 24)) (.cons (.int .u8 (.var 25)) (.cons (.int .u8 (.var 26)) (.cons (.int .u8 (.var 27)) (.cons (.int .u8 (.var 28)) (.cons (.int .u8 (.var 29)) (.cons (.int .u8 (.var 30)) (.cons (.int .u8 (.var 31)) .nil)))))))))))))))))))))))))))))))))), (.int .u64 (.var 32)), (.int .i64 (.lit 8))], (an_ (le_ (.lit 0) (.var 32)) (le_ (.var 32) (.lit 18446744073709551615))), (.hs (.new 5) (.cons (.int .u8) .nil) (.tup (.cons (.int .u8 v0_) (.cons (.int .u8 v1_) (.cons (.int .u8 v2_) (.cons (.int .u8 v3_) (.cons (.int .u8 v4_) (.cons (.int .u8 v5_) (.cons (.int .u8 v6_) (.cons (.int .u8 v7_) (.cons (.int .u8 v8_) (.cons (.int .u8 v9_) (.cons (.int .u8 (.var 10)) (.cons (.int .u8 (.var 11)) (.cons (.int .u8 (.var 12)) (.cons (.int .u8 (.var 13)) (.cons (.int .u8 (.var 14)) (.cons (.int .u8 (.var 15)) (.cons (.int .u8 (.var 16)) (.cons (.int .u8 (.var 17)) (.cons (.int .u8 (.var 18)) (.cons (.int .u8 (.var 19)) (.cons (.int .u8 (.var 20)) (.cons (.int .u8 (.var 21)) (.cons (.int .u8 (.var 22)) (.cons (.int .u8 (.var 23)) (.cons (.int .u8 (.var 24)) (.cons (.int .u8 (.var 25)) (.cons (.int .u8 (.var 26)) (.cons (.int .u8 (.var 27)) (.cons (.int .u8 (.var 28)) (.cons (.int .u8 (.var 29)) (.cons (.int .u8 (.var 30)) (.cons (.int .u8 (.var 31)) (.cons (.int .u8 (.iapp 28 (.cons (.int .u64 (.var 32)) (.cons (.int .i64 (.lit 7)) .nil)))) (.cons (.int .u8 (.iapp 28 (.cons (.int .u64 (.var 32)) (.cons (.int .i64 (.lit 6)) .nil)))) (.cons (.int .u8 (.iapp 28 (.cons (.int .u64 (.var 32)) (.cons (.int .i64 (.lit 5)) .nil)))) (.cons (.int .u8 (.iapp 28 (.cons (.int .u64 (.var 32)) (.cons (.int .i64 (.lit 4)) .nil)))) (.cons (.int .u8 (.iapp 28 (.cons (.int .u64 (.var 32)) (.cons (.int .i64 (.lit 3)) .nil)))) (.cons (.int .u8 (.iapp 28 (.cons (.int .u64 (.var 32)) (.cons (.int .i64 (.lit 2)) .nil)))) (.cons (.int .u8 (.iapp 28 (.cons (.int .u64 (.var 32)) (.cons (.int .i64 (.lit 1)) .nil)))) (.cons (.int .u8 (.iapp 28 (.cons (.int .u64 (.var 32)) (.cons (.int .i64 (.lit 0)) .nil)))) .nil)))))))))))))))))))))))))))))))))))))))))), ⟨33, 0, 0, 0⟩, some (0, 5, (.cons (.int .u8) .nil))⟩
theorem nc32_w : walk Tryd.prog 142 ⟨[], syG, [], [], []⟩ [] (.o 5 (.cons (.int .u8) .nil)) ntc_nc32 ntc_nc32.n 3000 = some nc32_tree := by kernel_rfl
theorem nc32_h (c0 c1 c2 c3 c4 c5 c6 c7 c8 c9 c10 c11 c12 c13 c14 c15 c16 c17 c18 c19 c20 c21 c22 c23 c24 c25 c26 c27 c28 c29 c30 c31 v : Int) : Hyp_ ntc_nc32 nc32_tree (ntE [c0, c1, c2, c3, c4, c5, c6, c7, c8, c9, c10, c11, c12, c13, c14, c15, c16, c17, c18, c19, c20, c21, c22, c23, c24, c25, c26, c27, c28, c29, c30, c31, v] [] [] []) := by
 intro hc hty
 simp only [ntc_nc32, Sy.holds, ntE, denV, denI, denB, denL, I2.den, VOp.den, List.getD_cons_zero, List.getD_cons_succ, Cst.den, syso, syse, syio, sybo, B2.ofInts, B2.denI, B2.denB, if_true, Bool.false_eq_true, if_false, Nat.div_one, Nat.mul_one, Nat.add_zero] at hc
 simp only [ntc_nc32, patsTyp, patTyp, patTypL, ntE, denV, denL, List.getD_cons_zero, List.getD_cons_succ, and_true, true_and] at hty
 unfold nc32_tree
 simp only [ntc_nc32, Tree.holds, Sy.holds, ntE, denV, denI, denB, denL, I2.den, VOp.den, List.getD_cons_zero, List.getD_cons_succ, Cst.den, syso, syse, syio, sybo, nti_by, B2.ofInts, B2.denI, B2.denB, if_true, Bool.false_eq_true, if_false, Nat.div_one, Nat.mul_one, Nat.add_zero]
 have hx := wr_u64 v
 have h0 : 0 ≤ IntKind.wrap .u64 v := by omega
 first
 | (simp only [by_s0 _ h0, by_s1 _ h0, by_s2 _ h0, by_s3 _ h0]; first | done | rfl)
 | (simp only [by_s0 v hc.1, by_s1 v hc.1, by_s2 v hc.1, by_s3 v hc.1, by_s4 v hc.1, by_s5 v hc.1, by_s6 v hc.1, by_s7 v hc.1]; first | done | rfl)
 | skip
theorem ntg_nc32 : ntc_nc32.Good Tryd.prog syG (ntE [] [] [] []) := good_of_walk (Γ := ⟨[], syG, [], [], []⟩) (ρ := ntE [] [] [] []) sym nc32_w rfl (fun _ _ _ _ => ok_nil) nc32_h
def nc40_tree : Tree :=
 (.ret (.hs (.new 5) (.cons (.int .u8) .nil) (.tup (.cons (.int .u8 v0_) (.cons (.int .u8 v1_) (.cons (.int .u8 v2_) (.cons (.int .u8 v3_) (.cons (.int .u8 v4_) (.cons (.int .u8 v5_) (.cons (.int .u8 v6_) (.cons (.int .u8 v7_) (.cons (.int .u8 v8_) (.cons (.int .u8 v9_) (.cons (.int .u8 (.var 10)) (.cons (.int .u8 (.var 11)) (.cons (.int .u8 (.var 12)) (.cons (.int .u8 (.var 13)) (.cons (.int .u8 (.var 14)) (.cons (.int .u8 (.var 15)) (.cons (.int .u8 (.var 16)) (.cons (.int .u8 (.var 17)) (.cons (.int .u8 (.var 18)) (.cons (.int .u8 (.var 19)) (.cons (.int .u8 (.var 20)) (.cons (.int .u8 (.var 21)) (.cons (.int .u8 (.var 22)) (.cons (.int .u8 (.var 23)) (.cons (.int .u8 (.var 24)) (.cons (.int .u8 (.var 25)) (.cons (.int .u8 (.var 26)) (.cons (.int .u8 (.var 27)) (.cons (.int .u8 (.var 28)) (.cons (.int .u8 (.var 29)) (.cons (.int .u8 (.var 30)) (.cons (.int .u8 (.var 31)) (.cons (.int .u8 (.var 32)) (.cons (.int .u8 (.var 33)) (.cons (.int .u8 (.var 34)) (.cons (.int .u8 (.var 35)) (.cons (.int .u8 (.var 36)) (.cons (.int .u8 (.var 37)) (.cons (.int .u8 (.var 38)) (.cons (.int .u8 (.var 39)) (.cons (.int .u8 (.wrap .u8 (.i2 (.shr .u64) (.var 40) (.lit 56)))) (.cons (.int .u8 (.wrap .u8 (.i2 (.shr .u64) (.var 40) (.lit 48)))) (.cons (.int .u8 (.wrap .u8 (.i2 (.shr .u64) (.var 40) (.lit 40)))) (.cons (.int .u8 (.wrap .u8 (.i2 (.shr .u64) (.var 40) (.lit 32)))) (.cons (.int .u8 (.wrap .u8 (.i2 (.shr .u64) (.var 40) (.lit 24)))) (.cons (.int .u8 (.wrap .u8 (.i2 (.shr .u64) (.var 40) (.lit 16)))) (.cons (.int .u8 (.wrap .u8 (.i2 (.shr .u64) (.var 40) (.lit 8)))) (.cons (.int .u8 (.wrap .u8 (.i2 (.shr .u64) (.var 40) (.lit 0)))) .nil)))))))))))))))))))))))))))))))))))))))))))))))))))
abbrev ntc_nc40 : Con := ⟨116, [(.hs .no (.cons (.int .u8) .nil) (.tup (.cons (.int .u8 v0_) (.cons (.int .u8 v1_) (.cons (.int .u8 v2_) (.cons (.int .u8 v3_) (.cons (.int .u8 v4_) (.cons (.int .u8 v5_) (.cons (.int .u8 v6_) (.cons (.int .u8 v7_) (.cons (.int .u8 v8_) (.cons (.int .u8 v9_) (.cons (.int .u8 (.var 10)) (.cons (.int .u8 (.var 11)) (.cons (.int .u8 (.var 12)) (.cons (.int .u8 (.var 13)) (.cons (.int .u8 (.var 14)) (.cons (.int .u8 (.var 15)) (.cons (.int .u8 (.var 16)) (.cons (.int .u8 (.var 17)) (.cons (.int .u8 (.var 18)) (.cons (.int .u8 (.var 19)) (.cons (.int .u8 (.var 20)) (.cons (.int .u8 (.var 21)) (.cons (.int .u8 (.var 22)) (.cons (.int .u8 (.var 23)) (.cons (.int .u8 (.var 24)) (.cons (.int .u8 (.var 25)) (.cons (.int .u8 (.var 26)) (.cons (.int .u8 (.var 27)) (.cons (.int .u8 (.var 28)) (.cons (.int .u8 (.var 29)) (.cons (.int .u8 (.var 30)) (.cons (.int .u8 (.var 31)) (.cons (.int .u8 (.var 32)) (.cons (.int .u8 (.var 33)) (.cons (.int .u8 (.var 34)) (.cons (.int .u8 (.var 35)) (.cons (.int .u8 (.var 36)) (.cons (.int .u8 (.var 37)) (.cons (.int .u8 (.var 38)) (.cons (.int .u8 (.var 39)) .nil)))))))))))))))))))))))))))))))))))))))))), (.int .u64 (.var 40)), (.int .i64 (.lit 8))], (an_ (le_ (.lit 0) (.var 40)) (le_ (.var 40) (.lit 18446744073709551615))), (.hs (.new 5) (.cons (.int .u8) .nil) (.tup (.cons (.int .u8 v0_) (.cons (.int .u8 v1_) (.cons (.int .u8 v2_) (.cons (.int .u8 v3_) (.cons (.int .u8 v4_) (.cons (.int .u8 v5_) (.cons (.int .u8 v6_) (.cons (.int .u8 v7_) (.cons (.int .u8 v8_) (.cons (.int .u8 v9_) (.cons (.int .u8 (.var 10)) (.cons (.int .u8 (.var 11)) (.cons (.int .u8 (.var 12)) (.cons (.int .u8 (.var 13)) (.cons (.int .u8 (.var 14)) (.cons (.int .u8 (.var 15)) (.cons (.int .u8 (.var 16)) (.cons (.int .u8 (.var 17)) (.cons (.int .u8 (.var 18)) (.cons (.int .u8 (.var 19)) (.cons (.int .u8 (.var 20)) (.cons (.int .u8 (.var 21)) (.cons (.int .u8 (.var 22)) (.cons (.int .u8 (.var 23)) (.cons (.int .u8 (.var 24)) (.cons (.int .u8 (.var 25)) (.cons (.int .u8 (.var 26)) (.cons (.int .u8 (.var 27)) (.cons (.int .u8 (.var 28)) (.cons (.int .u8 (.var 29)) (.cons (.int .u8 (.var 30)) (.cons (.int .u8 (.var 31)) (.cons (.int .u8 (.var 32)) (.cons (.int .u8 (.var 33)) (.cons (.int .u8 (.var 34)) (.cons (.int .u8 (.var 35)) (.cons (.int .u8 (.var 36)) (.cons (.int .u8 (.var 37)) (.cons (.int .u8 (.var 38)) (.cons (.int .u8 (.var 39)) (.cons (.int .u8 (.iapp 28 (.cons (.int .u64 (.var 40)) (.cons (.int .i64 (.lit 7)) .nil)))) (.cons (.int .u8 (.iapp 28 (.cons (.int .u64 (.var 40)) (.cons (.int .i64 (.lit 6)) .nil)))) (.cons (.int .u8 (.iapp 28 (.cons (.int .u64 (.var 40)) (.cons (.int .i64 (.lit 5)) .nil)))) (.cons (.int .u8 (.iapp 28 (.cons (.int .u64 (.var 40)) (.cons (.int .i64 (.lit 4)) .nil)))) (.cons (.int .u8 (.iapp 28 (.cons (.int .u64 (.var 40)) (.cons (.int .i64 (.lit 3)) .nil)))) (.cons (.int .u8 (.iapp 28 (.cons (.int .u64 (.var 40)) (.cons (.int .i64 (.lit 2)) .nil)))) (.cons (.int .u8 (.iapp 28 (.cons (.int .u64 (.var 40)) (.cons (.int .i64 (.lit 1)) .nil)))) (.cons (.int .u8 (.iapp 28 (.cons (.int .u64 (.var 40)) (.cons (.int .i64 (.lit 0)) .nil)))) .nil)))))))))))))))))))))))))))))))))))))))))))))))))), ⟨41, 0, 0, 0⟩, some (0, 5, (.cons (.int .u8) .nil))⟩
theorem nc40_w : walk Tryd.prog 142 ⟨[], syG, [], [], []⟩ [] (.o 5 (.cons (.int .u8) .nil)) ntc_nc40 ntc_nc40.n 3000 = some nc40_tree := by kernel_rfl
theorem nc40_h (c0 c1 c2 c3 c4 c5 c6 c7 c8 c9 c10 c11 c12 c13 c14 c15 c16 c17 c18 c19 c20 c21 c22 c23 c24 c25 c26 c27 c28 c29 c30 c31 c32 c33 c34 c35 c36 c37 c38 c39 v : Int) : Hyp_ ntc_nc40 nc40_tree (ntE [c0, c1, c2, c3, c4, c5, c6, c7, c8, c9, c10, c11, c12, c13, c14, c15, c16, c17, c18, c19, c20, c21, c22, c23, c24, c25, c26, c27, c28, c29, c30, c31, c32, c33, c34, c35, c36, c37, c38, c39, v] [] [] []) := by
 intro hc hty
 simp only [ntc_nc40, Sy.holds, ntE, denV, denI, denB, denL, I2.den, VOp.den, List.getD_cons_zero, List.getD_cons_succ, Cst.den, syso, syse, syio, sybo, B2.ofInts, B2.denI, B2.denB, if_true, Bool.false_eq_true, if_false, Nat.div_one, Nat.mul_one, Nat.add_zero] at hc
 simp only [ntc_nc40, patsTyp, patTyp, patTypL, ntE, denV, denL, List.getD_cons_zero, List.getD_cons_succ, and_true, true_and] at hty
 unfold nc40_tree
 simp only [ntc_nc40, Tree.holds, Sy.holds, ntE, denV, denI, denB, denL, I2.den, VOp.den, List.getD_cons_zero, List.getD_cons_succ, Cst.den, syso, syse, syio, sybo, nti_by, B2.ofInts, B2.denI, B2.denB, if_true, Bool.false_eq_true, if_false, Nat.div_one, Nat.mul_one, Nat.add_zero]
 have hx := wr_u64 v
 have h0 : 0 ≤ IntKind.wrap .u64 v := by omega
 first
 | (simp only [by_s0 _ h0, by_s1 _ h0, by_s2 _ h0, by_s3 _ h0]; first | done | rfl)
 | (simp only [by_s0 v hc.1, by_s1 v hc.1, by_s2 v hc.1, by_s3 v hc.1, by_s4 v hc.1, by_s5 v hc.1, by_s6 v hc.1, by_s7 v hc.1]; first | done | rfl)
 | skip
theorem ntg_nc40 : ntc_nc40.Good Tryd.prog syG (ntE [] [] [] []) := good_of_walk (Γ := ⟨[], syG, [], [], []⟩) (ρ := ntE [] [] [] []) sym nc40_w rfl (fun _ _ _ _ => ok_nil) nc40_h
def encode_tree : Tree :=
 (.br (.not (eq_ (.iapp 32 (.cons (.int .u8 v0_) (.cons (.int .u8 v1_) (.cons (.int .u8 v2_) .nil)))) (.lit 0)))
 (.ret (.tup (.cons (.hs .no (.cons (.int .u8) .nil) (.tup .nil)) (.cons (.err (.iapp 32 (.cons (.int .u8 v0_) (.cons (.int .u8 v1_) (.cons (.int .u8 v2_) .nil))))) .nil))))
 (.need (an_ (le_ (.lit 0) v6_) (le_ v6_ (.lit 4294967295)))
 (.need (an_ (le_ (.lit 0) v7_) (le_ v7_ (.lit 4294967295)))
 (.need (an_ (le_ (.lit 0) (.var 12)) (le_ (.var 12) (.lit 18446744073709551615)))
 (.need (an_ (le_ (.lit 0) (.var 13)) (le_ (.var 13) (.lit 18446744073709551615)))
 (.need (an_ (le_ (.lit 0) (.var 14)) (le_ (.var 14) (.lit 18446744073709551615)))
 (.need (an_ (le_ (.lit 0) (.var 15)) (le_ (.var 15) (.lit 18446744073709551615)))
 (.ret (.tup (.cons (.hs .no (.cons (.int .u8) .nil) (.tup (.cons (.int .u8 (.i2 (.bits .or .u8) (.i2 (.bits .or .u8) (.i2 (.shl .u8) v0_ (.lit 6)) (.i2 (.shl .u8) v1_ (.lit 3))) v2_)) (.cons (.int .u8 v3_) (.cons (.int .u8 (.wrap .u8 v4_)) (.cons (.int .u8 (.wrap .u8 v5_)) (.cons (.int .u8 (.iapp 28 (.cons (.int .u64 (.wrap .u64 v6_)) (.cons (.int .i64 (.lit 3)) .nil)))) (.cons (.int .u8 (.iapp 28 (.cons (.int .u64 (.wrap .u64 v6_)) (.cons (.int .i64 (.lit 2)) .nil)))) (.cons (.int .u8 (.iapp 28 (.cons (.int .u64 (.wrap .u64 v6_)) (.cons (.int .i64 (.lit 1)) .nil)))) (.cons (.int .u8 (.iapp 28 (.cons (.int .u64 (.wrap .u64 v6_)) (.cons (.int .i64 (.lit 0)) .nil)))) (.cons (.int .u8 (.iapp 28 (.cons (.int .u64 (.wrap .u64 v7_)) (.cons (.int .i64 (.lit 3)) .nil)))) (.cons (.int .u8 (.iapp 28 (.cons (.int .u64 (.wrap .u64 v7_)) (.cons (.int .i64 (.lit 2)) .nil)))) (.cons (.int .u8 (.iapp 28 (.cons (.int .u64 (.wrap .u64 v7_)) (.cons (.int .i64 (.lit 1)) .nil)))) (.cons (.int .u8 (.iapp 28 (.cons (.int .u64 (.wrap .u64 v7_)) (.cons (.int .i64 (.lit 0)) .nil)))) (.cons (.int .u8 v8_) (.cons (.int .u8 v9_) (.cons (.int .u8 (.var 10)) (.cons (.int .u8 (.var 11)) (.cons (.int .u8 (.iapp 28 (.cons (.int .u64 (.var 12)) (.cons (.int .i64 (.lit 7)) .nil)))) (.cons (.int .u8 (.iapp 28 (.cons (.int .u64 (.var 12)) (.cons (.int .i64 (.lit 6)) .nil)))) (.cons (.int .u8 (.iapp 28 (.cons (.int .u64 (.var 12)) (.cons (.int .i64 (.lit 5)) .nil)))) (.cons (.int .u8 (.iapp 28 (.cons (.int .u64 (.var 12)) (.cons (.int .i64 (.lit 4)) .nil)))) (.cons (.int .u8 (.iapp 28 (.cons (.int .u64 (.var 12)) (.cons (.int .i64 (.lit 3)) .nil)))) (.cons (.int .u8 (.iapp 28 (.cons (.int .u64 (.var 12)) (.cons (.int .i64 (.lit 2)) .nil)))) (.cons (.int .u8 (.iapp 28 (.cons (.int .u64 (.var 12)) (.cons (.int .i64 (.lit 1)) .nil)))) (.cons (.int .u8 (.iapp 28 (.cons (.int .u64 (.var 12)) (.cons (.int .i64 (.lit 0)) .nil)))) (.cons (.int .u8 (.iapp 28 (.cons (.int .u64 (.var 13)) (.cons (.int .i64 (.lit 7)) .nil)))) (.cons (.int .u8 (.iapp 28 (.cons (.int .u64 (.var 13)) (.cons (.int .i64 (.lit 6)) .nil)))) (.cons (.int .u8 (.iapp 28 (.cons (.int .u64 (.var 13)) (.cons (.int .i64 (.lit 5)) .nil)))) (.cons (.int .u8 (.iapp 28 (.cons (.int .u64 (.var 13)) (.cons (.int .i64 (.lit 4)) .nil)))) (.cons (.int .u8 (.iapp 28 (.cons (.int .u64 (.var 13)) (.cons (.int .i64 (.lit 3)) .nil)))) (.cons (.int .u8 (.iapp 28 (.cons (.int .u64 (.var 13)) (.cons (.int .i64 (.lit 2)) .nil)))) (.cons (.int .u8 (.iapp 28 (.cons (.int .u64 (.var 13)) (.cons (.int .i64 (.lit 1)) .nil)))) (.cons (.int .u8 (.iapp 28 (.cons (.int .u64 (.var 13)) (.cons (.int .i64 (.lit 0)) .nil)))) (.cons (.int .u8 (.iapp 28 (.cons (.int .u64 (.var 14)) (.cons (.int .i64 (.lit 7)) .nil)))) (.cons (.int .u8 (.iapp 28 (.cons (.int .u64 (.var 14)) (.cons (.int .i64 (.lit 6)) .nil)))) (.cons (.int .u8 (.iapp 28 (.cons (.int .u64 (.var 14)) (.cons (.int .i64 (.lit 5)) .nil)))) (.cons (.int .u8 (.iapp 28 (.cons (.int .u64 (.var 14)) (.cons (.int .i64 (.lit 4)) .nil)))) (.cons (.int .u8 (.iapp 28 (.cons (.int .u64 (.var 14)) (.cons (.int .i64 (.lit 3)) .nil)))) (.cons (.int .u8 (.iapp 28 (.cons (.int .u64 (.var 14)) (.cons (.int .i64 (.lit 2)) .nil)))) (.cons (.int .u8 (.iapp 28 (.cons (.int .u64 (.var 14)) (.cons (.int .i64 (.lit 1)) .nil)))) (.cons (.int .u8 (.iapp 28 (.cons (.int .u64 (.var 14)) (.cons (.int .i64 (.lit 0)) .nil)))) (.cons (.int .u8 (.iapp 28 (.cons (.int .u64 (.var 15)) (.cons (.int .i64 (.lit 7)) .nil)))) (.cons (.int .u8 (.iapp 28 (.cons (.int .u64 (.var 15)) (.cons (.int .i64 (.lit 6)) .nil)))) (.cons (.int .u8 (.iapp 28 (.cons (.int .u64 (.var 15)) (.cons (.int .i64 (.lit 5)) .nil)))) (.cons (.int .u8 (.iapp 28 (.cons (.int .u64 (.var 15)) (.cons (.int .i64 (.lit 4)) .nil)))) (.cons (.int .u8 (.iapp 28 (.cons (.int .u64 (.var 15)) (.cons (.int .i64 (.lit 3)) .nil)))) (.cons (.int .u8 (.iapp 28 (.cons (.int .u64 (.var 15)) (.cons (.int .i64 (.lit 2)) .nil)))) (.cons (.int .u8 (.iapp 28 (.cons (.int .u64 (.var 15)) (.cons (.int .i64 (.lit 1)) .nil)))) (.cons (.int .u8 (.iapp 28 (.cons (.int .u64 (.var 15)) (.cons (.int .i64 (.lit 0)) .nil)))) .nil)))))))))))))))))))))))))))))))))))))))))))))))))) (.cons (.cst .nilI) .nil)))))))))))
abbrev ntc_encode : Con := ⟨48, [xtformsk1_], (an_ (le_ (.lit 0) v0_) (an_ (le_ v0_ (.lit 3)) (an_ (le_ (.lit 1) v1_) (an_ (le_ v1_ (.lit 4)) (an_ (le_ (.lit 1) v2_) (an_ (le_ v2_ (.lit 5)) (an_ (an_ (le_ (.lit 0) v6_) (le_ v6_ (.lit 4294967295))) (an_ (an_ (le_ (.lit 0) v7_) (le_ v7_ (.lit 4294967295))) (an_ (an_ (le_ (.lit 0) (.var 12)) (le_ (.var 12) (.lit 18446744073709551615))) (an_ (an_ (le_ (.lit 0) (.var 13)) (le_ (.var 13) (.lit 18446744073709551615))) (an_ (an_ (le_ (.lit 0) (.var 14)) (le_ (.var 14) (.lit 18446744073709551615))) (an_ (le_ (.lit 0) (.var 15)) (le_ (.var 15) (.lit 18446744073709551615)))))))))))))), (.tup (.cons (.hs .no (.cons (.int .u8) .nil) (.tup (.cons (.int .u8 (.iapp 29 (.cons (.int .u8 v0_) (.cons (.int .u8 v1_) (.cons (.int .u8 v2_) .nil))))) (.cons (.int .u8 v3_) (.cons (.int .u8 (.wrap .u8 v4_)) (.cons (.int .u8 (.wrap .u8 v5_)) (.cons (.int .u8 (.iapp 28 (.cons (.int .u64 (.wrap .u64 v6_)) (.cons (.int .i64 (.lit 3)) .nil)))) (.cons (.int .u8 (.iapp 28 (.cons (.int .u64 (.wrap .u64 v6_)) (.cons (.int .i64 (.lit 2)) .nil)))) (.cons (.int .u8 (.iapp 28 (.cons (.int .u64 (.wrap .u64 v6_)) (.cons (.int .i64 (.lit 1)) .nil)))) (.cons (.int .u8 (.iapp 28 (.cons (.int .u64 (.wrap .u64 v6_)) (.cons (.int .i64 (.lit 0)) .nil)))) (.cons (.int .u8 (.iapp 28 (.cons (.int .u64 (.wrap .u64 v7_)) (.cons (.int .i64 (.lit 3)) .nil)))) (.cons (.int .u8 (.iapp 28 (.cons (.int .u64 (.wrap .u64 v7_)) (.cons (.int .i64 (.lit 2)) .nil)))) (.cons (.int .u8 (.iapp 28 (.cons (.int .u64 (.wrap .u64 v7_)) (.cons (.int .i64 (.lit 1)) .nil)))) (.cons (.int .u8 (.iapp 28 (.cons (.int .u64 (.wrap .u64 v7_)) (.cons (.int .i64 (.lit 0)) .nil)))) (.cons (.int .u8 v8_) (.cons (.int .u8 v9_) (.cons (.int .u8 (.var 10)) (.cons (.int .u8 (.var 11)) (.cons (.int .u8 (.iapp 28 (.cons (.int .u64 (.var 12)) (.cons (.int .i64 (.lit 7)) .nil)))) (.cons (.int .u8 (.iapp 28 (.cons (.int .u64 (.var 12)) (.cons (.int .i64 (.lit 6)) .nil)))) (.cons (.int .u8 (.iapp 28 (.cons (.int .u64 (.var 12)) (.cons (.int .i64 (.lit 5)) .nil)))) (.cons (.int .u8 (.iapp 28 (.cons (.int .u64 (.var 12)) (.cons (.int .i64 (.lit 4)) .nil)))) (.cons (.int .u8 (.iapp 28 (.cons (.int .u64 (.var 12)) (.cons (.int .i64 (.lit 3)) .nil)))) (.cons (.int .u8 (.iapp 28 (.cons (.int .u64 (.var 12)) (.cons (.int .i64 (.lit 2)) .nil)))) (.cons (.int .u8 (.iapp 28 (.cons (.int .u64 (.var 12)) (.cons (.int .i64 (.lit 1)) .nil)))) (.cons (.int .u8 (.iapp 28 (.cons (.int .u64 (.var 12)) (.cons (.int .i64 (.lit 0)) .nil)))) (.cons (.int .u8 (.iapp 28 (.cons (.int .u64 (.var 13)) (.cons (.int .i64 (.lit 7)) .nil)))) (.cons (.int .u8 (.iapp 28 (.cons (.int .u64 (.var 13)) (.cons (.int .i64 (.lit 6)) .nil)))) (.cons (.int .u8 (.iapp 28 (.cons (.int .u64 (.var 13)) (.cons (.int .i64 (.lit 5)) .nil)))) (.cons (.int .u8 (.iapp 28 (.cons (.int .u64 (.var 13)) (.cons (.int .i64 (.lit 4)) .nil)))) (.cons (.int .u8 (.iapp 28 (.cons (.int .u64 (.var 13)) (.cons (.int .i64 (.lit 3)) .nil)))) (.cons (.int .u8 (.iapp 28 (.cons (.int .u64 (.var 13)) (.cons (.int .i64 (.lit 2)) .nil)))) (.cons (.int .u8 (.iapp 28 (.cons (.int .u64 (.var 13)) (.cons (.int .i64 (.lit 1)) .nil)))) (.cons (.int .u8 (.iapp 28 (.cons (.int .u64 (.var 13)) (.cons (.int .i64 (.lit 0)) .nil)))) (.cons (.int .u8 (.iapp 28 (.cons (.int .u64 (.var 14)) (.cons (.int .i64 (.lit 7)) .nil)))) (.cons (.int .u8 (.iapp 28 (.cons (.int .u64 (.var 14)) (.cons (.int .i64 (.lit 6)) .nil)))) (.cons (.int .u8 (.iapp 28 (.cons (.int .u64 (.var 14)) (.cons (.int .i64 (.lit 5)) .nil)))) (.cons (.int .u8 (.iapp 28 (.cons (.int .u64 (.var 14)) (.cons (.int .i64 (.lit 4)) .nil)))) (.cons (.int .u8 (.iapp 28 (.cons (.int .u64 (.var 14)) (.cons (.int .i64 (.lit 3)) .nil)))) (.cons (.int .u8 (.iapp 28 (.cons (.int .u64 (.var 14)) (.cons (.int .i64 (.lit 2)) .nil)))) (.cons (.int .u8 (.iapp 28 (.cons (.int .u64 (.var 14)) (.cons (.int .i64 (.lit 1)) .nil)))) (.cons (.int .u8 (.iapp 28 (.cons (.int .u64 (.var 14)) (.cons (.int .i64 (.lit 0)) .nil)))) (.cons (.int .u8 (.iapp 28 (.cons (.int .u64 (.var 15)) (.cons (.int .i64 (.lit 7)) .nil)))) (.cons (.int .u8 (.iapp 28 (.cons (.int .u64 (.var 15)) (.cons (.int .i64 (.lit 6)) .nil)))) (.cons (.int .u8 (.iapp 28 (.cons (.int .u64 (.var 15)) (.cons (.int .i64 (.lit 5)) .nil)))) (.cons (.int .u8 (.iapp 28 (.cons (.int .u64 (.var 15)) (.cons (.int .i64 (.lit 4)) .nil)))) (.cons (.int .u8 (.iapp 28 (.cons (.int .u64 (.var 15)) (.cons (.int .i64 (.lit 3)) .nil)))) (.cons (.int .u8 (.iapp 28 (.cons (.int .u64 (.var 15)) (.cons (.int .i64 (.lit 2)) .nil)))) (.cons (.int .u8 (.iapp 28 (.cons (.int .u64 (.var 15)) (.cons (.int .i64 (.lit 1)) .nil)))) (.cons (.int .u8 (.iapp 28 (.cons (.int .u64 (.var 15)) (.cons (.int .i64 (.lit 0)) .nil)))) .nil)))))))))))))))))))))))))))))))))))))))))))))))))) (.cons (.err (.lit 0)) .nil))), ⟨16, 0, 0, 0⟩, none⟩
theorem encode_w : walk Tryd.prog 142 ⟨[ntc_check, ntc_nb4, ntc_nb8, ntc_nc16, ntc_nc24, ntc_nc32, ntc_nc40], syG, [], [], []⟩ [] (.tup (.cons (.s (.cons (.int .u8) .nil)) (.cons .v .nil))) ntc_encode ntc_encode.n 3000 = some encode_tree := by kernel_rfl
theorem encode_h (le ve mo su po pr dl sp n0 n1 n2 n3 se ak ca sn : Int) : Hyp_ ntc_encode encode_tree (ntE [le, ve, mo, su, po, pr, dl, sp, n0, n1, n2, n3, se, ak, ca, sn] [] [] []) := by
 intro hc hty
 simp only [ntc_encode, Sy.holds, ntE, denV, denI, denB, denL, I2.den, VOp.den, List.getD_cons_zero, List.getD_cons_succ, Cst.den, syso, syse, syio, sybo, B2.ofInts, B2.denI, B2.denB, if_true, Bool.false_eq_true, if_false, Nat.div_one, Nat.mul_one, Nat.add_zero] at hc
 simp only [ntc_encode, patsTyp, patTyp, patTypL, ntE, denV, denL, List.getD_cons_zero, List.getD_cons_succ, and_true, true_and] at hty
 unfold encode_tree
 simp only [ntc_encode, Tree.holds, Sy.holds, ntE, denV, denI, denB, denL, I2.den, VOp.den, List.getD_cons_zero, List.getD_cons_succ, Cst.den, syso, syse, syio, sybo, nti_by, nti_fb, nti_ck, B2.ofInts, B2.denI, B2.denB, if_true, Bool.false_eq_true, if_false, Nat.div_one, Nat.mul_one, Nat.add_zero]
 have hk : ckE le ve mo = 0 := by (have := ck_spec le ve mo; omega)
 have hf := fb_or (l := le) (v := ve) (m := mo) (by omega) (by omega) (by omega) (by omega) (by omega) (by omega)
 simp only [hf]
 refine ⟨fun h0 => ?_, fun h0 => ?_⟩
 ·
  first
  | exact True.intro
  | rfl
  | (exfalso; omega)
  | skip
 refine ⟨?_, fun h1 => ?_⟩
 refine ?a0; rotate_left
 refine ⟨?_, fun h2 => ?_⟩
 refine ?a1; rotate_left
 refine ⟨?_, fun h3 => ?_⟩
 refine ?a2; rotate_left
 refine ⟨?_, fun h4 => ?_⟩
 refine ?a3; rotate_left
 refine ⟨?_, fun h5 => ?_⟩
 refine ?a4; rotate_left
 refine ⟨?_, fun h6 => ?_⟩
 refine ?a5; rotate_left
 ·
  first
  | exact True.intro
  | rfl
  | (exfalso; omega)
  | skip
 case a0 | a1 | a2 | a3 | a4 | a5 =>
  first
  | exact True.intro
  | omega
  | skip
theorem ntg_encode : ntc_encode.Good Tryd.prog syG (ntE [] [] [] []) := good_of_walk (Γ := ⟨[ntc_check, ntc_nb4, ntc_nb8, ntc_nc16, ntc_nc24, ntc_nc32, ntc_nc40], syG, [], [], []⟩) (ρ := ntE [] [] [] []) sym encode_w rfl (fun _ _ _ _ => (ok_cons (Con.Good.env ntg_check _ _ _ _) (ok_cons (Con.Good.env ntg_nb4 _ _ _ _) (ok_cons (Con.Good.env ntg_nb8 _ _ _ _) (ok_cons (Con.Good.env ntg_nc16 _ _ _ _) (ok_cons (Con.Good.env ntg_nc24 _ _ _ _) (ok_cons (Con.Good.env ntg_nc32 _ _ _ _) (ok_cons (Con.Good.env ntg_nc40 _ _ _ _) ok_nil)))))))) encode_h
end Go.Proofs.YtgondiedehjkhaaDoor
