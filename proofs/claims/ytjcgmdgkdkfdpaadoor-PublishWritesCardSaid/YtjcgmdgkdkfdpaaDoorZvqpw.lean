/-
  Layer 20 by the second engine: steps, wholes, the law.
-/
import Derived.Test.YtjcgmdgkdkfdpaaDoorSycqpw
import Derived.Test.YtjcgmdgkdkfdpaaDoorZuqpw
import Derived.Test.YtjcgmdgkdkfdpaaDoorE00qpw
import Derived.Test.YtjcgmdgkdkfdpaaDoorNumqpw
namespace Go.Proofs.YtjcgmdgkdkfdpaaDoor
open Go.RowKit Go.Extern.Stop Go.Stop Go.Extern Go.Proofs.YtjcgmdgkdkfdpaaDoor.Sy
set_option linter.unusedVariables false
set_option linter.unusedSimpArgs false
def bgE (l : List Value) (s : Int) : Int := if pgB l = false then 1 else if s % 2 = 1 then 19 else if s = 18446744073709551614 then 2 else 0
def bgW (l : List Value) (s : Int) (k : Nat) : Int := if bgE l s = 0 then wdK l (s + 2) k else 0
theorem bg_n {l : List Value} {s : Int} (h : bgE l s ≠ 0) (k : Nat) : bgW l s k = 0 := by unfold bgW; rw [if_neg h]
theorem bg_e {l : List Value} {s n : Int} (h : bgE l s = n) (hn : n ≠ 0) (k : Nat) : bgW l s k = 0 := bg_n (by rw [h]; exact hn) k
theorem bg_y {l : List Value} {s : Int} (h : bgE l s = 0) (k : Nat) : bgW l s k = wdK l (s + 2) k := by unfold bgW; rw [if_pos h]
theorem bg_spec (l : List Value) (s : Int) : (pgB l = false ∧ bgE l s = 1) ∨ (pgB l = true ∧ ((s % 2 = 1 ∧ bgE l s = 19) ∨ (s % 2 ≠ 1 ∧ s = 18446744073709551614 ∧ bgE l s = 2) ∨ (s % 2 ≠ 1 ∧ s ≠ 18446744073709551614 ∧ bgE l s = 0))) := by
  unfold bgE
  cases hp : pgB l
  · exact .inl ⟨rfl, by rw [if_pos rfl]⟩
  · right
    refine ⟨rfl, ?_⟩
    rw [if_neg (by decide)]
    by_cases h1 : s % 2 = 1
    · left; exact ⟨h1, by rw [if_pos h1]⟩
    · right
      rw [if_neg h1]
      by_cases h2 : s = 18446744073709551614
      · left; exact ⟨h1, h2, by rw [if_pos h2]⟩
      · right; exact ⟨h1, h2, by rw [if_neg h2]⟩
def dec6 (x : Int) : Int := if x = 0 then 18446744073709551615 else x - 1
def mdI (x : Int) : Int := if x % 2 = 1 then (if x = 18446744073709551615 then 0 else x + 1) else x
def stpI (n : Int) : Int := if n < 0 ∨ 16 < n then 17 else n + 1
def swI (a b : List Value) (n : Int) (k : Nat) : Int := if n = 0 ∧ k = 0 then dec6 (ci b 0) else if n = 16 ∧ k = 0 then ci b 0 else if 0 < n ∧ n < 16 ∧ n = k then ci b k else ci a k
theorem sw_out (a b : List Value) {n : Int} (h : n < 0 ∨ 16 < n) (k : Nat) : swI a b n k = ci a k := by
  unfold swI
  rw [if_neg (by omega), if_neg (by omega), if_neg (by omega)]
theorem dec_w {x : Int} (h0 : 0 ≤ x) (h1 : x ≤ 18446744073709551615) : IntKind.wrap .u64 (x - 1) = dec6 x := by
  rw [wrap_u64]; unfold dec6; split <;> omega
theorem bg_or (l : List Value) (s : Int) (hl : pgL l = if pgB l = true then 0 else 1) : (pgB l = false ∧ pgL l = 1 ∧ bgE l s = 1) ∨ (pgB l = true ∧ pgL l = 0 ∧ ((s % 2 = 1 ∧ bgE l s = 19) ∨ (s % 2 ≠ 1 ∧ s = 18446744073709551614 ∧ bgE l s = 2) ∨ (s % 2 ≠ 1 ∧ s ≠ 18446744073709551614 ∧ bgE l s = 0))) := by
  rcases bg_spec l s with ⟨h1, h2⟩ | ⟨h1, h2⟩
  · rw [h1] at hl
    exact .inl ⟨h1, hl, h2⟩
  · rw [h1] at hl
    exact .inr ⟨h1, hl, h2⟩
theorem pgL_if (l : List Value) : pgL l = if pgB l = true then 0 else 1 := by
  unfold pgL pgE pgB
  split
  · rename_i h; rw [if_pos (decide_eq_true h)]
  · rename_i h; rw [if_neg (fun hx => h (of_decide_eq_true hx))]
theorem bg_rng (l : List Value) {s : Int} (h0 : 0 ≤ s) (h1 : s ≤ 18446744073709551615) : 0 ≤ bgW l s 0 ∧ bgW l s 0 ≤ 18446744073709551615 := by
  by_cases h : bgE l s = 0
  · rw [bg_y h]
    have e : wdK l (s + 2) 0 = s + 2 := rfl
    rw [e]
    have := bg_spec l s
    omega
  · rw [bg_n h]; omega
theorem md_y {x : Int} (h0 : 0 ≤ x) (h1 : x ≤ 18446744073709551615) (h : x % 2 = 1) : IntKind.wrap .u64 (x + 1) = mdI x := by
  rw [wrap_u64]; unfold mdI; rw [if_pos h]; split <;> omega
theorem md_n {x : Int} (h : x % 2 ≠ 1) : mdI x = x := by unfold mdI; rw [if_neg h]
theorem tm2 {x : Int} (h : 0 ≤ x) : x.tmod 2 = x % 2 := Int.tmod_eq_emod_of_nonneg h
theorem num20_any (n : Int) (w : World) (hg : w.cell? ⟨0, 0, none⟩ = some asHandle) : Calls Tryd.prog 45 #[errVal 186 n] w fun e w' => e = .returned (.int .i64 n) ∧ Below w.heap.size w w' := by
  unfold errVal
  split
  · rename_i h; subst h; exact num20_nil _
  · exact num20_err _ _ hg
noncomputable def zvI : Nat → List Value → Int
  | 27, [l, .int _ s] => bgE (rows l) s
  | 28, [l, .int _ s, .int _ k] => bgW (rows l) s k.toNat
  | 29, [a, b, .int _ n, .int _ k] => swI (rows a) (rows b) n k.toNat
  | 30, [.int _ n] => stpI n
  | 31, [.int _ n] => dec6 n
  | 32, [.int _ n] => mdI n
  | i, l => zuI i l
noncomputable def zvB : Nat → List Value → Bool
  | i, l => zuB i l
noncomputable def zvV : Nat → List Value → Value
  | i, l => zuV i l
noncomputable abbrev zvE (iv : List Int) (bv : List Bool) (vv : List Value) (sv : List ByteArray) : Env := { iv := iv, bv := bv, vv := vv, sv := sv, fi := zvI, fb := zvB, fv := zvV, et := 186 }
set_option maxHeartbeats 8000000 in
theorem zvup : Agree 27 6 12 (zuE [] [] [] []) (zvE [] [] [] []) := ⟨rfl, (by
    intro f hf
    funext l
    show zvI f l = zuI f l
    unfold zvI
    split <;> first | rfl | omega), (by
    intro f hf
    funext l
    show zvB f l = zuB f l
    unfold zvB
    split <;> first | rfl | omega), (by
    intro f hf
    funext l
    show zvV f l = zuV f l
    unfold zvV
    split <;> first | rfl | omega)⟩
theorem zvi_pge (l : Value) : zvI 24 [l] = pgL (rows l) := rfl
theorem zvi_lw (l : Value) (k1 : IntKind) (q : Int) (k2 : IntKind) (k : Int) : zvI 26 [l, .int k1 q, .int k2 k] = wdK (rows l) q k.toNat := rfl
theorem zvi_bge (l : Value) (k1 : IntKind) (s : Int) : zvI 27 [l, .int k1 s] = bgE (rows l) s := rfl
theorem zvi_bgw (l : Value) (k1 : IntKind) (s : Int) (k2 : IntKind) (k : Int) : zvI 28 [l, .int k1 s, .int k2 k] = bgW (rows l) s k.toNat := rfl
theorem zvi_md (k1 : IntKind) (n : Int) : zvI 32 [.int k1 n] = mdI n := rfl
theorem zvb_pm (l : Value) : zvB 5 [l] = pgB (rows l) := rfl
def begin_x0 : Tm := (.tup (.cons (.int .i64 (.var 16)) (.cons (.int .i64 (.var 17)) (.cons (.int .i64 (.var 18)) (.cons (.int .i64 (.var 19)) (.cons (.int .u32 (.var 20)) (.cons (.int .i64 (.var 21)) (.cons (.int .u32 (.var 22)) (.cons (.int .i64 (.var 23)) (.cons (.int .i64 (.var 24)) (.cons (.int .i64 (.var 25)) .nil)))))))))))
def begin_x1 : Tm := (.agg (.cons (.int .u64 (.lit 0)) (.cons (.int .u64 (.lit 0)) (.cons (.int .u64 (.lit 0)) (.cons (.int .u64 (.lit 0)) (.cons (.int .u64 (.lit 0)) (.cons (.int .u64 (.lit 0)) (.cons (.int .u64 (.lit 0)) (.cons (.int .u64 (.lit 0)) (.cons (.int .u64 (.lit 0)) (.cons (.int .u64 (.lit 0)) (.cons (.int .u64 (.lit 0)) (.cons (.int .u64 (.lit 0)) (.cons (.int .u64 (.lit 0)) (.cons (.int .u64 (.lit 0)) (.cons (.int .u64 (.lit 0)) (.cons (.int .u64 (.lit 0)) (.cons (.int .i64 (.lit 0)) .nil))))))))))))))))))
def begin_tree : Tree :=
 (.need (an_ (an_ (le_ lm_ (.var 16)) (le_ (.var 16) lM_)) (an_ (an_ (le_ lm_ (.var 17)) (le_ (.var 17) lM_)) (an_ (an_ (le_ lm_ (.var 18)) (le_ (.var 18) lM_)) (an_ (an_ (le_ lm_ (.var 19)) (le_ (.var 19) lM_)) (an_ (an_ (le_ (.lit 0) (.var 20)) (le_ (.var 20) (.lit 4294967295))) (an_ (an_ (le_ lm_ (.var 21)) (le_ (.var 21) lM_)) (an_ (an_ (le_ (.lit 0) (.var 22)) (le_ (.var 22) (.lit 4294967295))) (an_ (an_ (le_ lm_ (.var 23)) (le_ (.var 23) lM_)) (an_ (an_ (le_ lm_ (.var 24)) (le_ (.var 24) lM_)) (an_ (le_ lm_ (.var 25)) (le_ (.var 25) lM_)))))))))))
 (.br (.not (eq_ (.iapp 24 (.cons begin_x0 .nil)) (.lit 0)))
 (.ret (.tup (.cons begin_x1 (.cons (.err (.iapp 24 (.cons begin_x0 .nil))) .nil))))
 (.br (eq_ (.i2 .rem v0_ (.lit 2)) (.lit 1))
 (.ret (.tup (.cons begin_x1 (.cons (.iface 186 (.int .i64 (.lit 19))) .nil))))
 (.br (eq_ v0_ (.lit 18446744073709551614))
 (.ret (.tup (.cons begin_x1 (.cons (.iface 186 (.int .i64 (.lit 2))) .nil))))
 (.need (an_ (an_ (an_ (le_ lm_ (.var 16)) (le_ (.var 16) lM_)) (an_ (an_ (le_ lm_ (.var 17)) (le_ (.var 17) lM_)) (an_ (an_ (le_ lm_ (.var 18)) (le_ (.var 18) lM_)) (an_ (an_ (le_ lm_ (.var 19)) (le_ (.var 19) lM_)) (an_ (an_ (le_ (.lit 0) (.var 20)) (le_ (.var 20) (.lit 4294967295))) (an_ (an_ (le_ lm_ (.var 21)) (le_ (.var 21) lM_)) (an_ (an_ (le_ (.lit 0) (.var 22)) (le_ (.var 22) (.lit 4294967295))) (an_ (an_ (le_ lm_ (.var 23)) (le_ (.var 23) lM_)) (an_ (an_ (le_ lm_ (.var 24)) (le_ (.var 24) lM_)) (an_ (le_ lm_ (.var 25)) (le_ (.var 25) lM_))))))))))) (an_ (.bapp 5 (.cons begin_x0 .nil)) (an_ (le_ (.lit 0) (.wrap .u64 (ad_ v0_ (.lit 2)))) (le_ (.wrap .u64 (ad_ v0_ (.lit 2))) (.lit 18446744073709551615)))))
 (.ret (.tup (.cons (.agg (.cons (.int .u64 (.iapp 26 (.cons begin_x0 (.cons (.int .u64 (.wrap .u64 (ad_ v0_ (.lit 2)))) (.cons (.int .i64 (.lit 0)) .nil))))) (.cons (.int .u64 (.iapp 26 (.cons begin_x0 (.cons (.int .u64 (.wrap .u64 (ad_ v0_ (.lit 2)))) (.cons (.int .i64 (.lit 1)) .nil))))) (.cons (.int .u64 (.iapp 26 (.cons begin_x0 (.cons (.int .u64 (.wrap .u64 (ad_ v0_ (.lit 2)))) (.cons (.int .i64 (.lit 2)) .nil))))) (.cons (.int .u64 (.iapp 26 (.cons begin_x0 (.cons (.int .u64 (.wrap .u64 (ad_ v0_ (.lit 2)))) (.cons (.int .i64 (.lit 3)) .nil))))) (.cons (.int .u64 (.iapp 26 (.cons begin_x0 (.cons (.int .u64 (.wrap .u64 (ad_ v0_ (.lit 2)))) (.cons (.int .i64 (.lit 4)) .nil))))) (.cons (.int .u64 (.iapp 26 (.cons begin_x0 (.cons (.int .u64 (.wrap .u64 (ad_ v0_ (.lit 2)))) (.cons (.int .i64 (.lit 5)) .nil))))) (.cons (.int .u64 (.iapp 26 (.cons begin_x0 (.cons (.int .u64 (.wrap .u64 (ad_ v0_ (.lit 2)))) (.cons (.int .i64 (.lit 6)) .nil))))) (.cons (.int .u64 (.iapp 26 (.cons begin_x0 (.cons (.int .u64 (.wrap .u64 (ad_ v0_ (.lit 2)))) (.cons (.int .i64 (.lit 7)) .nil))))) (.cons (.int .u64 (.iapp 26 (.cons begin_x0 (.cons (.int .u64 (.wrap .u64 (ad_ v0_ (.lit 2)))) (.cons (.int .i64 (.lit 8)) .nil))))) (.cons (.int .u64 (.iapp 26 (.cons begin_x0 (.cons (.int .u64 (.wrap .u64 (ad_ v0_ (.lit 2)))) (.cons (.int .i64 (.lit 9)) .nil))))) (.cons (.int .u64 (.iapp 26 (.cons begin_x0 (.cons (.int .u64 (.wrap .u64 (ad_ v0_ (.lit 2)))) (.cons (.int .i64 (.lit 10)) .nil))))) (.cons (.int .u64 (.iapp 26 (.cons begin_x0 (.cons (.int .u64 (.wrap .u64 (ad_ v0_ (.lit 2)))) (.cons (.int .i64 (.lit 11)) .nil))))) (.cons (.int .u64 (.iapp 26 (.cons begin_x0 (.cons (.int .u64 (.wrap .u64 (ad_ v0_ (.lit 2)))) (.cons (.int .i64 (.lit 12)) .nil))))) (.cons (.int .u64 (.iapp 26 (.cons begin_x0 (.cons (.int .u64 (.wrap .u64 (ad_ v0_ (.lit 2)))) (.cons (.int .i64 (.lit 13)) .nil))))) (.cons (.int .u64 (.iapp 26 (.cons begin_x0 (.cons (.int .u64 (.wrap .u64 (ad_ v0_ (.lit 2)))) (.cons (.int .i64 (.lit 14)) .nil))))) (.cons (.int .u64 (.iapp 26 (.cons begin_x0 (.cons (.int .u64 (.wrap .u64 (ad_ v0_ (.lit 2)))) (.cons (.int .i64 (.lit 15)) .nil))))) (.cons (.int .i64 (.lit 0)) .nil)))))))))))))))))) (.cons (.cst .nilI) .nil)))))))))
abbrev zvc_begin : Con := ⟨39, [(.agg (.cons (.int .u64 v0_) (.cons (.int .u64 v1_) (.cons (.int .u64 v2_) (.cons (.int .u64 v3_) (.cons (.int .u64 v4_) (.cons (.int .u64 v5_) (.cons (.int .u64 v6_) (.cons (.int .u64 v7_) (.cons (.int .u64 v8_) (.cons (.int .u64 v9_) (.cons (.int .u64 (.var 10)) (.cons (.int .u64 (.var 11)) (.cons (.int .u64 (.var 12)) (.cons (.int .u64 (.var 13)) (.cons (.int .u64 (.var 14)) (.cons (.int .u64 (.var 15)) .nil))))))))))))))))), (.agg (.cons (.int .i64 (.var 16)) (.cons (.int .i64 (.var 17)) (.cons (.int .i64 (.var 18)) (.cons (.int .i64 (.var 19)) (.cons (.int .u32 (.var 20)) (.cons (.int .i64 (.var 21)) (.cons (.int .u32 (.var 22)) (.cons (.int .i64 (.var 23)) (.cons (.int .i64 (.var 24)) (.cons (.int .i64 (.var 25)) .nil)))))))))))], (an_ (an_ (le_ (.lit 0) v0_) (le_ v0_ (.lit 18446744073709551615))) (an_ (an_ (le_ lm_ (.var 16)) (le_ (.var 16) lM_)) (an_ (an_ (le_ lm_ (.var 17)) (le_ (.var 17) lM_)) (an_ (an_ (le_ lm_ (.var 18)) (le_ (.var 18) lM_)) (an_ (an_ (le_ lm_ (.var 19)) (le_ (.var 19) lM_)) (an_ (an_ (le_ (.lit 0) (.var 20)) (le_ (.var 20) (.lit 4294967295))) (an_ (an_ (le_ lm_ (.var 21)) (le_ (.var 21) lM_)) (an_ (an_ (le_ (.lit 0) (.var 22)) (le_ (.var 22) (.lit 4294967295))) (an_ (an_ (le_ lm_ (.var 23)) (le_ (.var 23) lM_)) (an_ (an_ (le_ lm_ (.var 24)) (le_ (.var 24) lM_)) (an_ (le_ lm_ (.var 25)) (le_ (.var 25) lM_)))))))))))), (.tup (.cons (.agg (.cons (.int .u64 (.iapp 28 (.cons (.tup (.cons (.int .i64 (.var 16)) (.cons (.int .i64 (.var 17)) (.cons (.int .i64 (.var 18)) (.cons (.int .i64 (.var 19)) (.cons (.int .u32 (.var 20)) (.cons (.int .i64 (.var 21)) (.cons (.int .u32 (.var 22)) (.cons (.int .i64 (.var 23)) (.cons (.int .i64 (.var 24)) (.cons (.int .i64 (.var 25)) .nil))))))))))) (.cons (.int .u64 v0_) (.cons (.int .i64 (.lit 0)) .nil))))) (.cons (.int .u64 (.iapp 28 (.cons (.tup (.cons (.int .i64 (.var 16)) (.cons (.int .i64 (.var 17)) (.cons (.int .i64 (.var 18)) (.cons (.int .i64 (.var 19)) (.cons (.int .u32 (.var 20)) (.cons (.int .i64 (.var 21)) (.cons (.int .u32 (.var 22)) (.cons (.int .i64 (.var 23)) (.cons (.int .i64 (.var 24)) (.cons (.int .i64 (.var 25)) .nil))))))))))) (.cons (.int .u64 v0_) (.cons (.int .i64 (.lit 1)) .nil))))) (.cons (.int .u64 (.iapp 28 (.cons (.tup (.cons (.int .i64 (.var 16)) (.cons (.int .i64 (.var 17)) (.cons (.int .i64 (.var 18)) (.cons (.int .i64 (.var 19)) (.cons (.int .u32 (.var 20)) (.cons (.int .i64 (.var 21)) (.cons (.int .u32 (.var 22)) (.cons (.int .i64 (.var 23)) (.cons (.int .i64 (.var 24)) (.cons (.int .i64 (.var 25)) .nil))))))))))) (.cons (.int .u64 v0_) (.cons (.int .i64 (.lit 2)) .nil))))) (.cons (.int .u64 (.iapp 28 (.cons (.tup (.cons (.int .i64 (.var 16)) (.cons (.int .i64 (.var 17)) (.cons (.int .i64 (.var 18)) (.cons (.int .i64 (.var 19)) (.cons (.int .u32 (.var 20)) (.cons (.int .i64 (.var 21)) (.cons (.int .u32 (.var 22)) (.cons (.int .i64 (.var 23)) (.cons (.int .i64 (.var 24)) (.cons (.int .i64 (.var 25)) .nil))))))))))) (.cons (.int .u64 v0_) (.cons (.int .i64 (.lit 3)) .nil))))) (.cons (.int .u64 (.iapp 28 (.cons (.tup (.cons (.int .i64 (.var 16)) (.cons (.int .i64 (.var 17)) (.cons (.int .i64 (.var 18)) (.cons (.int .i64 (.var 19)) (.cons (.int .u32 (.var 20)) (.cons (.int .i64 (.var 21)) (.cons (.int .u32 (.var 22)) (.cons (.int .i64 (.var 23)) (.cons (.int .i64 (.var 24)) (.cons (.int .i64 (.var 25)) .nil))))))))))) (.cons (.int .u64 v0_) (.cons (.int .i64 (.lit 4)) .nil))))) (.cons (.int .u64 (.iapp 28 (.cons (.tup (.cons (.int .i64 (.var 16)) (.cons (.int .i64 (.var 17)) (.cons (.int .i64 (.var 18)) (.cons (.int .i64 (.var 19)) (.cons (.int .u32 (.var 20)) (.cons (.int .i64 (.var 21)) (.cons (.int .u32 (.var 22)) (.cons (.int .i64 (.var 23)) (.cons (.int .i64 (.var 24)) (.cons (.int .i64 (.var 25)) .nil))))))))))) (.cons (.int .u64 v0_) (.cons (.int .i64 (.lit 5)) .nil))))) (.cons (.int .u64 (.iapp 28 (.cons (.tup (.cons (.int .i64 (.var 16)) (.cons (.int .i64 (.var 17)) (.cons (.int .i64 (.var 18)) (.cons (.int .i64 (.var 19)) (.cons (.int .u32 (.var 20)) (.cons (.int .i64 (.var 21)) (.cons (.int .u32 (.var 22)) (.cons (.int .i64 (.var 23)) (.cons (.int .i64 (.var 24)) (.cons (.int .i64 (.var 25)) .nil))))))))))) (.cons (.int .u64 v0_) (.cons (.int .i64 (.lit 6)) .nil))))) (.cons (.int .u64 (.iapp 28 (.cons (.tup (.cons (.int .i64 (.var 16)) (.cons (.int .i64 (.var 17)) (.cons (.int .i64 (.var 18)) (.cons (.int .i64 (.var 19)) (.cons (.int .u32 (.var 20)) (.cons (.int .i64 (.var 21)) (.cons (.int .u32 (.var 22)) (.cons (.int .i64 (.var 23)) (.cons (.int .i64 (.var 24)) (.cons (.int .i64 (.var 25)) .nil))))))))))) (.cons (.int .u64 v0_) (.cons (.int .i64 (.lit 7)) .nil))))) (.cons (.int .u64 (.iapp 28 (.cons (.tup (.cons (.int .i64 (.var 16)) (.cons (.int .i64 (.var 17)) (.cons (.int .i64 (.var 18)) (.cons (.int .i64 (.var 19)) (.cons (.int .u32 (.var 20)) (.cons (.int .i64 (.var 21)) (.cons (.int .u32 (.var 22)) (.cons (.int .i64 (.var 23)) (.cons (.int .i64 (.var 24)) (.cons (.int .i64 (.var 25)) .nil))))))))))) (.cons (.int .u64 v0_) (.cons (.int .i64 (.lit 8)) .nil))))) (.cons (.int .u64 (.iapp 28 (.cons (.tup (.cons (.int .i64 (.var 16)) (.cons (.int .i64 (.var 17)) (.cons (.int .i64 (.var 18)) (.cons (.int .i64 (.var 19)) (.cons (.int .u32 (.var 20)) (.cons (.int .i64 (.var 21)) (.cons (.int .u32 (.var 22)) (.cons (.int .i64 (.var 23)) (.cons (.int .i64 (.var 24)) (.cons (.int .i64 (.var 25)) .nil))))))))))) (.cons (.int .u64 v0_) (.cons (.int .i64 (.lit 9)) .nil))))) (.cons (.int .u64 (.iapp 28 (.cons (.tup (.cons (.int .i64 (.var 16)) (.cons (.int .i64 (.var 17)) (.cons (.int .i64 (.var 18)) (.cons (.int .i64 (.var 19)) (.cons (.int .u32 (.var 20)) (.cons (.int .i64 (.var 21)) (.cons (.int .u32 (.var 22)) (.cons (.int .i64 (.var 23)) (.cons (.int .i64 (.var 24)) (.cons (.int .i64 (.var 25)) .nil))))))))))) (.cons (.int .u64 v0_) (.cons (.int .i64 (.lit 10)) .nil))))) (.cons (.int .u64 (.iapp 28 (.cons (.tup (.cons (.int .i64 (.var 16)) (.cons (.int .i64 (.var 17)) (.cons (.int .i64 (.var 18)) (.cons (.int .i64 (.var 19)) (.cons (.int .u32 (.var 20)) (.cons (.int .i64 (.var 21)) (.cons (.int .u32 (.var 22)) (.cons (.int .i64 (.var 23)) (.cons (.int .i64 (.var 24)) (.cons (.int .i64 (.var 25)) .nil))))))))))) (.cons (.int .u64 v0_) (.cons (.int .i64 (.lit 11)) .nil))))) (.cons (.int .u64 (.iapp 28 (.cons (.tup (.cons (.int .i64 (.var 16)) (.cons (.int .i64 (.var 17)) (.cons (.int .i64 (.var 18)) (.cons (.int .i64 (.var 19)) (.cons (.int .u32 (.var 20)) (.cons (.int .i64 (.var 21)) (.cons (.int .u32 (.var 22)) (.cons (.int .i64 (.var 23)) (.cons (.int .i64 (.var 24)) (.cons (.int .i64 (.var 25)) .nil))))))))))) (.cons (.int .u64 v0_) (.cons (.int .i64 (.lit 12)) .nil))))) (.cons (.int .u64 (.iapp 28 (.cons (.tup (.cons (.int .i64 (.var 16)) (.cons (.int .i64 (.var 17)) (.cons (.int .i64 (.var 18)) (.cons (.int .i64 (.var 19)) (.cons (.int .u32 (.var 20)) (.cons (.int .i64 (.var 21)) (.cons (.int .u32 (.var 22)) (.cons (.int .i64 (.var 23)) (.cons (.int .i64 (.var 24)) (.cons (.int .i64 (.var 25)) .nil))))))))))) (.cons (.int .u64 v0_) (.cons (.int .i64 (.lit 13)) .nil))))) (.cons (.int .u64 (.iapp 28 (.cons (.tup (.cons (.int .i64 (.var 16)) (.cons (.int .i64 (.var 17)) (.cons (.int .i64 (.var 18)) (.cons (.int .i64 (.var 19)) (.cons (.int .u32 (.var 20)) (.cons (.int .i64 (.var 21)) (.cons (.int .u32 (.var 22)) (.cons (.int .i64 (.var 23)) (.cons (.int .i64 (.var 24)) (.cons (.int .i64 (.var 25)) .nil))))))))))) (.cons (.int .u64 v0_) (.cons (.int .i64 (.lit 14)) .nil))))) (.cons (.int .u64 (.iapp 28 (.cons (.tup (.cons (.int .i64 (.var 16)) (.cons (.int .i64 (.var 17)) (.cons (.int .i64 (.var 18)) (.cons (.int .i64 (.var 19)) (.cons (.int .u32 (.var 20)) (.cons (.int .i64 (.var 21)) (.cons (.int .u32 (.var 22)) (.cons (.int .i64 (.var 23)) (.cons (.int .i64 (.var 24)) (.cons (.int .i64 (.var 25)) .nil))))))))))) (.cons (.int .u64 v0_) (.cons (.int .i64 (.lit 15)) .nil))))) (.cons (.int .i64 (.lit 0)) .nil)))))))))))))))))) (.cons (.err (.iapp 27 (.cons (.tup (.cons (.int .i64 (.var 16)) (.cons (.int .i64 (.var 17)) (.cons (.int .i64 (.var 18)) (.cons (.int .i64 (.var 19)) (.cons (.int .u32 (.var 20)) (.cons (.int .i64 (.var 21)) (.cons (.int .u32 (.var 22)) (.cons (.int .i64 (.var 23)) (.cons (.int .i64 (.var 24)) (.cons (.int .i64 (.var 25)) .nil))))))))))) (.cons (.int .u64 v0_) .nil)))) .nil))), ⟨26, 0, 0, 0⟩, none⟩
theorem begin_w : walk Tryd.prog 186 ⟨[zuc_pcheck, zuc_lay], syG, [], [], []⟩ [] .v zvc_begin zvc_begin.n 3000 = some begin_tree := by kernel_rfl
theorem begin_h (w0 w1 w2 w3 w4 w5 w6 w7 w8 w9 w10 w11 w12 w13 w14 w15 pe pb pt pr gm gs qm qs pp pc : Int) (hc : holds (zvE [w0, w1, w2, w3, w4, w5, w6, w7, w8, w9, w10, w11, w12, w13, w14, w15, pe, pb, pt, pr, gm, gs, qm, qs, pp, pc] [] [] []) zvc_begin.cnd) (hty : patsTyp (zvE [w0, w1, w2, w3, w4, w5, w6, w7, w8, w9, w10, w11, w12, w13, w14, w15, pe, pb, pt, pr, gm, gs, qm, qs, pp, pc] [] [] []) zvc_begin.pat) : begin_tree.holds (fun v_ => v_ = denV (zvE [w0, w1, w2, w3, w4, w5, w6, w7, w8, w9, w10, w11, w12, w13, w14, w15, pe, pb, pt, pr, gm, gs, qm, qs, pp, pc] [] [] []) b0 zvc_begin.res) (zvE [w0, w1, w2, w3, w4, w5, w6, w7, w8, w9, w10, w11, w12, w13, w14, w15, pe, pb, pt, pr, gm, gs, qm, qs, pp, pc] [] [] []) := by
  simp only [zvc_begin, Tree.holds, Sy.holds, AllN, Env.more, zvE, List.cons_append, List.nil_append, List.append_nil, denV, denI, denB, denL, I2.den, VOp.den, List.getD_cons_zero, List.getD_cons_succ, Cst.den, syso, syse, syio, sybo, List.map_nil, List.map_cons, B2.ofInts, B2.denI, B2.denB, if_true, Bool.false_eq_true, if_false, Nat.div_one, Nat.mul_one, Nat.add_zero, holds] at hc
  simp only [zvc_begin, patsTyp, patTyp, patTypL, zvE, denV, denL, List.getD_cons_zero, List.getD_cons_succ, and_true, true_and] at hty
  unfold begin_tree
  simp only [begin_x0, begin_x1]
  simp only [zvc_begin, Tree.holds, Sy.holds, AllN, Env.more, zvE, List.cons_append, List.nil_append, List.append_nil, denV, denI, denB, denL, I2.den, VOp.den, List.getD_cons_zero, List.getD_cons_succ, Cst.den, syso, syse, syio, sybo, zvi_pge, zvi_lw, zvi_bge, zvi_bgw, zvb_pm, List.map_nil, List.map_cons, B2.ofInts, B2.denI, B2.denB, if_true, Bool.false_eq_true, if_false, Nat.div_one, Nat.mul_one, Nat.add_zero]
  rcases bg_or (Sy.rows (pgT pe pb pt pr gm gs qm qs pp pc)) w0 (pgL_if _) with ⟨q1, q2, q3⟩ | ⟨q1, q2, ⟨k1, q3⟩ | ⟨k1, k2, q3⟩ | ⟨k1, k2, q3⟩⟩
  all_goals
   simp only [pgT] at q1 q2 q3
   have ht := tm2 hc.1.1
   refine ⟨?_, fun h0 => ?_⟩
   ·
    first
    | omega
    | exact hc.2
    | exact ⟨hc.2, q1, by omega, by omega⟩
    | exact absurd (q1.symm.trans (by assumption)) (by decide)
    | exact absurd (q1.symm.trans (Decidable.of_not_not (by assumption))) (by decide)
    | skip
   ·
    refine ⟨fun h1 => ?_, fun h1 => ?_⟩
    ·
     first
     | (exfalso; omega)
     | exact absurd q1 (by assumption)
     | exact absurd (q1.symm.trans (by assumption)) (by decide)
     | exact absurd (q1.symm.trans (Decidable.of_not_not (by assumption))) (by decide)
     | (simp only [bg_e q3 (by decide), q3, q2]
        first | done | rfl)
     | (simp only [bg_y q3, q3]
        first | done | rfl)
     | skip
    ·
     refine ⟨fun h2 => ?_, fun h2 => ?_⟩
     ·
      first
      | (exfalso; omega)
      | exact absurd q1 (by assumption)
      | exact absurd (q1.symm.trans (by assumption)) (by decide)
      | exact absurd (q1.symm.trans (Decidable.of_not_not (by assumption))) (by decide)
      | (simp only [bg_e q3 (by decide), q3, q2]
         first | done | rfl)
      | (simp only [bg_y q3, q3]
         first | done | rfl)
      | skip
     ·
      refine ⟨fun h3 => ?_, fun h3 => ?_⟩
      ·
       first
       | (exfalso; omega)
       | exact absurd q1 (by assumption)
       | exact absurd (q1.symm.trans (by assumption)) (by decide)
       | exact absurd (q1.symm.trans (Decidable.of_not_not (by assumption))) (by decide)
       | (simp only [bg_e q3 (by decide), q3, q2]
          first | done | rfl)
       | (simp only [bg_y q3, q3]
          first | done | rfl)
       | skip
      ·
       first | have hw0 : IntKind.wrap .u64 (w0 + 2) = (w0 + 2) := by (have hwx := wr_u64 (w0 + 2); omega) | have wf0 := wr_u64 (w0 + 2)
       refine ⟨?_, fun h4 => ?_⟩
       ·
        first
        | omega
        | exact hc.2
        | exact ⟨hc.2, q1, by omega, by omega⟩
        | exact absurd (q1.symm.trans (by assumption)) (by decide)
        | exact absurd (q1.symm.trans (Decidable.of_not_not (by assumption))) (by decide)
        | skip
       ·
        try simp only [hw0]
        first
        | (exfalso; omega)
        | exact absurd q1 (by assumption)
        | exact absurd (q1.symm.trans (by assumption)) (by decide)
        | exact absurd (q1.symm.trans (Decidable.of_not_not (by assumption))) (by decide)
        | (simp only [bg_e q3 (by decide), q3, q2]
           first | done | rfl)
        | (simp only [bg_y q3, q3]
           first | done | rfl)
        | skip
theorem zvg_begin : zvc_begin.Good Tryd.prog syG (zvE [] [] [] []) := good_of_walk (Γ := ⟨[zuc_pcheck, zuc_lay], syG, [], [], []⟩) (ρ := zvE [] [] [] []) sym begin_w rfl (fun _ _ _ _ => (ok_cons (Con.Good.env (Con.Good.up zug_pcheck zvup rfl) _ _ _ _) (ok_cons (Con.Good.env (Con.Good.up zug_lay zvup rfl) _ _ _ _) ok_nil))) (fun w0 w1 w2 w3 w4 w5 w6 w7 w8 w9 w10 w11 w12 w13 w14 w15 pe pb pt pr gm gs qm qs pp pc hc hty => begin_h w0 w1 w2 w3 w4 w5 w6 w7 w8 w9 w10 w11 w12 w13 w14 w15 pe pb pt pr gm gs qm qs pp pc hc hty)
def mend_tree : Tree :=
 (.br (eq_ (.i2 .rem v0_ (.lit 2)) (.lit 1))
 (.ret (.agg (.cons (.int .u64 (.wrap .u64 (ad_ v0_ (.lit 1)))) (.cons (.int .u64 v1_) (.cons (.int .u64 v2_) (.cons (.int .u64 v3_) (.cons (.int .u64 v4_) (.cons (.int .u64 v5_) (.cons (.int .u64 v6_) (.cons (.int .u64 v7_) (.cons (.int .u64 v8_) (.cons (.int .u64 v9_) (.cons (.int .u64 (.var 10)) (.cons (.int .u64 (.var 11)) (.cons (.int .u64 (.var 12)) (.cons (.int .u64 (.var 13)) (.cons (.int .u64 (.var 14)) (.cons (.int .u64 (.var 15)) .nil))))))))))))))))))
 (.ret (.agg (.cons (.int .u64 v0_) (.cons (.int .u64 v1_) (.cons (.int .u64 v2_) (.cons (.int .u64 v3_) (.cons (.int .u64 v4_) (.cons (.int .u64 v5_) (.cons (.int .u64 v6_) (.cons (.int .u64 v7_) (.cons (.int .u64 v8_) (.cons (.int .u64 v9_) (.cons (.int .u64 (.var 10)) (.cons (.int .u64 (.var 11)) (.cons (.int .u64 (.var 12)) (.cons (.int .u64 (.var 13)) (.cons (.int .u64 (.var 14)) (.cons (.int .u64 (.var 15)) .nil)))))))))))))))))))
abbrev zvc_mend : Con := ⟨43, [(.agg (.cons (.int .u64 v0_) (.cons (.int .u64 v1_) (.cons (.int .u64 v2_) (.cons (.int .u64 v3_) (.cons (.int .u64 v4_) (.cons (.int .u64 v5_) (.cons (.int .u64 v6_) (.cons (.int .u64 v7_) (.cons (.int .u64 v8_) (.cons (.int .u64 v9_) (.cons (.int .u64 (.var 10)) (.cons (.int .u64 (.var 11)) (.cons (.int .u64 (.var 12)) (.cons (.int .u64 (.var 13)) (.cons (.int .u64 (.var 14)) (.cons (.int .u64 (.var 15)) .nil)))))))))))))))))], (an_ (le_ (.lit 0) v0_) (le_ v0_ (.lit 18446744073709551615))), (.agg (.cons (.int .u64 (.iapp 32 (.cons (.int .u64 v0_) .nil))) (.cons (.int .u64 v1_) (.cons (.int .u64 v2_) (.cons (.int .u64 v3_) (.cons (.int .u64 v4_) (.cons (.int .u64 v5_) (.cons (.int .u64 v6_) (.cons (.int .u64 v7_) (.cons (.int .u64 v8_) (.cons (.int .u64 v9_) (.cons (.int .u64 (.var 10)) (.cons (.int .u64 (.var 11)) (.cons (.int .u64 (.var 12)) (.cons (.int .u64 (.var 13)) (.cons (.int .u64 (.var 14)) (.cons (.int .u64 (.var 15)) .nil))))))))))))))))), ⟨16, 0, 0, 0⟩, none⟩
theorem mend_w : walk Tryd.prog 186 ⟨[], syG, [], [], []⟩ [] .v zvc_mend zvc_mend.n 3000 = some mend_tree := by kernel_rfl
theorem mend_h (w0 w1 w2 w3 w4 w5 w6 w7 w8 w9 w10 w11 w12 w13 w14 w15 : Int) (hc : holds (zvE [w0, w1, w2, w3, w4, w5, w6, w7, w8, w9, w10, w11, w12, w13, w14, w15] [] [] []) zvc_mend.cnd) (hty : patsTyp (zvE [w0, w1, w2, w3, w4, w5, w6, w7, w8, w9, w10, w11, w12, w13, w14, w15] [] [] []) zvc_mend.pat) : mend_tree.holds (fun v_ => v_ = denV (zvE [w0, w1, w2, w3, w4, w5, w6, w7, w8, w9, w10, w11, w12, w13, w14, w15] [] [] []) b0 zvc_mend.res) (zvE [w0, w1, w2, w3, w4, w5, w6, w7, w8, w9, w10, w11, w12, w13, w14, w15] [] [] []) := by
  simp only [zvc_mend, Tree.holds, Sy.holds, AllN, Env.more, zvE, List.cons_append, List.nil_append, List.append_nil, denV, denI, denB, denL, I2.den, VOp.den, List.getD_cons_zero, List.getD_cons_succ, Cst.den, syso, syse, syio, sybo, List.map_nil, List.map_cons, B2.ofInts, B2.denI, B2.denB, if_true, Bool.false_eq_true, if_false, Nat.div_one, Nat.mul_one, Nat.add_zero, holds] at hc
  simp only [zvc_mend, patsTyp, patTyp, patTypL, zvE, denV, denL, List.getD_cons_zero, List.getD_cons_succ, and_true, true_and] at hty
  unfold mend_tree
  simp only [zvc_mend, Tree.holds, Sy.holds, AllN, Env.more, zvE, List.cons_append, List.nil_append, List.append_nil, denV, denI, denB, denL, I2.den, VOp.den, List.getD_cons_zero, List.getD_cons_succ, Cst.den, syso, syse, syio, sybo, zvi_md, List.map_nil, List.map_cons, B2.ofInts, B2.denI, B2.denB, if_true, Bool.false_eq_true, if_false, Nat.div_one, Nat.mul_one, Nat.add_zero]
  have ht := tm2 hc.1
  refine ⟨fun h0 => ?_, fun h0 => ?_⟩
  have wf0 := wr_u64 (w0 + 1)
  refine ?a0; rotate_left
  refine ?a1; rotate_left
  case a0 | a1 =>
   first
   | (exfalso; omega)
   | (rw [md_n (by omega)]; done)
   | (rw [md_y hc.1 hc.2 (by omega)]; done)
   | (rw [md_n (by omega)]; rfl)
   | (rw [md_y hc.1 hc.2 (by omega)]; rfl)
theorem zvg_mend : zvc_mend.Good Tryd.prog syG (zvE [] [] [] []) := good_of_walk (Γ := ⟨[], syG, [], [], []⟩) (ρ := zvE [] [] [] []) sym mend_w rfl (fun _ _ _ _ => ok_nil) (fun w0 w1 w2 w3 w4 w5 w6 w7 w8 w9 w10 w11 w12 w13 w14 w15 hc hty => mend_h w0 w1 w2 w3 w4 w5 w6 w7 w8 w9 w10 w11 w12 w13 w14 w15 hc hty)
end Go.Proofs.YtjcgmdgkdkfdpaaDoor
