/-
 Layer 19 by the second engine: pages as blobs.
-/
import Derived.Test.YtgondiedehjkhaaGreatDoorSycpgb
import Derived.Test.YtgondiedehjkhaaGreatDoorZupgb
import Derived.Test.YtgondiedehjkhaaGreatDoorE00pgb
import Derived.Test.YtgondiedehjkhaaGreatDoorNumpgb
namespace Go.Proofs.YtgondiedehjkhaaGreatDoor
open Go.RowKit Go.Extern.Stop Go.Stop Go.Extern Go.Proofs.YtgondiedehjkhaaGreatDoor.Sy
set_option linter.unusedVariables false
set_option linter.unusedSimpArgs false
abbrev xrzypgbk14_ : Tm := (.vapp 8 (.cons o0_ (.cons (.int .u8 (.lit 1)) .nil)))
abbrev xrzypgbk4_ : Tm := (.vapp 0 (.cons xrzypgbk14_ (.cons (.int .i64 (.lit 8)) .nil)))
abbrev xrzypgbk12_ : Tm := (.vapp 0 (.cons xrzypgbk4_ (.cons (.int .i64 (.lit 8)) .nil)))
abbrev xrzypgbk0_ : Tm := (.vapp 0 (.cons (.vapp 0 (.cons xrzypgbk12_ (.cons (.int .i64 (.lit 8)) .nil))) (.cons (.int .i64 (.lit 8)) .nil)))
abbrev xrzypgbk8_ : Tm := (.vapp 0 (.cons (.vapp 0 (.cons xrzypgbk0_ (.cons (.int .i64 (.lit 8)) .nil))) (.cons (.int .i64 (.lit 8)) .nil)))
abbrev xrzypgbk1_ : Tm := (.vapp 0 (.cons xrzypgbk8_ (.cons (.int .i64 (.lit 8)) .nil)))
abbrev xrzypgbk7_ : Tm := (.vapp 0 (.cons (.vapp 0 (.cons xrzypgbk1_ (.cons (.int .i64 (.lit 8)) .nil))) (.cons (.int .i64 (.lit 8)) .nil)))
abbrev xrzypgbk2_ : Tm := (an_ (an_ (le_ lm_ (.iapp 1 (.cons xrzypgbk14_ .nil))) (le_ (.iapp 1 (.cons xrzypgbk14_ .nil)) lM_)) (an_ (an_ (le_ lm_ (.iapp 1 (.cons xrzypgbk4_ .nil))) (le_ (.iapp 1 (.cons xrzypgbk4_ .nil)) lM_)) (an_ (an_ (le_ lm_ (.iapp 1 (.cons xrzypgbk12_ .nil))) (le_ (.iapp 1 (.cons xrzypgbk12_ .nil)) lM_)) (an_ (an_ (le_ lm_ (.iapp 1 (.cons (.vapp 0 (.cons xrzypgbk12_ (.cons (.int .i64 (.lit 8)) .nil))) .nil))) (le_ (.iapp 1 (.cons (.vapp 0 (.cons xrzypgbk12_ (.cons (.int .i64 (.lit 8)) .nil))) .nil)) lM_)) (an_ (an_ (le_ (.lit 0) (.wrap .u32 (.iapp 1 (.cons xrzypgbk0_ .nil)))) (le_ (.wrap .u32 (.iapp 1 (.cons xrzypgbk0_ .nil))) (.lit 4294967295))) (an_ (an_ (le_ lm_ (.iapp 1 (.cons (.vapp 0 (.cons xrzypgbk0_ (.cons (.int .i64 (.lit 8)) .nil))) .nil))) (le_ (.iapp 1 (.cons (.vapp 0 (.cons xrzypgbk0_ (.cons (.int .i64 (.lit 8)) .nil))) .nil)) lM_)) (an_ (an_ (le_ (.lit 0) (.wrap .u32 (.iapp 1 (.cons xrzypgbk8_ .nil)))) (le_ (.wrap .u32 (.iapp 1 (.cons xrzypgbk8_ .nil))) (.lit 4294967295))) (an_ (an_ (le_ lm_ (.iapp 1 (.cons xrzypgbk1_ .nil))) (le_ (.iapp 1 (.cons xrzypgbk1_ .nil)) lM_)) (an_ (an_ (le_ lm_ (.iapp 1 (.cons (.vapp 0 (.cons xrzypgbk1_ (.cons (.int .i64 (.lit 8)) .nil))) .nil))) (le_ (.iapp 1 (.cons (.vapp 0 (.cons xrzypgbk1_ (.cons (.int .i64 (.lit 8)) .nil))) .nil)) lM_)) (an_ (le_ lm_ (.iapp 1 (.cons xrzypgbk7_ .nil))) (le_ (.iapp 1 (.cons xrzypgbk7_ .nil)) lM_)))))))))))
abbrev xrzypgbk13_ : Tm := (.vapp 6 (.cons (.vapp 6 (.cons (.tup .nil) (.cons z0_ .nil))) (.cons z1_ .nil)))
abbrev xrzypgbk3_ : Tm := (.vapp 6 (.cons (.vapp 6 (.cons (.vapp 6 (.cons (.vapp 6 (.cons xrzypgbk13_ (.cons z2_ .nil))) (.cons z3_ .nil))) (.cons z4_ .nil))) (.cons z5_ .nil)))
abbrev xrzypgbk5_ : Tm := (.agg (.cons (.int .i64 (.lit 0)) (.cons (.int .i64 (.lit 0)) (.cons (.int .i64 (.lit 0)) (.cons (.int .i64 (.lit 0)) (.cons (.int .u32 (.lit 0)) (.cons (.int .i64 (.lit 0)) (.cons (.int .u32 (.lit 0)) (.cons (.int .i64 (.lit 0)) (.cons (.int .i64 (.lit 0)) (.cons (.int .i64 (.lit 0)) .nil)))))))))))
abbrev xrzypgbk6_ : Tm := (an_ (an_ (le_ lm_ v0_) (le_ v0_ lM_)) (an_ (an_ (le_ lm_ v1_) (le_ v1_ lM_)) (an_ (an_ (le_ lm_ v2_) (le_ v2_ lM_)) (an_ (an_ (le_ lm_ v3_) (le_ v3_ lM_)) (an_ (an_ (le_ (.lit 0) v4_) (le_ v4_ (.lit 4294967295))) (an_ (an_ (le_ lm_ v5_) (le_ v5_ lM_)) (an_ (an_ (le_ (.lit 0) v6_) (le_ v6_ (.lit 4294967295))) (an_ (an_ (le_ lm_ v7_) (le_ v7_ lM_)) (an_ (an_ (le_ lm_ v8_) (le_ v8_ lM_)) (an_ (le_ lm_ v9_) (le_ v9_ lM_)))))))))))
abbrev xrzypgbk9_ : Tm := (.tup (.cons z0_ (.cons z1_ (.cons z2_ (.cons z3_ (.cons (.int .u32 v4_) (.cons z5_ (.cons (.int .u32 v6_) (.cons z7_ (.cons z8_ (.cons z9_ .nil)))))))))))
abbrev xrzypgbk10_ : Tm := (.agg (.cons z0_ (.cons z1_ (.cons z2_ (.cons z3_ (.cons (.int .u32 v4_) (.cons z5_ (.cons (.int .u32 v6_) (.cons z7_ (.cons z8_ (.cons z9_ .nil)))))))))))
abbrev xrzypgbk11_ : Tm := (.vapp 6 (.cons (.vapp 6 (.cons (.vapp 6 (.cons (.vapp 6 (.cons xrzypgbk3_ (.cons z6_ .nil))) (.cons z7_ .nil))) (.cons z8_ .nil))) (.cons z9_ .nil)))
def pkV (l : List Value) : Value := if pgB l = true then slV (wdL l) 1 else .tuple #[]
def itP (X : List UInt8) : Nat → List UInt8 × Bool
 | 0 => (X, false)
 | k + 1 => (getL (itP X k).1 8, getS (itP X k).1 (itP X k).2 8)
theorem itP_eq (X : List UInt8) : ∀ k, itP X k = if 8 * k ≤ X.length then (X.drop (8 * k), false) else ([], true)
 | 0 => by rw [if_pos (by omega)]; rfl
 | k + 1 => by
   show (getL (itP X k).1 8, getS (itP X k).1 (itP X k).2 8) = _
   rw [itP_eq X k]
   unfold getL getS
   by_cases h : 8 * k ≤ X.length
   · rw [if_pos h]
     by_cases h2 : 8 * (k + 1) ≤ X.length
     · have h3 : 8 ≤ (X.drop (8 * k)).length := by rw [List.length_drop]; omega
       simp only [if_pos h3, if_pos h2, List.drop_drop]
       rw [show 8 * k + 8 = 8 * (k + 1) by omega]
     · have h3 : ¬ 8 ≤ (X.drop (8 * k)).length := by rw [List.length_drop]; omega
       simp only [if_neg h3, if_neg h2]
   · rw [if_neg h, if_neg (show ¬ 8 * (k + 1) ≤ X.length by omega)]
     simp
theorem it_done (X : List UInt8) : dnE (itP X 10).1 (itP X 10).2 = if X.length = 80 then 0 else 3 := by
 rw [itP_eq]
 by_cases h : 8 * 10 ≤ X.length
 · rw [if_pos h]
   show (if false = true ∨ 0 < (X.drop (8 * 10)).length then (3 : Int) else 0) = _
   rw [List.length_drop]
   by_cases h2 : X.length = 80
   · rw [if_pos h2, if_neg (show ¬ (false = true ∨ 0 < X.length - 8 * 10) by simp only [Bool.false_eq_true, false_or]; omega)]
   · rw [if_neg h2, if_pos (show false = true ∨ 0 < X.length - 8 * 10 from .inr (by omega))]
 · rw [if_neg h, if_neg (show ¬ X.length = 80 by omega)]
   rfl
theorem it_or (X : List UInt8) : (dnE (itP X 10).1 (itP X 10).2 = 0 ∧ X.length = 80) ∨ (dnE (itP X 10).1 (itP X 10).2 = 3 ∧ X.length ≠ 80) := by
 have h := it_done X
 by_cases h2 : X.length = 80
 · rw [if_pos h2] at h; exact .inl ⟨h, h2⟩
 · rw [if_neg h2] at h; exact .inr ⟨h, h2⟩
theorem pgL_if (l : List Value) : pgL l = if pgB l = true then 0 else 1 := by
 unfold pgL pgE pgB
 split
 · rename_i h; rw [if_pos (decide_eq_true h)]
 · rename_i h; rw [if_neg (fun hx => h (of_decide_eq_true hx))]
theorem pg_or (l : List Value) : (pgB l = false ∧ pgL l = 1) ∨ (pgB l = true ∧ pgL l = 0) := by
 have hl := pgL_if l
 cases h : pgB l
 · rw [h] at hl; exact .inl ⟨rfl, hl⟩
 · rw [h] at hl; exact .inr ⟨rfl, hl⟩
theorem pk_n {l : List Value} (h : pgB l = false) : pkV l = .tuple #[] := by unfold pkV; rw [h, if_neg (by decide)]
theorem pk_y {l : List Value} (h : pgB l = true) : pkV l = slV (wdL l) 1 := by unfold pkV; rw [if_pos h]
abbrev nbs (pe pb pt pr gm gs qm qs pp pc : Int) : List Value := numB pe 8 ++ (numB pb 8 ++ (numB pt 8 ++ (numB pr 8 ++ (numB gm 8 ++ (numB gs 8 ++ (numB qm 8 ++ (numB qs 8 ++ (numB pp 8 ++ numB pc 8))))))))
theorem ok10 (a b c d e f g h i j : Int) : okR (Sy.rows (putV (Sy.rows (putV (Sy.rows (putV (Sy.rows (putV (Sy.rows (putV (Sy.rows (putV (Sy.rows (putV (Sy.rows (putV (Sy.rows (putV (Sy.rows (putV (Sy.rows (Value.tuple #[])) a 8)) b 8)) c 8)) d 8)) e 8)) f 8)) g 8)) h 8)) i 8)) j 8)) = true ∧ ((Sy.rows (putV (Sy.rows (putV (Sy.rows (putV (Sy.rows (putV (Sy.rows (putV (Sy.rows (putV (Sy.rows (putV (Sy.rows (putV (Sy.rows (putV (Sy.rows (putV (Sy.rows (Value.tuple #[])) a 8)) b 8)) c 8)) d 8)) e 8)) f 8)) g 8)) h 8)) i 8)) j 8)).length : Int) ≤ 140737488355000 := by
 simp only [put_rows, rows_nil, List.nil_append, List.length_append, List.length_nil, numB_len]
 exact ⟨okR_isB (by repeat (first | exact isB.nil | exact isB_numB _ _ | refine isB.app ?_ ?_)), by omega⟩
theorem wd_pg (pe pb pt pr gm gs qm qs pp pc : Int) : wdL (Sy.rows (Value.tuple #[.int .i64 pe, .int .i64 pb, .int .i64 pt, .int .i64 pr, .int .u32 gm, .int .i64 gs, .int .u32 qm, .int .i64 qs, .int .i64 pp, .int .i64 pc])) = nbs pe pb pt pr gm gs qm qs pp pc := by
 show numB pe 8 ++ (numB pb 8 ++ (numB pt 8 ++ (numB pr 8 ++ (numB gm 8 ++ (numB gs 8 ++ (numB qm 8 ++ (numB qs 8 ++ (numB pp 8 ++ (numB pc 8 ++ []))))))))) = _
 rw [List.append_nil]
theorem sl0 (pe pb pt pr gm gs qm qs pp pc : Int) : slE (nbs pe pb pt pr gm gs qm qs pp pc) 1 = 0 := by
 have hl : (nbs pe pb pt pr gm gs qm qs pp pc).length = 80 := by simp only [List.length_append, numB_len]
 rcases sl_spec (nbs pe pb pt pr gm gs qm qs pp pc) 1 with h | h | h <;> omega
def wX (X : List UInt8) (k : Nat) : Int := (getV (itP X k).1 8 : Nat)
theorem wX_rng (X : List UInt8) (k : Nat) : 0 ≤ wX X k ∧ wX X k ≤ 18446744073709551615 := by
 have h := getV_lt (itP X k).1 8
 rw [show 256 ^ 8 = 18446744073709551616 by decide] at h
 unfold wX
 omega
def s6 (x : Int) : Int := if x < 9223372036854775808 then x else x - 18446744073709551616
theorem s6_rd (X : List UInt8) (k : Nat) : rdI (itP X k).1 = s6 (wX X k) := by
 unfold rdI s6 wX
 split <;> split <;> omega
theorem s6_wrap {x : Int} (h0 : 0 ≤ x) (h1 : x ≤ 18446744073709551615) : IntKind.wrap .i64 x = s6 x := by
 rw [IntKind.wrap_i64]; unfold s6; split <;> omega
theorem s6_spec (x : Int) : (s6 x = x ∧ x < 9223372036854775808) ∨ (s6 x = x - 18446744073709551616 ∧ 9223372036854775808 ≤ x) := by
 unfold s6; split <;> omega
theorem s6_in {x : Int} (h : 0 ≤ x ∧ x ≤ 18446744073709551615) : -9223372036854775808 ≤ s6 x ∧ s6 x ≤ 9223372036854775807 := by have := s6_spec x; omega
def ofP (l : List Value) : Prop := ci l 4 ≤ 4294967295 ∧ ci l 6 ≤ 4294967295 ∧ ci l 5 ≤ 31 ∧ ci l 7 ≤ 31 ∧ pgP (s6 (ci l 0)) (s6 (ci l 1)) (s6 (ci l 2)) (s6 (ci l 3)) (ci l 4) (ci l 5) (ci l 6) (ci l 7) (s6 (ci l 8)) (s6 (ci l 9))
instance (l : List Value) : Decidable (ofP l) := by unfold ofP; infer_instance
def ofE (l : List Value) : Int := if ofP l then 0 else 3
def ofN (l : List Value) (k : Nat) : Int := if ofP l then s6 (ci l k) else 0
theorem tn0 : Int.toNat 0 = 0 := rfl
theorem tn1 : Int.toNat 1 = 1 := rfl
theorem tn2 : Int.toNat 2 = 2 := rfl
theorem tn3 : Int.toNat 3 = 3 := rfl
theorem tn4 : Int.toNat 4 = 4 := rfl
theorem tn5 : Int.toNat 5 = 5 := rfl
theorem tn6 : Int.toNat 6 = 6 := rfl
theorem tn7 : Int.toNat 7 = 7 := rfl
theorem tn8 : Int.toNat 8 = 8 := rfl
theorem tn9 : Int.toNat 9 = 9 := rfl
theorem w6 {x : Int} (h0 : 0 ≤ x) (h1 : x ≤ 18446744073709551615) (h : x ≤ 4294967295) : s6 x = x := by have := s6_spec x; omega
theorem ev3 (t : TypeId) : errVal t 3 = .iface t (.int .i64 3) := rfl
theorem ev0 (t : TypeId) : errVal t 0 = .nilIface := rfl
theorem ne_3 {n : Int} (h : n = 3) : n ≠ 0 := by omega
theorem w_a {x : Int} (r : 0 ≤ x ∧ x ≤ 18446744073709551615) (h : x ≤ 4294967295) : s6 x = x ∧ IntKind.wrap .u32 (s6 x) = x ∧ IntKind.wrap .i64 (IntKind.wrap .u32 (s6 x)) = x := by
 have e : s6 x = x := w6 r.1 r.2 h
 rw [e]
 have h1 := wr_u32 x
 have e2 : IntKind.wrap .u32 x = x := by omega
 rw [e2]
 have h2 := wr_i64 x
 exact ⟨rfl, rfl, by omega⟩
theorem w_b {x : Int} (r : 0 ≤ x ∧ x ≤ 18446744073709551615) (h : IntKind.wrap .u32 (s6 x) = s6 x) : x ≤ 4294967295 := by
 have h1 := wr_u32 (s6 x)
 have h3 := s6_spec x
 omega
theorem of_ex {x0 x1 x2 x3 x4 x5 x6 x7 x8 x9 : Int} : ofP [.int .u64 x0, .int .u64 x1, .int .u64 x2, .int .u64 x3, .int .u64 x4, .int .u64 x5, .int .u64 x6, .int .u64 x7, .int .u64 x8, .int .u64 x9] ↔ (x4 ≤ 4294967295 ∧ x6 ≤ 4294967295 ∧ x5 ≤ 31 ∧ x7 ≤ 31 ∧ pgP (s6 x0) (s6 x1) (s6 x2) (s6 x3) x4 x5 x6 x7 (s6 x8) (s6 x9)) := Iff.rfl
theorem of_dec2 {x0 x1 x2 x3 x4 x5 x6 x7 x8 x9 : Int} (h : ofP [.int .u64 x0, .int .u64 x1, .int .u64 x2, .int .u64 x3, .int .u64 x4, .int .u64 x5, .int .u64 x6, .int .u64 x7, .int .u64 x8, .int .u64 x9]) (r4 : 0 ≤ x4 ∧ x4 ≤ 18446744073709551615) (r6 : 0 ≤ x6 ∧ x6 ≤ 18446744073709551615) : IntKind.wrap .u32 (s6 x4) = s6 x4 ∧ IntKind.wrap .u32 (s6 x6) = s6 x6 := by
 have h := of_ex.1 h
 have a := w_a r4 h.1
 have b := w_a r6 h.2.1
 exact ⟨a.2.1.trans a.1.symm, b.2.1.trans b.1.symm⟩
theorem pgL_tv {x0 x1 x2 x3 x4 x5 x6 x7 x8 x9 : Int} : pgL (Sy.rows (Value.tuple #[.int .i64 (s6 x0), .int .i64 (s6 x1), .int .i64 (s6 x2), .int .i64 (s6 x3), .int .u32 (IntKind.wrap .u32 (s6 x4)), .int .i64 (s6 x5), .int .u32 (IntKind.wrap .u32 (s6 x6)), .int .i64 (s6 x7), .int .i64 (s6 x8), .int .i64 (s6 x9)])) = pgE (s6 x0) (s6 x1) (s6 x2) (s6 x3) (IntKind.wrap .u32 (s6 x4)) (s6 x5) (IntKind.wrap .u32 (s6 x6)) (s6 x7) (s6 x8) (s6 x9) := rfl
theorem of_dec3 {x0 x1 x2 x3 x4 x5 x6 x7 x8 x9 : Int} (h : ofP [.int .u64 x0, .int .u64 x1, .int .u64 x2, .int .u64 x3, .int .u64 x4, .int .u64 x5, .int .u64 x6, .int .u64 x7, .int .u64 x8, .int .u64 x9]) (r4 : 0 ≤ x4 ∧ x4 ≤ 18446744073709551615) (r5 : 0 ≤ x5 ∧ x5 ≤ 18446744073709551615) (r6 : 0 ≤ x6 ∧ x6 ≤ 18446744073709551615) (r7 : 0 ≤ x7 ∧ x7 ≤ 18446744073709551615) : pgL (Sy.rows (Value.tuple #[.int .i64 (s6 x0), .int .i64 (s6 x1), .int .i64 (s6 x2), .int .i64 (s6 x3), .int .u32 (IntKind.wrap .u32 (s6 x4)), .int .i64 (s6 x5), .int .u32 (IntKind.wrap .u32 (s6 x6)), .int .i64 (s6 x7), .int .i64 (s6 x8), .int .i64 (s6 x9)])) = 0 := by
 have h := of_ex.1 h
 rw [pgL_tv, (w_a r4 h.1).2.1, (w_a r6 h.2.1).2.1, w6 r5.1 r5.2 (by omega), w6 r7.1 r7.2 (by omega)]
 exact pgE_y h.2.2.2.2
theorem pgE_0 {e b t r gm gs pm ps p c : Int} (h : pgE e b t r gm gs pm ps p c = 0) : pgP e b t r gm gs pm ps p c := by
 unfold pgE at h
 split at h
 · assumption
 · exact absurd h (by decide)
theorem dec_of (x0 x1 x2 x3 x4 x5 x6 x7 x8 x9 : Int) (r4 : 0 ≤ x4 ∧ x4 ≤ 18446744073709551615) (r5 : 0 ≤ x5 ∧ x5 ≤ 18446744073709551615) (r6 : 0 ≤ x6 ∧ x6 ≤ 18446744073709551615) (r7 : 0 ≤ x7 ∧ x7 ≤ 18446744073709551615) (hA : IntKind.wrap .u32 (s6 x4) = s6 x4 ∧ IntKind.wrap .u32 (s6 x6) = s6 x6) (h : pgL (Sy.rows (Value.tuple #[.int .i64 (s6 x0), .int .i64 (s6 x1), .int .i64 (s6 x2), .int .i64 (s6 x3), .int .u32 (IntKind.wrap .u32 (s6 x4)), .int .i64 (s6 x5), .int .u32 (IntKind.wrap .u32 (s6 x6)), .int .i64 (s6 x7), .int .i64 (s6 x8), .int .i64 (s6 x9)])) = 0) : ofP [.int .u64 x0, .int .u64 x1, .int .u64 x2, .int .u64 x3, .int .u64 x4, .int .u64 x5, .int .u64 x6, .int .u64 x7, .int .u64 x8, .int .u64 x9] := by
 have b4 := w_b r4 hA.1
 have b6 := w_b r6 hA.2
 rw [pgL_tv, (w_a r4 b4).2.1, (w_a r6 b6).2.1] at h
 have hp := pgE_0 h
 have f1 := hp.2.2.2.2.2.2.2.2.1
 have f2 := hp.2.2.2.2.2.2.2.2.2.1
 unfold fmP at f1 f2
 have s5 := s6_spec x5
 have s7 := s6_spec x7
 have e5 : s6 x5 = x5 := by omega
 have e7 : s6 x7 = x7 := by omega
 rw [e5, e7] at hp
 exact of_ex.2 ⟨b4, b6, by omega, by omega, hp⟩
def vX (X : List UInt8) : List Value := [.int .u64 (wX X 0), .int .u64 (wX X 1), .int .u64 (wX X 2), .int .u64 (wX X 3), .int .u64 (wX X 4), .int .u64 (wX X 5), .int .u64 (wX X 6), .int .u64 (wX X 7), .int .u64 (wX X 8), .int .u64 (wX X 9)]
theorem cv0 (X : List UInt8) : ci (vX X) 0 = wX X 0 := rfl
theorem cv1 (X : List UInt8) : ci (vX X) 1 = wX X 1 := rfl
theorem cv2 (X : List UInt8) : ci (vX X) 2 = wX X 2 := rfl
theorem cv3 (X : List UInt8) : ci (vX X) 3 = wX X 3 := rfl
theorem cv4 (X : List UInt8) : ci (vX X) 4 = wX X 4 := rfl
theorem cv5 (X : List UInt8) : ci (vX X) 5 = wX X 5 := rfl
theorem cv6 (X : List UInt8) : ci (vX X) 6 = wX X 6 := rfl
theorem cv7 (X : List UInt8) : ci (vX X) 7 = wX X 7 := rfl
theorem cv8 (X : List UInt8) : ci (vX X) 8 = wX X 8 := rfl
theorem cv9 (X : List UInt8) : ci (vX X) 9 = wX X 9 := rfl

abbrev b1 (l : List Value) : List UInt8 := byL (Sy.rows (blV l 1))
def pcE (l : List Value) : Int := if blE l 1 ≠ 0 then blE l 1 else if (b1 l).length = 80 then ofE (vX (b1 l)) else 3
def pcN (l : List Value) (k : Nat) : Int := if pcE l = 0 then ofN (vX (b1 l)) k else 0
theorem pc_n {l : List Value} (h : pcE l ≠ 0) (k : Nat) : pcN l k = 0 := by unfold pcN; rw [if_neg h]
theorem pc_y {l : List Value} (h : pcE l = 0) (k : Nat) : pcN l k = s6 (ci (vX (b1 l)) k) := by
 unfold pcN
 rw [if_pos h]
 unfold ofN
 rw [if_pos]
 unfold pcE at h
 split at h
 · exact absurd h (by assumption)
 · split at h
   · unfold ofE at h
     split at h
     · assumption
     · exact absurd h (by decide)
   · exact absurd h (by decide)
theorem pc_spec (l : List Value) : (blE l 1 ≠ 0 ∧ pcE l = blE l 1) ∨ (blE l 1 = 0 ∧ (b1 l).length ≠ 80 ∧ pcE l = 3) ∨ (blE l 1 = 0 ∧ (b1 l).length = 80 ∧ ¬ ofP (vX (b1 l)) ∧ pcE l = 3) ∨ (blE l 1 = 0 ∧ (b1 l).length = 80 ∧ ofP (vX (b1 l)) ∧ pcE l = 0) := by
 unfold pcE
 by_cases h1 : blE l 1 = 0
 · right
   rw [if_neg (not_not_intro h1)]
   by_cases h2 : (b1 l).length = 80
   · right
     rw [if_pos h2]
     unfold ofE
     by_cases h3 : ofP (vX (b1 l))
     · right; rw [if_pos h3]; exact ⟨h1, h2, h3, rfl⟩
     · left; rw [if_neg h3]; exact ⟨h1, h2, h3, rfl⟩
   · left; rw [if_neg h2]; exact ⟨h1, h2, rfl⟩
 · left; rw [if_pos h1]; exact ⟨h1, rfl⟩
theorem rl_eq2 (l : List UInt8) : byL (Sy.rows (Value.tuple (l.map bV).toArray)) = l := byL_bV l
theorem blV_isB {l : List Value} (h : isB l) (k : Int) : isB (Sy.rows (blV l k)) := by
 unfold blV
 split
 · exact isB.drop (isB.take h _) _
 · exact isB.nil
theorem num19_any (n : Int) (w : World) (hg : w.cell? ⟨0, 0, none⟩ = some asHandle) : Calls Tryz.prog 14 #[errVal 111 n] w fun e w' => e = .returned (.int .i64 n) ∧ Below w.heap.size w w' := by
 unfold errVal
 split
 · rename_i h; subst h; exact num19_nil _
 · exact num19_err _ _ hg
noncomputable def zyI : Nat → List Value → Int
 | 27, [l] => pcE (rows l)
 | 28, [l, .int _ k] => pcN (rows l) k.toNat
 | 29, [l] => ofE (rows l)
 | 30, [l, .int _ k] => ofN (rows l) k.toNat
 | i, l => zuI i l
noncomputable def zyB : Nat → List Value → Bool
 | i, l => zuB i l
noncomputable def zyV : Nat → List Value → Value
 | 12, [l] => pkV (rows l)
 | i, l => zuV i l
noncomputable abbrev zyE (iv : List Int) (bv : List Bool) (vv : List Value) (sv : List ByteArray) : Env := { iv := iv, bv := bv, vv := vv, sv := sv, fi := zyI, fb := zyB, fv := zyV, et := 111 }
set_option maxHeartbeats 8000000 in
theorem zyup : Agree 27 6 12 (zuE [] [] [] []) (zyE [] [] [] []) := ⟨rfl, (by
   intro f hf
   funext l
   show zyI f l = zuI f l
   unfold zyI
   split <;> first | rfl | omega), (by
   intro f hf
   funext l
   show zyB f l = zuB f l
   unfold zyB
   split <;> first | rfl | omega), (by
   intro f hf
   funext l
   show zyV f l = zuV f l
   unfold zyV
   split <;> first | rfl | omega)⟩
theorem zyi_ri (l : Value) : zyI 1 [l] = rdI (byL (rows l)) := rfl
theorem zyi_dn (l : Value) (s : Bool) : zyI 2 [l, .bool s] = dnE (byL (rows l)) s := rfl
theorem zyi_sle (l : Value) (k1 : IntKind) (k : Int) : zyI 5 [l, .int k1 k] = slE (rows l) k := rfl
theorem zyi_ble (l : Value) (k1 : IntKind) (k : Int) : zyI 9 [l, .int k1 k] = blE (rows l) k := rfl
theorem zyi_pge (l : Value) : zyI 24 [l] = pgL (rows l) := rfl
theorem zyi_pce (l : Value) : zyI 27 [l] = pcE (rows l) := rfl
theorem zyi_pcn (l : Value) (k1 : IntKind) (k : Int) : zyI 28 [l, .int k1 k] = pcN (rows l) k.toNat := rfl
theorem zyb_okr (l : Value) : zyB 0 [l] = okR (rows l) := rfl
theorem zyb_rs (l : Value) (s : Bool) (k1 : IntKind) (k : Int) : zyB 1 [l, .bool s, .int k1 k] = getS (byL (rows l)) s k.toNat := rfl
theorem zyv_rl (l : Value) (k1 : IntKind) (k : Int) : zyV 0 [l, .int k1 k] = Value.tuple ((getL (byL (rows l)) k.toNat).map bV).toArray := rfl
theorem zyv_p8 (l : Value) (k1 : IntKind) (v : Int) : zyV 6 [l, .int k1 v] = putV (rows l) v 8 := rfl
theorem zyv_slv (l : Value) (k1 : IntKind) (k : Int) : zyV 7 [l, .int k1 k] = slV (rows l) k := rfl
theorem zyv_blv (l : Value) (k1 : IntKind) (k : Int) : zyV 8 [l, .int k1 k] = blV (rows l) k := rfl
theorem zyv_pkv (l : Value) : zyV 12 [l] = pkV (rows l) := rfl
def gather_tree : Tree :=
 (.ret (.agg (.cons z0_ (.cons z1_ (.cons z2_ (.cons z3_ (.cons (.int .u32 (.wrap .u32 v4_)) (.cons z5_ (.cons (.int .u32 (.wrap .u32 v6_)) (.cons z7_ (.cons z8_ (.cons z9_ .nil))))))))))))
abbrev zyc_gather : Con := ⟨41, [(.agg (.cons z0_ (.cons z1_ (.cons z2_ (.cons z3_ (.cons z4_ (.cons z5_ (.cons z6_ (.cons z7_ (.cons z8_ (.cons z9_ .nil)))))))))))], (.tt true), (.agg (.cons z0_ (.cons z1_ (.cons z2_ (.cons z3_ (.cons (.int .u32 (.wrap .u32 v4_)) (.cons z5_ (.cons (.int .u32 (.wrap .u32 v6_)) (.cons z7_ (.cons z8_ (.cons z9_ .nil))))))))))), ⟨10, 0, 0, 0⟩, none⟩
theorem gather_w : walk Tryz.prog 111 ⟨[], syG, [], [], []⟩ [] .v zyc_gather zyc_gather.n 3000 = some gather_tree := by kernel_rfl
theorem gather_h (n0 n1 n2 n3 n4 n5 n6 n7 n8 n9 : Int) : Hyp_ zyc_gather gather_tree (zyE [n0, n1, n2, n3, n4, n5, n6, n7, n8, n9] [] [] []) := by
 intro hc hty
 simp only [zyc_gather, Sy.holds, zyE, denV, denI, denB, denL, I2.den, VOp.den, List.getD_cons_zero, List.getD_cons_succ, Cst.den, syso, syse, syio, sybo, B2.ofInts, B2.denI, B2.denB, if_true, Bool.false_eq_true, if_false, Nat.div_one, Nat.mul_one, Nat.add_zero] at hc
 simp only [zyc_gather, patsTyp, patTyp, patTypL, zyE, denV, denL, List.getD_cons_zero, List.getD_cons_succ, and_true, true_and] at hty
 unfold gather_tree
 simp only [zyc_gather, Tree.holds, Sy.holds, zyE, denV, denI, denB, denL, I2.den, VOp.den, List.getD_cons_zero, List.getD_cons_succ, Cst.den, syso, syse, syio, sybo, B2.ofInts, B2.denI, B2.denB, if_true, Bool.false_eq_true, if_false, Nat.div_one, Nat.mul_one, Nat.add_zero]
 done
theorem zyg_gather : zyc_gather.Good Tryz.prog syG (zyE [] [] [] []) := good_of_walk (Γ := ⟨[], syG, [], [], []⟩) (ρ := zyE [] [] [] []) sym gather_w rfl (fun _ _ _ _ => ok_nil) gather_h
def penc_tree : Tree :=
 (.need xrzypgbk6_
 (.br (.not (eq_ (.iapp 24 (.cons xrzypgbk9_ .nil)) (.lit 0)))
 (.ret (.tup (.cons (.hs .no (.cons (.int .u8) .nil) (.tup .nil)) (.cons (.err (.iapp 24 (.cons xrzypgbk9_ .nil))) .nil))))
 (.need xrzypgbk6_
 (.need (an_ (le_ (.ofI (.vop (.len 1) (.cons (.tup .nil) .nil))) (.lit 70368744177664)) (an_ (le_ lm_ v0_) (le_ v0_ lM_)))
 (.need (an_ (le_ (.ofI (.vop (.len 1) (.cons (.vapp 6 (.cons (.tup .nil) (.cons z0_ .nil))) .nil))) (.lit 70368744177664)) (an_ (le_ lm_ v1_) (le_ v1_ lM_)))
 (.need (an_ (le_ (.ofI (.vop (.len 1) (.cons xrzypgbk13_ .nil))) (.lit 70368744177664)) (an_ (le_ lm_ v2_) (le_ v2_ lM_)))
 (.need (an_ (le_ (.ofI (.vop (.len 1) (.cons (.vapp 6 (.cons xrzypgbk13_ (.cons z2_ .nil))) .nil))) (.lit 70368744177664)) (an_ (le_ lm_ v3_) (le_ v3_ lM_)))
 (.need (an_ (le_ (.ofI (.vop (.len 1) (.cons (.vapp 6 (.cons (.vapp 6 (.cons xrzypgbk13_ (.cons z2_ .nil))) (.cons z3_ .nil))) .nil))) (.lit 70368744177664)) (an_ (le_ lm_ v4_) (le_ v4_ lM_)))
 (.need (an_ (le_ (.ofI (.vop (.len 1) (.cons (.vapp 6 (.cons (.vapp 6 (.cons (.vapp 6 (.cons xrzypgbk13_ (.cons z2_ .nil))) (.cons z3_ .nil))) (.cons z4_ .nil))) .nil))) (.lit 70368744177664)) (an_ (le_ lm_ v5_) (le_ v5_ lM_)))
 (.need (an_ (le_ (.ofI (.vop (.len 1) (.cons xrzypgbk3_ .nil))) (.lit 70368744177664)) (an_ (le_ lm_ v6_) (le_ v6_ lM_)))
 (.need (an_ (le_ (.ofI (.vop (.len 1) (.cons (.vapp 6 (.cons xrzypgbk3_ (.cons z6_ .nil))) .nil))) (.lit 70368744177664)) (an_ (le_ lm_ v7_) (le_ v7_ lM_)))
 (.need (an_ (le_ (.ofI (.vop (.len 1) (.cons (.vapp 6 (.cons (.vapp 6 (.cons xrzypgbk3_ (.cons z6_ .nil))) (.cons z7_ .nil))) .nil))) (.lit 70368744177664)) (an_ (le_ lm_ v8_) (le_ v8_ lM_)))
 (.need (an_ (le_ (.ofI (.vop (.len 1) (.cons (.vapp 6 (.cons (.vapp 6 (.cons (.vapp 6 (.cons xrzypgbk3_ (.cons z6_ .nil))) (.cons z7_ .nil))) (.cons z8_ .nil))) .nil))) (.lit 70368744177664)) (an_ (le_ lm_ v9_) (le_ v9_ lM_)))
 (.need (an_ (.bapp 0 (.cons xrzypgbk11_ .nil)) (le_ (.ofI (.vop (.len 1) (.cons xrzypgbk11_ .nil))) (.lit 140737488355000)))
 (.ret (.tup (.cons (.hs .no (.cons (.int .u8) .nil) (.vapp 7 (.cons xrzypgbk11_ (.cons (.int .u8 (.lit 1)) .nil)))) (.cons (.err (.iapp 5 (.cons xrzypgbk11_ (.cons (.int .u8 (.lit 1)) .nil)))) .nil))))))))))))))))))
abbrev zyc_penc : Con := ⟨20, [xrzypgbk10_], xrzypgbk6_, (.tup (.cons (.hs .no (.cons (.int .u8) .nil) (.vapp 12 (.cons xrzypgbk9_ .nil))) (.cons (.err (.iapp 24 (.cons xrzypgbk9_ .nil))) .nil))), ⟨10, 0, 0, 0⟩, none⟩
theorem penc_w : walk Tryz.prog 111 ⟨[zuc_pcheck, zuc_spread, zpc_i64p, zb6c_seal], syG, [], [], []⟩ [] (.tup (.cons (.s (.cons (.int .u8) .nil)) (.cons .v .nil))) zyc_penc zyc_penc.n 3000 = some penc_tree := by kernel_rfl
theorem penc_h (pe pb pt pr gm gs qm qs pp pc : Int) : Hyp_ zyc_penc penc_tree (zyE [pe, pb, pt, pr, gm, gs, qm, qs, pp, pc] [] [] []) := by
 intro hc hty
 simp only [zyc_penc, Sy.holds, zyE, denV, denI, denB, denL, I2.den, VOp.den, List.getD_cons_zero, List.getD_cons_succ, Cst.den, syso, syse, syio, sybo, B2.ofInts, B2.denI, B2.denB, if_true, Bool.false_eq_true, if_false, Nat.div_one, Nat.mul_one, Nat.add_zero] at hc
 simp only [zyc_penc, patsTyp, patTyp, patTypL, zyE, denV, denL, List.getD_cons_zero, List.getD_cons_succ, and_true, true_and] at hty
 unfold penc_tree
 simp only [zyc_penc, Tree.holds, Sy.holds, zyE, denV, denI, denB, denL, I2.den, VOp.den, List.getD_cons_zero, List.getD_cons_succ, Cst.den, syso, syse, syio, sybo, zyi_sle, zyi_pge, zyb_okr, zyv_p8, zyv_slv, zyv_pkv, B2.ofInts, B2.denI, B2.denB, if_true, Bool.false_eq_true, if_false, Nat.div_one, Nat.mul_one, Nat.add_zero]
 rcases pg_or (Sy.rows (pgT pe pb pt pr gm gs qm qs pp pc)) with ⟨q1, q2⟩ | ⟨q1, q2⟩
 all_goals
  simp only [pgT] at q1 q2
  refine ⟨?_, fun h0 => ?_⟩
  rotate_left
  refine ⟨fun h1 => ?_, fun h1 => ?_⟩
  rotate_left
  refine ⟨?_, fun h2 => ?_⟩
  rotate_left
  refine ⟨?_, fun h3 => ?_⟩
  rotate_left
  refine ⟨?_, fun h4 => ?_⟩
  rotate_left
  refine ⟨?_, fun h5 => ?_⟩
  rotate_left
  refine ⟨?_, fun h6 => ?_⟩
  rotate_left
  refine ⟨?_, fun h7 => ?_⟩
  rotate_left
  refine ⟨?_, fun h8 => ?_⟩
  rotate_left
  refine ⟨?_, fun h9 => ?_⟩
  rotate_left
  refine ⟨?_, fun h10 => ?_⟩
  rotate_left
  refine ⟨?_, fun h11 => ?_⟩
  rotate_left
  refine ⟨?_, fun h12 => ?_⟩
  rotate_left
  refine ⟨?_, fun h13 => ?_⟩
  rotate_left
  rotate_left
 all_goals first
 | exact True.intro
 | (show @Eq Value _ _
    first
    | (exfalso; omega)
    | exact absurd (q1.symm.trans (by assumption)) (by decide)
    | exact absurd (q1.symm.trans (Decidable.of_not_not (by assumption))) (by decide)
    | exact absurd q1 (by assumption)
    | (rw [pk_n q1, q2]; done)
    | (rw [pk_n q1, q2]; rfl)
    | (simp only [put_rows, rows_nil, List.nil_append, List.append_assoc]
       rw [pk_y q1, q2, wd_pg, sl0]
       first | done | rfl)
    | skip
    done)
 | (skip
    first
    | omega
    | exact hc
    | (simp only [put_rows, rows_nil, List.length_append, List.length_nil, numB_len]
       omega)
    | exact ok10 ..
    done)
theorem zyg_penc : zyc_penc.Good Tryz.prog syG (zyE [] [] [] []) := good_of_walk (Γ := ⟨[zuc_pcheck, zuc_spread, zpc_i64p, zb6c_seal], syG, [], [], []⟩) (ρ := zyE [] [] [] []) sym penc_w rfl (fun _ _ _ _ => (ok_cons (Con.Good.env (Con.Good.up zug_pcheck zyup rfl) _ _ _ _) (ok_cons (Con.Good.env (Con.Good.up zug_spread zyup rfl) _ _ _ _) (ok_cons (Con.Good.env (Con.Good.up (Con.Good.up zpg_i64p zuup rfl) zyup rfl) _ _ _ _) (ok_cons (Con.Good.env (Con.Good.up (Con.Good.up (Con.Good.up zb6g_seal zpup rfl) zuup rfl) zyup rfl) _ _ _ _) ok_nil))))) penc_h
def pdec_tree : Tree :=
 (.need (an_ (.bapp 0 (.cons o0_ .nil)) (le_ (.ofI (.vop (.len 1) (.cons o0_ .nil))) (.lit 140737488355000)))
 (.br (.not (eq_ (.iapp 9 (.cons o0_ (.cons (.int .u8 (.lit 1)) .nil))) (.lit 0)))
 (.ret (.tup (.cons xrzypgbk5_ (.cons (.err (.iapp 9 (.cons o0_ (.cons (.int .u8 (.lit 1)) .nil)))) .nil))))
 (.need (.bapp 0 (.cons xrzypgbk14_ .nil))
 (.need (.bapp 0 (.cons xrzypgbk14_ .nil))
 (.need (.bapp 0 (.cons xrzypgbk4_ .nil))
 (.need (.bapp 0 (.cons xrzypgbk12_ .nil))
 (.need (.bapp 0 (.cons (.vapp 0 (.cons xrzypgbk12_ (.cons (.int .i64 (.lit 8)) .nil))) .nil))
 (.need (.bapp 0 (.cons xrzypgbk0_ .nil))
 (.need (.bapp 0 (.cons (.vapp 0 (.cons xrzypgbk0_ (.cons (.int .i64 (.lit 8)) .nil))) .nil))
 (.need (.bapp 0 (.cons xrzypgbk8_ .nil))
 (.need (.bapp 0 (.cons xrzypgbk1_ .nil))
 (.need (.bapp 0 (.cons (.vapp 0 (.cons xrzypgbk1_ (.cons (.int .i64 (.lit 8)) .nil))) .nil))
 (.need (.bapp 0 (.cons xrzypgbk7_ .nil))
 (.need (.bapp 0 (.cons (.vapp 0 (.cons xrzypgbk7_ (.cons (.int .i64 (.lit 8)) .nil))) .nil))
 (.br (.not (eq_ (.iapp 2 (.cons (.vapp 0 (.cons xrzypgbk7_ (.cons (.int .i64 (.lit 8)) .nil))) (.cons (.bool (.bapp 1 (.cons xrzypgbk7_ (.cons (.bool (.bapp 1 (.cons (.vapp 0 (.cons xrzypgbk1_ (.cons (.int .i64 (.lit 8)) .nil))) (.cons (.bool (.bapp 1 (.cons xrzypgbk1_ (.cons (.bool (.bapp 1 (.cons xrzypgbk8_ (.cons (.bool (.bapp 1 (.cons (.vapp 0 (.cons xrzypgbk0_ (.cons (.int .i64 (.lit 8)) .nil))) (.cons (.bool (.bapp 1 (.cons xrzypgbk0_ (.cons (.bool (.bapp 1 (.cons (.vapp 0 (.cons xrzypgbk12_ (.cons (.int .i64 (.lit 8)) .nil))) (.cons (.bool (.bapp 1 (.cons xrzypgbk12_ (.cons (.bool (.bapp 1 (.cons xrzypgbk4_ (.cons (.bool (.bapp 1 (.cons xrzypgbk14_ (.cons (.bool (.tt false)) (.cons (.int .i64 (.lit 8)) .nil))))) (.cons (.int .i64 (.lit 8)) .nil))))) (.cons (.int .i64 (.lit 8)) .nil))))) (.cons (.int .i64 (.lit 8)) .nil))))) (.cons (.int .i64 (.lit 8)) .nil))))) (.cons (.int .i64 (.lit 8)) .nil))))) (.cons (.int .i64 (.lit 8)) .nil))))) (.cons (.int .i64 (.lit 8)) .nil))))) (.cons (.int .i64 (.lit 8)) .nil))))) (.cons (.int .i64 (.lit 8)) .nil))))) .nil))) (.lit 0)))
 (.ret (.tup (.cons xrzypgbk5_ (.cons (.iface 111 (.int .i64 (.lit 3))) .nil))))
 (.need xrzypgbk2_
 (.br (.not (an_ (eq_ (.wrap .u32 (.iapp 1 (.cons xrzypgbk0_ .nil))) (.iapp 1 (.cons xrzypgbk0_ .nil))) (eq_ (.wrap .u32 (.iapp 1 (.cons xrzypgbk8_ .nil))) (.iapp 1 (.cons xrzypgbk8_ .nil)))))
 (.ret (.tup (.cons xrzypgbk5_ (.cons (.iface 111 (.int .i64 (.lit 3))) .nil))))
 (.need xrzypgbk2_
 (.br (.not (eq_ (.iapp 24 (.cons (.tup (.cons (.int .i64 (.iapp 1 (.cons xrzypgbk14_ .nil))) (.cons (.int .i64 (.iapp 1 (.cons xrzypgbk4_ .nil))) (.cons (.int .i64 (.iapp 1 (.cons xrzypgbk12_ .nil))) (.cons (.int .i64 (.iapp 1 (.cons (.vapp 0 (.cons xrzypgbk12_ (.cons (.int .i64 (.lit 8)) .nil))) .nil))) (.cons (.int .u32 (.wrap .u32 (.iapp 1 (.cons xrzypgbk0_ .nil)))) (.cons (.int .i64 (.iapp 1 (.cons (.vapp 0 (.cons xrzypgbk0_ (.cons (.int .i64 (.lit 8)) .nil))) .nil))) (.cons (.int .u32 (.wrap .u32 (.iapp 1 (.cons xrzypgbk8_ .nil)))) (.cons (.int .i64 (.iapp 1 (.cons xrzypgbk1_ .nil))) (.cons (.int .i64 (.iapp 1 (.cons (.vapp 0 (.cons xrzypgbk1_ (.cons (.int .i64 (.lit 8)) .nil))) .nil))) (.cons (.int .i64 (.iapp 1 (.cons xrzypgbk7_ .nil))) .nil))))))))))) .nil)) (.lit 0)))
 (.ret (.tup (.cons xrzypgbk5_ (.cons (.iface 111 (.int .i64 (.lit 3))) .nil))))
 (.ret (.tup (.cons (.agg (.cons (.int .i64 (.iapp 1 (.cons xrzypgbk14_ .nil))) (.cons (.int .i64 (.iapp 1 (.cons xrzypgbk4_ .nil))) (.cons (.int .i64 (.iapp 1 (.cons xrzypgbk12_ .nil))) (.cons (.int .i64 (.iapp 1 (.cons (.vapp 0 (.cons xrzypgbk12_ (.cons (.int .i64 (.lit 8)) .nil))) .nil))) (.cons (.int .u32 (.wrap .u32 (.iapp 1 (.cons xrzypgbk0_ .nil)))) (.cons (.int .i64 (.iapp 1 (.cons (.vapp 0 (.cons xrzypgbk0_ (.cons (.int .i64 (.lit 8)) .nil))) .nil))) (.cons (.int .u32 (.wrap .u32 (.iapp 1 (.cons xrzypgbk8_ .nil)))) (.cons (.int .i64 (.iapp 1 (.cons xrzypgbk1_ .nil))) (.cons (.int .i64 (.iapp 1 (.cons (.vapp 0 (.cons xrzypgbk1_ (.cons (.int .i64 (.lit 8)) .nil))) .nil))) (.cons (.int .i64 (.iapp 1 (.cons xrzypgbk7_ .nil))) .nil))))))))))) (.cons (.cst .nilI) .nil)))))))))))))))))))))))
abbrev zyc_pdec : Con := ⟨21, [(.hs .no (.cons (.int .u8) .nil) o0_)], (an_ (.bapp 0 (.cons o0_ .nil)) (le_ (.ofI (.vop (.len 1) (.cons o0_ .nil))) (.lit 4096))), (.tup (.cons (.agg (.cons (.int .i64 (.iapp 28 (.cons o0_ (.cons (.int .i64 (.lit 0)) .nil)))) (.cons (.int .i64 (.iapp 28 (.cons o0_ (.cons (.int .i64 (.lit 1)) .nil)))) (.cons (.int .i64 (.iapp 28 (.cons o0_ (.cons (.int .i64 (.lit 2)) .nil)))) (.cons (.int .i64 (.iapp 28 (.cons o0_ (.cons (.int .i64 (.lit 3)) .nil)))) (.cons (.int .u32 (.iapp 28 (.cons o0_ (.cons (.int .i64 (.lit 4)) .nil)))) (.cons (.int .i64 (.iapp 28 (.cons o0_ (.cons (.int .i64 (.lit 5)) .nil)))) (.cons (.int .u32 (.iapp 28 (.cons o0_ (.cons (.int .i64 (.lit 6)) .nil)))) (.cons (.int .i64 (.iapp 28 (.cons o0_ (.cons (.int .i64 (.lit 7)) .nil)))) (.cons (.int .i64 (.iapp 28 (.cons o0_ (.cons (.int .i64 (.lit 8)) .nil)))) (.cons (.int .i64 (.iapp 28 (.cons o0_ (.cons (.int .i64 (.lit 9)) .nil)))) .nil))))))))))) (.cons (.err (.iapp 27 (.cons o0_ .nil))) .nil))), ⟨0, 0, 1, 0⟩, none⟩
theorem pdec_w : walk Tryz.prog 111 ⟨[zb6c_open, zyc_gather, zuc_spread, zuc_pcheck], syG, [], [rc_i64, rc_done], [rc_new]⟩ [] .v zyc_pdec zyc_pdec.n 3000 = some pdec_tree := by kernel_rfl
set_option maxHeartbeats 8000000 in
theorem pdec_h (c : Value) : Hyp_ zyc_pdec pdec_tree (zyE [] [] [c] []) := by
 intro hc hty
 simp only [zyc_pdec, Sy.holds, zyE, denV, denI, denB, denL, I2.den, VOp.den, List.getD_cons_zero, List.getD_cons_succ, Cst.den, syso, syse, syio, sybo, zyb_okr, B2.ofInts, B2.denI, B2.denB, if_true, Bool.false_eq_true, if_false, Nat.div_one, Nat.mul_one, Nat.add_zero] at hc
 simp only [zyc_pdec, patsTyp, patTyp, patTypL, zyE, denV, denL, List.getD_cons_zero, List.getD_cons_succ, and_true, true_and] at hty
 have hL_c : typ (.sl (.cons (.int .u8) .nil)) c := by first | exact hty | exact hty.1 | exact hty.2 | exact hty.1.1 | exact hty.1.2 | exact hty.2.1 | exact hty.2.2 | exact hty.2.2.1 | exact hty.2.2.2
 have hN_c := typ_len (n := 1) hL_c rfl (by omega)
 simp only [Nat.div_one, Nat.mul_one] at hN_c
 unfold pdec_tree
 simp only [zyc_pdec, Tree.holds, Sy.holds, zyE, denV, denI, denB, denL, I2.den, VOp.den, List.getD_cons_zero, List.getD_cons_succ, Cst.den, syso, syse, syio, sybo, zyi_ri, zyi_dn, zyi_ble, zyi_pge, zyi_pce, zyi_pcn, zyb_okr, zyb_rs, zyv_rl, zyv_blv, B2.ofInts, B2.denI, B2.denB, if_true, Bool.false_eq_true, if_false, Nat.div_one, Nat.mul_one, Nat.add_zero]
 have hB := blV_isB (isB_typ hty hc.1) 1
 have s1 := pc_spec (Sy.rows c)
 have hbx : byL (Sy.rows (blV (Sy.rows c) 1)) = b1 (Sy.rows c) := rfl
 simp only [rl_eq2, t8, hbx]
 have hd := it_or (b1 (Sy.rows c))
 simp only [itP] at hd
 generalize dnE (getL (getL (getL (getL (getL (getL (getL (getL (getL (getL (b1 (Sy.rows c)) 8) 8) 8) 8) 8) 8) 8) 8) 8) 8) (getS (getL (getL (getL (getL (getL (getL (getL (getL (getL (b1 (Sy.rows c)) 8) 8) 8) 8) 8) 8) 8) 8) 8) (getS (getL (getL (getL (getL (getL (getL (getL (getL (b1 (Sy.rows c)) 8) 8) 8) 8) 8) 8) 8) 8) (getS (getL (getL (getL (getL (getL (getL (getL (b1 (Sy.rows c)) 8) 8) 8) 8) 8) 8) 8) (getS (getL (getL (getL (getL (getL (getL (b1 (Sy.rows c)) 8) 8) 8) 8) 8) 8) (getS (getL (getL (getL (getL (getL (b1 (Sy.rows c)) 8) 8) 8) 8) 8) (getS (getL (getL (getL (getL (b1 (Sy.rows c)) 8) 8) 8) 8) (getS (getL (getL (getL (b1 (Sy.rows c)) 8) 8) 8) (getS (getL (getL (b1 (Sy.rows c)) 8) 8) (getS (getL (b1 (Sy.rows c)) 8) (getS (b1 (Sy.rows c)) false 8) 8) 8) 8) 8) 8) 8) 8) 8) 8) = D at hd ⊢
 have r0 := s6_rd (b1 (Sy.rows c)) 0
 simp only [itP] at r0
 have r1 := s6_rd (b1 (Sy.rows c)) 1
 simp only [itP] at r1
 have r2 := s6_rd (b1 (Sy.rows c)) 2
 simp only [itP] at r2
 have r3 := s6_rd (b1 (Sy.rows c)) 3
 simp only [itP] at r3
 have r4 := s6_rd (b1 (Sy.rows c)) 4
 simp only [itP] at r4
 have r5 := s6_rd (b1 (Sy.rows c)) 5
 simp only [itP] at r5
 have r6 := s6_rd (b1 (Sy.rows c)) 6
 simp only [itP] at r6
 have r7 := s6_rd (b1 (Sy.rows c)) 7
 simp only [itP] at r7
 have r8 := s6_rd (b1 (Sy.rows c)) 8
 simp only [itP] at r8
 have r9 := s6_rd (b1 (Sy.rows c)) 9
 simp only [itP] at r9
 simp only [r0, r1, r2, r3, r4, r5, r6, r7, r8, r9]
 refine ⟨?_, fun h0 => ?_⟩
 refine ?a0; rotate_left
 refine ⟨fun h1 => ?_, fun h1 => ?_⟩
 refine ?a1; rotate_left
 refine ⟨?_, fun h2 => ?_⟩
 refine ?a2; rotate_left
 refine ⟨?_, fun h3 => ?_⟩
 refine ?a3; rotate_left
 refine ⟨?_, fun h4 => ?_⟩
 refine ?a4; rotate_left
 refine ⟨?_, fun h5 => ?_⟩
 refine ?a5; rotate_left
 refine ⟨?_, fun h6 => ?_⟩
 refine ?a6; rotate_left
 refine ⟨?_, fun h7 => ?_⟩
 refine ?a7; rotate_left
 refine ⟨?_, fun h8 => ?_⟩
 refine ?a8; rotate_left
 refine ⟨?_, fun h9 => ?_⟩
 refine ?a9; rotate_left
 refine ⟨?_, fun h10 => ?_⟩
 refine ?a10; rotate_left
 refine ⟨?_, fun h11 => ?_⟩
 refine ?a11; rotate_left
 refine ⟨?_, fun h12 => ?_⟩
 refine ?a12; rotate_left
 refine ⟨?_, fun h13 => ?_⟩
 refine ?a13; rotate_left
 refine ⟨fun h14 => ?_, fun h14 => ?_⟩
 refine ?a14; rotate_left
 refine ⟨?_, fun h15 => ?_⟩
 refine ?a15; rotate_left
 refine ⟨fun h16 => ?_, fun h16 => ?_⟩
 refine ?a16; rotate_left
 refine ⟨?_, fun h17 => ?_⟩
 refine ?a17; rotate_left
 refine ⟨fun h18 => ?_, fun h18 => ?_⟩
 refine ?a18; rotate_left
 refine ?a19; rotate_left
 case a0 | a2 | a3 | a4 | a5 | a6 | a7 | a8 | a9 | a10 | a11 | a12 | a13 | a15 | a17 =>
  first
  | (with_reducible exact okR_rl _)
  | (with_reducible exact okR_isB hB)
  | exact ⟨s6_in (wX_rng _ _), s6_in (wX_rng _ _), s6_in (wX_rng _ _), s6_in (wX_rng _ _), (wr_u32 _).2, s6_in (wX_rng _ _), (wr_u32 _).2, s6_in (wX_rng _ _), s6_in (wX_rng _ _), s6_in (wX_rng _ _)⟩
  | exact ⟨hc.1, by omega⟩
  | omega
  | skip
 case a1 | a14 | a16 | a18 | a19 =>
  first
  | (rcases s1 with ⟨n1, n2⟩ | ⟨n1, n2, n3⟩ | ⟨n1, n2, nP, n3⟩ | ⟨n1, n2, nP, n3⟩ <;> first | (exfalso; omega) | (simp only [pc_n (l := Sy.rows c) (by omega)]; rw [n2]; done) | (simp only [pc_n (l := Sy.rows c) (by omega)]; rw [n3]; done) | (simp only [pc_n (l := Sy.rows c) (by omega)]; rw [n3, ev3]; done))
  | (rcases s1 with ⟨n1, n2⟩ | ⟨n1, n2, n3⟩ | ⟨n1, n2, hP, n3⟩ | ⟨n1, n2, hP, n3⟩
     · exfalso; omega
     · exfalso; omega
     · first
       | (simp only [pc_n (l := Sy.rows c) (ne_3 n3)]; rw [n3]; done)
       | (simp only [pc_n (l := Sy.rows c) (ne_3 n3)]; rw [n3, ev3]; done)
       | (have hN : ¬ (pgL (Sy.rows (Value.tuple #[.int .i64 (s6 (wX (b1 (Sy.rows c)) 0)), .int .i64 (s6 (wX (b1 (Sy.rows c)) 1)), .int .i64 (s6 (wX (b1 (Sy.rows c)) 2)), .int .i64 (s6 (wX (b1 (Sy.rows c)) 3)), .int .u32 (IntKind.wrap .u32 (s6 (wX (b1 (Sy.rows c)) 4))), .int .i64 (s6 (wX (b1 (Sy.rows c)) 5)), .int .u32 (IntKind.wrap .u32 (s6 (wX (b1 (Sy.rows c)) 6))), .int .i64 (s6 (wX (b1 (Sy.rows c)) 7)), .int .i64 (s6 (wX (b1 (Sy.rows c)) 8)), .int .i64 (s6 (wX (b1 (Sy.rows c)) 9))])) ≠ 0) := by with_reducible assumption
          have hQ : ofP (vX (b1 (Sy.rows c))) := dec_of (wX (b1 (Sy.rows c)) 0) (wX (b1 (Sy.rows c)) 1) (wX (b1 (Sy.rows c)) 2) (wX (b1 (Sy.rows c)) 3) (wX (b1 (Sy.rows c)) 4) (wX (b1 (Sy.rows c)) 5) (wX (b1 (Sy.rows c)) 6) (wX (b1 (Sy.rows c)) 7) (wX (b1 (Sy.rows c)) 8) (wX (b1 (Sy.rows c)) 9) (wX_rng _ _) (wX_rng _ _) (wX_rng _ _) (wX_rng _ _) (Decidable.of_not_not (p := IntKind.wrap .u32 (s6 (wX (b1 (Sy.rows c)) 4)) = s6 (wX (b1 (Sy.rows c)) 4) ∧ IntKind.wrap .u32 (s6 (wX (b1 (Sy.rows c)) 6)) = s6 (wX (b1 (Sy.rows c)) 6)) (by assumption)) (Decidable.of_not_not hN)
          exact absurd hQ hP)
       | skip
     · have hA : IntKind.wrap .u32 (s6 (wX (b1 (Sy.rows c)) 4)) = s6 (wX (b1 (Sy.rows c)) 4) ∧ IntKind.wrap .u32 (s6 (wX (b1 (Sy.rows c)) 6)) = s6 (wX (b1 (Sy.rows c)) 6) := of_dec2 hP (wX_rng _ _) (wX_rng _ _)
       have hW : IntKind.wrap .u32 (s6 (wX (b1 (Sy.rows c)) 4)) = s6 (wX (b1 (Sy.rows c)) 4) ∧ IntKind.wrap .u32 (s6 (wX (b1 (Sy.rows c)) 6)) = s6 (wX (b1 (Sy.rows c)) 6) := of_dec2 hP (wX_rng _ _) (wX_rng _ _)
       first
       | (with_reducible (refine absurd hA ?_; assumption))
       | (have hG : pgL (Sy.rows (Value.tuple #[.int .i64 (s6 (wX (b1 (Sy.rows c)) 0)), .int .i64 (s6 (wX (b1 (Sy.rows c)) 1)), .int .i64 (s6 (wX (b1 (Sy.rows c)) 2)), .int .i64 (s6 (wX (b1 (Sy.rows c)) 3)), .int .u32 (IntKind.wrap .u32 (s6 (wX (b1 (Sy.rows c)) 4))), .int .i64 (s6 (wX (b1 (Sy.rows c)) 5)), .int .u32 (IntKind.wrap .u32 (s6 (wX (b1 (Sy.rows c)) 6))), .int .i64 (s6 (wX (b1 (Sy.rows c)) 7)), .int .i64 (s6 (wX (b1 (Sy.rows c)) 8)), .int .i64 (s6 (wX (b1 (Sy.rows c)) 9))])) = 0 := of_dec3 hP (wX_rng _ _) (wX_rng _ _) (wX_rng _ _) (wX_rng _ _)
          with_reducible (refine absurd hG ?_; assumption))
       | (simp only [pc_y n3, tn0, tn1, tn2, tn3, tn4, tn5, tn6, tn7, tn8, tn9, cv0, cv1, cv2, cv3, cv4, cv5, cv6, cv7, cv8, cv9, hW.1, hW.2]; rw [n3]; done)
       | (simp only [pc_y n3, tn0, tn1, tn2, tn3, tn4, tn5, tn6, tn7, tn8, tn9, cv0, cv1, cv2, cv3, cv4, cv5, cv6, cv7, cv8, cv9, hW.1, hW.2]; rw [n3, ev0]; done)
       | skip)
  | skip
theorem zyg_pdec : zyc_pdec.Good Tryz.prog syG (zyE [] [] [] []) := good_of_walk (Γ := ⟨[zb6c_open, zyc_gather, zuc_spread, zuc_pcheck], syG, [], [rc_i64, rc_done], [rc_new]⟩) (ρ := zyE [] [] [] []) sym pdec_w rfl (fun _ _ _ _ => (ok_cons (Con.Good.env (Con.Good.up (Con.Good.up (Con.Good.up zb6g_open zpup rfl) zuup rfl) zyup rfl) _ _ _ _) (ok_cons (Con.Good.env zyg_gather _ _ _ _) (ok_cons (Con.Good.env (Con.Good.up zug_spread zyup rfl) _ _ _ _) (ok_cons (Con.Good.env (Con.Good.up zug_pcheck zyup rfl) _ _ _ _) (ok_mcons (MCon.Good.env (MCon.Good.up (MCon.Good.up (MCon.Good.up (MCon.Good.up (MCon.Good.up rg_i64 z6up rfl) zb6up rfl) zpup rfl) zuup rfl) zyup rfl) _ _ _ _) (ok_mcons (MCon.Good.env (MCon.Good.up (MCon.Good.up (MCon.Good.up (MCon.Good.up (MCon.Good.up rg_done z6up rfl) zb6up rfl) zpup rfl) zuup rfl) zyup rfl) _ _ _ _) (ok_acons (ACon.Good.env (ACon.Good.up (ACon.Good.up (ACon.Good.up (ACon.Good.up (ACon.Good.up rg_new z6up rfl) zb6up rfl) zpup rfl) zuup rfl) zyup rfl) _ _ _ _) ok_nil)))))))) pdec_h
abbrev zyc_num : Con := ⟨14, [(.err v0_)], (.tt true), z0_, ⟨1, 0, 0, 0⟩, none⟩
theorem zyg_num : zyc_num.Good Tryz.prog syG (zyE [] [] [] []) := good_flat rfl rfl rfl (by
 intro n hc β ok w hG
 have hc' := hc
 simp only [Tree.holds, Sy.holds, AllN, Env.more, zyE, List.cons_append, List.nil_append, List.append_nil, denV, denI, denB, denL, I2.den, VOp.den, List.getD_cons_zero, List.getD_cons_succ, Cst.den, syso, syse, syio, sybo, List.map_nil, List.map_cons, B2.ofInts, B2.denI, B2.denB, if_true, Bool.false_eq_true, if_false, Nat.div_one, Nat.mul_one, Nat.add_zero, holds] at hc
 exact num19_any n w (hG _ (List.mem_singleton.2 rfl)).2.2)
def give19_tree : Tree :=
 (.ret xrzypgbk10_)
abbrev zyc_give19 : Con := ⟨10, [xrzypgbk10_], (.tt true), xrzypgbk10_, ⟨10, 0, 0, 0⟩, none⟩
theorem give19_w : walk Tryz.prog 111 ⟨[], syG, [], [], []⟩ [] .v zyc_give19 zyc_give19.n 3000 = some give19_tree := by kernel_rfl
theorem give19_h (pe pb pt pr gm gs qm qs pp pc : Int) : Hyp_ zyc_give19 give19_tree (zyE [pe, pb, pt, pr, gm, gs, qm, qs, pp, pc] [] [] []) := by
 intro hc hty
 simp only [zyc_give19, Sy.holds, zyE, denV, denI, denB, denL, I2.den, VOp.den, List.getD_cons_zero, List.getD_cons_succ, Cst.den, syso, syse, syio, sybo, B2.ofInts, B2.denI, B2.denB, if_true, Bool.false_eq_true, if_false, Nat.div_one, Nat.mul_one, Nat.add_zero] at hc
 simp only [zyc_give19, patsTyp, patTyp, patTypL, zyE, denV, denL, List.getD_cons_zero, List.getD_cons_succ, and_true, true_and] at hty
 unfold give19_tree
 simp only [zyc_give19, Tree.holds, Sy.holds, zyE, denV, denI, denB, denL, I2.den, VOp.den, List.getD_cons_zero, List.getD_cons_succ, Cst.den, syso, syse, syio, sybo, B2.ofInts, B2.denI, B2.denB, if_true, Bool.false_eq_true, if_false, Nat.div_one, Nat.mul_one, Nat.add_zero]
 all_goals first | omega | rfl | (simp only [Value.tuple.injEq, Value.agg.injEq, Value.int.injEq, Value.bool.injEq, Array.mk.injEq, List.cons.injEq, true_and, and_true]; omega) | (refine congrArg Value.bool (Bool.eq_iff_iff.2 ?_); simp only [beq_iff_eq, decide_eq_true_eq, true_iff, false_iff, Bool.false_eq_true, Bool.not_eq_true', Bool.and_eq_true, Bool.or_eq_true, decide_eq_false_iff_not]; omega)
theorem zyg_give19 : zyc_give19.Good Tryz.prog syG (zyE [] [] [] []) := good_of_walk (Γ := ⟨[], syG, [], [], []⟩) (ρ := zyE [] [] [] []) sym give19_w rfl (fun _ _ _ _ => ok_nil) give19_h
end Go.Proofs.YtgondiedehjkhaaGreatDoor
