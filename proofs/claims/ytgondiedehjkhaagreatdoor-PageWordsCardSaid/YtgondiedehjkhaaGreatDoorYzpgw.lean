/-
 Layer 19 by the second engine: PageBack.
-/
import Derived.Test.YtgondiedehjkhaaGreatDoorSycpgw
import Derived.Test.YtgondiedehjkhaaGreatDoorZa9pgw
import Derived.Test.YtgondiedehjkhaaGreatDoorE00pgw
import Derived.Test.YtgondiedehjkhaaGreatDoorNumpgw
namespace Go.Proofs.YtgondiedehjkhaaGreatDoor
open Go.RowKit Go.Extern.Stop Go.Stop Go.Extern Go.Proofs.YtgondiedehjkhaaGreatDoor.Sy
set_option linter.unusedVariables false
set_option linter.unusedSimpArgs false
abbrev xryzpgwk0_ : Tm := (.tup (.cons (.int .i64 (wr_ v1_)) (.cons (.int .i64 (wr_ v2_)) (.cons (.int .i64 (wr_ v3_)) (.cons (.int .i64 (wr_ v4_)) (.cons (.int .u32 (.wrap .u32 (wr_ v5_))) (.cons (.int .i64 (wr_ v6_)) (.cons (.int .u32 (.wrap .u32 (wr_ v7_))) (.cons (.int .i64 (wr_ v8_)) (.cons (.int .i64 (wr_ v9_)) (.cons (.int .i64 (wr_ (.var 10))) .nil)))))))))))
abbrev xryzpgwk1_ : Tm := (.tup (.cons (.int .u64 v0_) (.cons (.int .u64 v1_) (.cons (.int .u64 v2_) (.cons (.int .u64 v3_) (.cons (.int .u64 v4_) (.cons (.int .u64 v5_) (.cons (.int .u64 v6_) (.cons (.int .u64 v7_) (.cons (.int .u64 v8_) (.cons (.int .u64 v9_) (.cons (.int .u64 (.var 10)) (.cons (.int .u64 (.var 11)) (.cons (.int .u64 (.var 12)) (.cons (.int .u64 (.var 13)) (.cons (.int .u64 (.var 14)) (.cons (.int .u64 (.var 15)) .nil)))))))))))))))))
abbrev xryzpgwk2_ : Tm := (.tup (.cons z0_ (.cons z1_ (.cons z2_ (.cons z3_ (.cons (.int .u32 v4_) (.cons z5_ (.cons (.int .u32 v6_) (.cons z7_ (.cons z8_ (.cons z9_ .nil)))))))))))
abbrev xryzpgwk3_ : Tm := (.agg (.cons (.int .i64 (.lit 0)) (.cons (.int .i64 (.lit 0)) (.cons (.int .i64 (.lit 0)) (.cons (.int .i64 (.lit 0)) (.cons (.int .u32 (.lit 0)) (.cons (.int .i64 (.lit 0)) (.cons (.int .u32 (.lit 0)) (.cons (.int .i64 (.lit 0)) (.cons (.int .i64 (.lit 0)) (.cons (.int .i64 (.lit 0)) .nil)))))))))))
abbrev xryzpgwk4_ : Tm := (an_ (an_ (le_ lm_ v0_) (le_ v0_ lM_)) (an_ (an_ (le_ lm_ v1_) (le_ v1_ lM_)) (an_ (an_ (le_ lm_ v2_) (le_ v2_ lM_)) (an_ (an_ (le_ lm_ v3_) (le_ v3_ lM_)) (an_ (an_ (le_ (.lit 0) v4_) (le_ v4_ (.lit 4294967295))) (an_ (an_ (le_ lm_ v5_) (le_ v5_ lM_)) (an_ (an_ (le_ (.lit 0) v6_) (le_ v6_ (.lit 4294967295))) (an_ (an_ (le_ lm_ v7_) (le_ v7_ lM_)) (an_ (an_ (le_ lm_ v8_) (le_ v8_ lM_)) (an_ (le_ lm_ v9_) (le_ v9_ lM_)))))))))))
def laW (l : List Value) (q : Int) (k : Nat) : Int := if pgB l = true then wdK l q k else 0
theorem la_y {l : List Value} (h : pgB l = true) (q : Int) (k : Nat) : laW l q k = wdK l q k := by unfold laW; rw [if_pos h]
theorem la_n {l : List Value} (h : pgB l = false) (q : Int) (k : Nat) : laW l q k = 0 := by unfold laW; rw [h, if_neg (by decide)]
theorem u6_s6 {x : Int} (h0 : 0 ≤ x) (h1 : x ≤ 18446744073709551615) : u6 (s6 x) = x := by
 have := s6_spec x
 unfold u6
 split <;> omega
abbrev suT (l : List Value) : Int := wsI [.int .u64 (ci l 1), .int .u64 (ci l 2), .int .u64 (ci l 3), .int .u64 (ci l 4), .int .u64 (ci l 5), .int .u64 (ci l 6), .int .u64 (ci l 7), .int .u64 (ci l 8), .int .u64 (ci l 9), .int .u64 (ci l 10), .int .u64 (ci l 11), .int .u64 (ci l 12), .int .u64 (ci l 13), .int .u64 (ci l 14)]
def rdP (l : List Value) : Prop := ci l 5 ≤ 4294967295 ∧ ci l 7 ≤ 4294967295 ∧ ci l 11 = 0 ∧ ci l 12 = 0 ∧ ci l 13 = 0 ∧ ci l 14 = 0 ∧ pgP (s6 (ci l 1)) (s6 (ci l 2)) (s6 (ci l 3)) (s6 (ci l 4)) (ci l 5) (s6 (ci l 6)) (ci l 7) (s6 (ci l 8)) (s6 (ci l 9)) (s6 (ci l 10))
instance (l : List Value) : Decidable (rdP l) := by unfold rdP; infer_instance
def rdE (l : List Value) : Int := if ci l 0 % 2 = 1 then 15 else if ci l 15 ≠ suT l then 4 else if rdP l then 0 else 3
def rdN (l : List Value) (k : Nat) : Int := if rdE l = 0 then s6 (ci l (k + 1)) else 0
theorem rd_spec (l : List Value) : (ci l 0 % 2 = 1 ∧ rdE l = 15 ∧ ∀ k, rdN l k = 0) ∨ (ci l 0 % 2 ≠ 1 ∧ ci l 15 ≠ suT l ∧ rdE l = 4 ∧ ∀ k, rdN l k = 0) ∨ (ci l 0 % 2 ≠ 1 ∧ ci l 15 = suT l ∧ ¬ rdP l ∧ rdE l = 3 ∧ ∀ k, rdN l k = 0) ∨ (ci l 0 % 2 ≠ 1 ∧ ci l 15 = suT l ∧ rdP l ∧ rdE l = 0 ∧ ∀ k, rdN l k = s6 (ci l (k + 1))) := by
 by_cases h1 : ci l 0 % 2 = 1
 · have e : rdE l = 15 := by unfold rdE; rw [if_pos h1]
   exact .inl ⟨h1, e, fun k => by unfold rdN; rw [e]; rfl⟩
 · by_cases h2 : ci l 15 = suT l
   · by_cases h3 : rdP l
     · have e : rdE l = 0 := by unfold rdE; rw [if_neg h1, if_neg (not_not_intro h2), if_pos h3]
       exact .inr (.inr (.inr ⟨h1, h2, h3, e, fun k => by unfold rdN; rw [e]; rfl⟩))
     · have e : rdE l = 3 := by unfold rdE; rw [if_neg h1, if_neg (not_not_intro h2), if_neg h3]
       exact .inr (.inr (.inl ⟨h1, h2, h3, e, fun k => by unfold rdN; rw [e]; rfl⟩))
   · have e : rdE l = 4 := by unfold rdE; rw [if_neg h1, if_pos h2]
     exact .inr (.inl ⟨h1, h2, e, fun k => by unfold rdN; rw [e]; rfl⟩)
abbrev rdC (w0 w1 w2 w3 w4 w5 w6 w7 w8 w9 w10 w11 w12 w13 w14 w15 : Int) : Prop := w5 ≤ 4294967295 ∧ w7 ≤ 4294967295 ∧ w11 = 0 ∧ w12 = 0 ∧ w13 = 0 ∧ w14 = 0 ∧ pgP (s6 w1) (s6 w2) (s6 w3) (s6 w4) w5 (s6 w6) w7 (s6 w8) (s6 w9) (s6 w10)
theorem rd_15 (w0 w1 w2 w3 w4 w5 w6 w7 w8 w9 w10 w11 w12 w13 w14 w15 : Int) (h : w0 % 2 = 1) : rdE (Sy.rows (Value.tuple #[.int .u64 w0, .int .u64 w1, .int .u64 w2, .int .u64 w3, .int .u64 w4, .int .u64 w5, .int .u64 w6, .int .u64 w7, .int .u64 w8, .int .u64 w9, .int .u64 w10, .int .u64 w11, .int .u64 w12, .int .u64 w13, .int .u64 w14, .int .u64 w15])) = 15 ∧ ∀ k, rdN (Sy.rows (Value.tuple #[.int .u64 w0, .int .u64 w1, .int .u64 w2, .int .u64 w3, .int .u64 w4, .int .u64 w5, .int .u64 w6, .int .u64 w7, .int .u64 w8, .int .u64 w9, .int .u64 w10, .int .u64 w11, .int .u64 w12, .int .u64 w13, .int .u64 w14, .int .u64 w15])) k = 0 := by
 rcases rd_spec (Sy.rows (Value.tuple #[.int .u64 w0, .int .u64 w1, .int .u64 w2, .int .u64 w3, .int .u64 w4, .int .u64 w5, .int .u64 w6, .int .u64 w7, .int .u64 w8, .int .u64 w9, .int .u64 w10, .int .u64 w11, .int .u64 w12, .int .u64 w13, .int .u64 w14, .int .u64 w15])) with h1 | h1 | h1 | h1
 · exact ⟨h1.2.1, h1.2.2⟩
 · exact absurd h h1.1
 · exact absurd h h1.1
 · exact absurd h h1.1
theorem rd_4 (w0 w1 w2 w3 w4 w5 w6 w7 w8 w9 w10 w11 w12 w13 w14 w15 : Int) (h : ¬ w0 % 2 = 1) (h2 : ¬ w15 = wsI (Sy.rows (Value.tuple #[.int .u64 w1, .int .u64 w2, .int .u64 w3, .int .u64 w4, .int .u64 w5, .int .u64 w6, .int .u64 w7, .int .u64 w8, .int .u64 w9, .int .u64 w10, .int .u64 w11, .int .u64 w12, .int .u64 w13, .int .u64 w14]))) : rdE (Sy.rows (Value.tuple #[.int .u64 w0, .int .u64 w1, .int .u64 w2, .int .u64 w3, .int .u64 w4, .int .u64 w5, .int .u64 w6, .int .u64 w7, .int .u64 w8, .int .u64 w9, .int .u64 w10, .int .u64 w11, .int .u64 w12, .int .u64 w13, .int .u64 w14, .int .u64 w15])) = 4 ∧ ∀ k, rdN (Sy.rows (Value.tuple #[.int .u64 w0, .int .u64 w1, .int .u64 w2, .int .u64 w3, .int .u64 w4, .int .u64 w5, .int .u64 w6, .int .u64 w7, .int .u64 w8, .int .u64 w9, .int .u64 w10, .int .u64 w11, .int .u64 w12, .int .u64 w13, .int .u64 w14, .int .u64 w15])) k = 0 := by
 rcases rd_spec (Sy.rows (Value.tuple #[.int .u64 w0, .int .u64 w1, .int .u64 w2, .int .u64 w3, .int .u64 w4, .int .u64 w5, .int .u64 w6, .int .u64 w7, .int .u64 w8, .int .u64 w9, .int .u64 w10, .int .u64 w11, .int .u64 w12, .int .u64 w13, .int .u64 w14, .int .u64 w15])) with h1 | h1 | h1 | h1
 · exact absurd h1.1 h
 · exact h1.2.2
 · exact absurd h1.2.1 h2
 · exact absurd h1.2.1 h2
theorem rd_3 (w0 w1 w2 w3 w4 w5 w6 w7 w8 w9 w10 w11 w12 w13 w14 w15 : Int) (h : ¬ w0 % 2 = 1) (h2 : w15 = wsI (Sy.rows (Value.tuple #[.int .u64 w1, .int .u64 w2, .int .u64 w3, .int .u64 w4, .int .u64 w5, .int .u64 w6, .int .u64 w7, .int .u64 w8, .int .u64 w9, .int .u64 w10, .int .u64 w11, .int .u64 w12, .int .u64 w13, .int .u64 w14]))) (h3 : ¬ rdC w0 w1 w2 w3 w4 w5 w6 w7 w8 w9 w10 w11 w12 w13 w14 w15) : rdE (Sy.rows (Value.tuple #[.int .u64 w0, .int .u64 w1, .int .u64 w2, .int .u64 w3, .int .u64 w4, .int .u64 w5, .int .u64 w6, .int .u64 w7, .int .u64 w8, .int .u64 w9, .int .u64 w10, .int .u64 w11, .int .u64 w12, .int .u64 w13, .int .u64 w14, .int .u64 w15])) = 3 ∧ ∀ k, rdN (Sy.rows (Value.tuple #[.int .u64 w0, .int .u64 w1, .int .u64 w2, .int .u64 w3, .int .u64 w4, .int .u64 w5, .int .u64 w6, .int .u64 w7, .int .u64 w8, .int .u64 w9, .int .u64 w10, .int .u64 w11, .int .u64 w12, .int .u64 w13, .int .u64 w14, .int .u64 w15])) k = 0 := by
 rcases rd_spec (Sy.rows (Value.tuple #[.int .u64 w0, .int .u64 w1, .int .u64 w2, .int .u64 w3, .int .u64 w4, .int .u64 w5, .int .u64 w6, .int .u64 w7, .int .u64 w8, .int .u64 w9, .int .u64 w10, .int .u64 w11, .int .u64 w12, .int .u64 w13, .int .u64 w14, .int .u64 w15])) with h1 | h1 | h1 | h1
 · exact absurd h1.1 h
 · exact absurd h2 h1.2.1
 · exact h1.2.2.2
 · exact absurd h1.2.2.1 h3
theorem rd_0 (w0 w1 w2 w3 w4 w5 w6 w7 w8 w9 w10 w11 w12 w13 w14 w15 : Int) (h : ¬ w0 % 2 = 1) (h2 : w15 = wsI (Sy.rows (Value.tuple #[.int .u64 w1, .int .u64 w2, .int .u64 w3, .int .u64 w4, .int .u64 w5, .int .u64 w6, .int .u64 w7, .int .u64 w8, .int .u64 w9, .int .u64 w10, .int .u64 w11, .int .u64 w12, .int .u64 w13, .int .u64 w14]))) (h3 : rdC w0 w1 w2 w3 w4 w5 w6 w7 w8 w9 w10 w11 w12 w13 w14 w15) : rdE (Sy.rows (Value.tuple #[.int .u64 w0, .int .u64 w1, .int .u64 w2, .int .u64 w3, .int .u64 w4, .int .u64 w5, .int .u64 w6, .int .u64 w7, .int .u64 w8, .int .u64 w9, .int .u64 w10, .int .u64 w11, .int .u64 w12, .int .u64 w13, .int .u64 w14, .int .u64 w15])) = 0 ∧ rdN (Sy.rows (Value.tuple #[.int .u64 w0, .int .u64 w1, .int .u64 w2, .int .u64 w3, .int .u64 w4, .int .u64 w5, .int .u64 w6, .int .u64 w7, .int .u64 w8, .int .u64 w9, .int .u64 w10, .int .u64 w11, .int .u64 w12, .int .u64 w13, .int .u64 w14, .int .u64 w15])) (Int.toNat 0) = s6 w1 ∧ rdN (Sy.rows (Value.tuple #[.int .u64 w0, .int .u64 w1, .int .u64 w2, .int .u64 w3, .int .u64 w4, .int .u64 w5, .int .u64 w6, .int .u64 w7, .int .u64 w8, .int .u64 w9, .int .u64 w10, .int .u64 w11, .int .u64 w12, .int .u64 w13, .int .u64 w14, .int .u64 w15])) (Int.toNat 1) = s6 w2 ∧ rdN (Sy.rows (Value.tuple #[.int .u64 w0, .int .u64 w1, .int .u64 w2, .int .u64 w3, .int .u64 w4, .int .u64 w5, .int .u64 w6, .int .u64 w7, .int .u64 w8, .int .u64 w9, .int .u64 w10, .int .u64 w11, .int .u64 w12, .int .u64 w13, .int .u64 w14, .int .u64 w15])) (Int.toNat 2) = s6 w3 ∧ rdN (Sy.rows (Value.tuple #[.int .u64 w0, .int .u64 w1, .int .u64 w2, .int .u64 w3, .int .u64 w4, .int .u64 w5, .int .u64 w6, .int .u64 w7, .int .u64 w8, .int .u64 w9, .int .u64 w10, .int .u64 w11, .int .u64 w12, .int .u64 w13, .int .u64 w14, .int .u64 w15])) (Int.toNat 3) = s6 w4 ∧ rdN (Sy.rows (Value.tuple #[.int .u64 w0, .int .u64 w1, .int .u64 w2, .int .u64 w3, .int .u64 w4, .int .u64 w5, .int .u64 w6, .int .u64 w7, .int .u64 w8, .int .u64 w9, .int .u64 w10, .int .u64 w11, .int .u64 w12, .int .u64 w13, .int .u64 w14, .int .u64 w15])) (Int.toNat 4) = w5 ∧ rdN (Sy.rows (Value.tuple #[.int .u64 w0, .int .u64 w1, .int .u64 w2, .int .u64 w3, .int .u64 w4, .int .u64 w5, .int .u64 w6, .int .u64 w7, .int .u64 w8, .int .u64 w9, .int .u64 w10, .int .u64 w11, .int .u64 w12, .int .u64 w13, .int .u64 w14, .int .u64 w15])) (Int.toNat 5) = s6 w6 ∧ rdN (Sy.rows (Value.tuple #[.int .u64 w0, .int .u64 w1, .int .u64 w2, .int .u64 w3, .int .u64 w4, .int .u64 w5, .int .u64 w6, .int .u64 w7, .int .u64 w8, .int .u64 w9, .int .u64 w10, .int .u64 w11, .int .u64 w12, .int .u64 w13, .int .u64 w14, .int .u64 w15])) (Int.toNat 6) = w7 ∧ rdN (Sy.rows (Value.tuple #[.int .u64 w0, .int .u64 w1, .int .u64 w2, .int .u64 w3, .int .u64 w4, .int .u64 w5, .int .u64 w6, .int .u64 w7, .int .u64 w8, .int .u64 w9, .int .u64 w10, .int .u64 w11, .int .u64 w12, .int .u64 w13, .int .u64 w14, .int .u64 w15])) (Int.toNat 7) = s6 w8 ∧ rdN (Sy.rows (Value.tuple #[.int .u64 w0, .int .u64 w1, .int .u64 w2, .int .u64 w3, .int .u64 w4, .int .u64 w5, .int .u64 w6, .int .u64 w7, .int .u64 w8, .int .u64 w9, .int .u64 w10, .int .u64 w11, .int .u64 w12, .int .u64 w13, .int .u64 w14, .int .u64 w15])) (Int.toNat 8) = s6 w9 ∧ rdN (Sy.rows (Value.tuple #[.int .u64 w0, .int .u64 w1, .int .u64 w2, .int .u64 w3, .int .u64 w4, .int .u64 w5, .int .u64 w6, .int .u64 w7, .int .u64 w8, .int .u64 w9, .int .u64 w10, .int .u64 w11, .int .u64 w12, .int .u64 w13, .int .u64 w14, .int .u64 w15])) (Int.toNat 9) = s6 w10 := by
 rcases rd_spec (Sy.rows (Value.tuple #[.int .u64 w0, .int .u64 w1, .int .u64 w2, .int .u64 w3, .int .u64 w4, .int .u64 w5, .int .u64 w6, .int .u64 w7, .int .u64 w8, .int .u64 w9, .int .u64 w10, .int .u64 w11, .int .u64 w12, .int .u64 w13, .int .u64 w14, .int .u64 w15])) with h1 | h1 | h1 | h1
 · exact absurd h1.1 h
 · exact absurd h2 h1.2.1
 · exact absurd h3 h1.2.2.1
 · have a := s6_spec w5
   have b := s6_spec w7
   have e5 : s6 w5 = w5 := by have := h3.1; omega
   have e7 : s6 w7 = w7 := by have := h3.2.1; omega
   have q := h1.2.2.2.2
   exact ⟨h1.2.2.2.1, q 0, q 1, q 2, q 3, (q 4).trans e5, q 5, (q 6).trans e7, q 7, q 8, q 9⟩
theorem rq_iff {w0 w1 w2 w3 w4 w5 w6 w7 w8 w9 w10 w11 w12 w13 w14 w15 : Int} (v1 : 0 ≤ w1 ∧ w1 ≤ 18446744073709551615) (v2 : 0 ≤ w2 ∧ w2 ≤ 18446744073709551615) (v3 : 0 ≤ w3 ∧ w3 ≤ 18446744073709551615) (v4 : 0 ≤ w4 ∧ w4 ≤ 18446744073709551615) (v5 : 0 ≤ w5 ∧ w5 ≤ 18446744073709551615) (v6 : 0 ≤ w6 ∧ w6 ≤ 18446744073709551615) (v7 : 0 ≤ w7 ∧ w7 ≤ 18446744073709551615) (v8 : 0 ≤ w8 ∧ w8 ≤ 18446744073709551615) (v9 : 0 ≤ w9 ∧ w9 ≤ 18446744073709551615) (v10 : 0 ≤ w10 ∧ w10 ≤ 18446744073709551615) (v11 : 0 ≤ w11 ∧ w11 ≤ 18446744073709551615) (v12 : 0 ≤ w12 ∧ w12 ≤ 18446744073709551615) (v13 : 0 ≤ w13 ∧ w13 ≤ 18446744073709551615) (v14 : 0 ≤ w14 ∧ w14 ≤ 18446744073709551615) (v15 : 0 ≤ w15 ∧ w15 ≤ 18446744073709551615) (hs : w15 = wsI (Sy.rows (Value.tuple #[.int .u64 w1, .int .u64 w2, .int .u64 w3, .int .u64 w4, .int .u64 w5, .int .u64 w6, .int .u64 w7, .int .u64 w8, .int .u64 w9, .int .u64 w10, .int .u64 w11, .int .u64 w12, .int .u64 w13, .int .u64 w14]))) : rdC w0 w1 w2 w3 w4 w5 w6 w7 w8 w9 w10 w11 w12 w13 w14 w15 ↔ (pgL (Sy.rows (pgT (s6 w1) (s6 w2) (s6 w3) (s6 w4) (IntKind.wrap .u32 (s6 w5)) (s6 w6) (IntKind.wrap .u32 (s6 w7)) (s6 w8) (s6 w9) (s6 w10))) = 0 ∧ (laW (Sy.rows (pgT (s6 w1) (s6 w2) (s6 w3) (s6 w4) (IntKind.wrap .u32 (s6 w5)) (s6 w6) (IntKind.wrap .u32 (s6 w7)) (s6 w8) (s6 w9) (s6 w10))) w0 (Int.toNat 0) = w0 ∧ laW (Sy.rows (pgT (s6 w1) (s6 w2) (s6 w3) (s6 w4) (IntKind.wrap .u32 (s6 w5)) (s6 w6) (IntKind.wrap .u32 (s6 w7)) (s6 w8) (s6 w9) (s6 w10))) w0 (Int.toNat 1) = w1 ∧ laW (Sy.rows (pgT (s6 w1) (s6 w2) (s6 w3) (s6 w4) (IntKind.wrap .u32 (s6 w5)) (s6 w6) (IntKind.wrap .u32 (s6 w7)) (s6 w8) (s6 w9) (s6 w10))) w0 (Int.toNat 2) = w2 ∧ laW (Sy.rows (pgT (s6 w1) (s6 w2) (s6 w3) (s6 w4) (IntKind.wrap .u32 (s6 w5)) (s6 w6) (IntKind.wrap .u32 (s6 w7)) (s6 w8) (s6 w9) (s6 w10))) w0 (Int.toNat 3) = w3 ∧ laW (Sy.rows (pgT (s6 w1) (s6 w2) (s6 w3) (s6 w4) (IntKind.wrap .u32 (s6 w5)) (s6 w6) (IntKind.wrap .u32 (s6 w7)) (s6 w8) (s6 w9) (s6 w10))) w0 (Int.toNat 4) = w4 ∧ laW (Sy.rows (pgT (s6 w1) (s6 w2) (s6 w3) (s6 w4) (IntKind.wrap .u32 (s6 w5)) (s6 w6) (IntKind.wrap .u32 (s6 w7)) (s6 w8) (s6 w9) (s6 w10))) w0 (Int.toNat 5) = w5 ∧ laW (Sy.rows (pgT (s6 w1) (s6 w2) (s6 w3) (s6 w4) (IntKind.wrap .u32 (s6 w5)) (s6 w6) (IntKind.wrap .u32 (s6 w7)) (s6 w8) (s6 w9) (s6 w10))) w0 (Int.toNat 6) = w6 ∧ laW (Sy.rows (pgT (s6 w1) (s6 w2) (s6 w3) (s6 w4) (IntKind.wrap .u32 (s6 w5)) (s6 w6) (IntKind.wrap .u32 (s6 w7)) (s6 w8) (s6 w9) (s6 w10))) w0 (Int.toNat 7) = w7 ∧ laW (Sy.rows (pgT (s6 w1) (s6 w2) (s6 w3) (s6 w4) (IntKind.wrap .u32 (s6 w5)) (s6 w6) (IntKind.wrap .u32 (s6 w7)) (s6 w8) (s6 w9) (s6 w10))) w0 (Int.toNat 8) = w8 ∧ laW (Sy.rows (pgT (s6 w1) (s6 w2) (s6 w3) (s6 w4) (IntKind.wrap .u32 (s6 w5)) (s6 w6) (IntKind.wrap .u32 (s6 w7)) (s6 w8) (s6 w9) (s6 w10))) w0 (Int.toNat 9) = w9 ∧ laW (Sy.rows (pgT (s6 w1) (s6 w2) (s6 w3) (s6 w4) (IntKind.wrap .u32 (s6 w5)) (s6 w6) (IntKind.wrap .u32 (s6 w7)) (s6 w8) (s6 w9) (s6 w10))) w0 (Int.toNat 10) = w10 ∧ laW (Sy.rows (pgT (s6 w1) (s6 w2) (s6 w3) (s6 w4) (IntKind.wrap .u32 (s6 w5)) (s6 w6) (IntKind.wrap .u32 (s6 w7)) (s6 w8) (s6 w9) (s6 w10))) w0 (Int.toNat 11) = w11 ∧ laW (Sy.rows (pgT (s6 w1) (s6 w2) (s6 w3) (s6 w4) (IntKind.wrap .u32 (s6 w5)) (s6 w6) (IntKind.wrap .u32 (s6 w7)) (s6 w8) (s6 w9) (s6 w10))) w0 (Int.toNat 12) = w12 ∧ laW (Sy.rows (pgT (s6 w1) (s6 w2) (s6 w3) (s6 w4) (IntKind.wrap .u32 (s6 w5)) (s6 w6) (IntKind.wrap .u32 (s6 w7)) (s6 w8) (s6 w9) (s6 w10))) w0 (Int.toNat 13) = w13 ∧ laW (Sy.rows (pgT (s6 w1) (s6 w2) (s6 w3) (s6 w4) (IntKind.wrap .u32 (s6 w5)) (s6 w6) (IntKind.wrap .u32 (s6 w7)) (s6 w8) (s6 w9) (s6 w10))) w0 (Int.toNat 14) = w14 ∧ laW (Sy.rows (pgT (s6 w1) (s6 w2) (s6 w3) (s6 w4) (IntKind.wrap .u32 (s6 w5)) (s6 w6) (IntKind.wrap .u32 (s6 w7)) (s6 w8) (s6 w9) (s6 w10))) w0 (Int.toNat 15) = w15)) := by
 have t5 := s6_spec w5
 have t7 := s6_spec w7
 have x5 := wr_u32 (s6 w5)
 have x7 := wr_u32 (s6 w7)
 constructor
 · intro h3
   obtain ⟨b5, b7, z11, z12, z13, z14, hp⟩ := h3
   subst z11 z12 z13 z14
   have e5 : IntKind.wrap .u32 (s6 w5) = w5 := by omega
   have e7 : IntKind.wrap .u32 (s6 w7) = w7 := by omega
   rw [e5, e7]
   have hb : pgB (Sy.rows (pgT (s6 w1) (s6 w2) (s6 w3) (s6 w4) w5 (s6 w6) w7 (s6 w8) (s6 w9) (s6 w10))) = true := decide_eq_true hp
   have hl : pgL (Sy.rows (pgT (s6 w1) (s6 w2) (s6 w3) (s6 w4) w5 (s6 w6) w7 (s6 w8) (s6 w9) (s6 w10))) = 0 := pgE_y hp
   obtain ⟨a1, a2, a3, a4, a5, a6, a7, a8, f1, f2, a11, a12, a13, a14⟩ := id hp
   unfold fmP at f1 f2
   have t1 := s6_spec w1
   have t2 := s6_spec w2
   have t4 := s6_spec w4
   have t6 := s6_spec w6
   have t8 := s6_spec w8
   have t9 := s6_spec w9
   have t10 := s6_spec w10
   have e1 : s6 w1 = w1 := by omega
   have e2 : s6 w2 = w2 := by omega
   have e4 : s6 w4 = w4 := by omega
   have e6 : s6 w6 = w6 := by omega
   have e8 : s6 w8 = w8 := by omega
   have e9 : s6 w9 = w9 := by omega
   have e10 : s6 w10 = w10 := by omega
   have e3 := u6_s6 v3.1 v3.2
   refine ⟨hl, ?_⟩
   simp only [la_y hb, wd0, wd1, wd2, wd3, wd4, wd5, wd6, wd7, wd8, wd9, wd10, wd11, wd12, wd13, wd14, wd15]
   simp only [e1, e2, e3, e4, e6, e8, e9, e10, true_and]
   exact hs.symm
 · rintro ⟨hl, hq⟩
   have hp : pgP (s6 w1) (s6 w2) (s6 w3) (s6 w4) (IntKind.wrap .u32 (s6 w5)) (s6 w6) (IntKind.wrap .u32 (s6 w7)) (s6 w8) (s6 w9) (s6 w10) := pgE_0 hl
   have hb : pgB (Sy.rows (pgT (s6 w1) (s6 w2) (s6 w3) (s6 w4) (IntKind.wrap .u32 (s6 w5)) (s6 w6) (IntKind.wrap .u32 (s6 w7)) (s6 w8) (s6 w9) (s6 w10))) = true := decide_eq_true hp
   simp only [la_y hb, wd0, wd1, wd2, wd3, wd4, wd5, wd6, wd7, wd8, wd9, wd10, wd11, wd12, wd13, wd14, wd15] at hq
   obtain ⟨q0, q1, q2, q3, q4, q5, q6, q7, q8, q9, q10, q11, q12, q13, q14, q15⟩ := hq
   rw [q5, q7] at hp
   exact ⟨by omega, by omega, q11.symm, q12.symm, q13.symm, q14.symm, hp⟩
theorem tm2 {x : Int} (h : 0 ≤ x) : x.tmod 2 = x % 2 := Int.tmod_eq_emod_of_nonneg h
def odE (q : Int) : Int := if q % 2 = 1 then 15 else 0
def gzF (e x : Int) : Int := if e = 0 then x else 0
theorem gz_y {e : Int} (h : e = 0) (x : Int) : gzF e x = x := by unfold gzF; rw [if_pos h]
theorem gz_n {e : Int} (h : ¬ e = 0) (x : Int) : gzF e x = 0 := by unfold gzF; rw [if_neg h]
noncomputable def yzI : Nat → List Value → Int
 | 31, [l, .int _ q, .int _ k] => laW (rows l) q k.toNat
 | 32, [l] => rdE (rows l)
 | 33, [l, .int _ k] => rdN (rows l) k.toNat
 | 34, [.int _ q] => odE q
 | 35, [.int _ e, .int _ x] => gzF e x
 | i, l => za9I i l
noncomputable def yzB : Nat → List Value → Bool
 | i, l => za9B i l
noncomputable def yzV : Nat → List Value → Value
 | i, l => za9V i l
noncomputable abbrev yzE (iv : List Int) (bv : List Bool) (vv : List Value) (sv : List ByteArray) : Env := { iv := iv, bv := bv, vv := vv, sv := sv, fi := yzI, fb := yzB, fv := yzV, et := 111 }
set_option maxHeartbeats 8000000 in
theorem yzup : Agree 31 6 13 (za9E [] [] [] []) (yzE [] [] [] []) := ⟨rfl, (by
   intro f hf
   funext l
   show yzI f l = za9I f l
   unfold yzI
   split <;> first | rfl | omega), (by
   intro f hf
   funext l
   show yzB f l = za9B f l
   unfold yzB
   split <;> first | rfl | omega), (by
   intro f hf
   funext l
   show yzV f l = za9V f l
   unfold yzV
   split <;> first | rfl | omega)⟩
theorem yzi_pge (l : Value) : yzI 24 [l] = pgL (rows l) := rfl
theorem yzi_ws (l : Value) : yzI 25 [l] = wsI (rows l) := rfl
theorem yzi_law (l : Value) (k1 : IntKind) (q : Int) (k2 : IntKind) (k : Int) : yzI 31 [l, .int k1 q, .int k2 k] = laW (rows l) q k.toNat := rfl
theorem yzi_rde (l : Value) : yzI 32 [l] = rdE (rows l) := rfl
theorem yzi_rdn (l : Value) (k1 : IntKind) (k : Int) : yzI 33 [l, .int k1 k] = rdN (rows l) k.toNat := rfl
def layt_tree : Tree :=
 (.need xryzpgwk4_
 (.br (.not (eq_ (.iapp 24 (.cons xryzpgwk2_ .nil)) (.lit 0)))
 (.ret (.tup (.cons (.agg (.cons (.int .u64 (.lit 0)) (.cons (.int .u64 (.lit 0)) (.cons (.int .u64 (.lit 0)) (.cons (.int .u64 (.lit 0)) (.cons (.int .u64 (.lit 0)) (.cons (.int .u64 (.lit 0)) (.cons (.int .u64 (.lit 0)) (.cons (.int .u64 (.lit 0)) (.cons (.int .u64 (.lit 0)) (.cons (.int .u64 (.lit 0)) (.cons (.int .u64 (.lit 0)) (.cons (.int .u64 (.lit 0)) (.cons (.int .u64 (.lit 0)) (.cons (.int .u64 (.lit 0)) (.cons (.int .u64 (.lit 0)) (.cons (.int .u64 (.lit 0)) .nil))))))))))))))))) (.cons (.err (.iapp 24 (.cons xryzpgwk2_ .nil))) .nil))))
 (.need xryzpgwk4_
 (.need (an_ (an_ (le_ (.lit 0) (.wrap .u64 v0_)) (le_ (.wrap .u64 v0_) (.lit 18446744073709551615))) (an_ (an_ (le_ (.lit 0) (.wrap .u64 v1_)) (le_ (.wrap .u64 v1_) (.lit 18446744073709551615))) (an_ (an_ (le_ (.lit 0) (.wrap .u64 v2_)) (le_ (.wrap .u64 v2_) (.lit 18446744073709551615))) (an_ (an_ (le_ (.lit 0) (.wrap .u64 v3_)) (le_ (.wrap .u64 v3_) (.lit 18446744073709551615))) (an_ (an_ (le_ (.lit 0) (.wrap .u64 v4_)) (le_ (.wrap .u64 v4_) (.lit 18446744073709551615))) (an_ (an_ (le_ (.lit 0) (.wrap .u64 v5_)) (le_ (.wrap .u64 v5_) (.lit 18446744073709551615))) (an_ (an_ (le_ (.lit 0) (.wrap .u64 v6_)) (le_ (.wrap .u64 v6_) (.lit 18446744073709551615))) (an_ (an_ (le_ (.lit 0) (.wrap .u64 v7_)) (le_ (.wrap .u64 v7_) (.lit 18446744073709551615))) (an_ (an_ (le_ (.lit 0) (.wrap .u64 v8_)) (le_ (.wrap .u64 v8_) (.lit 18446744073709551615))) (an_ (le_ (.lit 0) (.wrap .u64 v9_)) (le_ (.wrap .u64 v9_) (.lit 18446744073709551615))))))))))))
 (.ret (.tup (.cons (.agg (.cons (.int .u64 (.var 10)) (.cons (.int .u64 (.wrap .u64 v0_)) (.cons (.int .u64 (.wrap .u64 v1_)) (.cons (.int .u64 (.wrap .u64 v2_)) (.cons (.int .u64 (.wrap .u64 v3_)) (.cons (.int .u64 (.wrap .u64 v4_)) (.cons (.int .u64 (.wrap .u64 v5_)) (.cons (.int .u64 (.wrap .u64 v6_)) (.cons (.int .u64 (.wrap .u64 v7_)) (.cons (.int .u64 (.wrap .u64 v8_)) (.cons (.int .u64 (.wrap .u64 v9_)) (.cons (.int .u64 (.lit 0)) (.cons (.int .u64 (.lit 0)) (.cons (.int .u64 (.lit 0)) (.cons (.int .u64 (.lit 0)) (.cons (.int .u64 (.iapp 25 (.cons (.tup (.cons (.int .u64 (.wrap .u64 v0_)) (.cons (.int .u64 (.wrap .u64 v1_)) (.cons (.int .u64 (.wrap .u64 v2_)) (.cons (.int .u64 (.wrap .u64 v3_)) (.cons (.int .u64 (.wrap .u64 v4_)) (.cons (.int .u64 (.wrap .u64 v5_)) (.cons (.int .u64 (.wrap .u64 v6_)) (.cons (.int .u64 (.wrap .u64 v7_)) (.cons (.int .u64 (.wrap .u64 v8_)) (.cons (.int .u64 (.wrap .u64 v9_)) (.cons (.int .u64 (.lit 0)) (.cons (.int .u64 (.lit 0)) (.cons (.int .u64 (.lit 0)) (.cons (.int .u64 (.lit 0)) .nil))))))))))))))) .nil))) .nil))))))))))))))))) (.cons (.cst .nilI) .nil))))))))
abbrev yzc_layt : Con := ⟨9, [(.agg (.cons z0_ (.cons z1_ (.cons z2_ (.cons z3_ (.cons (.int .u32 v4_) (.cons z5_ (.cons (.int .u32 v6_) (.cons z7_ (.cons z8_ (.cons z9_ .nil))))))))))), (.int .u64 (.var 10))], (an_ xryzpgwk4_ (an_ (le_ (.lit 0) (.var 10)) (le_ (.var 10) (.lit 18446744073709551615)))), (.tup (.cons (.agg (.cons (.int .u64 (.iapp 31 (.cons xryzpgwk2_ (.cons (.int .u64 (.var 10)) (.cons (.int .i64 (.lit 0)) .nil))))) (.cons (.int .u64 (.iapp 31 (.cons xryzpgwk2_ (.cons (.int .u64 (.var 10)) (.cons (.int .i64 (.lit 1)) .nil))))) (.cons (.int .u64 (.iapp 31 (.cons xryzpgwk2_ (.cons (.int .u64 (.var 10)) (.cons (.int .i64 (.lit 2)) .nil))))) (.cons (.int .u64 (.iapp 31 (.cons xryzpgwk2_ (.cons (.int .u64 (.var 10)) (.cons (.int .i64 (.lit 3)) .nil))))) (.cons (.int .u64 (.iapp 31 (.cons xryzpgwk2_ (.cons (.int .u64 (.var 10)) (.cons (.int .i64 (.lit 4)) .nil))))) (.cons (.int .u64 (.iapp 31 (.cons xryzpgwk2_ (.cons (.int .u64 (.var 10)) (.cons (.int .i64 (.lit 5)) .nil))))) (.cons (.int .u64 (.iapp 31 (.cons xryzpgwk2_ (.cons (.int .u64 (.var 10)) (.cons (.int .i64 (.lit 6)) .nil))))) (.cons (.int .u64 (.iapp 31 (.cons xryzpgwk2_ (.cons (.int .u64 (.var 10)) (.cons (.int .i64 (.lit 7)) .nil))))) (.cons (.int .u64 (.iapp 31 (.cons xryzpgwk2_ (.cons (.int .u64 (.var 10)) (.cons (.int .i64 (.lit 8)) .nil))))) (.cons (.int .u64 (.iapp 31 (.cons xryzpgwk2_ (.cons (.int .u64 (.var 10)) (.cons (.int .i64 (.lit 9)) .nil))))) (.cons (.int .u64 (.iapp 31 (.cons xryzpgwk2_ (.cons (.int .u64 (.var 10)) (.cons (.int .i64 (.lit 10)) .nil))))) (.cons (.int .u64 (.iapp 31 (.cons xryzpgwk2_ (.cons (.int .u64 (.var 10)) (.cons (.int .i64 (.lit 11)) .nil))))) (.cons (.int .u64 (.iapp 31 (.cons xryzpgwk2_ (.cons (.int .u64 (.var 10)) (.cons (.int .i64 (.lit 12)) .nil))))) (.cons (.int .u64 (.iapp 31 (.cons xryzpgwk2_ (.cons (.int .u64 (.var 10)) (.cons (.int .i64 (.lit 13)) .nil))))) (.cons (.int .u64 (.iapp 31 (.cons xryzpgwk2_ (.cons (.int .u64 (.var 10)) (.cons (.int .i64 (.lit 14)) .nil))))) (.cons (.int .u64 (.iapp 31 (.cons xryzpgwk2_ (.cons (.int .u64 (.var 10)) (.cons (.int .i64 (.lit 15)) .nil))))) .nil))))))))))))))))) (.cons (.err (.iapp 24 (.cons xryzpgwk2_ .nil))) .nil))), ⟨11, 0, 0, 0⟩, none⟩
theorem layt_w : walk Tryz.prog 111 ⟨[zuc_pcheck, zuc_spread, zuc_psum], syG, [], [], []⟩ [] .v yzc_layt yzc_layt.n 3000 = some layt_tree := by kernel_rfl
theorem layt_h (pe pb pt pr gm gs qm qs pp pc q : Int) : Hyp_ yzc_layt layt_tree (yzE [pe, pb, pt, pr, gm, gs, qm, qs, pp, pc, q] [] [] []) := by
 intro hc hty
 simp only [yzc_layt, Sy.holds, yzE, denV, denI, denB, denL, I2.den, VOp.den, List.getD_cons_zero, List.getD_cons_succ, Cst.den, syso, syse, syio, sybo, B2.ofInts, B2.denI, B2.denB, if_true, Bool.false_eq_true, if_false, Nat.div_one, Nat.mul_one, Nat.add_zero] at hc
 simp only [yzc_layt, patsTyp, patTyp, patTypL, yzE, denV, denL, List.getD_cons_zero, List.getD_cons_succ, and_true, true_and] at hty
 unfold layt_tree
 simp only [yzc_layt, Tree.holds, Sy.holds, yzE, denV, denI, denB, denL, I2.den, VOp.den, List.getD_cons_zero, List.getD_cons_succ, Cst.den, syso, syse, syio, sybo, yzi_pge, yzi_ws, yzi_law, B2.ofInts, B2.denI, B2.denB, if_true, Bool.false_eq_true, if_false, Nat.div_one, Nat.mul_one, Nat.add_zero]
 rcases pg_or (Sy.rows (pgT pe pb pt pr gm gs qm qs pp pc)) with ⟨q1, q2⟩ | ⟨q1, q2⟩
 all_goals
  simp only [pgT] at q1 q2
  refine ⟨?_, fun h0 => ?_⟩
  rotate_left
  refine ⟨fun h1 => ?_, fun h1 => ?_⟩
  rotate_left
  refine ⟨?_, fun h2 => ?_⟩
  rotate_left
  first | have hw0 : IntKind.wrap .u64 pe = pe := by (have hwx := wr_u64 pe; omega) | have wf0 := wr_u64 pe
  first | have hw1 : IntKind.wrap .u64 pb = pb := by (have hwx := wr_u64 pb; omega) | have wf1 := wr_u64 pb
  first | have hw2 : IntKind.wrap .u64 pt = pt := by (have hwx := wr_u64 pt; omega) | have wf2 := wr_u64 pt
  first | have hw3 : IntKind.wrap .u64 pr = pr := by (have hwx := wr_u64 pr; omega) | have wf3 := wr_u64 pr
  first | have hw4 : IntKind.wrap .u64 gm = gm := by (have hwx := wr_u64 gm; omega) | have wf4 := wr_u64 gm
  first | have hw5 : IntKind.wrap .u64 gs = gs := by (have hwx := wr_u64 gs; omega) | have wf5 := wr_u64 gs
  first | have hw6 : IntKind.wrap .u64 qm = qm := by (have hwx := wr_u64 qm; omega) | have wf6 := wr_u64 qm
  first | have hw7 : IntKind.wrap .u64 qs = qs := by (have hwx := wr_u64 qs; omega) | have wf7 := wr_u64 qs
  first | have hw8 : IntKind.wrap .u64 pp = pp := by (have hwx := wr_u64 pp; omega) | have wf8 := wr_u64 pp
  first | have hw9 : IntKind.wrap .u64 pc = pc := by (have hwx := wr_u64 pc; omega) | have wf9 := wr_u64 pc
  refine ⟨?_, fun h3 => ?_⟩
  rotate_left
  try simp only [hw9]
  try simp only [hw8]
  try simp only [hw7]
  try simp only [hw6]
  try simp only [hw5]
  try simp only [hw4]
  try simp only [hw3]
  try simp only [hw2]
  try simp only [hw1]
  try simp only [hw0]
  rotate_left
 all_goals first
 | exact True.intro
 | (show @Eq Value _ _
    first
    | (exfalso; omega)
    | exact absurd q2 (by assumption)
    | (simp only [la_n q1, q2]
       first | done | rfl)
    | (have hp : pgP pe pb pt pr gm gs qm qs pp pc := of_decide_eq_true q1
       obtain ⟨a1, a2, a3, a4, a5, a6, a7, a8, f1, f2, a11, a12, a13, a14⟩ := id hp
       unfold fmP at f1 f2
       have ht := u6_wrap (x := pt) (by omega) (by omega)
       have g_pe : IntKind.wrap .u64 pe = pe := by have := wr_u64 pe; omega
       have g_pb : IntKind.wrap .u64 pb = pb := by have := wr_u64 pb; omega
       have g_pr : IntKind.wrap .u64 pr = pr := by have := wr_u64 pr; omega
       have g_gs : IntKind.wrap .u64 gs = gs := by have := wr_u64 gs; omega
       have g_qs : IntKind.wrap .u64 qs = qs := by have := wr_u64 qs; omega
       have g_pp : IntKind.wrap .u64 pp = pp := by have := wr_u64 pp; omega
       have g_pc : IntKind.wrap .u64 pc = pc := by have := wr_u64 pc; omega
       simp only [la_y q1, q2]
       simp only [g_pe, g_pb, g_pr, g_gs, g_qs, g_pp, g_pc, wd0, wd1, wd2, wd3, wd4, wd5, wd6, wd7, wd8, wd9, wd10, wd11, wd12, wd13, wd14, wd15, rows_tup, ht]
       first | done | rfl)
    | skip
    done)
 | (skip
    first
    | omega
    | exact hc.1
    | (exfalso; omega)
    | (have hp : pgP pe pb pt pr gm gs qm qs pp pc := of_decide_eq_true q1
       obtain ⟨a1, a2, a3, a4, a5, a6, a7, a8, f1, f2, a11, a12, a13, a14⟩ := id hp
       unfold fmP at f1 f2
       have ht := u6_wrap (x := pt) (by omega) (by omega)
       have hu : 0 ≤ u6 pt ∧ u6 pt ≤ 18446744073709551615 := by unfold u6; split <;> omega
       simp only [ht]
       omega)
    | skip
    done)
theorem yzg_layt : yzc_layt.Good Tryz.prog syG (yzE [] [] [] []) := good_of_walk (Γ := ⟨[zuc_pcheck, zuc_spread, zuc_psum], syG, [], [], []⟩) (ρ := yzE [] [] [] []) sym layt_w rfl (fun _ _ _ _ => (ok_cons (Con.Good.env (Con.Good.up (Con.Good.up (Con.Good.up zug_pcheck zyup rfl) za9up rfl) yzup rfl) _ _ _ _) (ok_cons (Con.Good.env (Con.Good.up (Con.Good.up (Con.Good.up zug_spread zyup rfl) za9up rfl) yzup rfl) _ _ _ _) (ok_cons (Con.Good.env (Con.Good.up (Con.Good.up (Con.Good.up zug_psum zyup rfl) za9up rfl) yzup rfl) _ _ _ _) ok_nil)))) layt_h
def read_tree : Tree :=
 (.br (eq_ (.i2 .rem v0_ (.lit 2)) (.lit 1))
 (.ret (.tup (.cons xryzpgwk3_ (.cons (.iface 111 (.int .i64 (.lit 15))) .nil))))
 (.need (an_ (an_ (le_ (.lit 0) v1_) (le_ v1_ (.lit 18446744073709551615))) (an_ (an_ (le_ (.lit 0) v2_) (le_ v2_ (.lit 18446744073709551615))) (an_ (an_ (le_ (.lit 0) v3_) (le_ v3_ (.lit 18446744073709551615))) (an_ (an_ (le_ (.lit 0) v4_) (le_ v4_ (.lit 18446744073709551615))) (an_ (an_ (le_ (.lit 0) v5_) (le_ v5_ (.lit 18446744073709551615))) (an_ (an_ (le_ (.lit 0) v6_) (le_ v6_ (.lit 18446744073709551615))) (an_ (an_ (le_ (.lit 0) v7_) (le_ v7_ (.lit 18446744073709551615))) (an_ (an_ (le_ (.lit 0) v8_) (le_ v8_ (.lit 18446744073709551615))) (an_ (an_ (le_ (.lit 0) v9_) (le_ v9_ (.lit 18446744073709551615))) (an_ (an_ (le_ (.lit 0) (.var 10)) (le_ (.var 10) (.lit 18446744073709551615))) (an_ (an_ (le_ (.lit 0) (.var 11)) (le_ (.var 11) (.lit 18446744073709551615))) (an_ (an_ (le_ (.lit 0) (.var 12)) (le_ (.var 12) (.lit 18446744073709551615))) (an_ (an_ (le_ (.lit 0) (.var 13)) (le_ (.var 13) (.lit 18446744073709551615))) (an_ (le_ (.lit 0) (.var 14)) (le_ (.var 14) (.lit 18446744073709551615))))))))))))))))
 (.br (.not (eq_ (.var 15) (.iapp 25 (.cons (.tup (.cons (.int .u64 v1_) (.cons (.int .u64 v2_) (.cons (.int .u64 v3_) (.cons (.int .u64 v4_) (.cons (.int .u64 v5_) (.cons (.int .u64 v6_) (.cons (.int .u64 v7_) (.cons (.int .u64 v8_) (.cons (.int .u64 v9_) (.cons (.int .u64 (.var 10)) (.cons (.int .u64 (.var 11)) (.cons (.int .u64 (.var 12)) (.cons (.int .u64 (.var 13)) (.cons (.int .u64 (.var 14)) .nil))))))))))))))) .nil))))
 (.ret (.tup (.cons xryzpgwk3_ (.cons (.iface 111 (.int .i64 (.lit 4))) .nil))))
 (.need (an_ (an_ (an_ (le_ lm_ (wr_ v1_)) (le_ (wr_ v1_) lM_)) (an_ (an_ (le_ lm_ (wr_ v2_)) (le_ (wr_ v2_) lM_)) (an_ (an_ (le_ lm_ (wr_ v3_)) (le_ (wr_ v3_) lM_)) (an_ (an_ (le_ lm_ (wr_ v4_)) (le_ (wr_ v4_) lM_)) (an_ (an_ (le_ (.lit 0) (.wrap .u32 (wr_ v5_))) (le_ (.wrap .u32 (wr_ v5_)) (.lit 4294967295))) (an_ (an_ (le_ lm_ (wr_ v6_)) (le_ (wr_ v6_) lM_)) (an_ (an_ (le_ (.lit 0) (.wrap .u32 (wr_ v7_))) (le_ (.wrap .u32 (wr_ v7_)) (.lit 4294967295))) (an_ (an_ (le_ lm_ (wr_ v8_)) (le_ (wr_ v8_) lM_)) (an_ (an_ (le_ lm_ (wr_ v9_)) (le_ (wr_ v9_) lM_)) (an_ (le_ lm_ (wr_ (.var 10))) (le_ (wr_ (.var 10)) lM_))))))))))) (an_ (le_ (.lit 0) v0_) (le_ v0_ (.lit 18446744073709551615))))
 (.br (.not (eq_ (.iapp 24 (.cons xryzpgwk0_ .nil)) (.lit 0)))
 (.ret (.tup (.cons xryzpgwk3_ (.cons (.iface 111 (.int .i64 (.lit 3))) .nil))))
 (.br (.not (an_ (eq_ (.iapp 31 (.cons xryzpgwk0_ (.cons (.int .u64 v0_) (.cons (.int .i64 (.lit 0)) .nil)))) v0_) (an_ (eq_ (.iapp 31 (.cons xryzpgwk0_ (.cons (.int .u64 v0_) (.cons (.int .i64 (.lit 1)) .nil)))) v1_) (an_ (eq_ (.iapp 31 (.cons xryzpgwk0_ (.cons (.int .u64 v0_) (.cons (.int .i64 (.lit 2)) .nil)))) v2_) (an_ (eq_ (.iapp 31 (.cons xryzpgwk0_ (.cons (.int .u64 v0_) (.cons (.int .i64 (.lit 3)) .nil)))) v3_) (an_ (eq_ (.iapp 31 (.cons xryzpgwk0_ (.cons (.int .u64 v0_) (.cons (.int .i64 (.lit 4)) .nil)))) v4_) (an_ (eq_ (.iapp 31 (.cons xryzpgwk0_ (.cons (.int .u64 v0_) (.cons (.int .i64 (.lit 5)) .nil)))) v5_) (an_ (eq_ (.iapp 31 (.cons xryzpgwk0_ (.cons (.int .u64 v0_) (.cons (.int .i64 (.lit 6)) .nil)))) v6_) (an_ (eq_ (.iapp 31 (.cons xryzpgwk0_ (.cons (.int .u64 v0_) (.cons (.int .i64 (.lit 7)) .nil)))) v7_) (an_ (eq_ (.iapp 31 (.cons xryzpgwk0_ (.cons (.int .u64 v0_) (.cons (.int .i64 (.lit 8)) .nil)))) v8_) (an_ (eq_ (.iapp 31 (.cons xryzpgwk0_ (.cons (.int .u64 v0_) (.cons (.int .i64 (.lit 9)) .nil)))) v9_) (an_ (eq_ (.iapp 31 (.cons xryzpgwk0_ (.cons (.int .u64 v0_) (.cons (.int .i64 (.lit 10)) .nil)))) (.var 10)) (an_ (eq_ (.iapp 31 (.cons xryzpgwk0_ (.cons (.int .u64 v0_) (.cons (.int .i64 (.lit 11)) .nil)))) (.var 11)) (an_ (eq_ (.iapp 31 (.cons xryzpgwk0_ (.cons (.int .u64 v0_) (.cons (.int .i64 (.lit 12)) .nil)))) (.var 12)) (an_ (eq_ (.iapp 31 (.cons xryzpgwk0_ (.cons (.int .u64 v0_) (.cons (.int .i64 (.lit 13)) .nil)))) (.var 13)) (an_ (eq_ (.iapp 31 (.cons xryzpgwk0_ (.cons (.int .u64 v0_) (.cons (.int .i64 (.lit 14)) .nil)))) (.var 14)) (eq_ (.iapp 31 (.cons xryzpgwk0_ (.cons (.int .u64 v0_) (.cons (.int .i64 (.lit 15)) .nil)))) (.var 15))))))))))))))))))
 (.ret (.tup (.cons xryzpgwk3_ (.cons (.iface 111 (.int .i64 (.lit 3))) .nil))))
 (.ret (.tup (.cons (.agg (.cons (.int .i64 (wr_ v1_)) (.cons (.int .i64 (wr_ v2_)) (.cons (.int .i64 (wr_ v3_)) (.cons (.int .i64 (wr_ v4_)) (.cons (.int .u32 (.wrap .u32 (wr_ v5_))) (.cons (.int .i64 (wr_ v6_)) (.cons (.int .u32 (.wrap .u32 (wr_ v7_))) (.cons (.int .i64 (wr_ v8_)) (.cons (.int .i64 (wr_ v9_)) (.cons (.int .i64 (wr_ (.var 10))) .nil))))))))))) (.cons (.cst .nilI) .nil))))))))))
abbrev yzc_read : Con := ⟨12, [(.agg (.cons (.int .u64 v0_) (.cons (.int .u64 v1_) (.cons (.int .u64 v2_) (.cons (.int .u64 v3_) (.cons (.int .u64 v4_) (.cons (.int .u64 v5_) (.cons (.int .u64 v6_) (.cons (.int .u64 v7_) (.cons (.int .u64 v8_) (.cons (.int .u64 v9_) (.cons (.int .u64 (.var 10)) (.cons (.int .u64 (.var 11)) (.cons (.int .u64 (.var 12)) (.cons (.int .u64 (.var 13)) (.cons (.int .u64 (.var 14)) (.cons (.int .u64 (.var 15)) .nil)))))))))))))))))], (an_ (an_ (le_ (.lit 0) v0_) (le_ v0_ (.lit 18446744073709551615))) (an_ (an_ (le_ (.lit 0) v1_) (le_ v1_ (.lit 18446744073709551615))) (an_ (an_ (le_ (.lit 0) v2_) (le_ v2_ (.lit 18446744073709551615))) (an_ (an_ (le_ (.lit 0) v3_) (le_ v3_ (.lit 18446744073709551615))) (an_ (an_ (le_ (.lit 0) v4_) (le_ v4_ (.lit 18446744073709551615))) (an_ (an_ (le_ (.lit 0) v5_) (le_ v5_ (.lit 18446744073709551615))) (an_ (an_ (le_ (.lit 0) v6_) (le_ v6_ (.lit 18446744073709551615))) (an_ (an_ (le_ (.lit 0) v7_) (le_ v7_ (.lit 18446744073709551615))) (an_ (an_ (le_ (.lit 0) v8_) (le_ v8_ (.lit 18446744073709551615))) (an_ (an_ (le_ (.lit 0) v9_) (le_ v9_ (.lit 18446744073709551615))) (an_ (an_ (le_ (.lit 0) (.var 10)) (le_ (.var 10) (.lit 18446744073709551615))) (an_ (an_ (le_ (.lit 0) (.var 11)) (le_ (.var 11) (.lit 18446744073709551615))) (an_ (an_ (le_ (.lit 0) (.var 12)) (le_ (.var 12) (.lit 18446744073709551615))) (an_ (an_ (le_ (.lit 0) (.var 13)) (le_ (.var 13) (.lit 18446744073709551615))) (an_ (an_ (le_ (.lit 0) (.var 14)) (le_ (.var 14) (.lit 18446744073709551615))) (an_ (le_ (.lit 0) (.var 15)) (le_ (.var 15) (.lit 18446744073709551615)))))))))))))))))), (.tup (.cons (.agg (.cons (.int .i64 (.iapp 33 (.cons xryzpgwk1_ (.cons (.int .i64 (.lit 0)) .nil)))) (.cons (.int .i64 (.iapp 33 (.cons xryzpgwk1_ (.cons (.int .i64 (.lit 1)) .nil)))) (.cons (.int .i64 (.iapp 33 (.cons xryzpgwk1_ (.cons (.int .i64 (.lit 2)) .nil)))) (.cons (.int .i64 (.iapp 33 (.cons xryzpgwk1_ (.cons (.int .i64 (.lit 3)) .nil)))) (.cons (.int .u32 (.iapp 33 (.cons xryzpgwk1_ (.cons (.int .i64 (.lit 4)) .nil)))) (.cons (.int .i64 (.iapp 33 (.cons xryzpgwk1_ (.cons (.int .i64 (.lit 5)) .nil)))) (.cons (.int .u32 (.iapp 33 (.cons xryzpgwk1_ (.cons (.int .i64 (.lit 6)) .nil)))) (.cons (.int .i64 (.iapp 33 (.cons xryzpgwk1_ (.cons (.int .i64 (.lit 7)) .nil)))) (.cons (.int .i64 (.iapp 33 (.cons xryzpgwk1_ (.cons (.int .i64 (.lit 8)) .nil)))) (.cons (.int .i64 (.iapp 33 (.cons xryzpgwk1_ (.cons (.int .i64 (.lit 9)) .nil)))) .nil))))))))))) (.cons (.err (.iapp 32 (.cons xryzpgwk1_ .nil))) .nil))), ⟨16, 0, 0, 0⟩, none⟩
theorem read_w : walk Tryz.prog 111 ⟨[zuc_psum, zyc_gather, yzc_layt], syG, [], [], []⟩ [] .v yzc_read yzc_read.n 3000 = some read_tree := by kernel_rfl
set_option maxHeartbeats 4000000 in
theorem read_h (w0 w1 w2 w3 w4 w5 w6 w7 w8 w9 w10 w11 w12 w13 w14 w15 : Int) : Hyp_ yzc_read read_tree (yzE [w0, w1, w2, w3, w4, w5, w6, w7, w8, w9, w10, w11, w12, w13, w14, w15] [] [] []) := by
 intro hc hty
 simp only [yzc_read, Sy.holds, yzE, denV, denI, denB, denL, I2.den, VOp.den, List.getD_cons_zero, List.getD_cons_succ, Cst.den, syso, syse, syio, sybo, B2.ofInts, B2.denI, B2.denB, if_true, Bool.false_eq_true, if_false, Nat.div_one, Nat.mul_one, Nat.add_zero] at hc
 simp only [yzc_read, patsTyp, patTyp, patTypL, yzE, denV, denL, List.getD_cons_zero, List.getD_cons_succ, and_true, true_and] at hty
 unfold read_tree
 simp only [yzc_read, Tree.holds, Sy.holds, yzE, denV, denI, denB, denL, I2.den, VOp.den, List.getD_cons_zero, List.getD_cons_succ, Cst.den, syso, syse, syio, sybo, yzi_pge, yzi_ws, yzi_law, yzi_rde, yzi_rdn, B2.ofInts, B2.denI, B2.denB, if_true, Bool.false_eq_true, if_false, Nat.div_one, Nat.mul_one, Nat.add_zero]
 obtain ⟨v0, v1, v2, v3, v4, v5, v6, v7, v8, v9, v10, v11, v12, v13, v14, v15⟩ := hc
 have ht := tm2 v0.1
 have e1 := s6_wrap v1.1 v1.2
 have e2 := s6_wrap v2.1 v2.2
 have e3 := s6_wrap v3.1 v3.2
 have e4 := s6_wrap v4.1 v4.2
 have e5 := s6_wrap v5.1 v5.2
 have e6 := s6_wrap v6.1 v6.2
 have e7 := s6_wrap v7.1 v7.2
 have e8 := s6_wrap v8.1 v8.2
 have e9 := s6_wrap v9.1 v9.2
 have e10 := s6_wrap v10.1 v10.2
 simp only [e1, e2, e3, e4, e5, e6, e7, e8, e9, e10, ht]
 have t1 := s6_spec w1
 have t2 := s6_spec w2
 have t3 := s6_spec w3
 have t4 := s6_spec w4
 have t5 := s6_spec w5
 have t6 := s6_spec w6
 have t7 := s6_spec w7
 have t8 := s6_spec w8
 have t9 := s6_spec w9
 have t10 := s6_spec w10
 have x5 := wr_u32 (s6 w5)
 have x7 := wr_u32 (s6 w7)
 refine ⟨fun h0 => ?_, fun h0 => ?_⟩
 refine ?a0; rotate_left
 refine ⟨?_, fun h1 => ?_⟩
 ·
  first
  | omega
  | skip
 refine ⟨fun h2 => ?_, fun h2 => ?_⟩
 refine ?a1; rotate_left
 refine ⟨?_, fun h3 => ?_⟩
 ·
  first
  | omega
  | skip
 refine ⟨fun h4 => ?_, fun h4 => ?_⟩
 refine ?a2; rotate_left
 refine ⟨fun h5 => ?_, fun h5 => ?_⟩
 refine ?a3; rotate_left
 refine ?a4; rotate_left
 case a0 | a1 | a2 | a3 | a4 =>
  first
  | (have ab := rd_15 w0 w1 w2 w3 w4 w5 w6 w7 w8 w9 w10 w11 w12 w13 w14 w15 h0
     obtain ⟨a, b⟩ := ab
     simp only [a, b]
     first | done | rfl)
  | (have ab := rd_4 w0 w1 w2 w3 w4 w5 w6 w7 w8 w9 w10 w11 w12 w13 w14 w15 h0 h2
     obtain ⟨a, b⟩ := ab
     simp only [a, b]
     first | done | rfl)
  | (have ab := rd_3 w0 w1 w2 w3 w4 w5 w6 w7 w8 w9 w10 w11 w12 w13 w14 w15 h0 (Decidable.of_not_not h2) (mt (fun h => ((rq_iff v1 v2 v3 v4 v5 v6 v7 v8 v9 v10 v11 v12 v13 v14 v15 (Decidable.of_not_not h2)).1 h).1) h4)
     obtain ⟨a, b⟩ := ab
     simp only [a, b]
     first | done | rfl)
  | (have ab := rd_3 w0 w1 w2 w3 w4 w5 w6 w7 w8 w9 w10 w11 w12 w13 w14 w15 h0 (Decidable.of_not_not h2) (mt (fun h => ((rq_iff v1 v2 v3 v4 v5 v6 v7 v8 v9 v10 v11 v12 v13 v14 v15 (Decidable.of_not_not h2)).1 h).2) h5)
     obtain ⟨a, b⟩ := ab
     simp only [a, b]
     first | done | rfl)
  | (have iq := (rq_iff v1 v2 v3 v4 v5 v6 v7 v8 v9 v10 v11 v12 v13 v14 v15 (Decidable.of_not_not h2)).2 ⟨Decidable.of_not_not h4, Decidable.of_not_not h5⟩
     have ab := rd_0 w0 w1 w2 w3 w4 w5 w6 w7 w8 w9 w10 w11 w12 w13 w14 w15 h0 (Decidable.of_not_not h2) iq
     obtain ⟨a, b0, b1, b2, b3, b4, b5, b6, b7, b8, b9⟩ := ab
     have y5 : IntKind.wrap .u32 (s6 w5) = w5 := by have := iq.1; omega
     have y7 : IntKind.wrap .u32 (s6 w7) = w7 := by have := iq.2.1; omega
     simp only [a, b0, b1, b2, b3, b4, b5, b6, b7, b8, b9, y5, y7]
     first | done | rfl)
  | skip
theorem yzg_read : yzc_read.Good Tryz.prog syG (yzE [] [] [] []) := good_of_walk (Γ := ⟨[zuc_psum, zyc_gather, yzc_layt], syG, [], [], []⟩) (ρ := yzE [] [] [] []) sym read_w rfl (fun _ _ _ _ => (ok_cons (Con.Good.env (Con.Good.up (Con.Good.up (Con.Good.up zug_psum zyup rfl) za9up rfl) yzup rfl) _ _ _ _) (ok_cons (Con.Good.env (Con.Good.up (Con.Good.up zyg_gather za9up rfl) yzup rfl) _ _ _ _) (ok_cons (Con.Good.env yzg_layt _ _ _ _) ok_nil)))) read_h
end Go.Proofs.YtgondiedehjkhaaGreatDoor
