/-
 Layer 18 by the second engine: hosts.
-/
import Derived.Test.YtjcgmdgkdkfdpaaGreatDoorSycqht
import Derived.Test.YtjcgmdgkdkfdpaaGreatDoorYhqht
import Derived.Test.YtjcgmdgkdkfdpaaGreatDoorE00qht
namespace Go.Proofs.YtjcgmdgkdkfdpaaGreatDoor
open Go.RowKit Go.Extern.Stop Go.Stop Go.Extern Go.Proofs.YtjcgmdgkdkfdpaaGreatDoor.Sy
set_option linter.unusedVariables false
set_option linter.unusedSimpArgs false
abbrev xryiqhtk0_ : Tm := (.tup (.cons (.int .u32 v0_) (.cons z1_ (.cons z2_ (.cons z3_ (.cons z4_ (.cons z5_ (.cons z6_ (.cons (.bool (.bvar 0)) (.cons z7_ (.cons z8_ (.cons z9_ (.cons (.int .i64 (.var 10)) (.cons (.int .i64 (.var 11)) .nil))))))))))))))
abbrev xryiqhtk1_ : Tm := (an_ (an_ (le_ (.lit 0) v0_) (le_ v0_ (.lit 4294967295))) (an_ (an_ (le_ lm_ v1_) (le_ v1_ lM_)) (an_ (an_ (le_ lm_ v2_) (le_ v2_ lM_)) (an_ (an_ (le_ lm_ v3_) (le_ v3_ lM_)) (an_ (an_ (le_ lm_ v4_) (le_ v4_ lM_)) (an_ (an_ (le_ lm_ v5_) (le_ v5_ lM_)) (an_ (an_ (le_ lm_ v6_) (le_ v6_ lM_)) (an_ (an_ (le_ lm_ v7_) (le_ v7_ lM_)) (an_ (an_ (le_ lm_ v8_) (le_ v8_ lM_)) (an_ (an_ (le_ lm_ v9_) (le_ v9_ lM_)) (an_ (an_ (le_ lm_ (.var 10)) (le_ (.var 10) lM_)) (an_ (le_ lm_ (.var 11)) (le_ (.var 11) lM_)))))))))))))
abbrev xryiqhtk7_ : Tm := (.iapp 27 (.cons (.int .u32 v0_) (.cons z1_ (.cons (.int .i64 (.var 10)) .nil))))
abbrev xryiqhtk6_ : Tm := (.iapp 28 (.cons (.int .u32 v0_) (.cons z1_ (.cons (.int .i64 (.var 10)) .nil))))
abbrev xryiqhtk2_ : Tm := (.iapp 8 (.cons (.int .i64 (wr_ (sb_ (.var 12) v7_))) (.cons (.int .u32 xryiqhtk7_) (.cons (.int .i64 xryiqhtk6_) .nil))))
abbrev xryiqhtk13_ : Tm := (.iapp 8 (.cons (.int .i64 (.var 12)) (.cons (.int .u32 v0_) (.cons z1_ .nil))))
abbrev xryiqhtk3_ : Tm := (.iapp 1 (.cons (.int .i64 (ad_ v9_ (.iapp 10 (.cons (.int .i64 (.iapp 1 (.cons (.int .i64 (ad_ xryiqhtk13_ (.lit 1))) .nil))) (.cons (.int .i64 (ad_ v2_ (.iapp 0 (.cons (.int .i64 (.var 10)) .nil)))) .nil))))) .nil))
abbrev xryiqhtk4_ : Tm := (.agg (.cons (.int .u32 v0_) (.cons z1_ (.cons z2_ (.cons z3_ (.cons z4_ (.cons z5_ (.cons z6_ (.cons (.bool (.bvar 0)) (.cons z7_ (.cons z8_ (.cons z9_ (.cons (.int .i64 (.var 10)) (.cons (.int .i64 (.var 11)) .nil))))))))))))))
abbrev xryiqhtk5_ : Tm := (.iapp 42 (.cons (.tup (.cons (.int .u32 v0_) (.cons z1_ (.cons z2_ (.cons z3_ (.cons z4_ (.cons z5_ (.cons z6_ (.cons (.bool (.tt false)) (.cons (.int .i64 (.lit 0)) (.cons (.int .i64 (.lit 0)) (.cons (.int .i64 (.lit 0)) (.cons (.int .i64 (.lit 0)) (.cons (.int .i64 (.lit 0)) .nil)))))))))))))) .nil))
abbrev xryiqhtk8_ : Tm := (.tup (.cons (.int .i64 (.lit 0)) (.cons (.int .i64 (.lit 0)) (.cons (.iface 94 (.int .i64 (.lit 2))) .nil))))
abbrev xryiqhtk9_ : Tm := (an_ (an_ (le_ (.lit 0) v0_) (le_ v0_ (.lit 4294967295))) (an_ (an_ (le_ lm_ v1_) (le_ v1_ lM_)) (an_ (an_ (le_ lm_ v2_) (le_ v2_ lM_)) (an_ (an_ (le_ lm_ v3_) (le_ v3_ lM_)) (an_ (an_ (le_ lm_ v4_) (le_ v4_ lM_)) (an_ (an_ (le_ lm_ v5_) (le_ v5_ lM_)) (an_ (le_ lm_ v6_) (le_ v6_ lM_))))))))
abbrev xryiqhtk10_ : Tm := (ad_ (.iapp 11 (.cons (.int .i64 (.var 12)) (.cons z1_ .nil))) (.lit 2))
abbrev xryiqhtk11_ : Tm := (an_ (an_ (le_ (.lit 0) v0_) (le_ v0_ (.lit 4294967295))) (an_ (le_ lm_ v1_) (le_ v1_ lM_)))
abbrev xryiqhtk12_ : Tm := (.iapp 29 (.cons (.int .u32 v0_) (.cons z1_ (.cons (.int .i64 (.var 10)) .nil))))
def gdF (e x : Int) : Int := if e = 0 then x else 0
theorem gdq_y {e : Int} (h : e = 0) (x : Int) : gdF e x = x := by unfold gdF; rw [if_pos h]
theorem gdq_n {e : Int} (h : e ≠ 0) (x : Int) : gdF e x = 0 := by unfold gdF; rw [if_neg h]
abbrev ci (l : List Value) (k : Nat) : Int := Go.RowKit.intOf (l.getD k Go.undef)
abbrev hoT (rm rs rr gp gi rl ro hb ht he sf ss : Int) (sy : Bool) : Value := .tuple #[.int .u32 rm, .int .i64 rs, .int .i64 rr, .int .i64 gp, .int .i64 gi, .int .i64 rl, .int .i64 ro, .bool sy, .int .i64 hb, .int .i64 ht, .int .i64 he, .int .i64 sf, .int .i64 ss]
def hoP (rm rs rr gp gi rl ro hb ht he sf ss : Int) : Prop := fmP rm rs ∧ 0 ≤ rr ∧ rr ≤ 1048576 ∧ 0 ≤ gp ∧ gp ≤ 1024 ∧ 0 ≤ gi ∧ gi ≤ 1024 ∧ 0 ≤ rl ∧ rl ≤ 1048576 ∧ 1 ≤ ro ∧ ro ≤ 1125899906842624 ∧ 0 ≤ hb ∧ hb ≤ 1152921504606846976 ∧ -4611686018427387904 < ht ∧ ht < 4611686018427387904 ∧ 0 ≤ he ∧ he ≤ 2305843009213693952 ∧ -rl ≤ sf ∧ sf ≤ rl ∧ -1048576 ≤ ss ∧ ss ≤ 1048576
instance (rm rs rr gp gi rl ro hb ht he sf ss : Int) : Decidable (hoP rm rs rr gp gi rl ro hb ht he sf ss) := by unfold hoP; infer_instance
def hoE (rm rs rr gp gi rl ro hb ht he sf ss : Int) : Int := if hoP rm rs rr gp gi rl ro hb ht he sf ss then 0 else 1
theorem hoE_y {rm rs rr gp gi rl ro hb ht he sf ss : Int} (h : hoP rm rs rr gp gi rl ro hb ht he sf ss) : hoE rm rs rr gp gi rl ro hb ht he sf ss = 0 := by unfold hoE; rw [if_pos h]
theorem hoE_n {rm rs rr gp gi rl ro hb ht he sf ss : Int} (h : ¬ hoP rm rs rr gp gi rl ro hb ht he sf ss) : hoE rm rs rr gp gi rl ro hb ht he sf ss = 1 := by unfold hoE; rw [if_neg h]
def pabs (x : Int) : Int := if x < 0 then -x else x
theorem pabs_spec (x : Int) : (x < 0 ∧ pabs x = -x) ∨ (0 ≤ x ∧ pabs x = x) := by unfold pabs; split <;> omega
def rkE (rm rs hb ht sf k : Int) : Int := if k < hb then 10 else if 1125899906842624 < k - hb then 2 else if adE rm rs sf ≠ 0 then 2 else if 4611686018427387904 ≤ ht + qE (adF rm sf) rs (k - hb) then 2 else if 9223372036854775807 < qE rm rs (k - hb) then 2 else 0
def rkT (rm rs hb ht sf k : Int) : Int := if rkE rm rs hb ht sf k = 0 then ht + qE (adF rm sf) rs (k - hb) else 0
def rkO (rm rs rr hb ht he sf k : Int) : Int := if rkE rm rs hb ht sf k = 0 then bnO he rm rs (rr + pabs sf) (k - hb) else 0
theorem rk_spec (rm rs rr hb ht he sf k : Int) : (k < hb ∧ rkE rm rs hb ht sf k = 10 ∧ rkT rm rs hb ht sf k = 0 ∧ rkO rm rs rr hb ht he sf k = 0) ∨ ((hb ≤ k ∧ (1125899906842624 < k - hb ∨ adE rm rs sf ≠ 0 ∨ 4611686018427387904 ≤ ht + qE (adF rm sf) rs (k - hb) ∨ 9223372036854775807 < qE rm rs (k - hb))) ∧ rkE rm rs hb ht sf k = 2 ∧ rkT rm rs hb ht sf k = 0 ∧ rkO rm rs rr hb ht he sf k = 0) ∨ ((hb ≤ k ∧ k - hb ≤ 1125899906842624 ∧ adE rm rs sf = 0 ∧ ht + qE (adF rm sf) rs (k - hb) < 4611686018427387904 ∧ qE rm rs (k - hb) ≤ 9223372036854775807) ∧ rkE rm rs hb ht sf k = 0 ∧ rkT rm rs hb ht sf k = ht + qE (adF rm sf) rs (k - hb) ∧ rkO rm rs rr hb ht he sf k = bnO he rm rs (rr + pabs sf) (k - hb)) := by
 have key : ∀ n, rkE rm rs hb ht sf k = n → n ≠ 0 → rkT rm rs hb ht sf k = 0 ∧ rkO rm rs rr hb ht he sf k = 0 := fun n h1 h2 => by
   unfold rkT rkO
   rw [if_neg (by omega), if_neg (by omega)]
   exact ⟨rfl, rfl⟩
 by_cases h1 : k < hb
 · left
   have e : rkE rm rs hb ht sf k = 10 := by unfold rkE; rw [if_pos h1]
   exact ⟨h1, e, key _ e (by decide)⟩
 · right
   by_cases h2 : 1125899906842624 < k - hb
   · left
     have e : rkE rm rs hb ht sf k = 2 := by unfold rkE; rw [if_neg h1, if_pos h2]
     exact ⟨⟨by omega, .inl h2⟩, e, key _ e (by decide)⟩
   · by_cases h3 : adE rm rs sf ≠ 0
     · left
       have e : rkE rm rs hb ht sf k = 2 := by unfold rkE; rw [if_neg h1, if_neg h2, if_pos h3]
       exact ⟨⟨by omega, .inr (.inl h3)⟩, e, key _ e (by decide)⟩
     · by_cases h4 : 4611686018427387904 ≤ ht + qE (adF rm sf) rs (k - hb)
       · left
         have e : rkE rm rs hb ht sf k = 2 := by unfold rkE; rw [if_neg h1, if_neg h2, if_neg h3, if_pos h4]
         exact ⟨⟨by omega, .inr (.inr (.inl h4))⟩, e, key _ e (by decide)⟩
       · by_cases h5 : 9223372036854775807 < qE rm rs (k - hb)
         · left
           have e : rkE rm rs hb ht sf k = 2 := by unfold rkE; rw [if_neg h1, if_neg h2, if_neg h3, if_neg h4, if_pos h5]
           exact ⟨⟨by omega, .inr (.inr (.inr h5))⟩, e, key _ e (by decide)⟩
         · right
           have e : rkE rm rs hb ht sf k = 0 := by unfold rkE; rw [if_neg h1, if_neg h2, if_neg h3, if_neg h4, if_neg h5]
           exact ⟨⟨by omega, by omega, by omega, by omega, by omega⟩, e, by unfold rkT; rw [if_pos e], by unfold rkO; rw [if_pos e]⟩
def nwE (rm rs rr gp gi rl ro hb ht he sf ss : Int) (sy : Bool) (k : Int) : Int := if ¬ hoP rm rs rr gp gi rl ro hb ht he sf ss then 1 else if sy = false then 13 else if rkE rm rs hb ht sf k ≠ 0 then rkE rm rs hb ht sf k else if ro < rkO rm rs rr hb ht he sf k then 13 else 0
def nwT (rm rs rr gp gi rl ro hb ht he sf ss : Int) (sy : Bool) (k : Int) : Int := if nwE rm rs rr gp gi rl ro hb ht he sf ss sy k = 0 then rkT rm rs hb ht sf k else 0
def nwO (rm rs rr gp gi rl ro hb ht he sf ss : Int) (sy : Bool) (k : Int) : Int := if nwE rm rs rr gp gi rl ro hb ht he sf ss sy k = 0 then rkO rm rs rr hb ht he sf k else 0
theorem nw_spec (rm rs rr gp gi rl ro hb ht he sf ss : Int) (sy : Bool) (k : Int) : ((¬ hoP rm rs rr gp gi rl ro hb ht he sf ss ∧ hoE rm rs rr gp gi rl ro hb ht he sf ss = 1) ∧ nwE rm rs rr gp gi rl ro hb ht he sf ss sy k = 1 ∧ nwT rm rs rr gp gi rl ro hb ht he sf ss sy k = 0 ∧ nwO rm rs rr gp gi rl ro hb ht he sf ss sy k = 0) ∨ ((hoP rm rs rr gp gi rl ro hb ht he sf ss ∧ hoE rm rs rr gp gi rl ro hb ht he sf ss = 0) ∧
   ((sy = false ∧ nwE rm rs rr gp gi rl ro hb ht he sf ss sy k = 13 ∧ nwT rm rs rr gp gi rl ro hb ht he sf ss sy k = 0 ∧ nwO rm rs rr gp gi rl ro hb ht he sf ss sy k = 0) ∨
   ((sy = true ∧ rkE rm rs hb ht sf k ≠ 0) ∧ nwE rm rs rr gp gi rl ro hb ht he sf ss sy k = rkE rm rs hb ht sf k ∧ nwT rm rs rr gp gi rl ro hb ht he sf ss sy k = 0 ∧ nwO rm rs rr gp gi rl ro hb ht he sf ss sy k = 0) ∨
   ((sy = true ∧ rkE rm rs hb ht sf k = 0 ∧ ro < rkO rm rs rr hb ht he sf k) ∧ nwE rm rs rr gp gi rl ro hb ht he sf ss sy k = 13 ∧ nwT rm rs rr gp gi rl ro hb ht he sf ss sy k = 0 ∧ nwO rm rs rr gp gi rl ro hb ht he sf ss sy k = 0) ∨
   ((sy = true ∧ rkE rm rs hb ht sf k = 0 ∧ rkO rm rs rr hb ht he sf k ≤ ro) ∧ nwE rm rs rr gp gi rl ro hb ht he sf ss sy k = 0 ∧ nwT rm rs rr gp gi rl ro hb ht he sf ss sy k = rkT rm rs hb ht sf k ∧ nwO rm rs rr gp gi rl ro hb ht he sf ss sy k = rkO rm rs rr hb ht he sf k))) := by
 have key : ∀ n, nwE rm rs rr gp gi rl ro hb ht he sf ss sy k = n → n ≠ 0 → nwT rm rs rr gp gi rl ro hb ht he sf ss sy k = 0 ∧ nwO rm rs rr gp gi rl ro hb ht he sf ss sy k = 0 := fun n h1 h2 => by
   unfold nwT nwO
   rw [if_neg (by omega), if_neg (by omega)]
   exact ⟨rfl, rfl⟩
 by_cases hp : hoP rm rs rr gp gi rl ro hb ht he sf ss
 · right
   refine ⟨⟨hp, hoE_y hp⟩, ?_⟩
   cases sy with
   | false =>
     left
     have e : nwE rm rs rr gp gi rl ro hb ht he sf ss false k = 13 := by unfold nwE; rw [if_neg (not_not_intro hp), if_pos rfl]
     exact ⟨rfl, e, key _ e (by decide)⟩
   | true =>
     right
     by_cases h1 : rkE rm rs hb ht sf k = 0
     · right
       by_cases h2 : ro < rkO rm rs rr hb ht he sf k
       · left
         have e : nwE rm rs rr gp gi rl ro hb ht he sf ss true k = 13 := by unfold nwE; rw [if_neg (not_not_intro hp), if_neg (by decide), if_neg (not_not_intro h1), if_pos h2]
         exact ⟨⟨rfl, h1, h2⟩, e, key _ e (by decide)⟩
       · right
         have e : nwE rm rs rr gp gi rl ro hb ht he sf ss true k = 0 := by unfold nwE; rw [if_neg (not_not_intro hp), if_neg (by decide), if_neg (not_not_intro h1), if_neg h2]
         exact ⟨⟨rfl, h1, by omega⟩, e, by unfold nwT; rw [if_pos e], by unfold nwO; rw [if_pos e]⟩
     · left
       have e : nwE rm rs rr gp gi rl ro hb ht he sf ss true k = rkE rm rs hb ht sf k := by unfold nwE; rw [if_neg (not_not_intro hp), if_neg (by decide), if_pos h1]
       exact ⟨⟨rfl, h1⟩, e, key _ e h1⟩
 · left
   have e : nwE rm rs rr gp gi rl ro hb ht he sf ss sy k = 1 := by unfold nwE; rw [if_pos hp]
   exact ⟨⟨hp, hoE_n hp⟩, e, key _ e (by decide)⟩
def syE (rm rs rr gp gi rl ro hb ht he sf ss : Int) (sy : Bool) (k a b : Int) : Int := if ¬ hoP rm rs rr gp gi rl ro hb ht he sf ss ∨ k < 0 ∨ 1152921504606846976 < k ∨ b < a ∨ a ≤ -2305843009213693952 ∨ 2305843009213693952 ≤ b then 1 else if sy = true ∧ k < hb then 10 else 0
def syM (rm rs rr gp gi rl ro hb ht he sf ss : Int) (sy : Bool) (k a b : Int) : Prop := sy = true ∧ rkE rm rs hb ht sf k = 0 ∧ (if a < satE (rkT rm rs hb ht sf k - rkO rm rs rr hb ht he sf k) then satE (rkT rm rs hb ht sf k - rkO rm rs rr hb ht he sf k) else a) ≤ (if satE (rkT rm rs hb ht sf k + rkO rm rs rr hb ht he sf k) < b then satE (rkT rm rs hb ht sf k + rkO rm rs rr hb ht he sf k) else b)
instance (rm rs rr gp gi rl ro hb ht he sf ss : Int) (sy : Bool) (k a b : Int) : Decidable (syM rm rs rr gp gi rl ro hb ht he sf ss sy k a b) := by unfold syM; infer_instance
def syL (rm rs rr gp gi rl ro hb ht he sf ss : Int) (sy : Bool) (k a b : Int) : Int := if syM rm rs rr gp gi rl ro hb ht he sf ss sy k a b then (if a < satE (rkT rm rs hb ht sf k - rkO rm rs rr hb ht he sf k) then satE (rkT rm rs hb ht sf k - rkO rm rs rr hb ht he sf k) else a) else a
def syH (rm rs rr gp gi rl ro hb ht he sf ss : Int) (sy : Bool) (k a b : Int) : Int := if syM rm rs rr gp gi rl ro hb ht he sf ss sy k a b then (if satE (rkT rm rs hb ht sf k + rkO rm rs rr hb ht he sf k) < b then satE (rkT rm rs hb ht sf k + rkO rm rs rr hb ht he sf k) else b) else b
def syT (rm rs rr gp gi rl ro hb ht he sf ss : Int) (sy : Bool) (k a b : Int) : Int := miI (syL rm rs rr gp gi rl ro hb ht he sf ss sy k a b) (syH rm rs rr gp gi rl ro hb ht he sf ss sy k a b)
def syR (rm rs rr gp gi rl ro hb ht he sf ss : Int) (sy : Bool) (k a b : Int) : Int := satE (syH rm rs rr gp gi rl ro hb ht he sf ss sy k a b - syT rm rs rr gp gi rl ro hb ht he sf ss sy k a b)
def syF (rm rs rr gp gi rl ro hb ht he sf ss : Int) (sy : Bool) (k a b : Int) : Int := if sy = true ∧ rkE rm rs hb ht sf k = 0 then stF gp gi rl ss (satE (syT rm rs rr gp gi rl ro hb ht he sf ss sy k a b - rkT rm rs hb ht sf k)) else sf
def syS (rm rs rr gp gi rl ro hb ht he sf ss : Int) (sy : Bool) (k a b : Int) : Int := if sy = true ∧ rkE rm rs hb ht sf k = 0 then stS ss (satE (syT rm rs rr gp gi rl ro hb ht he sf ss sy k a b - rkT rm rs hb ht sf k)) else ss
def ofE (rm rs rr gp gi rl ro hb ht he sf ss : Int) (sy : Bool) (e c : Int) : Int := if ¬ hoP rm rs rr gp gi rl ro hb ht he sf ss ∨ e < 0 ∨ 1099511627776 < e ∨ c < 1 ∨ 1125899906842624 < c then 1 else if sy = false then 13 else adE rm rs sf
def hoB (l : List Value) : Bool := decide (hoP (ci l 0) (ci l 1) (ci l 2) (ci l 3) (ci l 4) (ci l 5) (ci l 6) (ci l 8) (ci l 9) (ci l 10) (ci l 11) (ci l 12))
def hoL (l : List Value) : Int := hoE (ci l 0) (ci l 1) (ci l 2) (ci l 3) (ci l 4) (ci l 5) (ci l 6) (ci l 8) (ci l 9) (ci l 10) (ci l 11) (ci l 12)
def rkEl (l : List Value) (k : Int) : Int := rkE (ci l 0) (ci l 1) (ci l 8) (ci l 9) (ci l 11) k
def rkTl (l : List Value) (k : Int) : Int := rkT (ci l 0) (ci l 1) (ci l 8) (ci l 9) (ci l 11) k
def rkOl (l : List Value) (k : Int) : Int := rkO (ci l 0) (ci l 1) (ci l 2) (ci l 8) (ci l 9) (ci l 10) (ci l 11) k
def nwEl (l : List Value) (k : Int) : Int := nwE (ci l 0) (ci l 1) (ci l 2) (ci l 3) (ci l 4) (ci l 5) (ci l 6) (ci l 8) (ci l 9) (ci l 10) (ci l 11) (ci l 12) (Go.Proofs.YtjcgmdgkdkfdpaaGreatDoor.Sy.boolOf (l.getD 7 Go.undef)) k
def nwTl (l : List Value) (k : Int) : Int := nwT (ci l 0) (ci l 1) (ci l 2) (ci l 3) (ci l 4) (ci l 5) (ci l 6) (ci l 8) (ci l 9) (ci l 10) (ci l 11) (ci l 12) (Go.Proofs.YtjcgmdgkdkfdpaaGreatDoor.Sy.boolOf (l.getD 7 Go.undef)) k
def nwOl (l : List Value) (k : Int) : Int := nwO (ci l 0) (ci l 1) (ci l 2) (ci l 3) (ci l 4) (ci l 5) (ci l 6) (ci l 8) (ci l 9) (ci l 10) (ci l 11) (ci l 12) (Go.Proofs.YtjcgmdgkdkfdpaaGreatDoor.Sy.boolOf (l.getD 7 Go.undef)) k
def syEl (l : List Value) (k a b : Int) : Int := syE (ci l 0) (ci l 1) (ci l 2) (ci l 3) (ci l 4) (ci l 5) (ci l 6) (ci l 8) (ci l 9) (ci l 10) (ci l 11) (ci l 12) (Go.Proofs.YtjcgmdgkdkfdpaaGreatDoor.Sy.boolOf (l.getD 7 Go.undef)) k a b
def syTl (l : List Value) (k a b : Int) : Int := syT (ci l 0) (ci l 1) (ci l 2) (ci l 3) (ci l 4) (ci l 5) (ci l 6) (ci l 8) (ci l 9) (ci l 10) (ci l 11) (ci l 12) (Go.Proofs.YtjcgmdgkdkfdpaaGreatDoor.Sy.boolOf (l.getD 7 Go.undef)) k a b
def syRl (l : List Value) (k a b : Int) : Int := syR (ci l 0) (ci l 1) (ci l 2) (ci l 3) (ci l 4) (ci l 5) (ci l 6) (ci l 8) (ci l 9) (ci l 10) (ci l 11) (ci l 12) (Go.Proofs.YtjcgmdgkdkfdpaaGreatDoor.Sy.boolOf (l.getD 7 Go.undef)) k a b
def syFl (l : List Value) (k a b : Int) : Int := syF (ci l 0) (ci l 1) (ci l 2) (ci l 3) (ci l 4) (ci l 5) (ci l 6) (ci l 8) (ci l 9) (ci l 10) (ci l 11) (ci l 12) (Go.Proofs.YtjcgmdgkdkfdpaaGreatDoor.Sy.boolOf (l.getD 7 Go.undef)) k a b
def sySl (l : List Value) (k a b : Int) : Int := syS (ci l 0) (ci l 1) (ci l 2) (ci l 3) (ci l 4) (ci l 5) (ci l 6) (ci l 8) (ci l 9) (ci l 10) (ci l 11) (ci l 12) (Go.Proofs.YtjcgmdgkdkfdpaaGreatDoor.Sy.boolOf (l.getD 7 Go.undef)) k a b
def ofEl (l : List Value) (e c : Int) : Int := ofE (ci l 0) (ci l 1) (ci l 2) (ci l 3) (ci l 4) (ci l 5) (ci l 6) (ci l 8) (ci l 9) (ci l 10) (ci l 11) (ci l 12) (Go.Proofs.YtjcgmdgkdkfdpaaGreatDoor.Sy.boolOf (l.getD 7 Go.undef)) e c
theorem hoB_eq (rm rs rr gp gi rl ro hb ht he sf ss : Int) (sy : Bool) : hoB (Sy.rows (hoT rm rs rr gp gi rl ro hb ht he sf ss sy)) = decide (hoP rm rs rr gp gi rl ro hb ht he sf ss) := Eq.trans rfl rfl
theorem hoL_eq (rm rs rr gp gi rl ro hb ht he sf ss : Int) (sy : Bool) : hoL (Sy.rows (hoT rm rs rr gp gi rl ro hb ht he sf ss sy)) = hoE rm rs rr gp gi rl ro hb ht he sf ss := Eq.trans rfl rfl
theorem rkE_eq (rm rs rr gp gi rl ro hb ht he sf ss : Int) (sy : Bool) (k : Int) : rkEl (Sy.rows (hoT rm rs rr gp gi rl ro hb ht he sf ss sy)) k = rkE rm rs hb ht sf k := Eq.trans rfl rfl
theorem rkT_eq (rm rs rr gp gi rl ro hb ht he sf ss : Int) (sy : Bool) (k : Int) : rkTl (Sy.rows (hoT rm rs rr gp gi rl ro hb ht he sf ss sy)) k = rkT rm rs hb ht sf k := Eq.trans rfl rfl
theorem rkO_eq (rm rs rr gp gi rl ro hb ht he sf ss : Int) (sy : Bool) (k : Int) : rkOl (Sy.rows (hoT rm rs rr gp gi rl ro hb ht he sf ss sy)) k = rkO rm rs rr hb ht he sf k := Eq.trans rfl rfl
theorem nwE_eq (rm rs rr gp gi rl ro hb ht he sf ss : Int) (sy : Bool) (k : Int) : nwEl (Sy.rows (hoT rm rs rr gp gi rl ro hb ht he sf ss sy)) k = nwE rm rs rr gp gi rl ro hb ht he sf ss sy k := Eq.trans rfl rfl
theorem nwT_eq (rm rs rr gp gi rl ro hb ht he sf ss : Int) (sy : Bool) (k : Int) : nwTl (Sy.rows (hoT rm rs rr gp gi rl ro hb ht he sf ss sy)) k = nwT rm rs rr gp gi rl ro hb ht he sf ss sy k := Eq.trans rfl rfl
theorem nwO_eq (rm rs rr gp gi rl ro hb ht he sf ss : Int) (sy : Bool) (k : Int) : nwOl (Sy.rows (hoT rm rs rr gp gi rl ro hb ht he sf ss sy)) k = nwO rm rs rr gp gi rl ro hb ht he sf ss sy k := Eq.trans rfl rfl
theorem syE_eq (rm rs rr gp gi rl ro hb ht he sf ss : Int) (sy : Bool) (k a b : Int) : syEl (Sy.rows (hoT rm rs rr gp gi rl ro hb ht he sf ss sy)) k a b = syE rm rs rr gp gi rl ro hb ht he sf ss sy k a b := Eq.trans rfl rfl
theorem syT_eq (rm rs rr gp gi rl ro hb ht he sf ss : Int) (sy : Bool) (k a b : Int) : syTl (Sy.rows (hoT rm rs rr gp gi rl ro hb ht he sf ss sy)) k a b = syT rm rs rr gp gi rl ro hb ht he sf ss sy k a b := Eq.trans rfl rfl
theorem syR_eq (rm rs rr gp gi rl ro hb ht he sf ss : Int) (sy : Bool) (k a b : Int) : syRl (Sy.rows (hoT rm rs rr gp gi rl ro hb ht he sf ss sy)) k a b = syR rm rs rr gp gi rl ro hb ht he sf ss sy k a b := Eq.trans rfl rfl
theorem syF_eq (rm rs rr gp gi rl ro hb ht he sf ss : Int) (sy : Bool) (k a b : Int) : syFl (Sy.rows (hoT rm rs rr gp gi rl ro hb ht he sf ss sy)) k a b = syF rm rs rr gp gi rl ro hb ht he sf ss sy k a b := Eq.trans rfl rfl
theorem syS_eq (rm rs rr gp gi rl ro hb ht he sf ss : Int) (sy : Bool) (k a b : Int) : sySl (Sy.rows (hoT rm rs rr gp gi rl ro hb ht he sf ss sy)) k a b = syS rm rs rr gp gi rl ro hb ht he sf ss sy k a b := Eq.trans rfl rfl
theorem ad_fm {m s p : Int} (h : adE m s p = 0) : fmP (adF m p) s := by
 rcases ad_spec m s p with ⟨_, _, e, _⟩ | ⟨⟨f0, f1, f2⟩, _, ⟨a, b, e, _⟩ | ⟨_, e, _⟩⟩
 · omega
 · exact ⟨by omega, f1, f2⟩
 · omega
theorem mi_bd {a b : Int} (h : a ≤ b) : a ≤ miI a b ∧ miI a b ≤ b ∧ 2 * (b - miI a b) ≤ b - a + 1 ∧ miI a b - a ≤ b - miI a b := by unfold miI; omega

theorem ms_ad (rm rs sf g : Int) : adE rm rs sf ≠ 0 ∨ g < 0 ∨ (adE rm rs sf = 0 ∧ 0 ≤ g ∧ 0 ≤ qE (adF rm sf) rs g ∧ ((msE g (adA rm rs sf) (adS rm rs sf) = 0 ∧ msN g (adA rm rs sf) (adS rm rs sf) = qE (adF rm sf) rs g ∧ qE (adF rm sf) rs g ≤ 9223372036854775807) ∨ (msE g (adA rm rs sf) (adS rm rs sf) = 2 ∧ msN g (adA rm rs sf) (adS rm rs sf) = 0 ∧ 9223372036854775807 < qE (adF rm sf) rs g))) := by
 by_cases h : adE rm rs sf = 0
 · by_cases h0 : g < 0
   · exact .inr (.inl h0)
   · have hf := ad_fm h
     have hm := ms_spec hf (show 0 ≤ g by omega)
     rcases ad_spec rm rs sf with ⟨_, _, e, _⟩ | ⟨_, _, ⟨_, _, _, e1, e2⟩ | ⟨_, e, _⟩⟩
     · omega
     · rw [e1, e2]; exact .inr (.inr ⟨h, by omega, hm⟩)
     · omega
 · exact .inl h
theorem pl_eq (rr sf : Int) : plI rr sf = rr + pabs sf := rfl
theorem ad_fm2 {m s p : Int} (h : adE m s p = 0) : decide (fmP (adA m s p) (adS m s p)) = true := by
 have hf := ad_fm h
 rcases ad_spec m s p with ⟨_, _, e, _⟩ | ⟨_, _, ⟨_, _, _, e1, e2⟩ | ⟨_, e, _⟩⟩
 · omega
 · rw [e1, e2]; exact decide_eq_true hf
 · omega
theorem ad_rngs (m s p : Int) (hm : 0 ≤ m ∧ m ≤ 4294967295) (hs : -9223372036854775808 ≤ s ∧ s ≤ 9223372036854775807) : (0 ≤ adA m s p ∧ adA m s p ≤ 4294967295) ∧ -9223372036854775808 ≤ adS m s p ∧ adS m s p ≤ 9223372036854775807 := by
 rcases ad_spec m s p with ⟨_, _, _, e1, e2⟩ | ⟨_, _, ⟨_, _, _, e1, e2⟩ | ⟨_, _, e1, e2⟩⟩ <;> rw [e1, e2] <;> omega
noncomputable def yiI : Nat → List Value → Int
 | 42, [l] => hoL (rows l)
 | 43, [l, .int _ k] => rkEl (rows l) k
 | 44, [l, .int _ k] => rkTl (rows l) k
 | 45, [l, .int _ k] => rkOl (rows l) k
 | 46, [l, .int _ k] => nwEl (rows l) k
 | 47, [l, .int _ k] => nwTl (rows l) k
 | 48, [l, .int _ k] => nwOl (rows l) k
 | 49, [l, .int _ k, .int _ a, .int _ b] => syEl (rows l) k a b
 | 50, [l, .int _ k, .int _ a, .int _ b] => syTl (rows l) k a b
 | 51, [l, .int _ k, .int _ a, .int _ b] => syRl (rows l) k a b
 | 52, [l, .int _ k, .int _ a, .int _ b] => syFl (rows l) k a b
 | 53, [l, .int _ k, .int _ a, .int _ b] => sySl (rows l) k a b
 | 54, [.int _ e, .int _ x] => gdF e x
 | 55, [l, .int _ e, .int _ c] => ofEl (rows l) e c
 | i, l => yhI i l
noncomputable def yiB : Nat → List Value → Bool
 | 4, [l] => hoB (rows l)
 | i, l => yhB i l
noncomputable def yiV : Nat → List Value → Value
 | i, l => yhV i l
noncomputable abbrev yiE (iv : List Int) (bv : List Bool) (vv : List Value) (sv : List ByteArray) : Env := { iv := iv, bv := bv, vv := vv, sv := sv, fi := yiI, fb := yiB, fv := yiV, et := 94 }
set_option maxHeartbeats 8000000 in
theorem yiup : Agree 42 4 2 (yhE [] [] [] []) (yiE [] [] [] []) := ⟨rfl, (by
   intro f hf
   funext l
   show yiI f l = yhI f l
   unfold yiI
   split <;> first | rfl | omega), (by
   intro f hf
   funext l
   show yiB f l = yhB f l
   unfold yiB
   split <;> first | rfl | omega), (by
   intro f hf
   funext l
   show yiV f l = yhV f l
   unfold yiV
   split <;> first | rfl | omega)⟩
theorem yii_sz (k1 : IntKind) (a : Int) : yiI 0 [.int k1 a] = szE a := rfl
theorem yii_sa (k1 : IntKind) (a : Int) : yiI 1 [.int k1 a] = satE a := rfl
theorem yii_nv (k1 : IntKind) (a : Int) : yiI 2 [.int k1 a] = svE a := rfl
theorem yii_ne (k1 : IntKind) (a : Int) : yiI 3 [.int k1 a] = erE a := rfl
theorem yii_msn (k1 : IntKind) (a : Int) (k2 : IntKind) (b : Int) (k3 : IntKind) (c : Int) : yiI 8 [.int k1 a, .int k2 b, .int k3 c] = msN a b c := rfl
theorem yii_mse (k1 : IntKind) (a : Int) (k2 : IntKind) (b : Int) (k3 : IntKind) (c : Int) : yiI 9 [.int k1 a, .int k2 b, .int k3 c] = msE a b c := rfl
theorem yii_up (k1 : IntKind) (g : Int) (k2 : IntKind) (r : Int) : yiI 10 [.int k1 g, .int k2 r] = upK (g * r) := rfl
theorem yii_hv (k1 : IntKind) (n : Int) (k2 : IntKind) (s : Int) : yiI 11 [.int k1 n, .int k2 s] = n / 2 ^ s.toNat := rfl
theorem yii_fe (k1 : IntKind) (a : Int) (k2 : IntKind) (s : Int) : yiI 13 [.int k1 a, .int k2 s] = feE a s := rfl
theorem yii_bnv (k1 : IntKind) (r : Int) (k2 : IntKind) (a : Int) (k3 : IntKind) (s : Int) (k4 : IntKind) (p : Int) (k5 : IntKind) (g : Int) : yiI 18 [.int k1 r, .int k2 a, .int k3 s, .int k4 p, .int k5 g] = bnV r a s p g := rfl
theorem yii_bne (k1 : IntKind) (a : Int) (k2 : IntKind) (s : Int) (k3 : IntKind) (g : Int) : yiI 19 [.int k1 a, .int k2 s, .int k3 g] = bnE a s g := rfl
theorem yii_ada (k1 : IntKind) (m : Int) (k2 : IntKind) (s : Int) (k3 : IntKind) (p : Int) : yiI 27 [.int k1 m, .int k2 s, .int k3 p] = adA m s p := rfl
theorem yii_ads (k1 : IntKind) (m : Int) (k2 : IntKind) (s : Int) (k3 : IntKind) (p : Int) : yiI 28 [.int k1 m, .int k2 s, .int k3 p] = adS m s p := rfl
theorem yii_ade (k1 : IntKind) (m : Int) (k2 : IntKind) (s : Int) (k3 : IntKind) (p : Int) : yiI 29 [.int k1 m, .int k2 s, .int k3 p] = adE m s p := rfl
theorem yii_pl (k1 : IntKind) (a : Int) (k2 : IntKind) (b : Int) : yiI 34 [.int k1 a, .int k2 b] = plI a b := rfl
theorem yii_sve (k1 : IntKind) (p : Int) (k2 : IntKind) (q : Int) (k3 : IntKind) (l : Int) : yiI 35 [.int k1 p, .int k2 q, .int k3 l] = svK p q l := rfl
theorem yii_hme (l : Value) : yiI 42 [l] = hoL (rows l) := rfl
theorem yii_rke (l : Value) (k1 : IntKind) (k : Int) : yiI 43 [l, .int k1 k] = rkEl (rows l) k := rfl
theorem yii_rkt (l : Value) (k1 : IntKind) (k : Int) : yiI 44 [l, .int k1 k] = rkTl (rows l) k := rfl
theorem yii_rko (l : Value) (k1 : IntKind) (k : Int) : yiI 45 [l, .int k1 k] = rkOl (rows l) k := rfl
theorem yii_nwe (l : Value) (k1 : IntKind) (k : Int) : yiI 46 [l, .int k1 k] = nwEl (rows l) k := rfl
theorem yii_nwt (l : Value) (k1 : IntKind) (k : Int) : yiI 47 [l, .int k1 k] = nwTl (rows l) k := rfl
theorem yii_nwo (l : Value) (k1 : IntKind) (k : Int) : yiI 48 [l, .int k1 k] = nwOl (rows l) k := rfl
theorem yib_fm (k1 : IntKind) (a : Int) (k2 : IntKind) (s : Int) : yiB 0 [.int k1 a, .int k2 s] = decide (fmP a s) := rfl
theorem yib_hm (l : Value) : yiB 4 [l] = hoB (rows l) := rfl
def ckr_tree : Tree :=
 (.need xryiqhtk11_
 (.br (.not (eq_ (.iapp 13 (.cons (.int .u32 v0_) (.cons z1_ .nil))) (.lit 0)))
 (.ret (.iface 94 (.int .i64 (.lit 1))))
 (.br (lt_ v2_ (.lit 0))
 (.ret (.iface 94 (.int .i64 (.lit 1))))
 (.br (lt_ (.lit 1048576) v2_)
 (.ret (.iface 94 (.int .i64 (.lit 1))))
 (.br (.not (eq_ (.iapp 35 (.cons z3_ (.cons z4_ (.cons z5_ .nil)))) (.lit 0)))
 (.ret (.iface 94 (.int .i64 (.lit 1))))
 (.br (lt_ v6_ (.lit 1))
 (.ret (.iface 94 (.int .i64 (.lit 1))))
 (.br (lt_ (.lit 1125899906842624) v6_)
 (.ret (.iface 94 (.int .i64 (.lit 1))))
 (.ret (.cst .nilI)))))))))
abbrev yic_ckr : Con := ⟨49, [(.agg (.cons (.int .u32 v0_) (.cons z1_ (.cons z2_ (.cons z3_ (.cons z4_ (.cons z5_ (.cons z6_ .nil))))))))], xryiqhtk9_, (.err xryiqhtk5_), ⟨7, 0, 0, 0⟩, none⟩
theorem ckr_w : walk Tryz.prog 94 ⟨[yac_rcheck, yhc_sck], syG, [], [], []⟩ [] .v yic_ckr yic_ckr.n 3000 = some ckr_tree := by kernel_rfl
theorem ckr_h (rm rs rr gp gi rl ro : Int) : Hyp_ yic_ckr ckr_tree (yiE [rm, rs, rr, gp, gi, rl, ro] [] [] []) := by
 intro hc hty
 simp only [yic_ckr, Sy.holds, yiE, denV, denI, denB, denL, I2.den, VOp.den, List.getD_cons_zero, List.getD_cons_succ, Cst.den, syso, syse, syio, sybo, B2.ofInts, B2.denI, B2.denB, if_true, Bool.false_eq_true, if_false, Nat.div_one, Nat.mul_one, Nat.add_zero] at hc
 simp only [yic_ckr, patsTyp, patTyp, patTypL, yiE, denV, denL, List.getD_cons_zero, List.getD_cons_succ, and_true, true_and] at hty
 unfold ckr_tree
 simp only [yic_ckr, Tree.holds, Sy.holds, yiE, denV, denI, denB, denL, I2.den, VOp.den, List.getD_cons_zero, List.getD_cons_succ, Cst.den, syso, syse, syio, sybo, yii_fe, yii_sve, yii_hme, B2.ofInts, B2.denI, B2.denB, if_true, Bool.false_eq_true, if_false, Nat.div_one, Nat.mul_one, Nat.add_zero]
 refine ⟨?_, fun h0 => ?_⟩
 ·
  omega
 refine ⟨fun h1 => ?_, fun h1 => ?_⟩
 refine ?a0; rotate_left
 refine ⟨fun h2 => ?_, fun h2 => ?_⟩
 refine ?a1; rotate_left
 refine ⟨fun h3 => ?_, fun h3 => ?_⟩
 refine ?a2; rotate_left
 refine ⟨fun h4 => ?_, fun h4 => ?_⟩
 refine ?a3; rotate_left
 refine ⟨fun h5 => ?_, fun h5 => ?_⟩
 refine ?a4; rotate_left
 refine ⟨fun h6 => ?_, fun h6 => ?_⟩
 refine ?a5; rotate_left
 refine ?a6; rotate_left
 case a0 | a1 | a2 | a3 | a4 | a5 | a6 =>
  have hs := sv_spec gp gi rl
  have hf := fe_spec rm rs
  have hE : hoL (Sy.rows (hoT rm rs rr gp gi rl ro 0 0 0 0 0 false)) = hoE rm rs rr gp gi rl ro 0 0 0 0 0 := rfl
  by_cases hp : hoP rm rs rr gp gi rl ro 0 0 0 0 0
  · have e0 := hoE_y hp
    rw [e0] at hE
    obtain ⟨f, a1, a2, a3, a4, a5, a6, a7, a8, a9, a10, a11, a12, a13, a14, a15, a16, a17, a18, a19, a20⟩ := id hp
    have e1 := feE_y f
    first
    | (exfalso; omega)
    | (rw [hE]; rfl)
  · have e0 := hoE_n hp
    rw [e0] at hE
    rcases hf with ⟨f, e1⟩ | ⟨f, e1⟩
    all_goals first
    | (exfalso; omega)
    | (rw [hE]; rfl)
    | exact absurd ⟨f, by omega, by omega, by omega, by omega, by omega, by omega, by omega, by omega, by omega, by omega, by omega, by omega, by omega, by omega, by omega, by omega, by omega, by omega, by omega, by omega⟩ hp
theorem yig_ckr : yic_ckr.Good Tryz.prog syG (yiE [] [] [] []) := good_of_walk (Γ := ⟨[yac_rcheck, yhc_sck], syG, [], [], []⟩) (ρ := yiE [] [] [] []) sym ckr_w rfl (fun _ _ _ _ => (ok_cons (Con.Good.env (Con.Good.up (Con.Good.up (Con.Good.up (Con.Good.up yag_rcheck ybup rfl) ycup rfl) yhup rfl) yiup rfl) _ _ _ _) (ok_cons (Con.Good.env (Con.Good.up yhg_sck yiup rfl) _ _ _ _) ok_nil))) ckr_h
def hcheck_tree : Tree :=
 (.need xryiqhtk9_
 (.br (.not (eq_ xryiqhtk5_ (.lit 0)))
 (.ret (.err xryiqhtk5_))
 (.br (lt_ v7_ (.lit 0))
 (.ret (.iface 94 (.int .i64 (.lit 1))))
 (.br (lt_ (.lit 1152921504606846976) v7_)
 (.ret (.iface 94 (.int .i64 (.lit 1))))
 (.need (an_ (le_ lm_ v8_) (le_ v8_ lM_))
 (.br (le_ (.lit 4611686018427387904) (.iapp 0 (.cons z8_ .nil)))
 (.ret (.iface 94 (.int .i64 (.lit 1))))
 (.br (lt_ v9_ (.lit 0))
 (.ret (.iface 94 (.int .i64 (.lit 1))))
 (.br (lt_ (.lit 2305843009213693952) v9_)
 (.ret (.iface 94 (.int .i64 (.lit 1))))
 (.need (an_ (le_ lm_ (.var 10)) (le_ (.var 10) lM_))
 (.br (lt_ v5_ (.iapp 0 (.cons (.int .i64 (.var 10)) .nil)))
 (.ret (.iface 94 (.int .i64 (.lit 1))))
 (.need (an_ (le_ lm_ (.var 11)) (le_ (.var 11) lM_))
 (.br (lt_ (.lit 1048576) (.iapp 0 (.cons (.int .i64 (.var 11)) .nil)))
 (.ret (.iface 94 (.int .i64 (.lit 1))))
 (.ret (.cst .nilI))))))))))))))
abbrev yic_hcheck : Con := ⟨16, [xryiqhtk4_], xryiqhtk1_, (.err (.iapp 42 (.cons xryiqhtk0_ .nil))), ⟨12, 1, 0, 0⟩, none⟩
theorem hcheck_w : walk Tryz.prog 94 ⟨[yic_ckr, yac_size], syG, [], [], []⟩ [] .v yic_hcheck yic_hcheck.n 3000 = some hcheck_tree := by kernel_rfl
theorem hcheck_h (rm rs rr gp gi rl ro hb ht he sf ss : Int) (sy : Bool) : Hyp_ yic_hcheck hcheck_tree (yiE [rm, rs, rr, gp, gi, rl, ro, hb, ht, he, sf, ss] [sy] [] []) := by
 intro hc hty
 simp only [yic_hcheck, Sy.holds, yiE, denV, denI, denB, denL, I2.den, VOp.den, List.getD_cons_zero, List.getD_cons_succ, Cst.den, syso, syse, syio, sybo, B2.ofInts, B2.denI, B2.denB, if_true, Bool.false_eq_true, if_false, Nat.div_one, Nat.mul_one, Nat.add_zero] at hc
 simp only [yic_hcheck, patsTyp, patTyp, patTypL, yiE, denV, denL, List.getD_cons_zero, List.getD_cons_succ, and_true, true_and] at hty
 unfold hcheck_tree
 simp only [yic_hcheck, Tree.holds, Sy.holds, yiE, denV, denI, denB, denL, I2.den, VOp.den, List.getD_cons_zero, List.getD_cons_succ, Cst.den, syso, syse, syio, sybo, yii_sz, yii_hme, B2.ofInts, B2.denI, B2.denB, if_true, Bool.false_eq_true, if_false, Nat.div_one, Nat.mul_one, Nat.add_zero]
 refine ⟨?_, fun h0 => ?_⟩
 ·
  omega
 refine ⟨fun h1 => ?_, fun h1 => ?_⟩
 refine ?a0; rotate_left
 refine ⟨fun h2 => ?_, fun h2 => ?_⟩
 refine ?a1; rotate_left
 refine ⟨fun h3 => ?_, fun h3 => ?_⟩
 refine ?a2; rotate_left
 refine ⟨?_, fun h4 => ?_⟩
 ·
  omega
 refine ⟨fun h5 => ?_, fun h5 => ?_⟩
 refine ?a3; rotate_left
 refine ⟨fun h6 => ?_, fun h6 => ?_⟩
 refine ?a4; rotate_left
 refine ⟨fun h7 => ?_, fun h7 => ?_⟩
 refine ?a5; rotate_left
 refine ⟨?_, fun h8 => ?_⟩
 ·
  omega
 refine ⟨fun h9 => ?_, fun h9 => ?_⟩
 refine ?a6; rotate_left
 refine ⟨?_, fun h10 => ?_⟩
 ·
  omega
 refine ⟨fun h11 => ?_, fun h11 => ?_⟩
 refine ?a7; rotate_left
 refine ?a8; rotate_left
 case a0 | a1 | a2 | a3 | a4 | a5 | a6 | a7 | a8 =>
  have hz1 := szE_spec ht ⟨by omega, by omega⟩
  have hz2 := szE_spec sf ⟨by omega, by omega⟩
  have hz3 := szE_spec ss ⟨by omega, by omega⟩
  simp only [hoL_eq] at *
  by_cases hp : hoP rm rs rr gp gi rl ro hb ht he sf ss
  · have e0 := hoE_y hp
    obtain ⟨f, a1, a2, a3, a4, a5, a6, a7, a8, a9, a10, a11, a12, a13, a14, a15, a16, a17, a18, a19, a20⟩ := id hp
    have e1 : hoE rm rs rr gp gi rl ro 0 0 0 0 0 = 0 := hoE_y ⟨f, a1, a2, a3, a4, a5, a6, a7, a8, a9, a10, by omega, by omega, by omega, by omega, by omega, by omega, by omega, by omega, by omega, by omega⟩
    first
    | (exfalso; omega)
    | (rw [e0]; rfl)
    | (rw [e0, e1]; done)
    | (rw [e0, e1]; rfl)
  · have e0 := hoE_n hp
    by_cases hq : hoP rm rs rr gp gi rl ro 0 0 0 0 0
    · have e1 := hoE_y hq
      obtain ⟨f, a1, a2, a3, a4, a5, a6, a7, a8, a9, a10, a11, a12, a13, a14, a15, a16, a17, a18, a19, a20⟩ := hq
      first
      | (exfalso; omega)
      | (rw [e0]; rfl)
      | exact absurd ⟨f, by omega, by omega, by omega, by omega, by omega, by omega, by omega, by omega, by omega, by omega, by omega, by omega, by omega, by omega, by omega, by omega, by omega, by omega, by omega, by omega⟩ hp
    · have e1 := hoE_n hq
      first
      | (exfalso; omega)
      | (rw [e0, e1]; done)
      | (rw [e0, e1]; rfl)
      | (rw [e0]; rfl)
theorem yig_hcheck : yic_hcheck.Good Tryz.prog syG (yiE [] [] [] []) := good_of_walk (Γ := ⟨[yic_ckr, yac_size], syG, [], [], []⟩) (ρ := yiE [] [] [] []) sym hcheck_w rfl (fun _ _ _ _ => (ok_cons (Con.Good.env yig_ckr _ _ _ _) (ok_cons (Con.Good.env (Con.Good.up (Con.Good.up (Con.Good.up (Con.Good.up yag_size ybup rfl) ycup rfl) yhup rfl) yiup rfl) _ _ _ _) ok_nil))) hcheck_h
def hfac_tree : Tree :=
 (.need xryiqhtk1_
 (.br (.not (eq_ (.iapp 42 (.cons xryiqhtk0_ .nil)) (.lit 0)))
 (.ret (.tup (.cons (.agg (.cons (.int .u32 (.lit 0)) (.cons (.int .i64 (.lit 0)) .nil))) (.cons (.err (.iapp 42 (.cons xryiqhtk0_ .nil))) .nil))))
 (.need (an_ xryiqhtk11_ (an_ (le_ lm_ (.var 10)) (le_ (.var 10) lM_)))
 (.ret (.tup (.cons (.agg (.cons (.int .u32 xryiqhtk7_) (.cons (.int .i64 xryiqhtk6_) .nil))) (.cons (.err xryiqhtk12_) .nil)))))))
abbrev yic_hfac : Con := ⟨12, [xryiqhtk4_], (an_ xryiqhtk1_ (.bapp 4 (.cons xryiqhtk0_ .nil))), (.tup (.cons (.agg (.cons (.int .u32 xryiqhtk7_) (.cons (.int .i64 xryiqhtk6_) .nil))) (.cons (.err xryiqhtk12_) .nil))), ⟨12, 1, 0, 0⟩, none⟩
theorem hfac_w : walk Tryz.prog 94 ⟨[yic_hcheck, yhc_adjust], syG, [], [], []⟩ [] .v yic_hfac yic_hfac.n 3000 = some hfac_tree := by kernel_rfl
theorem hfac_h (rm rs rr gp gi rl ro hb ht he sf ss : Int) (sy : Bool) : Hyp_ yic_hfac hfac_tree (yiE [rm, rs, rr, gp, gi, rl, ro, hb, ht, he, sf, ss] [sy] [] []) := by
 intro hc hty
 simp only [yic_hfac, Sy.holds, yiE, denV, denI, denB, denL, I2.den, VOp.den, List.getD_cons_zero, List.getD_cons_succ, Cst.den, syso, syse, syio, sybo, yib_hm, B2.ofInts, B2.denI, B2.denB, if_true, Bool.false_eq_true, if_false, Nat.div_one, Nat.mul_one, Nat.add_zero] at hc
 simp only [yic_hfac, patsTyp, patTyp, patTypL, yiE, denV, denL, List.getD_cons_zero, List.getD_cons_succ, and_true, true_and] at hty
 unfold hfac_tree
 simp only [yic_hfac, Tree.holds, Sy.holds, yiE, denV, denI, denB, denL, I2.den, VOp.den, List.getD_cons_zero, List.getD_cons_succ, Cst.den, syso, syse, syio, sybo, yii_ada, yii_ads, yii_ade, yii_hme, B2.ofInts, B2.denI, B2.denB, if_true, Bool.false_eq_true, if_false, Nat.div_one, Nat.mul_one, Nat.add_zero]
 have hp : hoP rm rs rr gp gi rl ro hb ht he sf ss := of_decide_eq_true hc.2
 obtain ⟨f, a1, a2, a3, a4, a5, a6, a7, a8, a9, a10, a11, a12, a13, a14, a15, a16, a17, a18, a19, a20⟩ := id hp
 have hE : hoL (Sy.rows (hoT rm rs rr gp gi rl ro hb ht he sf ss sy)) = 0 := hoE_y hp
 have hT : hoB (Sy.rows (hoT rm rs rr gp gi rl ro hb ht he sf ss sy)) = true := decide_eq_true hp
 refine ⟨?_, fun h0 => ?_⟩
 ·
  first
  | exact hc.1
  | omega
 refine ⟨fun h1 => ?_, fun h1 => ?_⟩
 ·
  first
  | exact absurd hE (by assumption)
  | exact True.intro
  | rfl
 refine ⟨?_, fun h2 => ?_⟩
 ·
  first
  | exact hc.1
  | omega
 ·
  first
  | exact absurd hE (by assumption)
  | exact True.intro
  | rfl
theorem yig_hfac : yic_hfac.Good Tryz.prog syG (yiE [] [] [] []) := good_of_walk (Γ := ⟨[yic_hcheck, yhc_adjust], syG, [], [], []⟩) (ρ := yiE [] [] [] []) sym hfac_w rfl (fun _ _ _ _ => (ok_cons (Con.Good.env yig_hcheck _ _ _ _) (ok_cons (Con.Good.env (Con.Good.up yhg_adjust yiup rfl) _ _ _ _) ok_nil))) hfac_h
def hbound_tree : Tree :=
 (.need (an_ xryiqhtk11_ (an_ (.bapp 0 (.cons (.int .u32 v0_) (.cons z1_ .nil))) (an_ (le_ lm_ (.var 12)) (le_ (.var 12) lM_))))
 (.br (.not (eq_ (.iapp 9 (.cons (.int .i64 (.var 12)) (.cons (.int .u32 v0_) (.cons z1_ .nil)))) (.lit 0)))
 (.ret (.tup (.cons (.int .i64 (.lit 0)) (.cons (.err (.iapp 9 (.cons (.int .i64 (.var 12)) (.cons (.int .u32 v0_) (.cons z1_ .nil))))) .nil))))
 (.need (an_ (le_ lm_ (.var 10)) (le_ (.var 10) lM_))
 (.need (an_ (le_ (.lit 0) v2_) (an_ (le_ v2_ (.lit 1048576)) (an_ (le_ (.lit 0) (.iapp 0 (.cons (.int .i64 (.var 10)) .nil))) (le_ (.iapp 0 (.cons (.int .i64 (.var 10)) .nil)) (.lit 1048576)))))
 (.need (an_ (le_ lm_ xryiqhtk13_) (le_ xryiqhtk13_ lM_))
 (.need (an_ (le_ (.lit 0) v9_) (an_ (le_ v9_ (.lit 2305843009213693952)) (an_ (le_ (.lit 0) (ad_ v2_ (.iapp 0 (.cons (.int .i64 (.var 10)) .nil)))) (an_ (le_ (ad_ v2_ (.iapp 0 (.cons (.int .i64 (.var 10)) .nil))) (.lit 2097152)) (an_ (le_ (.lit 0) (.iapp 1 (.cons (.int .i64 (ad_ xryiqhtk13_ (.lit 1))) .nil))) (le_ (.iapp 1 (.cons (.int .i64 (ad_ xryiqhtk13_ (.lit 1))) .nil)) lM_))))))
 (.need (an_ xryiqhtk11_ (an_ (.bapp 0 (.cons (.int .u32 v0_) (.cons z1_ .nil))) (an_ (le_ (.lit 0) (.var 12)) (le_ (.var 12) (.lit 1125899906842624)))))
 (.need (an_ (an_ (le_ lm_ xryiqhtk3_) (le_ xryiqhtk3_ lM_)) (an_ (le_ lm_ xryiqhtk10_) (le_ xryiqhtk10_ lM_)))
 (.need (an_ (le_ lm_ (.iapp 1 (.cons (.int .i64 (ad_ xryiqhtk3_ xryiqhtk10_)) .nil))) (le_ (.iapp 1 (.cons (.int .i64 (ad_ xryiqhtk3_ xryiqhtk10_)) .nil)) lM_))
 (.ret (.tup (.cons (.int .i64 (.iapp 1 (.cons (.int .i64 (ad_ (.iapp 1 (.cons (.int .i64 (ad_ xryiqhtk3_ xryiqhtk10_)) .nil)) (.lit 2))) .nil))) (.cons (.cst .nilI) .nil)))))))))))))
abbrev yic_hbound : Con := ⟨75, [xryiqhtk4_, (.int .i64 (.var 12))], (an_ xryiqhtk1_ (an_ (.bapp 4 (.cons xryiqhtk0_ .nil)) (an_ (le_ (.lit 0) (.var 12)) (le_ (.var 12) (.lit 1125899906842624))))), (.tup (.cons (.int .i64 (.iapp 18 (.cons z9_ (.cons (.int .u32 v0_) (.cons z1_ (.cons (.int .i64 (.iapp 34 (.cons z2_ (.cons (.int .i64 (.var 10)) .nil)))) (.cons (.int .i64 (.var 12)) .nil))))))) (.cons (.err (.iapp 19 (.cons (.int .u32 v0_) (.cons z1_ (.cons (.int .i64 (.var 12)) .nil))))) .nil))), ⟨13, 1, 0, 0⟩, none⟩
theorem hbound_w : walk Tryz.prog 94 ⟨[yac_scale, yhc_both, yac_size, yac_grow, yac_addsat, yac_off], syG, [], [], []⟩ [] .v yic_hbound yic_hbound.n 3000 = some hbound_tree := by kernel_rfl
theorem hbound_h (rm rs rr gp gi rl ro hb ht he sf ss k : Int) (sy : Bool) : Hyp_ yic_hbound hbound_tree (yiE [rm, rs, rr, gp, gi, rl, ro, hb, ht, he, sf, ss, k] [sy] [] []) := by
 intro hc hty
 simp only [yic_hbound, Sy.holds, yiE, denV, denI, denB, denL, I2.den, VOp.den, List.getD_cons_zero, List.getD_cons_succ, Cst.den, syso, syse, syio, sybo, yib_hm, B2.ofInts, B2.denI, B2.denB, if_true, Bool.false_eq_true, if_false, Nat.div_one, Nat.mul_one, Nat.add_zero] at hc
 simp only [yic_hbound, patsTyp, patTyp, patTypL, yiE, denV, denL, List.getD_cons_zero, List.getD_cons_succ, and_true, true_and] at hty
 unfold hbound_tree
 simp only [yic_hbound, Tree.holds, Sy.holds, yiE, denV, denI, denB, denL, I2.den, VOp.den, List.getD_cons_zero, List.getD_cons_succ, Cst.den, syso, syse, syio, sybo, yii_sz, yii_sa, yii_msn, yii_mse, yii_up, yii_hv, yii_bnv, yii_bne, yii_pl, yib_fm, B2.ofInts, B2.denI, B2.denB, if_true, Bool.false_eq_true, if_false, Nat.div_one, Nat.mul_one, Nat.add_zero]
 have hp : hoP rm rs rr gp gi rl ro hb ht he sf ss := of_decide_eq_true hc.2.1
 obtain ⟨f, a1, a2, a3, a4, a5, a6, a7, a8, a9, a10, a11, a12, a13, a14, a15, a16, a17, a18, a19, a20⟩ := id hp
 have hE : hoL (Sy.rows (hoT rm rs rr gp gi rl ro hb ht he sf ss sy)) = 0 := hoE_y hp
 have hT : hoB (Sy.rows (hoT rm rs rr gp gi rl ro hb ht he sf ss sy)) = true := decide_eq_true hp
 have hf0 : decide (fmP rm rs) = true := decide_eq_true f
 have hm := ms_spec f hc.2.2.1
 have ha := bn_spec he rm rs (plI rr sf) k
 have hh := hv_bd (n := k) (s := rs) hc.2.2.1
 have hz := szE_spec sf ⟨by omega, by omega⟩
 have ez : rr + szE sf = plI rr sf := by have := plI_spec rr sf; omega
 have hpl := plI_spec rr sf
 simp only [ez]
 have s1 := satE_spec (msN k rm rs + 1)
 have s2 := satE_spec (he + upK (satE (msN k rm rs + 1) * plI rr sf))
 have s3 := satE_spec (satE (he + upK (satE (msN k rm rs + 1) * plI rr sf)) + (k / 2 ^ rs.toNat + 2))
 refine ⟨?_, fun h0 => ?_⟩
 refine ?a0; rotate_left
 refine ⟨fun h1 => ?_, fun h1 => ?_⟩
 refine ?a1; rotate_left
 refine ⟨?_, fun h2 => ?_⟩
 refine ?a2; rotate_left
 refine ⟨?_, fun h3 => ?_⟩
 refine ?a3; rotate_left
 refine ⟨?_, fun h4 => ?_⟩
 refine ?a4; rotate_left
 refine ⟨?_, fun h5 => ?_⟩
 refine ?a5; rotate_left
 refine ⟨?_, fun h6 => ?_⟩
 refine ?a6; rotate_left
 refine ⟨?_, fun h7 => ?_⟩
 refine ?a7; rotate_left
 refine ⟨?_, fun h8 => ?_⟩
 refine ?a8; rotate_left
 refine ?a9; rotate_left
 case a0 | a2 | a3 | a4 | a5 | a6 | a7 | a8 =>
  first
  | omega
  | (simp only [hf0, true_and]; omega)
 case a1 | a9 =>
  rcases hm with ⟨c0, ⟨m1, m2, m3⟩ | ⟨m1, m2, m3⟩⟩ <;> rcases ha with ⟨z1, z2, z3⟩ | ⟨z1, z2, z3⟩
  all_goals first
  | (exfalso; omega)
  | (rw [z2, z3, m1]; done)
  | (rw [z2, z3]; rfl)
  | (rw [z2, z3]; unfold bnO; rw [m2]; done)
  | (rw [z2, z3]; unfold bnO; rw [m2]; rfl)
theorem yig_hbound : yic_hbound.Good Tryz.prog syG (yiE [] [] [] []) := good_of_walk (Γ := ⟨[yac_scale, yhc_both, yac_size, yac_grow, yac_addsat, yac_off], syG, [], [], []⟩) (ρ := yiE [] [] [] []) sym hbound_w rfl (fun _ _ _ _ => (ok_cons (Con.Good.env (Con.Good.up (Con.Good.up (Con.Good.up (Con.Good.up yag_scale ybup rfl) ycup rfl) yhup rfl) yiup rfl) _ _ _ _) (ok_cons (Con.Good.env (Con.Good.up yhg_both yiup rfl) _ _ _ _) (ok_cons (Con.Good.env (Con.Good.up (Con.Good.up (Con.Good.up (Con.Good.up yag_size ybup rfl) ycup rfl) yhup rfl) yiup rfl) _ _ _ _) (ok_cons (Con.Good.env (Con.Good.up (Con.Good.up (Con.Good.up (Con.Good.up yag_grow ybup rfl) ycup rfl) yhup rfl) yiup rfl) _ _ _ _) (ok_cons (Con.Good.env (Con.Good.up (Con.Good.up (Con.Good.up (Con.Good.up yag_addsat ybup rfl) ycup rfl) yhup rfl) yiup rfl) _ _ _ _) (ok_cons (Con.Good.env (Con.Good.up (Con.Good.up (Con.Good.up (Con.Good.up yag_off ybup rfl) ycup rfl) yhup rfl) yiup rfl) _ _ _ _) ok_nil))))))) hbound_h
def est_tree : Tree :=
 (.br (lt_ (.var 12) v7_)
 (.ret (.tup (.cons (.int .i64 (.lit 0)) (.cons (.int .i64 (.lit 0)) (.cons (.iface 94 (.int .i64 (.lit 10))) .nil)))))
 (.br (lt_ (.lit 1125899906842624) (wr_ (sb_ (.var 12) v7_)))
 (.ret xryiqhtk8_)
 (.need (an_ xryiqhtk1_ (.bapp 4 (.cons xryiqhtk0_ .nil)))
 (.br (.not (eq_ xryiqhtk12_ (.lit 0)))
 (.ret (.tup (.cons (.int .i64 (.lit 0)) (.cons (.int .i64 (.lit 0)) (.cons (.err xryiqhtk12_) .nil)))))
 (.need (an_ (an_ (an_ (le_ (.lit 0) xryiqhtk7_) (le_ xryiqhtk7_ (.lit 4294967295))) (an_ (le_ lm_ xryiqhtk6_) (le_ xryiqhtk6_ lM_))) (an_ (.bapp 0 (.cons (.int .u32 xryiqhtk7_) (.cons (.int .i64 xryiqhtk6_) .nil))) (an_ (le_ lm_ (wr_ (sb_ (.var 12) v7_))) (le_ (wr_ (sb_ (.var 12) v7_)) lM_))))
 (.br (.not (eq_ (.iapp 9 (.cons (.int .i64 (wr_ (sb_ (.var 12) v7_))) (.cons (.int .u32 xryiqhtk7_) (.cons (.int .i64 xryiqhtk6_) .nil)))) (.lit 0)))
 (.ret xryiqhtk8_)
 (.need (an_ (an_ (le_ lm_ v8_) (le_ v8_ lM_)) (an_ (le_ lm_ xryiqhtk2_) (le_ xryiqhtk2_ lM_)))
 (.br (.not (eq_ (.iapp 3 (.cons (.int .i64 (ad_ v8_ xryiqhtk2_)) .nil)) (.lit 0)))
 (.ret xryiqhtk8_)
 (.need (an_ (le_ lm_ (.iapp 2 (.cons (.int .i64 (ad_ v8_ xryiqhtk2_)) .nil))) (le_ (.iapp 2 (.cons (.int .i64 (ad_ v8_ xryiqhtk2_)) .nil)) lM_))
 (.br (le_ (.lit 4611686018427387904) (.iapp 0 (.cons (.int .i64 (.iapp 2 (.cons (.int .i64 (ad_ v8_ xryiqhtk2_)) .nil))) .nil)))
 (.ret xryiqhtk8_)
 (.need (an_ xryiqhtk1_ (an_ (.bapp 4 (.cons xryiqhtk0_ .nil)) (an_ (le_ (.lit 0) (wr_ (sb_ (.var 12) v7_))) (le_ (wr_ (sb_ (.var 12) v7_)) (.lit 1125899906842624)))))
 (.br (.not (eq_ (.iapp 19 (.cons (.int .u32 v0_) (.cons z1_ (.cons (.int .i64 (wr_ (sb_ (.var 12) v7_))) .nil)))) (.lit 0)))
 (.ret (.tup (.cons (.int .i64 (.lit 0)) (.cons (.int .i64 (.lit 0)) (.cons (.err (.iapp 19 (.cons (.int .u32 v0_) (.cons z1_ (.cons (.int .i64 (wr_ (sb_ (.var 12) v7_))) .nil))))) .nil)))))
 (.ret (.tup (.cons (.int .i64 (.iapp 2 (.cons (.int .i64 (ad_ v8_ xryiqhtk2_)) .nil))) (.cons (.int .i64 (.iapp 18 (.cons z9_ (.cons (.int .u32 v0_) (.cons z1_ (.cons (.int .i64 (.iapp 34 (.cons z2_ (.cons (.int .i64 (.var 10)) .nil)))) (.cons (.int .i64 (wr_ (sb_ (.var 12) v7_))) .nil))))))) (.cons (.cst .nilI) .nil)))))))))))))))))
abbrev yic_est : Con := ⟨35, [xryiqhtk4_, (.int .i64 (.var 12))], (an_ xryiqhtk1_ (an_ (.bapp 4 (.cons xryiqhtk0_ .nil)) (an_ (le_ lm_ (.var 12)) (le_ (.var 12) lM_)))), (.tup (.cons (.int .i64 (.iapp 44 (.cons xryiqhtk0_ (.cons (.int .i64 (.var 12)) .nil)))) (.cons (.int .i64 (.iapp 45 (.cons xryiqhtk0_ (.cons (.int .i64 (.var 12)) .nil)))) (.cons (.err (.iapp 43 (.cons xryiqhtk0_ (.cons (.int .i64 (.var 12)) .nil)))) .nil)))), ⟨13, 1, 0, 0⟩, none⟩
theorem est_w : walk Tryz.prog 94 ⟨[yic_hfac, yac_scale, yac_nadd, yac_size, yic_hbound], syG, [], [], []⟩ [] .v yic_est yic_est.n 3000 = some est_tree := by kernel_rfl
theorem est_h (rm rs rr gp gi rl ro hb ht he sf ss k : Int) (sy : Bool) : Hyp_ yic_est est_tree (yiE [rm, rs, rr, gp, gi, rl, ro, hb, ht, he, sf, ss, k] [sy] [] []) := by
 intro hc hty
 simp only [yic_est, Sy.holds, yiE, denV, denI, denB, denL, I2.den, VOp.den, List.getD_cons_zero, List.getD_cons_succ, Cst.den, syso, syse, syio, sybo, yib_hm, B2.ofInts, B2.denI, B2.denB, if_true, Bool.false_eq_true, if_false, Nat.div_one, Nat.mul_one, Nat.add_zero] at hc
 simp only [yic_est, patsTyp, patTyp, patTypL, yiE, denV, denL, List.getD_cons_zero, List.getD_cons_succ, and_true, true_and] at hty
 unfold est_tree
 simp only [yic_est, Tree.holds, Sy.holds, yiE, denV, denI, denB, denL, I2.den, VOp.den, List.getD_cons_zero, List.getD_cons_succ, Cst.den, syso, syse, syio, sybo, yii_sz, yii_nv, yii_ne, yii_msn, yii_mse, yii_bnv, yii_bne, yii_ada, yii_ads, yii_ade, yii_pl, yii_rke, yii_rkt, yii_rko, yib_fm, yib_hm, B2.ofInts, B2.denI, B2.denB, if_true, Bool.false_eq_true, if_false, Nat.div_one, Nat.mul_one, Nat.add_zero]
 have hp : hoP rm rs rr gp gi rl ro hb ht he sf ss := of_decide_eq_true hc.2.1
 obtain ⟨f, a1, a2, a3, a4, a5, a6, a7, a8, a9, a10, a11, a12, a13, a14, a15, a16, a17, a18, a19, a20⟩ := id hp
 have hE : hoL (Sy.rows (hoT rm rs rr gp gi rl ro hb ht he sf ss sy)) = 0 := hoE_y hp
 have hT : hoB (Sy.rows (hoT rm rs rr gp gi rl ro hb ht he sf ss sy)) = true := decide_eq_true hp
 simp only [rkE_eq, rkT_eq, rkO_eq]
 have hk := rk_spec rm rs rr hb ht he sf k
 have had := ad_spec rm rs sf
 have had2 : adE rm rs sf ≠ 0 → adE rm rs sf = 2 := fun h => by rcases had with ⟨x, _⟩ | ⟨_, _, had⟩ <;> first | exact absurd f x | omega
 have hm := ms_ad rm rs sf (k - hb)
 have hr := ad_rngs rm rs sf hc.1.1 hc.1.2.1
 have hb0 := bn_spec he rm rs (plI rr sf) (k - hb)
 have ww := wr_i64 (k - hb)
 have hs := svE_spec (ht + msN (k - hb) (adA rm rs sf) (adS rm rs sf))
 have hz := szE_spec (svE (ht + msN (k - hb) (adA rm rs sf) (adS rm rs sf))) ⟨by omega, by omega⟩
 refine ⟨fun h0 => ?_, fun h0 => ?_⟩
 refine ?a0; rotate_left
 first | have hw0 : IntKind.wrap .i64 (k - hb) = (k - hb) := by (have hwx := wr_i64 (k - hb); omega) | have wf0 := wr_i64 (k - hb)
 refine ⟨fun h1 => ?_, fun h1 => ?_⟩
 refine ?a1; rotate_left
 refine ⟨?_, fun h2 => ?_⟩
 refine ?a2; rotate_left
 refine ⟨fun h3 => ?_, fun h3 => ?_⟩
 refine ?a3; rotate_left
 refine ⟨?_, fun h4 => ?_⟩
 refine ?a4; rotate_left
 try simp only [hw0]
 refine ⟨fun h5 => ?_, fun h5 => ?_⟩
 refine ?a5; rotate_left
 try simp only [hw0]
 refine ⟨?_, fun h6 => ?_⟩
 refine ?a6; rotate_left
 try simp only [hw0]
 refine ⟨fun h7 => ?_, fun h7 => ?_⟩
 refine ?a7; rotate_left
 try simp only [hw0]
 refine ⟨?_, fun h8 => ?_⟩
 refine ?a8; rotate_left
 try simp only [hw0]
 refine ⟨fun h9 => ?_, fun h9 => ?_⟩
 refine ?a9; rotate_left
 refine ⟨?_, fun h10 => ?_⟩
 refine ?a10; rotate_left
 try simp only [hw0]
 refine ⟨fun h11 => ?_, fun h11 => ?_⟩
 try simp only [hw0]
 refine ?a11; rotate_left
 try simp only [hw0]
 refine ?a12; rotate_left
 case a0 | a1 | a3 | a5 | a7 | a9 | a11 | a12 =>
  rcases hk with ⟨z0, z1, z2, z3⟩ | ⟨z0, z1, z2, z3⟩ | ⟨z0, z1, z2, z3⟩ <;> rcases hm with hm | hm | ⟨c0, c1, c2, ⟨m1, m2, m3⟩ | ⟨m1, m2, m3⟩⟩ <;> rcases hb0 with ⟨x1, x2, x3⟩ | ⟨x1, x2, x3⟩
  all_goals first
  | (exfalso; omega)
  | (rw [z1, z2, z3]; done)
  | (rw [z1, z2, z3]; rfl)
  | (rw [z1, z2, z3, had2 (by omega)]; done)
  | (rw [z1, z2, z3, had2 (by omega)]; rfl)
  | (rw [z1, z2, z3, x2]; done)
  | (rw [z1, z2, z3, x2]; rfl)
  | (rw [m2] at hs
     rw [z1, z2, z3, x3, m2, pl_eq, show svE (ht + qE (adF rm sf) rs (k - hb)) = ht + qE (adF rm sf) rs (k - hb) by omega]
     done)
  | (rw [m2] at hs
     rw [z1, z2, z3, x3, m2, pl_eq, show svE (ht + qE (adF rm sf) rs (k - hb)) = ht + qE (adF rm sf) rs (k - hb) by omega]
     rfl)
  | skip
 case a2 | a4 | a6 | a8 | a10 =>
  first
  | omega
  | exact hc.1
  | exact ⟨hc.1, hT⟩
  | exact ⟨hc.1, hT, by omega, by omega⟩
  | (refine ⟨⟨hr.1, hr.2⟩, ad_fm2 (by omega), ?_⟩
     omega)
  | skip
theorem yig_est : yic_est.Good Tryz.prog syG (yiE [] [] [] []) := good_of_walk (Γ := ⟨[yic_hfac, yac_scale, yac_nadd, yac_size, yic_hbound], syG, [], [], []⟩) (ρ := yiE [] [] [] []) sym est_w rfl (fun _ _ _ _ => (ok_cons (Con.Good.env yig_hfac _ _ _ _) (ok_cons (Con.Good.env (Con.Good.up (Con.Good.up (Con.Good.up (Con.Good.up yag_scale ybup rfl) ycup rfl) yhup rfl) yiup rfl) _ _ _ _) (ok_cons (Con.Good.env (Con.Good.up (Con.Good.up (Con.Good.up (Con.Good.up yag_nadd ybup rfl) ycup rfl) yhup rfl) yiup rfl) _ _ _ _) (ok_cons (Con.Good.env (Con.Good.up (Con.Good.up (Con.Good.up (Con.Good.up yag_size ybup rfl) ycup rfl) yhup rfl) yiup rfl) _ _ _ _) (ok_cons (Con.Good.env yig_hbound _ _ _ _) ok_nil)))))) est_h
def now_tree : Tree :=
 (.need xryiqhtk1_
 (.br (.not (eq_ (.iapp 42 (.cons xryiqhtk0_ .nil)) (.lit 0)))
 (.ret (.tup (.cons (.int .i64 (.lit 0)) (.cons (.int .i64 (.lit 0)) (.cons (.err (.iapp 42 (.cons xryiqhtk0_ .nil))) .nil)))))
 (.br (.not (.bvar 0))
 (.ret (.tup (.cons (.int .i64 (.lit 0)) (.cons (.int .i64 (.lit 0)) (.cons (.iface 94 (.int .i64 (.lit 13))) .nil)))))
 (.need (an_ xryiqhtk1_ (an_ (.bapp 4 (.cons xryiqhtk0_ .nil)) (an_ (le_ lm_ (.var 12)) (le_ (.var 12) lM_))))
 (.br (.not (eq_ (.iapp 43 (.cons xryiqhtk0_ (.cons (.int .i64 (.var 12)) .nil))) (.lit 0)))
 (.ret (.tup (.cons (.int .i64 (.lit 0)) (.cons (.int .i64 (.lit 0)) (.cons (.err (.iapp 43 (.cons xryiqhtk0_ (.cons (.int .i64 (.var 12)) .nil)))) .nil)))))
 (.br (lt_ v6_ (.iapp 45 (.cons xryiqhtk0_ (.cons (.int .i64 (.var 12)) .nil))))
 (.ret (.tup (.cons (.int .i64 (.lit 0)) (.cons (.int .i64 (.lit 0)) (.cons (.iface 94 (.int .i64 (.lit 13))) .nil)))))
 (.ret (.tup (.cons (.int .i64 (.iapp 44 (.cons xryiqhtk0_ (.cons (.int .i64 (.var 12)) .nil)))) (.cons (.int .i64 (.iapp 45 (.cons xryiqhtk0_ (.cons (.int .i64 (.var 12)) .nil)))) (.cons (.cst .nilI) .nil)))))))))))
abbrev yic_now : Con := ⟨7, [xryiqhtk4_, (.int .i64 (.var 12))], (an_ xryiqhtk1_ (an_ (le_ lm_ (.var 12)) (le_ (.var 12) lM_))), (.tup (.cons (.int .i64 (.iapp 47 (.cons xryiqhtk0_ (.cons (.int .i64 (.var 12)) .nil)))) (.cons (.int .i64 (.iapp 48 (.cons xryiqhtk0_ (.cons (.int .i64 (.var 12)) .nil)))) (.cons (.err (.iapp 46 (.cons xryiqhtk0_ (.cons (.int .i64 (.var 12)) .nil)))) .nil)))), ⟨13, 1, 0, 0⟩, none⟩
theorem now_w : walk Tryz.prog 94 ⟨[yic_hcheck, yic_est], syG, [], [], []⟩ [] .v yic_now yic_now.n 3000 = some now_tree := by kernel_rfl
theorem now_h (rm rs rr gp gi rl ro hb ht he sf ss k : Int) (sy : Bool) : Hyp_ yic_now now_tree (yiE [rm, rs, rr, gp, gi, rl, ro, hb, ht, he, sf, ss, k] [sy] [] []) := by
 intro hc hty
 simp only [yic_now, Sy.holds, yiE, denV, denI, denB, denL, I2.den, VOp.den, List.getD_cons_zero, List.getD_cons_succ, Cst.den, syso, syse, syio, sybo, B2.ofInts, B2.denI, B2.denB, if_true, Bool.false_eq_true, if_false, Nat.div_one, Nat.mul_one, Nat.add_zero] at hc
 simp only [yic_now, patsTyp, patTyp, patTypL, yiE, denV, denL, List.getD_cons_zero, List.getD_cons_succ, and_true, true_and] at hty
 unfold now_tree
 simp only [yic_now, Tree.holds, Sy.holds, yiE, denV, denI, denB, denL, I2.den, VOp.den, List.getD_cons_zero, List.getD_cons_succ, Cst.den, syso, syse, syio, sybo, yii_hme, yii_rke, yii_rkt, yii_rko, yii_nwe, yii_nwt, yii_nwo, yib_hm, B2.ofInts, B2.denI, B2.denB, if_true, Bool.false_eq_true, if_false, Nat.div_one, Nat.mul_one, Nat.add_zero]
 simp only [nwE_eq, nwT_eq, nwO_eq, rkE_eq, rkT_eq, rkO_eq, hoL_eq]
 have hn := nw_spec rm rs rr gp gi rl ro hb ht he sf ss sy k
 refine ⟨?_, fun h0 => ?_⟩
 refine ?a0; rotate_left
 refine ⟨fun h1 => ?_, fun h1 => ?_⟩
 refine ?a1; rotate_left
 refine ⟨fun h2 => ?_, fun h2 => ?_⟩
 refine ?a2; rotate_left
 refine ⟨?_, fun h3 => ?_⟩
 refine ?a3; rotate_left
 refine ⟨fun h4 => ?_, fun h4 => ?_⟩
 refine ?a4; rotate_left
 refine ⟨fun h5 => ?_, fun h5 => ?_⟩
 refine ?a5; rotate_left
 refine ?a6; rotate_left
 case a0 | a3 =>
  first
  | omega
  | exact hc.1
  | exact ⟨hc.1, decide_eq_true (by rcases hn with ⟨⟨_, x⟩, _⟩ | ⟨⟨x, _⟩, _⟩ <;> first | exact x | omega), hc.2⟩
  | skip
 case a1 | a2 | a4 | a5 | a6 =>
  rcases hn with ⟨⟨_, x⟩, z1, z2, z3⟩ | ⟨⟨_, x⟩, ⟨y, z1, z2, z3⟩ | ⟨⟨y, y1⟩, z1, z2, z3⟩ | ⟨⟨y, y1, y2⟩, z1, z2, z3⟩ | ⟨⟨y, y1, y2⟩, z1, z2, z3⟩⟩
  all_goals first
  | (exfalso; omega)
  | (exfalso; simp only [y, not_true_eq_false, Bool.false_eq_true, not_false_eq_true] at *; done)
  | (rw [z1, z2, z3, x]; done)
  | (rw [z1, z2, z3, x]; rfl)
  | (rw [z1, z2, z3]; done)
  | (rw [z1, z2, z3]; rfl)
  | skip
theorem yig_now : yic_now.Good Tryz.prog syG (yiE [] [] [] []) := good_of_walk (Γ := ⟨[yic_hcheck, yic_est], syG, [], [], []⟩) (ρ := yiE [] [] [] []) sym now_w rfl (fun _ _ _ _ => (ok_cons (Con.Good.env yig_hcheck _ _ _ _) (ok_cons (Con.Good.env yig_est _ _ _ _) ok_nil))) now_h
end Go.Proofs.YtjcgmdgkdkfdpaaGreatDoor
