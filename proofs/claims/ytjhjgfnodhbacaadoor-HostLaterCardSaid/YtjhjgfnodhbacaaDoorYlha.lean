/-
  Layer 18 by the second engine: the later, the farther off.
-/
import Derived.Test.YtjhjgfnodhbacaaDoorSycha
import Derived.Test.YtjhjgfnodhbacaaDoorYkha
import Derived.Test.YtjhjgfnodhbacaaDoorE00ha
namespace Go.Proofs.YtjhjgfnodhbacaaDoor
open Go.RowKit Go.Extern.Stop Go.Stop Go.Extern Go.Proofs.YtjhjgfnodhbacaaDoor.Sy
set_option linter.unusedVariables false
set_option linter.unusedSimpArgs false
theorem later_y {rm rs rr gp gi rl ro hb ht he sf ss A lo hi : Int} (hp : hoP rm rs rr gp gi rl ro hb ht he sf ss) (h0 : 0 ≤ A) (h1 : A ≤ 1152921504606846976) (h2 : lo ≤ hi) (h3 : -2305843009213693952 < lo) (h4 : hi < 2305843009213693952) :
    nwE rm rs rr gp gi rl ro A (miI lo hi) (satE (hi - miI lo hi)) sf ss false A = 13 ∧
    ((nwE rm rs rr gp gi rl ro A (miI lo hi) (satE (hi - miI lo hi)) sf ss true A = 0 ∧ nwT rm rs rr gp gi rl ro A (miI lo hi) (satE (hi - miI lo hi)) sf ss true A = miI lo hi ∧ satE (hi - miI lo hi) + 4 ≤ nwO rm rs rr gp gi rl ro A (miI lo hi) (satE (hi - miI lo hi)) sf ss true A ∧ nwO rm rs rr gp gi rl ro A (miI lo hi) (satE (hi - miI lo hi)) sf ss true A ≤ satE (hi - miI lo hi) + 5) ∨ nwE rm rs rr gp gi rl ro A (miI lo hi) (satE (hi - miI lo hi)) sf ss true A = 13 ∨ nwE rm rs rr gp gi rl ro A (miI lo hi) (satE (hi - miI lo hi)) sf ss true A = 2) ∧ 0 ≤ satE (hi - miI lo hi) ∧ satE (hi - miI lo hi) ≤ 2305843009213693952 ∧ lo ≤ miI lo hi ∧ miI lo hi ≤ hi := by
  obtain ⟨f, a1, a2, a3, a4, a5, a6, a7, a8, a9, a10, a11, a12, a13, a14, a15, a16, a17, a18, a19, a20⟩ := hp
  have hm := mi_bd h2
  have u := satE_spec (hi - miI lo hi)
  have e : 0 ≤ satE (hi - miI lo hi) ∧ satE (hi - miI lo hi) ≤ 2305843009213693952 := by omega
  generalize satE (hi - miI lo hi) = E at *
  generalize miI lo hi = M at *
  have hq : hoP rm rs rr gp gi rl ro A M E sf ss := ⟨f, a1, a2, a3, a4, a5, a6, a7, a8, a9, a10, h0, h1, by omega, by omega, e.1, e.2, a17, a18, a19, a20⟩
  refine ⟨?_, ?_, e.1, e.2, hm.1, hm.2.1⟩
  · rcases nw_spec rm rs rr gp gi rl ro A M E sf ss false A with ⟨⟨x, _⟩, _⟩ | ⟨_, ⟨_, y, _⟩ | ⟨⟨x, _⟩, _⟩ | ⟨⟨x, _⟩, _⟩ | ⟨⟨x, _⟩, _⟩⟩
    · exact absurd hq x
    · exact y
    · cases x
    · cases x
    · cases x
  · rcases nw_spec rm rs rr gp gi rl ro A M E sf ss true A with ⟨⟨x, _⟩, _⟩ | ⟨_, ⟨x, _⟩ | ⟨⟨_, x⟩, y, _⟩ | ⟨_, y, _⟩ | ⟨_, y1, y2, y3⟩⟩
    · exact absurd hq x
    · cases x
    · have := rk_spec rm rs rr A M E sf A
      omega
    · exact .inr (.inl y)
    · left
      rcases rk_spec rm rs rr A M E sf A with ⟨z, _⟩ | ⟨_, z, _⟩ | ⟨_, _, z2, z3⟩
      · omega
      · have := nw_spec rm rs rr gp gi rl ro A M E sf ss true A
        omega
      · have p := pabs_spec sf
        have b := bn_zero (r := E) (a := rm) (s := rs) (p := rr + pabs sf) e.1 (by omega) (by omega) (by omega)
        rw [Int.sub_self] at z2 z3
        rw [q_zero] at z2
        exact ⟨y1, by omega, by omega, by omega⟩
def suE (k a b : Int) : Int := if k < 0 ∨ 1152921504606846976 < k ∨ b < a ∨ a ≤ -2305843009213693952 ∨ 2305843009213693952 ≤ b then 1 else 0
theorem su_spec (k a b : Int) : ((k < 0 ∨ 1152921504606846976 < k ∨ b < a ∨ a ≤ -2305843009213693952 ∨ 2305843009213693952 ≤ b) ∧ suE k a b = 1) ∨ ((0 ≤ k ∧ k ≤ 1152921504606846976 ∧ a ≤ b ∧ -2305843009213693952 < a ∧ b < 2305843009213693952) ∧ suE k a b = 0) := by
  unfold suE
  split
  · exact .inl ⟨by assumption, rfl⟩
  · exact .inr ⟨by omega, rfl⟩
noncomputable def ylI : Nat → List Value → Int
  | 57, [.int _ k, .int _ a, .int _ b] => suE k a b
  | i, l => ykI i l
noncomputable def ylB : Nat → List Value → Bool
  | i, l => ykB i l
noncomputable def ylV : Nat → List Value → Value
  | i, l => ykV i l
noncomputable abbrev ylE (iv : List Int) (bv : List Bool) (vv : List Value) (sv : List ByteArray) : Env := { iv := iv, bv := bv, vv := vv, sv := sv, fi := ylI, fb := ylB, fv := ylV, et := 229 }
set_option maxHeartbeats 8000000 in
theorem ylup : Agree 57 5 2 (ykE [] [] [] []) (ylE [] [] [] []) := ⟨rfl, (by
    intro f hf
    funext l
    show ylI f l = ykI f l
    unfold ylI
    split <;> first | rfl | omega), (by
    intro f hf
    funext l
    show ylB f l = ykB f l
    unfold ylB
    split <;> first | rfl | omega), (by
    intro f hf
    funext l
    show ylV f l = ykV f l
    unfold ylV
    split <;> first | rfl | omega)⟩
theorem yli_sa (k1 : IntKind) (a : Int) : ylI 1 [.int k1 a] = satE a := rfl
theorem yli_se (k1 : IntKind) (a : Int) (k2 : IntKind) (b : Int) : ylI 30 [.int k1 a, .int k2 b] = spI a b := rfl
theorem yli_mi (k1 : IntKind) (a : Int) (k2 : IntKind) (b : Int) : ylI 31 [.int k1 a, .int k2 b] = miI a b := rfl
theorem yli_hme (l : Value) : ylI 42 [l] = hoL (rows l) := rfl
theorem yli_nwe (l : Value) (k1 : IntKind) (k : Int) : ylI 46 [l, .int k1 k] = nwEl (rows l) k := rfl
theorem yli_nwt (l : Value) (k1 : IntKind) (k : Int) : ylI 47 [l, .int k1 k] = nwTl (rows l) k := rfl
theorem yli_nwo (l : Value) (k1 : IntKind) (k : Int) : ylI 48 [l, .int k1 k] = nwOl (rows l) k := rfl
theorem yli_gd (k1 : IntKind) (e : Int) (k2 : IntKind) (x : Int) : ylI 54 [.int k1 e, .int k2 x] = gdF e x := rfl
theorem yli_sue (k1 : IntKind) (k : Int) (k2 : IntKind) (a : Int) (k3 : IntKind) (b : Int) : ylI 57 [.int k1 k, .int k2 a, .int k3 b] = suE k a b := rfl
theorem ylb_hm (l : Value) : ylB 4 [l] = hoB (rows l) := rfl
def syncv_x0 : Tm := (.tup (.cons (.agg (.cons (.int .u32 (.lit (0))) (.cons (.int .i64 (.lit (0))) (.cons (.int .i64 (.lit (0))) (.cons (.int .i64 (.lit (0))) (.cons (.int .i64 (.lit (0))) (.cons (.int .i64 (.lit (0))) (.cons (.int .i64 (.lit (0))) (.cons (.bool (.tt false)) (.cons (.int .i64 (.lit (0))) (.cons (.int .i64 (.lit (0))) (.cons (.int .i64 (.lit (0))) (.cons (.int .i64 (.lit (0))) (.cons (.int .i64 (.lit (0))) .nil)))))))))))))) (.cons (.iface 229 (.int .i64 (.lit (1)))) .nil)))
def syncv_tree : Tree :=
 (.need (.b2 .and (.b2 .and (.b2 .le (.lit (0)) (.var 0)) (.b2 .le (.var 0) (.lit (4294967295)))) (.b2 .and (.b2 .and (.b2 .le (.lit (-9223372036854775808)) (.var 1)) (.b2 .le (.var 1) (.lit (9223372036854775807)))) (.b2 .and (.b2 .and (.b2 .le (.lit (-9223372036854775808)) (.var 2)) (.b2 .le (.var 2) (.lit (9223372036854775807)))) (.b2 .and (.b2 .and (.b2 .le (.lit (-9223372036854775808)) (.var 3)) (.b2 .le (.var 3) (.lit (9223372036854775807)))) (.b2 .and (.b2 .and (.b2 .le (.lit (-9223372036854775808)) (.var 4)) (.b2 .le (.var 4) (.lit (9223372036854775807)))) (.b2 .and (.b2 .and (.b2 .le (.lit (-9223372036854775808)) (.var 5)) (.b2 .le (.var 5) (.lit (9223372036854775807)))) (.b2 .and (.b2 .and (.b2 .le (.lit (-9223372036854775808)) (.var 6)) (.b2 .le (.var 6) (.lit (9223372036854775807)))) (.b2 .and (.b2 .and (.b2 .le (.lit (-9223372036854775808)) (.var 7)) (.b2 .le (.var 7) (.lit (9223372036854775807)))) (.b2 .and (.b2 .and (.b2 .le (.lit (-9223372036854775808)) (.var 8)) (.b2 .le (.var 8) (.lit (9223372036854775807)))) (.b2 .and (.b2 .and (.b2 .le (.lit (-9223372036854775808)) (.var 9)) (.b2 .le (.var 9) (.lit (9223372036854775807)))) (.b2 .and (.b2 .and (.b2 .le (.lit (-9223372036854775808)) (.var 10)) (.b2 .le (.var 10) (.lit (9223372036854775807)))) (.b2 .and (.b2 .le (.lit (-9223372036854775808)) (.var 11)) (.b2 .le (.var 11) (.lit (9223372036854775807)))))))))))))))
 (.br (.not (.b2 .eq (.iapp 42 (.cons (.tup (.cons (.int .u32 (.var 0)) (.cons (.int .i64 (.var 1)) (.cons (.int .i64 (.var 2)) (.cons (.int .i64 (.var 3)) (.cons (.int .i64 (.var 4)) (.cons (.int .i64 (.var 5)) (.cons (.int .i64 (.var 6)) (.cons (.bool (.tt false)) (.cons (.int .i64 (.var 7)) (.cons (.int .i64 (.var 8)) (.cons (.int .i64 (.var 9)) (.cons (.int .i64 (.var 10)) (.cons (.int .i64 (.var 11)) .nil)))))))))))))) .nil)) (.lit (0))))
 (.ret syncv_x0)
 (.br (.b2 .lt (.var 12) (.lit (0)))
 (.ret syncv_x0)
 (.br (.b2 .lt (.lit (1152921504606846976)) (.var 12))
 (.ret syncv_x0)
 (.br (.not (.b2 .eq (.iapp 30 (.cons (.int .i64 (.var 13)) (.cons (.int .i64 (.var 14)) .nil))) (.lit (0))))
 (.ret syncv_x0)
 (.br (.b2 .le (.var 13) (.lit (-2305843009213693952)))
 (.ret syncv_x0)
 (.br (.b2 .le (.lit (2305843009213693952)) (.var 14))
 (.ret syncv_x0)
 (.need (.b2 .and (.b2 .and (.b2 .and (.b2 .le (.lit (0)) (.var 0)) (.b2 .le (.var 0) (.lit (4294967295)))) (.b2 .and (.b2 .and (.b2 .le (.lit (-9223372036854775808)) (.var 1)) (.b2 .le (.var 1) (.lit (9223372036854775807)))) (.b2 .and (.b2 .and (.b2 .le (.lit (-9223372036854775808)) (.var 2)) (.b2 .le (.var 2) (.lit (9223372036854775807)))) (.b2 .and (.b2 .and (.b2 .le (.lit (-9223372036854775808)) (.var 3)) (.b2 .le (.var 3) (.lit (9223372036854775807)))) (.b2 .and (.b2 .and (.b2 .le (.lit (-9223372036854775808)) (.var 4)) (.b2 .le (.var 4) (.lit (9223372036854775807)))) (.b2 .and (.b2 .and (.b2 .le (.lit (-9223372036854775808)) (.var 5)) (.b2 .le (.var 5) (.lit (9223372036854775807)))) (.b2 .and (.b2 .and (.b2 .le (.lit (-9223372036854775808)) (.var 6)) (.b2 .le (.var 6) (.lit (9223372036854775807)))) (.b2 .and (.b2 .and (.b2 .le (.lit (-9223372036854775808)) (.var 7)) (.b2 .le (.var 7) (.lit (9223372036854775807)))) (.b2 .and (.b2 .and (.b2 .le (.lit (-9223372036854775808)) (.var 8)) (.b2 .le (.var 8) (.lit (9223372036854775807)))) (.b2 .and (.b2 .and (.b2 .le (.lit (-9223372036854775808)) (.var 9)) (.b2 .le (.var 9) (.lit (9223372036854775807)))) (.b2 .and (.b2 .and (.b2 .le (.lit (-9223372036854775808)) (.var 10)) (.b2 .le (.var 10) (.lit (9223372036854775807)))) (.b2 .and (.b2 .le (.lit (-9223372036854775808)) (.var 11)) (.b2 .le (.var 11) (.lit (9223372036854775807))))))))))))))) (.b2 .and (.b2 .and (.b2 .le (.lit (-9223372036854775808)) (.var 12)) (.b2 .le (.var 12) (.lit (9223372036854775807)))) (.b2 .and (.b2 .le (.var 13) (.var 14)) (.b2 .and (.b2 .and (.b2 .le (.lit (-9223372036854775808)) (.var 13)) (.b2 .le (.var 13) (.lit (9223372036854775807)))) (.b2 .and (.b2 .le (.lit (-9223372036854775808)) (.var 14)) (.b2 .le (.var 14) (.lit (9223372036854775807))))))))
 (.ret (.tup (.cons (.agg (.cons (.int .u32 (.var 0)) (.cons (.int .i64 (.var 1)) (.cons (.int .i64 (.var 2)) (.cons (.int .i64 (.var 3)) (.cons (.int .i64 (.var 4)) (.cons (.int .i64 (.var 5)) (.cons (.int .i64 (.var 6)) (.cons (.bool (.tt true)) (.cons (.int .i64 (.var 12)) (.cons (.int .i64 (.iapp 31 (.cons (.int .i64 (.var 13)) (.cons (.int .i64 (.var 14)) .nil)))) (.cons (.int .i64 (.iapp 1 (.cons (.int .i64 (.i2 .sub (.var 14) (.iapp 31 (.cons (.int .i64 (.var 13)) (.cons (.int .i64 (.var 14)) .nil))))) .nil))) (.cons (.int .i64 (.var 10)) (.cons (.int .i64 (.var 11)) .nil)))))))))))))) (.cons (.err (.lit (0))) .nil))))))))))))
abbrev ylc_syncv : Con := ⟨57, [(.agg (.cons (.int .u32 (.var 0)) (.cons (.int .i64 (.var 1)) (.cons (.int .i64 (.var 2)) (.cons (.int .i64 (.var 3)) (.cons (.int .i64 (.var 4)) (.cons (.int .i64 (.var 5)) (.cons (.int .i64 (.var 6)) (.cons (.bool (.tt false)) (.cons (.int .i64 (.var 7)) (.cons (.int .i64 (.var 8)) (.cons (.int .i64 (.var 9)) (.cons (.int .i64 (.var 10)) (.cons (.int .i64 (.var 11)) .nil)))))))))))))), (.int .i64 (.var 12)), (.agg (.cons (.int .i64 (.var 13)) (.cons (.int .i64 (.var 14)) .nil)))], (.b2 .and (.b2 .and (.b2 .and (.b2 .le (.lit (0)) (.var 0)) (.b2 .le (.var 0) (.lit (4294967295)))) (.b2 .and (.b2 .and (.b2 .le (.lit (-9223372036854775808)) (.var 1)) (.b2 .le (.var 1) (.lit (9223372036854775807)))) (.b2 .and (.b2 .and (.b2 .le (.lit (-9223372036854775808)) (.var 2)) (.b2 .le (.var 2) (.lit (9223372036854775807)))) (.b2 .and (.b2 .and (.b2 .le (.lit (-9223372036854775808)) (.var 3)) (.b2 .le (.var 3) (.lit (9223372036854775807)))) (.b2 .and (.b2 .and (.b2 .le (.lit (-9223372036854775808)) (.var 4)) (.b2 .le (.var 4) (.lit (9223372036854775807)))) (.b2 .and (.b2 .and (.b2 .le (.lit (-9223372036854775808)) (.var 5)) (.b2 .le (.var 5) (.lit (9223372036854775807)))) (.b2 .and (.b2 .and (.b2 .le (.lit (-9223372036854775808)) (.var 6)) (.b2 .le (.var 6) (.lit (9223372036854775807)))) (.b2 .and (.b2 .and (.b2 .le (.lit (-9223372036854775808)) (.var 7)) (.b2 .le (.var 7) (.lit (9223372036854775807)))) (.b2 .and (.b2 .and (.b2 .le (.lit (-9223372036854775808)) (.var 8)) (.b2 .le (.var 8) (.lit (9223372036854775807)))) (.b2 .and (.b2 .and (.b2 .le (.lit (-9223372036854775808)) (.var 9)) (.b2 .le (.var 9) (.lit (9223372036854775807)))) (.b2 .and (.b2 .and (.b2 .le (.lit (-9223372036854775808)) (.var 10)) (.b2 .le (.var 10) (.lit (9223372036854775807)))) (.b2 .and (.b2 .le (.lit (-9223372036854775808)) (.var 11)) (.b2 .le (.var 11) (.lit (9223372036854775807))))))))))))))) (.b2 .and (.bapp 4 (.cons (.tup (.cons (.int .u32 (.var 0)) (.cons (.int .i64 (.var 1)) (.cons (.int .i64 (.var 2)) (.cons (.int .i64 (.var 3)) (.cons (.int .i64 (.var 4)) (.cons (.int .i64 (.var 5)) (.cons (.int .i64 (.var 6)) (.cons (.bool (.tt false)) (.cons (.int .i64 (.var 7)) (.cons (.int .i64 (.var 8)) (.cons (.int .i64 (.var 9)) (.cons (.int .i64 (.var 10)) (.cons (.int .i64 (.var 11)) .nil)))))))))))))) .nil)) (.b2 .and (.b2 .and (.b2 .le (.lit (-9223372036854775808)) (.var 12)) (.b2 .le (.var 12) (.lit (9223372036854775807)))) (.b2 .and (.b2 .and (.b2 .le (.lit (-9223372036854775808)) (.var 13)) (.b2 .le (.var 13) (.lit (9223372036854775807)))) (.b2 .and (.b2 .le (.lit (-9223372036854775808)) (.var 14)) (.b2 .le (.var 14) (.lit (9223372036854775807)))))))), (.tup (.cons (.agg (.cons (.int .u32 (.iapp 54 (.cons (.int .i64 (.iapp 57 (.cons (.int .i64 (.var 12)) (.cons (.int .i64 (.var 13)) (.cons (.int .i64 (.var 14)) .nil))))) (.cons (.int .i64 (.var 0)) .nil)))) (.cons (.int .i64 (.iapp 54 (.cons (.int .i64 (.iapp 57 (.cons (.int .i64 (.var 12)) (.cons (.int .i64 (.var 13)) (.cons (.int .i64 (.var 14)) .nil))))) (.cons (.int .i64 (.var 1)) .nil)))) (.cons (.int .i64 (.iapp 54 (.cons (.int .i64 (.iapp 57 (.cons (.int .i64 (.var 12)) (.cons (.int .i64 (.var 13)) (.cons (.int .i64 (.var 14)) .nil))))) (.cons (.int .i64 (.var 2)) .nil)))) (.cons (.int .i64 (.iapp 54 (.cons (.int .i64 (.iapp 57 (.cons (.int .i64 (.var 12)) (.cons (.int .i64 (.var 13)) (.cons (.int .i64 (.var 14)) .nil))))) (.cons (.int .i64 (.var 3)) .nil)))) (.cons (.int .i64 (.iapp 54 (.cons (.int .i64 (.iapp 57 (.cons (.int .i64 (.var 12)) (.cons (.int .i64 (.var 13)) (.cons (.int .i64 (.var 14)) .nil))))) (.cons (.int .i64 (.var 4)) .nil)))) (.cons (.int .i64 (.iapp 54 (.cons (.int .i64 (.iapp 57 (.cons (.int .i64 (.var 12)) (.cons (.int .i64 (.var 13)) (.cons (.int .i64 (.var 14)) .nil))))) (.cons (.int .i64 (.var 5)) .nil)))) (.cons (.int .i64 (.iapp 54 (.cons (.int .i64 (.iapp 57 (.cons (.int .i64 (.var 12)) (.cons (.int .i64 (.var 13)) (.cons (.int .i64 (.var 14)) .nil))))) (.cons (.int .i64 (.var 6)) .nil)))) (.cons (.bool (.b2 .eq (.iapp 57 (.cons (.int .i64 (.var 12)) (.cons (.int .i64 (.var 13)) (.cons (.int .i64 (.var 14)) .nil)))) (.lit (0)))) (.cons (.int .i64 (.iapp 54 (.cons (.int .i64 (.iapp 57 (.cons (.int .i64 (.var 12)) (.cons (.int .i64 (.var 13)) (.cons (.int .i64 (.var 14)) .nil))))) (.cons (.int .i64 (.var 12)) .nil)))) (.cons (.int .i64 (.iapp 54 (.cons (.int .i64 (.iapp 57 (.cons (.int .i64 (.var 12)) (.cons (.int .i64 (.var 13)) (.cons (.int .i64 (.var 14)) .nil))))) (.cons (.int .i64 (.iapp 31 (.cons (.int .i64 (.var 13)) (.cons (.int .i64 (.var 14)) .nil)))) .nil)))) (.cons (.int .i64 (.iapp 54 (.cons (.int .i64 (.iapp 57 (.cons (.int .i64 (.var 12)) (.cons (.int .i64 (.var 13)) (.cons (.int .i64 (.var 14)) .nil))))) (.cons (.int .i64 (.iapp 1 (.cons (.int .i64 (.i2 .sub (.var 14) (.iapp 31 (.cons (.int .i64 (.var 13)) (.cons (.int .i64 (.var 14)) .nil))))) .nil))) .nil)))) (.cons (.int .i64 (.iapp 54 (.cons (.int .i64 (.iapp 57 (.cons (.int .i64 (.var 12)) (.cons (.int .i64 (.var 13)) (.cons (.int .i64 (.var 14)) .nil))))) (.cons (.int .i64 (.var 10)) .nil)))) (.cons (.int .i64 (.iapp 54 (.cons (.int .i64 (.iapp 57 (.cons (.int .i64 (.var 12)) (.cons (.int .i64 (.var 13)) (.cons (.int .i64 (.var 14)) .nil))))) (.cons (.int .i64 (.var 11)) .nil)))) .nil)))))))))))))) (.cons (.err (.iapp 57 (.cons (.int .i64 (.var 12)) (.cons (.int .i64 (.var 13)) (.cons (.int .i64 (.var 14)) .nil))))) .nil))), ⟨15, 0, 0, 0⟩, none⟩
theorem syncv_w : walk Tryd.prog 229 ⟨[yic_hcheck, yhc_spck, yjc_set], syG, [], [], []⟩ [] .v ylc_syncv ylc_syncv.n 3000 = some syncv_tree := by kernel_rfl
theorem syncv_h (rm : Int) (rs : Int) (rr : Int) (gp : Int) (gi : Int) (rl : Int) (ro : Int) (hb : Int) (ht : Int) (he : Int) (sf : Int) (ss : Int) (k : Int) (a : Int) (b : Int) (hc : holds (ylE [rm, rs, rr, gp, gi, rl, ro, hb, ht, he, sf, ss, k, a, b] [] [] []) (.b2 .and (.b2 .and (.b2 .and (.b2 .le (.lit (0)) (.var 0)) (.b2 .le (.var 0) (.lit (4294967295)))) (.b2 .and (.b2 .and (.b2 .le (.lit (-9223372036854775808)) (.var 1)) (.b2 .le (.var 1) (.lit (9223372036854775807)))) (.b2 .and (.b2 .and (.b2 .le (.lit (-9223372036854775808)) (.var 2)) (.b2 .le (.var 2) (.lit (9223372036854775807)))) (.b2 .and (.b2 .and (.b2 .le (.lit (-9223372036854775808)) (.var 3)) (.b2 .le (.var 3) (.lit (9223372036854775807)))) (.b2 .and (.b2 .and (.b2 .le (.lit (-9223372036854775808)) (.var 4)) (.b2 .le (.var 4) (.lit (9223372036854775807)))) (.b2 .and (.b2 .and (.b2 .le (.lit (-9223372036854775808)) (.var 5)) (.b2 .le (.var 5) (.lit (9223372036854775807)))) (.b2 .and (.b2 .and (.b2 .le (.lit (-9223372036854775808)) (.var 6)) (.b2 .le (.var 6) (.lit (9223372036854775807)))) (.b2 .and (.b2 .and (.b2 .le (.lit (-9223372036854775808)) (.var 7)) (.b2 .le (.var 7) (.lit (9223372036854775807)))) (.b2 .and (.b2 .and (.b2 .le (.lit (-9223372036854775808)) (.var 8)) (.b2 .le (.var 8) (.lit (9223372036854775807)))) (.b2 .and (.b2 .and (.b2 .le (.lit (-9223372036854775808)) (.var 9)) (.b2 .le (.var 9) (.lit (9223372036854775807)))) (.b2 .and (.b2 .and (.b2 .le (.lit (-9223372036854775808)) (.var 10)) (.b2 .le (.var 10) (.lit (9223372036854775807)))) (.b2 .and (.b2 .le (.lit (-9223372036854775808)) (.var 11)) (.b2 .le (.var 11) (.lit (9223372036854775807))))))))))))))) (.b2 .and (.bapp 4 (.cons (.tup (.cons (.int .u32 (.var 0)) (.cons (.int .i64 (.var 1)) (.cons (.int .i64 (.var 2)) (.cons (.int .i64 (.var 3)) (.cons (.int .i64 (.var 4)) (.cons (.int .i64 (.var 5)) (.cons (.int .i64 (.var 6)) (.cons (.bool (.tt false)) (.cons (.int .i64 (.var 7)) (.cons (.int .i64 (.var 8)) (.cons (.int .i64 (.var 9)) (.cons (.int .i64 (.var 10)) (.cons (.int .i64 (.var 11)) .nil)))))))))))))) .nil)) (.b2 .and (.b2 .and (.b2 .le (.lit (-9223372036854775808)) (.var 12)) (.b2 .le (.var 12) (.lit (9223372036854775807)))) (.b2 .and (.b2 .and (.b2 .le (.lit (-9223372036854775808)) (.var 13)) (.b2 .le (.var 13) (.lit (9223372036854775807)))) (.b2 .and (.b2 .le (.lit (-9223372036854775808)) (.var 14)) (.b2 .le (.var 14) (.lit (9223372036854775807))))))))) (hty : patsTyp (ylE [rm, rs, rr, gp, gi, rl, ro, hb, ht, he, sf, ss, k, a, b] [] [] []) [(.agg (.cons (.int .u32 (.var 0)) (.cons (.int .i64 (.var 1)) (.cons (.int .i64 (.var 2)) (.cons (.int .i64 (.var 3)) (.cons (.int .i64 (.var 4)) (.cons (.int .i64 (.var 5)) (.cons (.int .i64 (.var 6)) (.cons (.bool (.tt false)) (.cons (.int .i64 (.var 7)) (.cons (.int .i64 (.var 8)) (.cons (.int .i64 (.var 9)) (.cons (.int .i64 (.var 10)) (.cons (.int .i64 (.var 11)) .nil)))))))))))))), (.int .i64 (.var 12)), (.agg (.cons (.int .i64 (.var 13)) (.cons (.int .i64 (.var 14)) .nil)))]) : syncv_tree.holds (fun v_ => v_ = denV (ylE [rm, rs, rr, gp, gi, rl, ro, hb, ht, he, sf, ss, k, a, b] [] [] []) b0 (.tup (.cons (.agg (.cons (.int .u32 (.iapp 54 (.cons (.int .i64 (.iapp 57 (.cons (.int .i64 (.var 12)) (.cons (.int .i64 (.var 13)) (.cons (.int .i64 (.var 14)) .nil))))) (.cons (.int .i64 (.var 0)) .nil)))) (.cons (.int .i64 (.iapp 54 (.cons (.int .i64 (.iapp 57 (.cons (.int .i64 (.var 12)) (.cons (.int .i64 (.var 13)) (.cons (.int .i64 (.var 14)) .nil))))) (.cons (.int .i64 (.var 1)) .nil)))) (.cons (.int .i64 (.iapp 54 (.cons (.int .i64 (.iapp 57 (.cons (.int .i64 (.var 12)) (.cons (.int .i64 (.var 13)) (.cons (.int .i64 (.var 14)) .nil))))) (.cons (.int .i64 (.var 2)) .nil)))) (.cons (.int .i64 (.iapp 54 (.cons (.int .i64 (.iapp 57 (.cons (.int .i64 (.var 12)) (.cons (.int .i64 (.var 13)) (.cons (.int .i64 (.var 14)) .nil))))) (.cons (.int .i64 (.var 3)) .nil)))) (.cons (.int .i64 (.iapp 54 (.cons (.int .i64 (.iapp 57 (.cons (.int .i64 (.var 12)) (.cons (.int .i64 (.var 13)) (.cons (.int .i64 (.var 14)) .nil))))) (.cons (.int .i64 (.var 4)) .nil)))) (.cons (.int .i64 (.iapp 54 (.cons (.int .i64 (.iapp 57 (.cons (.int .i64 (.var 12)) (.cons (.int .i64 (.var 13)) (.cons (.int .i64 (.var 14)) .nil))))) (.cons (.int .i64 (.var 5)) .nil)))) (.cons (.int .i64 (.iapp 54 (.cons (.int .i64 (.iapp 57 (.cons (.int .i64 (.var 12)) (.cons (.int .i64 (.var 13)) (.cons (.int .i64 (.var 14)) .nil))))) (.cons (.int .i64 (.var 6)) .nil)))) (.cons (.bool (.b2 .eq (.iapp 57 (.cons (.int .i64 (.var 12)) (.cons (.int .i64 (.var 13)) (.cons (.int .i64 (.var 14)) .nil)))) (.lit (0)))) (.cons (.int .i64 (.iapp 54 (.cons (.int .i64 (.iapp 57 (.cons (.int .i64 (.var 12)) (.cons (.int .i64 (.var 13)) (.cons (.int .i64 (.var 14)) .nil))))) (.cons (.int .i64 (.var 12)) .nil)))) (.cons (.int .i64 (.iapp 54 (.cons (.int .i64 (.iapp 57 (.cons (.int .i64 (.var 12)) (.cons (.int .i64 (.var 13)) (.cons (.int .i64 (.var 14)) .nil))))) (.cons (.int .i64 (.iapp 31 (.cons (.int .i64 (.var 13)) (.cons (.int .i64 (.var 14)) .nil)))) .nil)))) (.cons (.int .i64 (.iapp 54 (.cons (.int .i64 (.iapp 57 (.cons (.int .i64 (.var 12)) (.cons (.int .i64 (.var 13)) (.cons (.int .i64 (.var 14)) .nil))))) (.cons (.int .i64 (.iapp 1 (.cons (.int .i64 (.i2 .sub (.var 14) (.iapp 31 (.cons (.int .i64 (.var 13)) (.cons (.int .i64 (.var 14)) .nil))))) .nil))) .nil)))) (.cons (.int .i64 (.iapp 54 (.cons (.int .i64 (.iapp 57 (.cons (.int .i64 (.var 12)) (.cons (.int .i64 (.var 13)) (.cons (.int .i64 (.var 14)) .nil))))) (.cons (.int .i64 (.var 10)) .nil)))) (.cons (.int .i64 (.iapp 54 (.cons (.int .i64 (.iapp 57 (.cons (.int .i64 (.var 12)) (.cons (.int .i64 (.var 13)) (.cons (.int .i64 (.var 14)) .nil))))) (.cons (.int .i64 (.var 11)) .nil)))) .nil)))))))))))))) (.cons (.err (.iapp 57 (.cons (.int .i64 (.var 12)) (.cons (.int .i64 (.var 13)) (.cons (.int .i64 (.var 14)) .nil))))) .nil)))) (ylE [rm, rs, rr, gp, gi, rl, ro, hb, ht, he, sf, ss, k, a, b] [] [] []) := by
  simp only [Tree.holds, Sy.holds, AllN, Env.more, ylE, List.cons_append, List.nil_append, List.append_nil, denV, denI, denB, denL, I2.den, VOp.den, List.getD_cons_zero, List.getD_cons_succ, Cst.den, syso, syse, syio, sybo, ylb_hm, List.map_nil, List.map_cons, B2.ofInts, B2.denI, B2.denB, if_true, Bool.false_eq_true, if_false, Nat.div_one, Nat.mul_one, Nat.add_zero, holds] at hc
  simp only [patsTyp, patTyp, patTypL, ylE, denV, denL, List.getD_cons_zero, List.getD_cons_succ, and_true, true_and] at hty
  unfold syncv_tree
  simp only [syncv_x0]
  simp only [Tree.holds, Sy.holds, AllN, Env.more, ylE, List.cons_append, List.nil_append, List.append_nil, denV, denI, denB, denL, I2.den, VOp.den, List.getD_cons_zero, List.getD_cons_succ, Cst.den, syso, syse, syio, sybo, yli_sa, yli_se, yli_mi, yli_hme, yli_gd, yli_sue, List.map_nil, List.map_cons, B2.ofInts, B2.denI, B2.denB, if_true, Bool.false_eq_true, if_false, Nat.div_one, Nat.mul_one, Nat.add_zero]
  have hp : hoP rm rs rr gp gi rl ro hb ht he sf ss := of_decide_eq_true hc.2.1
  have hE : hoL (Sy.rows (hoT rm rs rr gp gi rl ro hb ht he sf ss false)) = 0 := hoE_y hp
  have hs := su_spec k a b
  have hsp := spI_spec a b
  refine ⟨?_, fun h0 => ?_⟩
  ·
   first
   | omega
   | exact hc.1
   | exact ⟨hc.1, hc.2.2.1, by omega⟩
   | skip
  ·
   refine ⟨fun h1 => ?_, fun h1 => ?_⟩
   ·
    rcases hs with ⟨q, e⟩ | ⟨q, e⟩
    all_goals first
    | exact absurd hE (by assumption)
    | (exfalso; omega)
    | (simp only [e, gdq_n (show (1 : Int) ≠ 0 by decide), gdq_y (show (0 : Int) = 0 from rfl)]; done)
    | (simp only [e, gdq_n (show (1 : Int) ≠ 0 by decide), gdq_y (show (0 : Int) = 0 from rfl)]; rfl)
    | skip
   ·
    refine ⟨fun h2 => ?_, fun h2 => ?_⟩
    ·
     rcases hs with ⟨q, e⟩ | ⟨q, e⟩
     all_goals first
     | exact absurd hE (by assumption)
     | (exfalso; omega)
     | (simp only [e, gdq_n (show (1 : Int) ≠ 0 by decide), gdq_y (show (0 : Int) = 0 from rfl)]; done)
     | (simp only [e, gdq_n (show (1 : Int) ≠ 0 by decide), gdq_y (show (0 : Int) = 0 from rfl)]; rfl)
     | skip
    ·
     refine ⟨fun h3 => ?_, fun h3 => ?_⟩
     ·
      rcases hs with ⟨q, e⟩ | ⟨q, e⟩
      all_goals first
      | exact absurd hE (by assumption)
      | (exfalso; omega)
      | (simp only [e, gdq_n (show (1 : Int) ≠ 0 by decide), gdq_y (show (0 : Int) = 0 from rfl)]; done)
      | (simp only [e, gdq_n (show (1 : Int) ≠ 0 by decide), gdq_y (show (0 : Int) = 0 from rfl)]; rfl)
      | skip
     ·
      refine ⟨fun h4 => ?_, fun h4 => ?_⟩
      ·
       rcases hs with ⟨q, e⟩ | ⟨q, e⟩
       all_goals first
       | exact absurd hE (by assumption)
       | (exfalso; omega)
       | (simp only [e, gdq_n (show (1 : Int) ≠ 0 by decide), gdq_y (show (0 : Int) = 0 from rfl)]; done)
       | (simp only [e, gdq_n (show (1 : Int) ≠ 0 by decide), gdq_y (show (0 : Int) = 0 from rfl)]; rfl)
       | skip
      ·
       refine ⟨fun h5 => ?_, fun h5 => ?_⟩
       ·
        rcases hs with ⟨q, e⟩ | ⟨q, e⟩
        all_goals first
        | exact absurd hE (by assumption)
        | (exfalso; omega)
        | (simp only [e, gdq_n (show (1 : Int) ≠ 0 by decide), gdq_y (show (0 : Int) = 0 from rfl)]; done)
        | (simp only [e, gdq_n (show (1 : Int) ≠ 0 by decide), gdq_y (show (0 : Int) = 0 from rfl)]; rfl)
        | skip
       ·
        refine ⟨fun h6 => ?_, fun h6 => ?_⟩
        ·
         rcases hs with ⟨q, e⟩ | ⟨q, e⟩
         all_goals first
         | exact absurd hE (by assumption)
         | (exfalso; omega)
         | (simp only [e, gdq_n (show (1 : Int) ≠ 0 by decide), gdq_y (show (0 : Int) = 0 from rfl)]; done)
         | (simp only [e, gdq_n (show (1 : Int) ≠ 0 by decide), gdq_y (show (0 : Int) = 0 from rfl)]; rfl)
         | skip
        ·
         refine ⟨?_, fun h7 => ?_⟩
         ·
          first
          | omega
          | exact hc.1
          | exact ⟨hc.1, hc.2.2.1, by omega⟩
          | skip
         ·
          rcases hs with ⟨q, e⟩ | ⟨q, e⟩
          all_goals first
          | exact absurd hE (by assumption)
          | (exfalso; omega)
          | (simp only [e, gdq_n (show (1 : Int) ≠ 0 by decide), gdq_y (show (0 : Int) = 0 from rfl)]; done)
          | (simp only [e, gdq_n (show (1 : Int) ≠ 0 by decide), gdq_y (show (0 : Int) = 0 from rfl)]; rfl)
          | skip
theorem ylg_syncv : ylc_syncv.Good Tryd.prog syG (ylE [] [] [] []) := good_of_walk (Γ := ⟨[yic_hcheck, yhc_spck, yjc_set], syG, [], [], []⟩) (ρ := ylE [] [] [] []) sym syncv_w rfl (fun _ _ _ _ => (ok_cons (Con.Good.env (Con.Good.up (Con.Good.up (Con.Good.up yig_hcheck yjup rfl) ykup rfl) ylup rfl) _ _ _ _) (ok_cons (Con.Good.env (Con.Good.up (Con.Good.up (Con.Good.up (Con.Good.up yhg_spck yiup rfl) yjup rfl) ykup rfl) ylup rfl) _ _ _ _) (ok_cons (Con.Good.env (Con.Good.up (Con.Good.up yjg_set ykup rfl) ylup rfl) _ _ _ _) ok_nil)))) (fun rm rs rr gp gi rl ro hb ht he sf ss k a b hc hty => syncv_h rm rs rr gp gi rl ro hb ht he sf ss k a b hc hty)
def wLater_x2 : Tm := (.int .i64 (.wrap .i64 (.i2 .add (.var 7) (.wrap .i64 (.i2 .min (.var 12) (.var 13))))))
def wLater_x0 : Tm := (.int .i64 (.iapp 57 (.cons wLater_x2 (.cons (.int .i64 (.var 14)) (.cons (.int .i64 (.var 15)) .nil)))))
def wLater_x7 : Tm := (.int .i64 (.iapp 31 (.cons (.int .i64 (.var 14)) (.cons (.int .i64 (.var 15)) .nil))))
def wLater_x5 : Tm := (.int .i64 (.i2 .sub (.var 15) (.iapp 31 (.cons (.int .i64 (.var 14)) (.cons (.int .i64 (.var 15)) .nil)))))
def wLater_x1 : Tm := (.tup (.cons (.int .u32 (.iapp 54 (.cons wLater_x0 (.cons (.int .i64 (.var 0)) .nil)))) (.cons (.int .i64 (.iapp 54 (.cons wLater_x0 (.cons (.int .i64 (.var 1)) .nil)))) (.cons (.int .i64 (.iapp 54 (.cons wLater_x0 (.cons (.int .i64 (.var 2)) .nil)))) (.cons (.int .i64 (.iapp 54 (.cons wLater_x0 (.cons (.int .i64 (.var 3)) .nil)))) (.cons (.int .i64 (.iapp 54 (.cons wLater_x0 (.cons (.int .i64 (.var 4)) .nil)))) (.cons (.int .i64 (.iapp 54 (.cons wLater_x0 (.cons (.int .i64 (.var 5)) .nil)))) (.cons (.int .i64 (.iapp 54 (.cons wLater_x0 (.cons (.int .i64 (.var 6)) .nil)))) (.cons (.bool (.b2 .eq (.iapp 57 (.cons wLater_x2 (.cons (.int .i64 (.var 14)) (.cons (.int .i64 (.var 15)) .nil)))) (.lit (0)))) (.cons (.int .i64 (.iapp 54 (.cons wLater_x0 (.cons wLater_x2 .nil)))) (.cons (.int .i64 (.iapp 54 (.cons wLater_x0 (.cons wLater_x7 .nil)))) (.cons (.int .i64 (.iapp 54 (.cons wLater_x0 (.cons (.int .i64 (.iapp 1 (.cons wLater_x5 .nil))) .nil)))) (.cons (.int .i64 (.iapp 54 (.cons wLater_x0 (.cons (.int .i64 (.var 10)) .nil)))) (.cons (.int .i64 (.iapp 54 (.cons wLater_x0 (.cons (.int .i64 (.var 11)) .nil)))) .nil))))))))))))))
def wLater_x3 : Tm := (.tup (.cons (.int .u32 (.iapp 54 (.cons wLater_x0 (.cons (.int .i64 (.var 0)) .nil)))) (.cons (.int .i64 (.iapp 54 (.cons wLater_x0 (.cons (.int .i64 (.var 1)) .nil)))) (.cons (.int .i64 (.iapp 54 (.cons wLater_x0 (.cons (.int .i64 (.var 2)) .nil)))) (.cons (.int .i64 (.iapp 54 (.cons wLater_x0 (.cons (.int .i64 (.var 3)) .nil)))) (.cons (.int .i64 (.iapp 54 (.cons wLater_x0 (.cons (.int .i64 (.var 4)) .nil)))) (.cons (.int .i64 (.iapp 54 (.cons wLater_x0 (.cons (.int .i64 (.var 5)) .nil)))) (.cons (.int .i64 (.iapp 54 (.cons wLater_x0 (.cons (.int .i64 (.var 6)) .nil)))) (.cons (.bool (.tt false)) (.cons (.int .i64 (.iapp 54 (.cons wLater_x0 (.cons wLater_x2 .nil)))) (.cons (.int .i64 (.iapp 54 (.cons wLater_x0 (.cons wLater_x7 .nil)))) (.cons (.int .i64 (.iapp 54 (.cons wLater_x0 (.cons (.int .i64 (.iapp 1 (.cons wLater_x5 .nil))) .nil)))) (.cons (.int .i64 (.iapp 54 (.cons wLater_x0 (.cons (.int .i64 (.var 10)) .nil)))) (.cons (.int .i64 (.iapp 54 (.cons wLater_x0 (.cons (.int .i64 (.var 11)) .nil)))) .nil))))))))))))))
def wLater_x4 : Tm := (.tup (.cons (.int .u32 (.var 0)) (.cons (.int .i64 (.var 1)) (.cons (.int .i64 (.var 2)) (.cons (.int .i64 (.var 3)) (.cons (.int .i64 (.var 4)) (.cons (.int .i64 (.var 5)) (.cons (.int .i64 (.var 6)) (.cons (.bool (.bvar 0)) (.cons (.int .i64 (.var 7)) (.cons (.int .i64 (.var 8)) (.cons (.int .i64 (.var 9)) (.cons (.int .i64 (.var 10)) (.cons (.int .i64 (.var 11)) .nil))))))))))))))
def wLater_x6 : Tm := (.tup (.cons (.int .u32 (.var 0)) (.cons (.int .i64 (.var 1)) (.cons (.int .i64 (.var 2)) (.cons (.int .i64 (.var 3)) (.cons (.int .i64 (.var 4)) (.cons (.int .i64 (.var 5)) (.cons (.int .i64 (.var 6)) (.cons (.bool (.tt false)) (.cons (.int .i64 (.var 7)) (.cons (.int .i64 (.var 8)) (.cons (.int .i64 (.var 9)) (.cons (.int .i64 (.var 10)) (.cons (.int .i64 (.var 11)) .nil))))))))))))))
def wLater_tree : Tree :=
 (.need (.b2 .and (.b2 .and (.b2 .le (.lit (0)) (.var 0)) (.b2 .le (.var 0) (.lit (4294967295)))) (.b2 .and (.b2 .and (.b2 .le (.lit (-9223372036854775808)) (.var 1)) (.b2 .le (.var 1) (.lit (9223372036854775807)))) (.b2 .and (.b2 .and (.b2 .le (.lit (-9223372036854775808)) (.var 2)) (.b2 .le (.var 2) (.lit (9223372036854775807)))) (.b2 .and (.b2 .and (.b2 .le (.lit (-9223372036854775808)) (.var 3)) (.b2 .le (.var 3) (.lit (9223372036854775807)))) (.b2 .and (.b2 .and (.b2 .le (.lit (-9223372036854775808)) (.var 4)) (.b2 .le (.var 4) (.lit (9223372036854775807)))) (.b2 .and (.b2 .and (.b2 .le (.lit (-9223372036854775808)) (.var 5)) (.b2 .le (.var 5) (.lit (9223372036854775807)))) (.b2 .and (.b2 .and (.b2 .le (.lit (-9223372036854775808)) (.var 6)) (.b2 .le (.var 6) (.lit (9223372036854775807)))) (.b2 .and (.b2 .and (.b2 .le (.lit (-9223372036854775808)) (.var 7)) (.b2 .le (.var 7) (.lit (9223372036854775807)))) (.b2 .and (.b2 .and (.b2 .le (.lit (-9223372036854775808)) (.var 8)) (.b2 .le (.var 8) (.lit (9223372036854775807)))) (.b2 .and (.b2 .and (.b2 .le (.lit (-9223372036854775808)) (.var 9)) (.b2 .le (.var 9) (.lit (9223372036854775807)))) (.b2 .and (.b2 .and (.b2 .le (.lit (-9223372036854775808)) (.var 10)) (.b2 .le (.var 10) (.lit (9223372036854775807)))) (.b2 .and (.b2 .le (.lit (-9223372036854775808)) (.var 11)) (.b2 .le (.var 11) (.lit (9223372036854775807)))))))))))))))
 (.br (.not (.b2 .eq (.iapp 42 (.cons wLater_x4 .nil)) (.lit (0))))
 (.ret (.bool (.tt true)))
 (.need (.b2 .and (.b2 .and (.b2 .and (.b2 .le (.lit (0)) (.var 0)) (.b2 .le (.var 0) (.lit (4294967295)))) (.b2 .and (.b2 .and (.b2 .le (.lit (-9223372036854775808)) (.var 1)) (.b2 .le (.var 1) (.lit (9223372036854775807)))) (.b2 .and (.b2 .and (.b2 .le (.lit (-9223372036854775808)) (.var 2)) (.b2 .le (.var 2) (.lit (9223372036854775807)))) (.b2 .and (.b2 .and (.b2 .le (.lit (-9223372036854775808)) (.var 3)) (.b2 .le (.var 3) (.lit (9223372036854775807)))) (.b2 .and (.b2 .and (.b2 .le (.lit (-9223372036854775808)) (.var 4)) (.b2 .le (.var 4) (.lit (9223372036854775807)))) (.b2 .and (.b2 .and (.b2 .le (.lit (-9223372036854775808)) (.var 5)) (.b2 .le (.var 5) (.lit (9223372036854775807)))) (.b2 .and (.b2 .and (.b2 .le (.lit (-9223372036854775808)) (.var 6)) (.b2 .le (.var 6) (.lit (9223372036854775807)))) (.b2 .and (.b2 .and (.b2 .le (.lit (-9223372036854775808)) (.var 7)) (.b2 .le (.var 7) (.lit (9223372036854775807)))) (.b2 .and (.b2 .and (.b2 .le (.lit (-9223372036854775808)) (.var 8)) (.b2 .le (.var 8) (.lit (9223372036854775807)))) (.b2 .and (.b2 .and (.b2 .le (.lit (-9223372036854775808)) (.var 9)) (.b2 .le (.var 9) (.lit (9223372036854775807)))) (.b2 .and (.b2 .and (.b2 .le (.lit (-9223372036854775808)) (.var 10)) (.b2 .le (.var 10) (.lit (9223372036854775807)))) (.b2 .and (.b2 .le (.lit (-9223372036854775808)) (.var 11)) (.b2 .le (.var 11) (.lit (9223372036854775807))))))))))))))) (.b2 .and (.b2 .le (.lit (-9223372036854775808)) (.wrap .i64 (.i2 .add (.var 7) (.wrap .i64 (.i2 .min (.var 12) (.var 13)))))) (.b2 .le (.wrap .i64 (.i2 .add (.var 7) (.wrap .i64 (.i2 .min (.var 12) (.var 13))))) (.lit (9223372036854775807)))))
 (.need (.b2 .and (.b2 .and (.b2 .and (.b2 .le (.lit (0)) (.var 0)) (.b2 .le (.var 0) (.lit (4294967295)))) (.b2 .and (.b2 .and (.b2 .le (.lit (-9223372036854775808)) (.var 1)) (.b2 .le (.var 1) (.lit (9223372036854775807)))) (.b2 .and (.b2 .and (.b2 .le (.lit (-9223372036854775808)) (.var 2)) (.b2 .le (.var 2) (.lit (9223372036854775807)))) (.b2 .and (.b2 .and (.b2 .le (.lit (-9223372036854775808)) (.var 3)) (.b2 .le (.var 3) (.lit (9223372036854775807)))) (.b2 .and (.b2 .and (.b2 .le (.lit (-9223372036854775808)) (.var 4)) (.b2 .le (.var 4) (.lit (9223372036854775807)))) (.b2 .and (.b2 .and (.b2 .le (.lit (-9223372036854775808)) (.var 5)) (.b2 .le (.var 5) (.lit (9223372036854775807)))) (.b2 .and (.b2 .and (.b2 .le (.lit (-9223372036854775808)) (.var 6)) (.b2 .le (.var 6) (.lit (9223372036854775807)))) (.b2 .and (.b2 .and (.b2 .le (.lit (-9223372036854775808)) (.var 7)) (.b2 .le (.var 7) (.lit (9223372036854775807)))) (.b2 .and (.b2 .and (.b2 .le (.lit (-9223372036854775808)) (.var 8)) (.b2 .le (.var 8) (.lit (9223372036854775807)))) (.b2 .and (.b2 .and (.b2 .le (.lit (-9223372036854775808)) (.var 9)) (.b2 .le (.var 9) (.lit (9223372036854775807)))) (.b2 .and (.b2 .and (.b2 .le (.lit (-9223372036854775808)) (.var 10)) (.b2 .le (.var 10) (.lit (9223372036854775807)))) (.b2 .and (.b2 .le (.lit (-9223372036854775808)) (.var 11)) (.b2 .le (.var 11) (.lit (9223372036854775807))))))))))))))) (.b2 .and (.b2 .le (.lit (-9223372036854775808)) (.wrap .i64 (.i2 .add (.var 7) (.wrap .i64 (.i2 .max (.var 12) (.var 13)))))) (.b2 .le (.wrap .i64 (.i2 .add (.var 7) (.wrap .i64 (.i2 .max (.var 12) (.var 13))))) (.lit (9223372036854775807)))))
 (.br (.b2 .eq (.iapp 46 (.cons wLater_x4 (.cons wLater_x2 .nil))) (.lit (0)))
 (.br (.b2 .eq (.iapp 46 (.cons wLater_x4 (.cons (.int .i64 (.wrap .i64 (.i2 .add (.var 7) (.wrap .i64 (.i2 .max (.var 12) (.var 13)))))) .nil))) (.lit (0)))
 (.br (.b2 .lt (.iapp 47 (.cons wLater_x4 (.cons (.int .i64 (.wrap .i64 (.i2 .add (.var 7) (.wrap .i64 (.i2 .max (.var 12) (.var 13)))))) .nil))) (.iapp 47 (.cons wLater_x4 (.cons wLater_x2 .nil))))
 (.ret (.bool (.tt false)))
 (.br (.b2 .lt (.iapp 48 (.cons wLater_x4 (.cons (.int .i64 (.wrap .i64 (.i2 .add (.var 7) (.wrap .i64 (.i2 .max (.var 12) (.var 13)))))) .nil))) (.iapp 48 (.cons wLater_x4 (.cons wLater_x2 .nil))))
 (.ret (.bool (.tt false)))
 (.need (.b2 .and (.b2 .and (.b2 .and (.b2 .le (.lit (0)) (.var 0)) (.b2 .le (.var 0) (.lit (4294967295)))) (.b2 .and (.b2 .and (.b2 .le (.lit (-9223372036854775808)) (.var 1)) (.b2 .le (.var 1) (.lit (9223372036854775807)))) (.b2 .and (.b2 .and (.b2 .le (.lit (-9223372036854775808)) (.var 2)) (.b2 .le (.var 2) (.lit (9223372036854775807)))) (.b2 .and (.b2 .and (.b2 .le (.lit (-9223372036854775808)) (.var 3)) (.b2 .le (.var 3) (.lit (9223372036854775807)))) (.b2 .and (.b2 .and (.b2 .le (.lit (-9223372036854775808)) (.var 4)) (.b2 .le (.var 4) (.lit (9223372036854775807)))) (.b2 .and (.b2 .and (.b2 .le (.lit (-9223372036854775808)) (.var 5)) (.b2 .le (.var 5) (.lit (9223372036854775807)))) (.b2 .and (.b2 .and (.b2 .le (.lit (-9223372036854775808)) (.var 6)) (.b2 .le (.var 6) (.lit (9223372036854775807)))) (.b2 .and (.b2 .and (.b2 .le (.lit (-9223372036854775808)) (.var 7)) (.b2 .le (.var 7) (.lit (9223372036854775807)))) (.b2 .and (.b2 .and (.b2 .le (.lit (-9223372036854775808)) (.var 8)) (.b2 .le (.var 8) (.lit (9223372036854775807)))) (.b2 .and (.b2 .and (.b2 .le (.lit (-9223372036854775808)) (.var 9)) (.b2 .le (.var 9) (.lit (9223372036854775807)))) (.b2 .and (.b2 .and (.b2 .le (.lit (-9223372036854775808)) (.var 10)) (.b2 .le (.var 10) (.lit (9223372036854775807)))) (.b2 .and (.b2 .le (.lit (-9223372036854775808)) (.var 11)) (.b2 .le (.var 11) (.lit (9223372036854775807))))))))))))))) (.b2 .and (.bapp 4 (.cons wLater_x6 .nil)) (.b2 .and (.b2 .and (.b2 .le (.lit (-9223372036854775808)) (.wrap .i64 (.i2 .add (.var 7) (.wrap .i64 (.i2 .min (.var 12) (.var 13)))))) (.b2 .le (.wrap .i64 (.i2 .add (.var 7) (.wrap .i64 (.i2 .min (.var 12) (.var 13))))) (.lit (9223372036854775807)))) (.b2 .and (.b2 .and (.b2 .le (.lit (-9223372036854775808)) (.var 14)) (.b2 .le (.var 14) (.lit (9223372036854775807)))) (.b2 .and (.b2 .le (.lit (-9223372036854775808)) (.var 15)) (.b2 .le (.var 15) (.lit (9223372036854775807))))))))
 (.br (.not (.b2 .eq (.iapp 57 (.cons wLater_x2 (.cons (.int .i64 (.var 14)) (.cons (.int .i64 (.var 15)) .nil)))) (.lit (0))))
 (.br (.b2 .eq (.iapp 57 (.cons wLater_x2 (.cons (.int .i64 (.var 14)) (.cons (.int .i64 (.var 15)) .nil)))) (.lit (1)))
 (.ret (.bool (.tt true)))
 (.ret (.bool (.tt false))))
 (.need (.b2 .and (.b2 .le (.var 14) (.var 15)) (.b2 .and (.b2 .and (.b2 .le (.lit (-9223372036854775808)) (.var 14)) (.b2 .le (.var 14) (.lit (9223372036854775807)))) (.b2 .and (.b2 .le (.lit (-9223372036854775808)) (.var 15)) (.b2 .le (.var 15) (.lit (9223372036854775807))))))
 (.need (.b2 .and (.b2 .and (.b2 .and (.b2 .le (.lit (0)) (.iapp 54 (.cons wLater_x0 (.cons (.int .i64 (.var 0)) .nil)))) (.b2 .le (.iapp 54 (.cons wLater_x0 (.cons (.int .i64 (.var 0)) .nil))) (.lit (4294967295)))) (.b2 .and (.b2 .and (.b2 .le (.lit (-9223372036854775808)) (.iapp 54 (.cons wLater_x0 (.cons (.int .i64 (.var 1)) .nil)))) (.b2 .le (.iapp 54 (.cons wLater_x0 (.cons (.int .i64 (.var 1)) .nil))) (.lit (9223372036854775807)))) (.b2 .and (.b2 .and (.b2 .le (.lit (-9223372036854775808)) (.iapp 54 (.cons wLater_x0 (.cons (.int .i64 (.var 2)) .nil)))) (.b2 .le (.iapp 54 (.cons wLater_x0 (.cons (.int .i64 (.var 2)) .nil))) (.lit (9223372036854775807)))) (.b2 .and (.b2 .and (.b2 .le (.lit (-9223372036854775808)) (.iapp 54 (.cons wLater_x0 (.cons (.int .i64 (.var 3)) .nil)))) (.b2 .le (.iapp 54 (.cons wLater_x0 (.cons (.int .i64 (.var 3)) .nil))) (.lit (9223372036854775807)))) (.b2 .and (.b2 .and (.b2 .le (.lit (-9223372036854775808)) (.iapp 54 (.cons wLater_x0 (.cons (.int .i64 (.var 4)) .nil)))) (.b2 .le (.iapp 54 (.cons wLater_x0 (.cons (.int .i64 (.var 4)) .nil))) (.lit (9223372036854775807)))) (.b2 .and (.b2 .and (.b2 .le (.lit (-9223372036854775808)) (.iapp 54 (.cons wLater_x0 (.cons (.int .i64 (.var 5)) .nil)))) (.b2 .le (.iapp 54 (.cons wLater_x0 (.cons (.int .i64 (.var 5)) .nil))) (.lit (9223372036854775807)))) (.b2 .and (.b2 .and (.b2 .le (.lit (-9223372036854775808)) (.iapp 54 (.cons wLater_x0 (.cons (.int .i64 (.var 6)) .nil)))) (.b2 .le (.iapp 54 (.cons wLater_x0 (.cons (.int .i64 (.var 6)) .nil))) (.lit (9223372036854775807)))) (.b2 .and (.b2 .and (.b2 .le (.lit (-9223372036854775808)) (.iapp 54 (.cons wLater_x0 (.cons wLater_x2 .nil)))) (.b2 .le (.iapp 54 (.cons wLater_x0 (.cons wLater_x2 .nil))) (.lit (9223372036854775807)))) (.b2 .and (.b2 .and (.b2 .le (.lit (-9223372036854775808)) (.iapp 54 (.cons wLater_x0 (.cons wLater_x7 .nil)))) (.b2 .le (.iapp 54 (.cons wLater_x0 (.cons wLater_x7 .nil))) (.lit (9223372036854775807)))) (.b2 .and (.b2 .and (.b2 .le (.lit (-9223372036854775808)) (.iapp 54 (.cons wLater_x0 (.cons (.int .i64 (.iapp 1 (.cons wLater_x5 .nil))) .nil)))) (.b2 .le (.iapp 54 (.cons wLater_x0 (.cons (.int .i64 (.iapp 1 (.cons wLater_x5 .nil))) .nil))) (.lit (9223372036854775807)))) (.b2 .and (.b2 .and (.b2 .le (.lit (-9223372036854775808)) (.iapp 54 (.cons wLater_x0 (.cons (.int .i64 (.var 10)) .nil)))) (.b2 .le (.iapp 54 (.cons wLater_x0 (.cons (.int .i64 (.var 10)) .nil))) (.lit (9223372036854775807)))) (.b2 .and (.b2 .le (.lit (-9223372036854775808)) (.iapp 54 (.cons wLater_x0 (.cons (.int .i64 (.var 11)) .nil)))) (.b2 .le (.iapp 54 (.cons wLater_x0 (.cons (.int .i64 (.var 11)) .nil))) (.lit (9223372036854775807))))))))))))))) (.b2 .and (.b2 .le (.lit (-9223372036854775808)) (.wrap .i64 (.i2 .add (.var 7) (.wrap .i64 (.i2 .min (.var 12) (.var 13)))))) (.b2 .le (.wrap .i64 (.i2 .add (.var 7) (.wrap .i64 (.i2 .min (.var 12) (.var 13))))) (.lit (9223372036854775807)))))
 (.br (.not (.b2 .eq (.iapp 46 (.cons wLater_x1 (.cons wLater_x2 .nil))) (.lit (0))))
 (.br (.b2 .eq (.iapp 46 (.cons wLater_x1 (.cons wLater_x2 .nil))) (.lit (13)))
 (.ret (.bool (.tt true)))
 (.br (.b2 .eq (.iapp 46 (.cons wLater_x1 (.cons wLater_x2 .nil))) (.lit (2)))
 (.ret (.bool (.tt true)))
 (.ret (.bool (.tt false)))))
 (.need (.b2 .and (.b2 .and (.b2 .and (.b2 .le (.lit (0)) (.iapp 54 (.cons wLater_x0 (.cons (.int .i64 (.var 0)) .nil)))) (.b2 .le (.iapp 54 (.cons wLater_x0 (.cons (.int .i64 (.var 0)) .nil))) (.lit (4294967295)))) (.b2 .and (.b2 .and (.b2 .le (.lit (-9223372036854775808)) (.iapp 54 (.cons wLater_x0 (.cons (.int .i64 (.var 1)) .nil)))) (.b2 .le (.iapp 54 (.cons wLater_x0 (.cons (.int .i64 (.var 1)) .nil))) (.lit (9223372036854775807)))) (.b2 .and (.b2 .and (.b2 .le (.lit (-9223372036854775808)) (.iapp 54 (.cons wLater_x0 (.cons (.int .i64 (.var 2)) .nil)))) (.b2 .le (.iapp 54 (.cons wLater_x0 (.cons (.int .i64 (.var 2)) .nil))) (.lit (9223372036854775807)))) (.b2 .and (.b2 .and (.b2 .le (.lit (-9223372036854775808)) (.iapp 54 (.cons wLater_x0 (.cons (.int .i64 (.var 3)) .nil)))) (.b2 .le (.iapp 54 (.cons wLater_x0 (.cons (.int .i64 (.var 3)) .nil))) (.lit (9223372036854775807)))) (.b2 .and (.b2 .and (.b2 .le (.lit (-9223372036854775808)) (.iapp 54 (.cons wLater_x0 (.cons (.int .i64 (.var 4)) .nil)))) (.b2 .le (.iapp 54 (.cons wLater_x0 (.cons (.int .i64 (.var 4)) .nil))) (.lit (9223372036854775807)))) (.b2 .and (.b2 .and (.b2 .le (.lit (-9223372036854775808)) (.iapp 54 (.cons wLater_x0 (.cons (.int .i64 (.var 5)) .nil)))) (.b2 .le (.iapp 54 (.cons wLater_x0 (.cons (.int .i64 (.var 5)) .nil))) (.lit (9223372036854775807)))) (.b2 .and (.b2 .and (.b2 .le (.lit (-9223372036854775808)) (.iapp 54 (.cons wLater_x0 (.cons (.int .i64 (.var 6)) .nil)))) (.b2 .le (.iapp 54 (.cons wLater_x0 (.cons (.int .i64 (.var 6)) .nil))) (.lit (9223372036854775807)))) (.b2 .and (.b2 .and (.b2 .le (.lit (-9223372036854775808)) (.iapp 54 (.cons wLater_x0 (.cons wLater_x2 .nil)))) (.b2 .le (.iapp 54 (.cons wLater_x0 (.cons wLater_x2 .nil))) (.lit (9223372036854775807)))) (.b2 .and (.b2 .and (.b2 .le (.lit (-9223372036854775808)) (.iapp 54 (.cons wLater_x0 (.cons wLater_x7 .nil)))) (.b2 .le (.iapp 54 (.cons wLater_x0 (.cons wLater_x7 .nil))) (.lit (9223372036854775807)))) (.b2 .and (.b2 .and (.b2 .le (.lit (-9223372036854775808)) (.iapp 54 (.cons wLater_x0 (.cons (.int .i64 (.iapp 1 (.cons wLater_x5 .nil))) .nil)))) (.b2 .le (.iapp 54 (.cons wLater_x0 (.cons (.int .i64 (.iapp 1 (.cons wLater_x5 .nil))) .nil))) (.lit (9223372036854775807)))) (.b2 .and (.b2 .and (.b2 .le (.lit (-9223372036854775808)) (.iapp 54 (.cons wLater_x0 (.cons (.int .i64 (.var 10)) .nil)))) (.b2 .le (.iapp 54 (.cons wLater_x0 (.cons (.int .i64 (.var 10)) .nil))) (.lit (9223372036854775807)))) (.b2 .and (.b2 .le (.lit (-9223372036854775808)) (.iapp 54 (.cons wLater_x0 (.cons (.int .i64 (.var 11)) .nil)))) (.b2 .le (.iapp 54 (.cons wLater_x0 (.cons (.int .i64 (.var 11)) .nil))) (.lit (9223372036854775807))))))))))))))) (.b2 .and (.b2 .le (.lit (-9223372036854775808)) (.wrap .i64 (.i2 .add (.var 7) (.wrap .i64 (.i2 .min (.var 12) (.var 13)))))) (.b2 .le (.wrap .i64 (.i2 .add (.var 7) (.wrap .i64 (.i2 .min (.var 12) (.var 13))))) (.lit (9223372036854775807)))))
 (.br (.b2 .eq (.iapp 47 (.cons wLater_x1 (.cons wLater_x2 .nil))) (.iapp 31 (.cons (.int .i64 (.var 14)) (.cons (.int .i64 (.var 15)) .nil))))
 (.br (.b2 .le (.iapp 1 (.cons wLater_x5 .nil)) (.iapp 48 (.cons wLater_x1 (.cons wLater_x2 .nil))))
 (.br (.b2 .le (.wrap .i64 (.i2 .sub (.iapp 48 (.cons wLater_x1 (.cons wLater_x2 .nil))) (.iapp 1 (.cons wLater_x5 .nil)))) (.lit (5)))
 (.br (.b2 .eq (.iapp 46 (.cons wLater_x3 (.cons wLater_x2 .nil))) (.lit (13)))
 (.ret (.bool (.tt true)))
 (.ret (.bool (.tt false))))
 (.ret (.bool (.tt false))))
 (.ret (.bool (.tt false))))
 (.ret (.bool (.tt false))))))))))))
 (.need (.b2 .and (.b2 .and (.b2 .and (.b2 .le (.lit (0)) (.var 0)) (.b2 .le (.var 0) (.lit (4294967295)))) (.b2 .and (.b2 .and (.b2 .le (.lit (-9223372036854775808)) (.var 1)) (.b2 .le (.var 1) (.lit (9223372036854775807)))) (.b2 .and (.b2 .and (.b2 .le (.lit (-9223372036854775808)) (.var 2)) (.b2 .le (.var 2) (.lit (9223372036854775807)))) (.b2 .and (.b2 .and (.b2 .le (.lit (-9223372036854775808)) (.var 3)) (.b2 .le (.var 3) (.lit (9223372036854775807)))) (.b2 .and (.b2 .and (.b2 .le (.lit (-9223372036854775808)) (.var 4)) (.b2 .le (.var 4) (.lit (9223372036854775807)))) (.b2 .and (.b2 .and (.b2 .le (.lit (-9223372036854775808)) (.var 5)) (.b2 .le (.var 5) (.lit (9223372036854775807)))) (.b2 .and (.b2 .and (.b2 .le (.lit (-9223372036854775808)) (.var 6)) (.b2 .le (.var 6) (.lit (9223372036854775807)))) (.b2 .and (.b2 .and (.b2 .le (.lit (-9223372036854775808)) (.var 7)) (.b2 .le (.var 7) (.lit (9223372036854775807)))) (.b2 .and (.b2 .and (.b2 .le (.lit (-9223372036854775808)) (.var 8)) (.b2 .le (.var 8) (.lit (9223372036854775807)))) (.b2 .and (.b2 .and (.b2 .le (.lit (-9223372036854775808)) (.var 9)) (.b2 .le (.var 9) (.lit (9223372036854775807)))) (.b2 .and (.b2 .and (.b2 .le (.lit (-9223372036854775808)) (.var 10)) (.b2 .le (.var 10) (.lit (9223372036854775807)))) (.b2 .and (.b2 .le (.lit (-9223372036854775808)) (.var 11)) (.b2 .le (.var 11) (.lit (9223372036854775807))))))))))))))) (.b2 .and (.bapp 4 (.cons wLater_x6 .nil)) (.b2 .and (.b2 .and (.b2 .le (.lit (-9223372036854775808)) (.wrap .i64 (.i2 .add (.var 7) (.wrap .i64 (.i2 .min (.var 12) (.var 13)))))) (.b2 .le (.wrap .i64 (.i2 .add (.var 7) (.wrap .i64 (.i2 .min (.var 12) (.var 13))))) (.lit (9223372036854775807)))) (.b2 .and (.b2 .and (.b2 .le (.lit (-9223372036854775808)) (.var 14)) (.b2 .le (.var 14) (.lit (9223372036854775807)))) (.b2 .and (.b2 .le (.lit (-9223372036854775808)) (.var 15)) (.b2 .le (.var 15) (.lit (9223372036854775807))))))))
 (.br (.not (.b2 .eq (.iapp 57 (.cons wLater_x2 (.cons (.int .i64 (.var 14)) (.cons (.int .i64 (.var 15)) .nil)))) (.lit (0))))
 (.br (.b2 .eq (.iapp 57 (.cons wLater_x2 (.cons (.int .i64 (.var 14)) (.cons (.int .i64 (.var 15)) .nil)))) (.lit (1)))
 (.ret (.bool (.tt true)))
 (.ret (.bool (.tt false))))
 (.need (.b2 .and (.b2 .le (.var 14) (.var 15)) (.b2 .and (.b2 .and (.b2 .le (.lit (-9223372036854775808)) (.var 14)) (.b2 .le (.var 14) (.lit (9223372036854775807)))) (.b2 .and (.b2 .le (.lit (-9223372036854775808)) (.var 15)) (.b2 .le (.var 15) (.lit (9223372036854775807))))))
 (.need (.b2 .and (.b2 .and (.b2 .and (.b2 .le (.lit (0)) (.iapp 54 (.cons wLater_x0 (.cons (.int .i64 (.var 0)) .nil)))) (.b2 .le (.iapp 54 (.cons wLater_x0 (.cons (.int .i64 (.var 0)) .nil))) (.lit (4294967295)))) (.b2 .and (.b2 .and (.b2 .le (.lit (-9223372036854775808)) (.iapp 54 (.cons wLater_x0 (.cons (.int .i64 (.var 1)) .nil)))) (.b2 .le (.iapp 54 (.cons wLater_x0 (.cons (.int .i64 (.var 1)) .nil))) (.lit (9223372036854775807)))) (.b2 .and (.b2 .and (.b2 .le (.lit (-9223372036854775808)) (.iapp 54 (.cons wLater_x0 (.cons (.int .i64 (.var 2)) .nil)))) (.b2 .le (.iapp 54 (.cons wLater_x0 (.cons (.int .i64 (.var 2)) .nil))) (.lit (9223372036854775807)))) (.b2 .and (.b2 .and (.b2 .le (.lit (-9223372036854775808)) (.iapp 54 (.cons wLater_x0 (.cons (.int .i64 (.var 3)) .nil)))) (.b2 .le (.iapp 54 (.cons wLater_x0 (.cons (.int .i64 (.var 3)) .nil))) (.lit (9223372036854775807)))) (.b2 .and (.b2 .and (.b2 .le (.lit (-9223372036854775808)) (.iapp 54 (.cons wLater_x0 (.cons (.int .i64 (.var 4)) .nil)))) (.b2 .le (.iapp 54 (.cons wLater_x0 (.cons (.int .i64 (.var 4)) .nil))) (.lit (9223372036854775807)))) (.b2 .and (.b2 .and (.b2 .le (.lit (-9223372036854775808)) (.iapp 54 (.cons wLater_x0 (.cons (.int .i64 (.var 5)) .nil)))) (.b2 .le (.iapp 54 (.cons wLater_x0 (.cons (.int .i64 (.var 5)) .nil))) (.lit (9223372036854775807)))) (.b2 .and (.b2 .and (.b2 .le (.lit (-9223372036854775808)) (.iapp 54 (.cons wLater_x0 (.cons (.int .i64 (.var 6)) .nil)))) (.b2 .le (.iapp 54 (.cons wLater_x0 (.cons (.int .i64 (.var 6)) .nil))) (.lit (9223372036854775807)))) (.b2 .and (.b2 .and (.b2 .le (.lit (-9223372036854775808)) (.iapp 54 (.cons wLater_x0 (.cons wLater_x2 .nil)))) (.b2 .le (.iapp 54 (.cons wLater_x0 (.cons wLater_x2 .nil))) (.lit (9223372036854775807)))) (.b2 .and (.b2 .and (.b2 .le (.lit (-9223372036854775808)) (.iapp 54 (.cons wLater_x0 (.cons wLater_x7 .nil)))) (.b2 .le (.iapp 54 (.cons wLater_x0 (.cons wLater_x7 .nil))) (.lit (9223372036854775807)))) (.b2 .and (.b2 .and (.b2 .le (.lit (-9223372036854775808)) (.iapp 54 (.cons wLater_x0 (.cons (.int .i64 (.iapp 1 (.cons wLater_x5 .nil))) .nil)))) (.b2 .le (.iapp 54 (.cons wLater_x0 (.cons (.int .i64 (.iapp 1 (.cons wLater_x5 .nil))) .nil))) (.lit (9223372036854775807)))) (.b2 .and (.b2 .and (.b2 .le (.lit (-9223372036854775808)) (.iapp 54 (.cons wLater_x0 (.cons (.int .i64 (.var 10)) .nil)))) (.b2 .le (.iapp 54 (.cons wLater_x0 (.cons (.int .i64 (.var 10)) .nil))) (.lit (9223372036854775807)))) (.b2 .and (.b2 .le (.lit (-9223372036854775808)) (.iapp 54 (.cons wLater_x0 (.cons (.int .i64 (.var 11)) .nil)))) (.b2 .le (.iapp 54 (.cons wLater_x0 (.cons (.int .i64 (.var 11)) .nil))) (.lit (9223372036854775807))))))))))))))) (.b2 .and (.b2 .le (.lit (-9223372036854775808)) (.wrap .i64 (.i2 .add (.var 7) (.wrap .i64 (.i2 .min (.var 12) (.var 13)))))) (.b2 .le (.wrap .i64 (.i2 .add (.var 7) (.wrap .i64 (.i2 .min (.var 12) (.var 13))))) (.lit (9223372036854775807)))))
 (.br (.not (.b2 .eq (.iapp 46 (.cons wLater_x1 (.cons wLater_x2 .nil))) (.lit (0))))
 (.br (.b2 .eq (.iapp 46 (.cons wLater_x1 (.cons wLater_x2 .nil))) (.lit (13)))
 (.ret (.bool (.tt true)))
 (.br (.b2 .eq (.iapp 46 (.cons wLater_x1 (.cons wLater_x2 .nil))) (.lit (2)))
 (.ret (.bool (.tt true)))
 (.ret (.bool (.tt false)))))
 (.need (.b2 .and (.b2 .and (.b2 .and (.b2 .le (.lit (0)) (.iapp 54 (.cons wLater_x0 (.cons (.int .i64 (.var 0)) .nil)))) (.b2 .le (.iapp 54 (.cons wLater_x0 (.cons (.int .i64 (.var 0)) .nil))) (.lit (4294967295)))) (.b2 .and (.b2 .and (.b2 .le (.lit (-9223372036854775808)) (.iapp 54 (.cons wLater_x0 (.cons (.int .i64 (.var 1)) .nil)))) (.b2 .le (.iapp 54 (.cons wLater_x0 (.cons (.int .i64 (.var 1)) .nil))) (.lit (9223372036854775807)))) (.b2 .and (.b2 .and (.b2 .le (.lit (-9223372036854775808)) (.iapp 54 (.cons wLater_x0 (.cons (.int .i64 (.var 2)) .nil)))) (.b2 .le (.iapp 54 (.cons wLater_x0 (.cons (.int .i64 (.var 2)) .nil))) (.lit (9223372036854775807)))) (.b2 .and (.b2 .and (.b2 .le (.lit (-9223372036854775808)) (.iapp 54 (.cons wLater_x0 (.cons (.int .i64 (.var 3)) .nil)))) (.b2 .le (.iapp 54 (.cons wLater_x0 (.cons (.int .i64 (.var 3)) .nil))) (.lit (9223372036854775807)))) (.b2 .and (.b2 .and (.b2 .le (.lit (-9223372036854775808)) (.iapp 54 (.cons wLater_x0 (.cons (.int .i64 (.var 4)) .nil)))) (.b2 .le (.iapp 54 (.cons wLater_x0 (.cons (.int .i64 (.var 4)) .nil))) (.lit (9223372036854775807)))) (.b2 .and (.b2 .and (.b2 .le (.lit (-9223372036854775808)) (.iapp 54 (.cons wLater_x0 (.cons (.int .i64 (.var 5)) .nil)))) (.b2 .le (.iapp 54 (.cons wLater_x0 (.cons (.int .i64 (.var 5)) .nil))) (.lit (9223372036854775807)))) (.b2 .and (.b2 .and (.b2 .le (.lit (-9223372036854775808)) (.iapp 54 (.cons wLater_x0 (.cons (.int .i64 (.var 6)) .nil)))) (.b2 .le (.iapp 54 (.cons wLater_x0 (.cons (.int .i64 (.var 6)) .nil))) (.lit (9223372036854775807)))) (.b2 .and (.b2 .and (.b2 .le (.lit (-9223372036854775808)) (.iapp 54 (.cons wLater_x0 (.cons wLater_x2 .nil)))) (.b2 .le (.iapp 54 (.cons wLater_x0 (.cons wLater_x2 .nil))) (.lit (9223372036854775807)))) (.b2 .and (.b2 .and (.b2 .le (.lit (-9223372036854775808)) (.iapp 54 (.cons wLater_x0 (.cons wLater_x7 .nil)))) (.b2 .le (.iapp 54 (.cons wLater_x0 (.cons wLater_x7 .nil))) (.lit (9223372036854775807)))) (.b2 .and (.b2 .and (.b2 .le (.lit (-9223372036854775808)) (.iapp 54 (.cons wLater_x0 (.cons (.int .i64 (.iapp 1 (.cons wLater_x5 .nil))) .nil)))) (.b2 .le (.iapp 54 (.cons wLater_x0 (.cons (.int .i64 (.iapp 1 (.cons wLater_x5 .nil))) .nil))) (.lit (9223372036854775807)))) (.b2 .and (.b2 .and (.b2 .le (.lit (-9223372036854775808)) (.iapp 54 (.cons wLater_x0 (.cons (.int .i64 (.var 10)) .nil)))) (.b2 .le (.iapp 54 (.cons wLater_x0 (.cons (.int .i64 (.var 10)) .nil))) (.lit (9223372036854775807)))) (.b2 .and (.b2 .le (.lit (-9223372036854775808)) (.iapp 54 (.cons wLater_x0 (.cons (.int .i64 (.var 11)) .nil)))) (.b2 .le (.iapp 54 (.cons wLater_x0 (.cons (.int .i64 (.var 11)) .nil))) (.lit (9223372036854775807))))))))))))))) (.b2 .and (.b2 .le (.lit (-9223372036854775808)) (.wrap .i64 (.i2 .add (.var 7) (.wrap .i64 (.i2 .min (.var 12) (.var 13)))))) (.b2 .le (.wrap .i64 (.i2 .add (.var 7) (.wrap .i64 (.i2 .min (.var 12) (.var 13))))) (.lit (9223372036854775807)))))
 (.br (.b2 .eq (.iapp 47 (.cons wLater_x1 (.cons wLater_x2 .nil))) (.iapp 31 (.cons (.int .i64 (.var 14)) (.cons (.int .i64 (.var 15)) .nil))))
 (.br (.b2 .le (.iapp 1 (.cons wLater_x5 .nil)) (.iapp 48 (.cons wLater_x1 (.cons wLater_x2 .nil))))
 (.br (.b2 .le (.wrap .i64 (.i2 .sub (.iapp 48 (.cons wLater_x1 (.cons wLater_x2 .nil))) (.iapp 1 (.cons wLater_x5 .nil)))) (.lit (5)))
 (.br (.b2 .eq (.iapp 46 (.cons wLater_x3 (.cons wLater_x2 .nil))) (.lit (13)))
 (.ret (.bool (.tt true)))
 (.ret (.bool (.tt false))))
 (.ret (.bool (.tt false))))
 (.ret (.bool (.tt false))))
 (.ret (.bool (.tt false)))))))))))
 (.br (.b2 .eq (.iapp 46 (.cons wLater_x4 (.cons (.int .i64 (.wrap .i64 (.i2 .add (.var 7) (.wrap .i64 (.i2 .max (.var 12) (.var 13)))))) .nil))) (.lit (0)))
 (.br (.not (.b2 .eq (.iapp 46 (.cons wLater_x4 (.cons wLater_x2 .nil))) (.lit (13))))
 (.br (.not (.b2 .eq (.iapp 46 (.cons wLater_x4 (.cons wLater_x2 .nil))) (.lit (2))))
 (.ret (.bool (.tt false)))
 (.need (.b2 .and (.b2 .and (.b2 .and (.b2 .le (.lit (0)) (.var 0)) (.b2 .le (.var 0) (.lit (4294967295)))) (.b2 .and (.b2 .and (.b2 .le (.lit (-9223372036854775808)) (.var 1)) (.b2 .le (.var 1) (.lit (9223372036854775807)))) (.b2 .and (.b2 .and (.b2 .le (.lit (-9223372036854775808)) (.var 2)) (.b2 .le (.var 2) (.lit (9223372036854775807)))) (.b2 .and (.b2 .and (.b2 .le (.lit (-9223372036854775808)) (.var 3)) (.b2 .le (.var 3) (.lit (9223372036854775807)))) (.b2 .and (.b2 .and (.b2 .le (.lit (-9223372036854775808)) (.var 4)) (.b2 .le (.var 4) (.lit (9223372036854775807)))) (.b2 .and (.b2 .and (.b2 .le (.lit (-9223372036854775808)) (.var 5)) (.b2 .le (.var 5) (.lit (9223372036854775807)))) (.b2 .and (.b2 .and (.b2 .le (.lit (-9223372036854775808)) (.var 6)) (.b2 .le (.var 6) (.lit (9223372036854775807)))) (.b2 .and (.b2 .and (.b2 .le (.lit (-9223372036854775808)) (.var 7)) (.b2 .le (.var 7) (.lit (9223372036854775807)))) (.b2 .and (.b2 .and (.b2 .le (.lit (-9223372036854775808)) (.var 8)) (.b2 .le (.var 8) (.lit (9223372036854775807)))) (.b2 .and (.b2 .and (.b2 .le (.lit (-9223372036854775808)) (.var 9)) (.b2 .le (.var 9) (.lit (9223372036854775807)))) (.b2 .and (.b2 .and (.b2 .le (.lit (-9223372036854775808)) (.var 10)) (.b2 .le (.var 10) (.lit (9223372036854775807)))) (.b2 .and (.b2 .le (.lit (-9223372036854775808)) (.var 11)) (.b2 .le (.var 11) (.lit (9223372036854775807))))))))))))))) (.b2 .and (.bapp 4 (.cons wLater_x6 .nil)) (.b2 .and (.b2 .and (.b2 .le (.lit (-9223372036854775808)) (.wrap .i64 (.i2 .add (.var 7) (.wrap .i64 (.i2 .min (.var 12) (.var 13)))))) (.b2 .le (.wrap .i64 (.i2 .add (.var 7) (.wrap .i64 (.i2 .min (.var 12) (.var 13))))) (.lit (9223372036854775807)))) (.b2 .and (.b2 .and (.b2 .le (.lit (-9223372036854775808)) (.var 14)) (.b2 .le (.var 14) (.lit (9223372036854775807)))) (.b2 .and (.b2 .le (.lit (-9223372036854775808)) (.var 15)) (.b2 .le (.var 15) (.lit (9223372036854775807))))))))
 (.br (.not (.b2 .eq (.iapp 57 (.cons wLater_x2 (.cons (.int .i64 (.var 14)) (.cons (.int .i64 (.var 15)) .nil)))) (.lit (0))))
 (.br (.b2 .eq (.iapp 57 (.cons wLater_x2 (.cons (.int .i64 (.var 14)) (.cons (.int .i64 (.var 15)) .nil)))) (.lit (1)))
 (.ret (.bool (.tt true)))
 (.ret (.bool (.tt false))))
 (.need (.b2 .and (.b2 .le (.var 14) (.var 15)) (.b2 .and (.b2 .and (.b2 .le (.lit (-9223372036854775808)) (.var 14)) (.b2 .le (.var 14) (.lit (9223372036854775807)))) (.b2 .and (.b2 .le (.lit (-9223372036854775808)) (.var 15)) (.b2 .le (.var 15) (.lit (9223372036854775807))))))
 (.need (.b2 .and (.b2 .and (.b2 .and (.b2 .le (.lit (0)) (.iapp 54 (.cons wLater_x0 (.cons (.int .i64 (.var 0)) .nil)))) (.b2 .le (.iapp 54 (.cons wLater_x0 (.cons (.int .i64 (.var 0)) .nil))) (.lit (4294967295)))) (.b2 .and (.b2 .and (.b2 .le (.lit (-9223372036854775808)) (.iapp 54 (.cons wLater_x0 (.cons (.int .i64 (.var 1)) .nil)))) (.b2 .le (.iapp 54 (.cons wLater_x0 (.cons (.int .i64 (.var 1)) .nil))) (.lit (9223372036854775807)))) (.b2 .and (.b2 .and (.b2 .le (.lit (-9223372036854775808)) (.iapp 54 (.cons wLater_x0 (.cons (.int .i64 (.var 2)) .nil)))) (.b2 .le (.iapp 54 (.cons wLater_x0 (.cons (.int .i64 (.var 2)) .nil))) (.lit (9223372036854775807)))) (.b2 .and (.b2 .and (.b2 .le (.lit (-9223372036854775808)) (.iapp 54 (.cons wLater_x0 (.cons (.int .i64 (.var 3)) .nil)))) (.b2 .le (.iapp 54 (.cons wLater_x0 (.cons (.int .i64 (.var 3)) .nil))) (.lit (9223372036854775807)))) (.b2 .and (.b2 .and (.b2 .le (.lit (-9223372036854775808)) (.iapp 54 (.cons wLater_x0 (.cons (.int .i64 (.var 4)) .nil)))) (.b2 .le (.iapp 54 (.cons wLater_x0 (.cons (.int .i64 (.var 4)) .nil))) (.lit (9223372036854775807)))) (.b2 .and (.b2 .and (.b2 .le (.lit (-9223372036854775808)) (.iapp 54 (.cons wLater_x0 (.cons (.int .i64 (.var 5)) .nil)))) (.b2 .le (.iapp 54 (.cons wLater_x0 (.cons (.int .i64 (.var 5)) .nil))) (.lit (9223372036854775807)))) (.b2 .and (.b2 .and (.b2 .le (.lit (-9223372036854775808)) (.iapp 54 (.cons wLater_x0 (.cons (.int .i64 (.var 6)) .nil)))) (.b2 .le (.iapp 54 (.cons wLater_x0 (.cons (.int .i64 (.var 6)) .nil))) (.lit (9223372036854775807)))) (.b2 .and (.b2 .and (.b2 .le (.lit (-9223372036854775808)) (.iapp 54 (.cons wLater_x0 (.cons wLater_x2 .nil)))) (.b2 .le (.iapp 54 (.cons wLater_x0 (.cons wLater_x2 .nil))) (.lit (9223372036854775807)))) (.b2 .and (.b2 .and (.b2 .le (.lit (-9223372036854775808)) (.iapp 54 (.cons wLater_x0 (.cons wLater_x7 .nil)))) (.b2 .le (.iapp 54 (.cons wLater_x0 (.cons wLater_x7 .nil))) (.lit (9223372036854775807)))) (.b2 .and (.b2 .and (.b2 .le (.lit (-9223372036854775808)) (.iapp 54 (.cons wLater_x0 (.cons (.int .i64 (.iapp 1 (.cons wLater_x5 .nil))) .nil)))) (.b2 .le (.iapp 54 (.cons wLater_x0 (.cons (.int .i64 (.iapp 1 (.cons wLater_x5 .nil))) .nil))) (.lit (9223372036854775807)))) (.b2 .and (.b2 .and (.b2 .le (.lit (-9223372036854775808)) (.iapp 54 (.cons wLater_x0 (.cons (.int .i64 (.var 10)) .nil)))) (.b2 .le (.iapp 54 (.cons wLater_x0 (.cons (.int .i64 (.var 10)) .nil))) (.lit (9223372036854775807)))) (.b2 .and (.b2 .le (.lit (-9223372036854775808)) (.iapp 54 (.cons wLater_x0 (.cons (.int .i64 (.var 11)) .nil)))) (.b2 .le (.iapp 54 (.cons wLater_x0 (.cons (.int .i64 (.var 11)) .nil))) (.lit (9223372036854775807))))))))))))))) (.b2 .and (.b2 .le (.lit (-9223372036854775808)) (.wrap .i64 (.i2 .add (.var 7) (.wrap .i64 (.i2 .min (.var 12) (.var 13)))))) (.b2 .le (.wrap .i64 (.i2 .add (.var 7) (.wrap .i64 (.i2 .min (.var 12) (.var 13))))) (.lit (9223372036854775807)))))
 (.br (.not (.b2 .eq (.iapp 46 (.cons wLater_x1 (.cons wLater_x2 .nil))) (.lit (0))))
 (.br (.b2 .eq (.iapp 46 (.cons wLater_x1 (.cons wLater_x2 .nil))) (.lit (13)))
 (.ret (.bool (.tt true)))
 (.br (.b2 .eq (.iapp 46 (.cons wLater_x1 (.cons wLater_x2 .nil))) (.lit (2)))
 (.ret (.bool (.tt true)))
 (.ret (.bool (.tt false)))))
 (.need (.b2 .and (.b2 .and (.b2 .and (.b2 .le (.lit (0)) (.iapp 54 (.cons wLater_x0 (.cons (.int .i64 (.var 0)) .nil)))) (.b2 .le (.iapp 54 (.cons wLater_x0 (.cons (.int .i64 (.var 0)) .nil))) (.lit (4294967295)))) (.b2 .and (.b2 .and (.b2 .le (.lit (-9223372036854775808)) (.iapp 54 (.cons wLater_x0 (.cons (.int .i64 (.var 1)) .nil)))) (.b2 .le (.iapp 54 (.cons wLater_x0 (.cons (.int .i64 (.var 1)) .nil))) (.lit (9223372036854775807)))) (.b2 .and (.b2 .and (.b2 .le (.lit (-9223372036854775808)) (.iapp 54 (.cons wLater_x0 (.cons (.int .i64 (.var 2)) .nil)))) (.b2 .le (.iapp 54 (.cons wLater_x0 (.cons (.int .i64 (.var 2)) .nil))) (.lit (9223372036854775807)))) (.b2 .and (.b2 .and (.b2 .le (.lit (-9223372036854775808)) (.iapp 54 (.cons wLater_x0 (.cons (.int .i64 (.var 3)) .nil)))) (.b2 .le (.iapp 54 (.cons wLater_x0 (.cons (.int .i64 (.var 3)) .nil))) (.lit (9223372036854775807)))) (.b2 .and (.b2 .and (.b2 .le (.lit (-9223372036854775808)) (.iapp 54 (.cons wLater_x0 (.cons (.int .i64 (.var 4)) .nil)))) (.b2 .le (.iapp 54 (.cons wLater_x0 (.cons (.int .i64 (.var 4)) .nil))) (.lit (9223372036854775807)))) (.b2 .and (.b2 .and (.b2 .le (.lit (-9223372036854775808)) (.iapp 54 (.cons wLater_x0 (.cons (.int .i64 (.var 5)) .nil)))) (.b2 .le (.iapp 54 (.cons wLater_x0 (.cons (.int .i64 (.var 5)) .nil))) (.lit (9223372036854775807)))) (.b2 .and (.b2 .and (.b2 .le (.lit (-9223372036854775808)) (.iapp 54 (.cons wLater_x0 (.cons (.int .i64 (.var 6)) .nil)))) (.b2 .le (.iapp 54 (.cons wLater_x0 (.cons (.int .i64 (.var 6)) .nil))) (.lit (9223372036854775807)))) (.b2 .and (.b2 .and (.b2 .le (.lit (-9223372036854775808)) (.iapp 54 (.cons wLater_x0 (.cons wLater_x2 .nil)))) (.b2 .le (.iapp 54 (.cons wLater_x0 (.cons wLater_x2 .nil))) (.lit (9223372036854775807)))) (.b2 .and (.b2 .and (.b2 .le (.lit (-9223372036854775808)) (.iapp 54 (.cons wLater_x0 (.cons wLater_x7 .nil)))) (.b2 .le (.iapp 54 (.cons wLater_x0 (.cons wLater_x7 .nil))) (.lit (9223372036854775807)))) (.b2 .and (.b2 .and (.b2 .le (.lit (-9223372036854775808)) (.iapp 54 (.cons wLater_x0 (.cons (.int .i64 (.iapp 1 (.cons wLater_x5 .nil))) .nil)))) (.b2 .le (.iapp 54 (.cons wLater_x0 (.cons (.int .i64 (.iapp 1 (.cons wLater_x5 .nil))) .nil))) (.lit (9223372036854775807)))) (.b2 .and (.b2 .and (.b2 .le (.lit (-9223372036854775808)) (.iapp 54 (.cons wLater_x0 (.cons (.int .i64 (.var 10)) .nil)))) (.b2 .le (.iapp 54 (.cons wLater_x0 (.cons (.int .i64 (.var 10)) .nil))) (.lit (9223372036854775807)))) (.b2 .and (.b2 .le (.lit (-9223372036854775808)) (.iapp 54 (.cons wLater_x0 (.cons (.int .i64 (.var 11)) .nil)))) (.b2 .le (.iapp 54 (.cons wLater_x0 (.cons (.int .i64 (.var 11)) .nil))) (.lit (9223372036854775807))))))))))))))) (.b2 .and (.b2 .le (.lit (-9223372036854775808)) (.wrap .i64 (.i2 .add (.var 7) (.wrap .i64 (.i2 .min (.var 12) (.var 13)))))) (.b2 .le (.wrap .i64 (.i2 .add (.var 7) (.wrap .i64 (.i2 .min (.var 12) (.var 13))))) (.lit (9223372036854775807)))))
 (.br (.b2 .eq (.iapp 47 (.cons wLater_x1 (.cons wLater_x2 .nil))) (.iapp 31 (.cons (.int .i64 (.var 14)) (.cons (.int .i64 (.var 15)) .nil))))
 (.br (.b2 .le (.iapp 1 (.cons wLater_x5 .nil)) (.iapp 48 (.cons wLater_x1 (.cons wLater_x2 .nil))))
 (.br (.b2 .le (.wrap .i64 (.i2 .sub (.iapp 48 (.cons wLater_x1 (.cons wLater_x2 .nil))) (.iapp 1 (.cons wLater_x5 .nil)))) (.lit (5)))
 (.br (.b2 .eq (.iapp 46 (.cons wLater_x3 (.cons wLater_x2 .nil))) (.lit (13)))
 (.ret (.bool (.tt true)))
 (.ret (.bool (.tt false))))
 (.ret (.bool (.tt false))))
 (.ret (.bool (.tt false))))
 (.ret (.bool (.tt false)))))))))))
 (.need (.b2 .and (.b2 .and (.b2 .and (.b2 .le (.lit (0)) (.var 0)) (.b2 .le (.var 0) (.lit (4294967295)))) (.b2 .and (.b2 .and (.b2 .le (.lit (-9223372036854775808)) (.var 1)) (.b2 .le (.var 1) (.lit (9223372036854775807)))) (.b2 .and (.b2 .and (.b2 .le (.lit (-9223372036854775808)) (.var 2)) (.b2 .le (.var 2) (.lit (9223372036854775807)))) (.b2 .and (.b2 .and (.b2 .le (.lit (-9223372036854775808)) (.var 3)) (.b2 .le (.var 3) (.lit (9223372036854775807)))) (.b2 .and (.b2 .and (.b2 .le (.lit (-9223372036854775808)) (.var 4)) (.b2 .le (.var 4) (.lit (9223372036854775807)))) (.b2 .and (.b2 .and (.b2 .le (.lit (-9223372036854775808)) (.var 5)) (.b2 .le (.var 5) (.lit (9223372036854775807)))) (.b2 .and (.b2 .and (.b2 .le (.lit (-9223372036854775808)) (.var 6)) (.b2 .le (.var 6) (.lit (9223372036854775807)))) (.b2 .and (.b2 .and (.b2 .le (.lit (-9223372036854775808)) (.var 7)) (.b2 .le (.var 7) (.lit (9223372036854775807)))) (.b2 .and (.b2 .and (.b2 .le (.lit (-9223372036854775808)) (.var 8)) (.b2 .le (.var 8) (.lit (9223372036854775807)))) (.b2 .and (.b2 .and (.b2 .le (.lit (-9223372036854775808)) (.var 9)) (.b2 .le (.var 9) (.lit (9223372036854775807)))) (.b2 .and (.b2 .and (.b2 .le (.lit (-9223372036854775808)) (.var 10)) (.b2 .le (.var 10) (.lit (9223372036854775807)))) (.b2 .and (.b2 .le (.lit (-9223372036854775808)) (.var 11)) (.b2 .le (.var 11) (.lit (9223372036854775807))))))))))))))) (.b2 .and (.bapp 4 (.cons wLater_x6 .nil)) (.b2 .and (.b2 .and (.b2 .le (.lit (-9223372036854775808)) (.wrap .i64 (.i2 .add (.var 7) (.wrap .i64 (.i2 .min (.var 12) (.var 13)))))) (.b2 .le (.wrap .i64 (.i2 .add (.var 7) (.wrap .i64 (.i2 .min (.var 12) (.var 13))))) (.lit (9223372036854775807)))) (.b2 .and (.b2 .and (.b2 .le (.lit (-9223372036854775808)) (.var 14)) (.b2 .le (.var 14) (.lit (9223372036854775807)))) (.b2 .and (.b2 .le (.lit (-9223372036854775808)) (.var 15)) (.b2 .le (.var 15) (.lit (9223372036854775807))))))))
 (.br (.not (.b2 .eq (.iapp 57 (.cons wLater_x2 (.cons (.int .i64 (.var 14)) (.cons (.int .i64 (.var 15)) .nil)))) (.lit (0))))
 (.br (.b2 .eq (.iapp 57 (.cons wLater_x2 (.cons (.int .i64 (.var 14)) (.cons (.int .i64 (.var 15)) .nil)))) (.lit (1)))
 (.ret (.bool (.tt true)))
 (.ret (.bool (.tt false))))
 (.need (.b2 .and (.b2 .le (.var 14) (.var 15)) (.b2 .and (.b2 .and (.b2 .le (.lit (-9223372036854775808)) (.var 14)) (.b2 .le (.var 14) (.lit (9223372036854775807)))) (.b2 .and (.b2 .le (.lit (-9223372036854775808)) (.var 15)) (.b2 .le (.var 15) (.lit (9223372036854775807))))))
 (.need (.b2 .and (.b2 .and (.b2 .and (.b2 .le (.lit (0)) (.iapp 54 (.cons wLater_x0 (.cons (.int .i64 (.var 0)) .nil)))) (.b2 .le (.iapp 54 (.cons wLater_x0 (.cons (.int .i64 (.var 0)) .nil))) (.lit (4294967295)))) (.b2 .and (.b2 .and (.b2 .le (.lit (-9223372036854775808)) (.iapp 54 (.cons wLater_x0 (.cons (.int .i64 (.var 1)) .nil)))) (.b2 .le (.iapp 54 (.cons wLater_x0 (.cons (.int .i64 (.var 1)) .nil))) (.lit (9223372036854775807)))) (.b2 .and (.b2 .and (.b2 .le (.lit (-9223372036854775808)) (.iapp 54 (.cons wLater_x0 (.cons (.int .i64 (.var 2)) .nil)))) (.b2 .le (.iapp 54 (.cons wLater_x0 (.cons (.int .i64 (.var 2)) .nil))) (.lit (9223372036854775807)))) (.b2 .and (.b2 .and (.b2 .le (.lit (-9223372036854775808)) (.iapp 54 (.cons wLater_x0 (.cons (.int .i64 (.var 3)) .nil)))) (.b2 .le (.iapp 54 (.cons wLater_x0 (.cons (.int .i64 (.var 3)) .nil))) (.lit (9223372036854775807)))) (.b2 .and (.b2 .and (.b2 .le (.lit (-9223372036854775808)) (.iapp 54 (.cons wLater_x0 (.cons (.int .i64 (.var 4)) .nil)))) (.b2 .le (.iapp 54 (.cons wLater_x0 (.cons (.int .i64 (.var 4)) .nil))) (.lit (9223372036854775807)))) (.b2 .and (.b2 .and (.b2 .le (.lit (-9223372036854775808)) (.iapp 54 (.cons wLater_x0 (.cons (.int .i64 (.var 5)) .nil)))) (.b2 .le (.iapp 54 (.cons wLater_x0 (.cons (.int .i64 (.var 5)) .nil))) (.lit (9223372036854775807)))) (.b2 .and (.b2 .and (.b2 .le (.lit (-9223372036854775808)) (.iapp 54 (.cons wLater_x0 (.cons (.int .i64 (.var 6)) .nil)))) (.b2 .le (.iapp 54 (.cons wLater_x0 (.cons (.int .i64 (.var 6)) .nil))) (.lit (9223372036854775807)))) (.b2 .and (.b2 .and (.b2 .le (.lit (-9223372036854775808)) (.iapp 54 (.cons wLater_x0 (.cons wLater_x2 .nil)))) (.b2 .le (.iapp 54 (.cons wLater_x0 (.cons wLater_x2 .nil))) (.lit (9223372036854775807)))) (.b2 .and (.b2 .and (.b2 .le (.lit (-9223372036854775808)) (.iapp 54 (.cons wLater_x0 (.cons wLater_x7 .nil)))) (.b2 .le (.iapp 54 (.cons wLater_x0 (.cons wLater_x7 .nil))) (.lit (9223372036854775807)))) (.b2 .and (.b2 .and (.b2 .le (.lit (-9223372036854775808)) (.iapp 54 (.cons wLater_x0 (.cons (.int .i64 (.iapp 1 (.cons wLater_x5 .nil))) .nil)))) (.b2 .le (.iapp 54 (.cons wLater_x0 (.cons (.int .i64 (.iapp 1 (.cons wLater_x5 .nil))) .nil))) (.lit (9223372036854775807)))) (.b2 .and (.b2 .and (.b2 .le (.lit (-9223372036854775808)) (.iapp 54 (.cons wLater_x0 (.cons (.int .i64 (.var 10)) .nil)))) (.b2 .le (.iapp 54 (.cons wLater_x0 (.cons (.int .i64 (.var 10)) .nil))) (.lit (9223372036854775807)))) (.b2 .and (.b2 .le (.lit (-9223372036854775808)) (.iapp 54 (.cons wLater_x0 (.cons (.int .i64 (.var 11)) .nil)))) (.b2 .le (.iapp 54 (.cons wLater_x0 (.cons (.int .i64 (.var 11)) .nil))) (.lit (9223372036854775807))))))))))))))) (.b2 .and (.b2 .le (.lit (-9223372036854775808)) (.wrap .i64 (.i2 .add (.var 7) (.wrap .i64 (.i2 .min (.var 12) (.var 13)))))) (.b2 .le (.wrap .i64 (.i2 .add (.var 7) (.wrap .i64 (.i2 .min (.var 12) (.var 13))))) (.lit (9223372036854775807)))))
 (.br (.not (.b2 .eq (.iapp 46 (.cons wLater_x1 (.cons wLater_x2 .nil))) (.lit (0))))
 (.br (.b2 .eq (.iapp 46 (.cons wLater_x1 (.cons wLater_x2 .nil))) (.lit (13)))
 (.ret (.bool (.tt true)))
 (.br (.b2 .eq (.iapp 46 (.cons wLater_x1 (.cons wLater_x2 .nil))) (.lit (2)))
 (.ret (.bool (.tt true)))
 (.ret (.bool (.tt false)))))
 (.need (.b2 .and (.b2 .and (.b2 .and (.b2 .le (.lit (0)) (.iapp 54 (.cons wLater_x0 (.cons (.int .i64 (.var 0)) .nil)))) (.b2 .le (.iapp 54 (.cons wLater_x0 (.cons (.int .i64 (.var 0)) .nil))) (.lit (4294967295)))) (.b2 .and (.b2 .and (.b2 .le (.lit (-9223372036854775808)) (.iapp 54 (.cons wLater_x0 (.cons (.int .i64 (.var 1)) .nil)))) (.b2 .le (.iapp 54 (.cons wLater_x0 (.cons (.int .i64 (.var 1)) .nil))) (.lit (9223372036854775807)))) (.b2 .and (.b2 .and (.b2 .le (.lit (-9223372036854775808)) (.iapp 54 (.cons wLater_x0 (.cons (.int .i64 (.var 2)) .nil)))) (.b2 .le (.iapp 54 (.cons wLater_x0 (.cons (.int .i64 (.var 2)) .nil))) (.lit (9223372036854775807)))) (.b2 .and (.b2 .and (.b2 .le (.lit (-9223372036854775808)) (.iapp 54 (.cons wLater_x0 (.cons (.int .i64 (.var 3)) .nil)))) (.b2 .le (.iapp 54 (.cons wLater_x0 (.cons (.int .i64 (.var 3)) .nil))) (.lit (9223372036854775807)))) (.b2 .and (.b2 .and (.b2 .le (.lit (-9223372036854775808)) (.iapp 54 (.cons wLater_x0 (.cons (.int .i64 (.var 4)) .nil)))) (.b2 .le (.iapp 54 (.cons wLater_x0 (.cons (.int .i64 (.var 4)) .nil))) (.lit (9223372036854775807)))) (.b2 .and (.b2 .and (.b2 .le (.lit (-9223372036854775808)) (.iapp 54 (.cons wLater_x0 (.cons (.int .i64 (.var 5)) .nil)))) (.b2 .le (.iapp 54 (.cons wLater_x0 (.cons (.int .i64 (.var 5)) .nil))) (.lit (9223372036854775807)))) (.b2 .and (.b2 .and (.b2 .le (.lit (-9223372036854775808)) (.iapp 54 (.cons wLater_x0 (.cons (.int .i64 (.var 6)) .nil)))) (.b2 .le (.iapp 54 (.cons wLater_x0 (.cons (.int .i64 (.var 6)) .nil))) (.lit (9223372036854775807)))) (.b2 .and (.b2 .and (.b2 .le (.lit (-9223372036854775808)) (.iapp 54 (.cons wLater_x0 (.cons wLater_x2 .nil)))) (.b2 .le (.iapp 54 (.cons wLater_x0 (.cons wLater_x2 .nil))) (.lit (9223372036854775807)))) (.b2 .and (.b2 .and (.b2 .le (.lit (-9223372036854775808)) (.iapp 54 (.cons wLater_x0 (.cons wLater_x7 .nil)))) (.b2 .le (.iapp 54 (.cons wLater_x0 (.cons wLater_x7 .nil))) (.lit (9223372036854775807)))) (.b2 .and (.b2 .and (.b2 .le (.lit (-9223372036854775808)) (.iapp 54 (.cons wLater_x0 (.cons (.int .i64 (.iapp 1 (.cons wLater_x5 .nil))) .nil)))) (.b2 .le (.iapp 54 (.cons wLater_x0 (.cons (.int .i64 (.iapp 1 (.cons wLater_x5 .nil))) .nil))) (.lit (9223372036854775807)))) (.b2 .and (.b2 .and (.b2 .le (.lit (-9223372036854775808)) (.iapp 54 (.cons wLater_x0 (.cons (.int .i64 (.var 10)) .nil)))) (.b2 .le (.iapp 54 (.cons wLater_x0 (.cons (.int .i64 (.var 10)) .nil))) (.lit (9223372036854775807)))) (.b2 .and (.b2 .le (.lit (-9223372036854775808)) (.iapp 54 (.cons wLater_x0 (.cons (.int .i64 (.var 11)) .nil)))) (.b2 .le (.iapp 54 (.cons wLater_x0 (.cons (.int .i64 (.var 11)) .nil))) (.lit (9223372036854775807))))))))))))))) (.b2 .and (.b2 .le (.lit (-9223372036854775808)) (.wrap .i64 (.i2 .add (.var 7) (.wrap .i64 (.i2 .min (.var 12) (.var 13)))))) (.b2 .le (.wrap .i64 (.i2 .add (.var 7) (.wrap .i64 (.i2 .min (.var 12) (.var 13))))) (.lit (9223372036854775807)))))
 (.br (.b2 .eq (.iapp 47 (.cons wLater_x1 (.cons wLater_x2 .nil))) (.iapp 31 (.cons (.int .i64 (.var 14)) (.cons (.int .i64 (.var 15)) .nil))))
 (.br (.b2 .le (.iapp 1 (.cons wLater_x5 .nil)) (.iapp 48 (.cons wLater_x1 (.cons wLater_x2 .nil))))
 (.br (.b2 .le (.wrap .i64 (.i2 .sub (.iapp 48 (.cons wLater_x1 (.cons wLater_x2 .nil))) (.iapp 1 (.cons wLater_x5 .nil)))) (.lit (5)))
 (.br (.b2 .eq (.iapp 46 (.cons wLater_x3 (.cons wLater_x2 .nil))) (.lit (13)))
 (.ret (.bool (.tt true)))
 (.ret (.bool (.tt false))))
 (.ret (.bool (.tt false))))
 (.ret (.bool (.tt false))))
 (.ret (.bool (.tt false)))))))))))
 (.need (.b2 .and (.b2 .and (.b2 .and (.b2 .le (.lit (0)) (.var 0)) (.b2 .le (.var 0) (.lit (4294967295)))) (.b2 .and (.b2 .and (.b2 .le (.lit (-9223372036854775808)) (.var 1)) (.b2 .le (.var 1) (.lit (9223372036854775807)))) (.b2 .and (.b2 .and (.b2 .le (.lit (-9223372036854775808)) (.var 2)) (.b2 .le (.var 2) (.lit (9223372036854775807)))) (.b2 .and (.b2 .and (.b2 .le (.lit (-9223372036854775808)) (.var 3)) (.b2 .le (.var 3) (.lit (9223372036854775807)))) (.b2 .and (.b2 .and (.b2 .le (.lit (-9223372036854775808)) (.var 4)) (.b2 .le (.var 4) (.lit (9223372036854775807)))) (.b2 .and (.b2 .and (.b2 .le (.lit (-9223372036854775808)) (.var 5)) (.b2 .le (.var 5) (.lit (9223372036854775807)))) (.b2 .and (.b2 .and (.b2 .le (.lit (-9223372036854775808)) (.var 6)) (.b2 .le (.var 6) (.lit (9223372036854775807)))) (.b2 .and (.b2 .and (.b2 .le (.lit (-9223372036854775808)) (.var 7)) (.b2 .le (.var 7) (.lit (9223372036854775807)))) (.b2 .and (.b2 .and (.b2 .le (.lit (-9223372036854775808)) (.var 8)) (.b2 .le (.var 8) (.lit (9223372036854775807)))) (.b2 .and (.b2 .and (.b2 .le (.lit (-9223372036854775808)) (.var 9)) (.b2 .le (.var 9) (.lit (9223372036854775807)))) (.b2 .and (.b2 .and (.b2 .le (.lit (-9223372036854775808)) (.var 10)) (.b2 .le (.var 10) (.lit (9223372036854775807)))) (.b2 .and (.b2 .le (.lit (-9223372036854775808)) (.var 11)) (.b2 .le (.var 11) (.lit (9223372036854775807))))))))))))))) (.b2 .and (.bapp 4 (.cons wLater_x6 .nil)) (.b2 .and (.b2 .and (.b2 .le (.lit (-9223372036854775808)) (.wrap .i64 (.i2 .add (.var 7) (.wrap .i64 (.i2 .min (.var 12) (.var 13)))))) (.b2 .le (.wrap .i64 (.i2 .add (.var 7) (.wrap .i64 (.i2 .min (.var 12) (.var 13))))) (.lit (9223372036854775807)))) (.b2 .and (.b2 .and (.b2 .le (.lit (-9223372036854775808)) (.var 14)) (.b2 .le (.var 14) (.lit (9223372036854775807)))) (.b2 .and (.b2 .le (.lit (-9223372036854775808)) (.var 15)) (.b2 .le (.var 15) (.lit (9223372036854775807))))))))
 (.br (.not (.b2 .eq (.iapp 57 (.cons wLater_x2 (.cons (.int .i64 (.var 14)) (.cons (.int .i64 (.var 15)) .nil)))) (.lit (0))))
 (.br (.b2 .eq (.iapp 57 (.cons wLater_x2 (.cons (.int .i64 (.var 14)) (.cons (.int .i64 (.var 15)) .nil)))) (.lit (1)))
 (.ret (.bool (.tt true)))
 (.ret (.bool (.tt false))))
 (.need (.b2 .and (.b2 .le (.var 14) (.var 15)) (.b2 .and (.b2 .and (.b2 .le (.lit (-9223372036854775808)) (.var 14)) (.b2 .le (.var 14) (.lit (9223372036854775807)))) (.b2 .and (.b2 .le (.lit (-9223372036854775808)) (.var 15)) (.b2 .le (.var 15) (.lit (9223372036854775807))))))
 (.need (.b2 .and (.b2 .and (.b2 .and (.b2 .le (.lit (0)) (.iapp 54 (.cons wLater_x0 (.cons (.int .i64 (.var 0)) .nil)))) (.b2 .le (.iapp 54 (.cons wLater_x0 (.cons (.int .i64 (.var 0)) .nil))) (.lit (4294967295)))) (.b2 .and (.b2 .and (.b2 .le (.lit (-9223372036854775808)) (.iapp 54 (.cons wLater_x0 (.cons (.int .i64 (.var 1)) .nil)))) (.b2 .le (.iapp 54 (.cons wLater_x0 (.cons (.int .i64 (.var 1)) .nil))) (.lit (9223372036854775807)))) (.b2 .and (.b2 .and (.b2 .le (.lit (-9223372036854775808)) (.iapp 54 (.cons wLater_x0 (.cons (.int .i64 (.var 2)) .nil)))) (.b2 .le (.iapp 54 (.cons wLater_x0 (.cons (.int .i64 (.var 2)) .nil))) (.lit (9223372036854775807)))) (.b2 .and (.b2 .and (.b2 .le (.lit (-9223372036854775808)) (.iapp 54 (.cons wLater_x0 (.cons (.int .i64 (.var 3)) .nil)))) (.b2 .le (.iapp 54 (.cons wLater_x0 (.cons (.int .i64 (.var 3)) .nil))) (.lit (9223372036854775807)))) (.b2 .and (.b2 .and (.b2 .le (.lit (-9223372036854775808)) (.iapp 54 (.cons wLater_x0 (.cons (.int .i64 (.var 4)) .nil)))) (.b2 .le (.iapp 54 (.cons wLater_x0 (.cons (.int .i64 (.var 4)) .nil))) (.lit (9223372036854775807)))) (.b2 .and (.b2 .and (.b2 .le (.lit (-9223372036854775808)) (.iapp 54 (.cons wLater_x0 (.cons (.int .i64 (.var 5)) .nil)))) (.b2 .le (.iapp 54 (.cons wLater_x0 (.cons (.int .i64 (.var 5)) .nil))) (.lit (9223372036854775807)))) (.b2 .and (.b2 .and (.b2 .le (.lit (-9223372036854775808)) (.iapp 54 (.cons wLater_x0 (.cons (.int .i64 (.var 6)) .nil)))) (.b2 .le (.iapp 54 (.cons wLater_x0 (.cons (.int .i64 (.var 6)) .nil))) (.lit (9223372036854775807)))) (.b2 .and (.b2 .and (.b2 .le (.lit (-9223372036854775808)) (.iapp 54 (.cons wLater_x0 (.cons wLater_x2 .nil)))) (.b2 .le (.iapp 54 (.cons wLater_x0 (.cons wLater_x2 .nil))) (.lit (9223372036854775807)))) (.b2 .and (.b2 .and (.b2 .le (.lit (-9223372036854775808)) (.iapp 54 (.cons wLater_x0 (.cons wLater_x7 .nil)))) (.b2 .le (.iapp 54 (.cons wLater_x0 (.cons wLater_x7 .nil))) (.lit (9223372036854775807)))) (.b2 .and (.b2 .and (.b2 .le (.lit (-9223372036854775808)) (.iapp 54 (.cons wLater_x0 (.cons (.int .i64 (.iapp 1 (.cons wLater_x5 .nil))) .nil)))) (.b2 .le (.iapp 54 (.cons wLater_x0 (.cons (.int .i64 (.iapp 1 (.cons wLater_x5 .nil))) .nil))) (.lit (9223372036854775807)))) (.b2 .and (.b2 .and (.b2 .le (.lit (-9223372036854775808)) (.iapp 54 (.cons wLater_x0 (.cons (.int .i64 (.var 10)) .nil)))) (.b2 .le (.iapp 54 (.cons wLater_x0 (.cons (.int .i64 (.var 10)) .nil))) (.lit (9223372036854775807)))) (.b2 .and (.b2 .le (.lit (-9223372036854775808)) (.iapp 54 (.cons wLater_x0 (.cons (.int .i64 (.var 11)) .nil)))) (.b2 .le (.iapp 54 (.cons wLater_x0 (.cons (.int .i64 (.var 11)) .nil))) (.lit (9223372036854775807))))))))))))))) (.b2 .and (.b2 .le (.lit (-9223372036854775808)) (.wrap .i64 (.i2 .add (.var 7) (.wrap .i64 (.i2 .min (.var 12) (.var 13)))))) (.b2 .le (.wrap .i64 (.i2 .add (.var 7) (.wrap .i64 (.i2 .min (.var 12) (.var 13))))) (.lit (9223372036854775807)))))
 (.br (.not (.b2 .eq (.iapp 46 (.cons wLater_x1 (.cons wLater_x2 .nil))) (.lit (0))))
 (.br (.b2 .eq (.iapp 46 (.cons wLater_x1 (.cons wLater_x2 .nil))) (.lit (13)))
 (.ret (.bool (.tt true)))
 (.br (.b2 .eq (.iapp 46 (.cons wLater_x1 (.cons wLater_x2 .nil))) (.lit (2)))
 (.ret (.bool (.tt true)))
 (.ret (.bool (.tt false)))))
 (.need (.b2 .and (.b2 .and (.b2 .and (.b2 .le (.lit (0)) (.iapp 54 (.cons wLater_x0 (.cons (.int .i64 (.var 0)) .nil)))) (.b2 .le (.iapp 54 (.cons wLater_x0 (.cons (.int .i64 (.var 0)) .nil))) (.lit (4294967295)))) (.b2 .and (.b2 .and (.b2 .le (.lit (-9223372036854775808)) (.iapp 54 (.cons wLater_x0 (.cons (.int .i64 (.var 1)) .nil)))) (.b2 .le (.iapp 54 (.cons wLater_x0 (.cons (.int .i64 (.var 1)) .nil))) (.lit (9223372036854775807)))) (.b2 .and (.b2 .and (.b2 .le (.lit (-9223372036854775808)) (.iapp 54 (.cons wLater_x0 (.cons (.int .i64 (.var 2)) .nil)))) (.b2 .le (.iapp 54 (.cons wLater_x0 (.cons (.int .i64 (.var 2)) .nil))) (.lit (9223372036854775807)))) (.b2 .and (.b2 .and (.b2 .le (.lit (-9223372036854775808)) (.iapp 54 (.cons wLater_x0 (.cons (.int .i64 (.var 3)) .nil)))) (.b2 .le (.iapp 54 (.cons wLater_x0 (.cons (.int .i64 (.var 3)) .nil))) (.lit (9223372036854775807)))) (.b2 .and (.b2 .and (.b2 .le (.lit (-9223372036854775808)) (.iapp 54 (.cons wLater_x0 (.cons (.int .i64 (.var 4)) .nil)))) (.b2 .le (.iapp 54 (.cons wLater_x0 (.cons (.int .i64 (.var 4)) .nil))) (.lit (9223372036854775807)))) (.b2 .and (.b2 .and (.b2 .le (.lit (-9223372036854775808)) (.iapp 54 (.cons wLater_x0 (.cons (.int .i64 (.var 5)) .nil)))) (.b2 .le (.iapp 54 (.cons wLater_x0 (.cons (.int .i64 (.var 5)) .nil))) (.lit (9223372036854775807)))) (.b2 .and (.b2 .and (.b2 .le (.lit (-9223372036854775808)) (.iapp 54 (.cons wLater_x0 (.cons (.int .i64 (.var 6)) .nil)))) (.b2 .le (.iapp 54 (.cons wLater_x0 (.cons (.int .i64 (.var 6)) .nil))) (.lit (9223372036854775807)))) (.b2 .and (.b2 .and (.b2 .le (.lit (-9223372036854775808)) (.iapp 54 (.cons wLater_x0 (.cons wLater_x2 .nil)))) (.b2 .le (.iapp 54 (.cons wLater_x0 (.cons wLater_x2 .nil))) (.lit (9223372036854775807)))) (.b2 .and (.b2 .and (.b2 .le (.lit (-9223372036854775808)) (.iapp 54 (.cons wLater_x0 (.cons wLater_x7 .nil)))) (.b2 .le (.iapp 54 (.cons wLater_x0 (.cons wLater_x7 .nil))) (.lit (9223372036854775807)))) (.b2 .and (.b2 .and (.b2 .le (.lit (-9223372036854775808)) (.iapp 54 (.cons wLater_x0 (.cons (.int .i64 (.iapp 1 (.cons wLater_x5 .nil))) .nil)))) (.b2 .le (.iapp 54 (.cons wLater_x0 (.cons (.int .i64 (.iapp 1 (.cons wLater_x5 .nil))) .nil))) (.lit (9223372036854775807)))) (.b2 .and (.b2 .and (.b2 .le (.lit (-9223372036854775808)) (.iapp 54 (.cons wLater_x0 (.cons (.int .i64 (.var 10)) .nil)))) (.b2 .le (.iapp 54 (.cons wLater_x0 (.cons (.int .i64 (.var 10)) .nil))) (.lit (9223372036854775807)))) (.b2 .and (.b2 .le (.lit (-9223372036854775808)) (.iapp 54 (.cons wLater_x0 (.cons (.int .i64 (.var 11)) .nil)))) (.b2 .le (.iapp 54 (.cons wLater_x0 (.cons (.int .i64 (.var 11)) .nil))) (.lit (9223372036854775807))))))))))))))) (.b2 .and (.b2 .le (.lit (-9223372036854775808)) (.wrap .i64 (.i2 .add (.var 7) (.wrap .i64 (.i2 .min (.var 12) (.var 13)))))) (.b2 .le (.wrap .i64 (.i2 .add (.var 7) (.wrap .i64 (.i2 .min (.var 12) (.var 13))))) (.lit (9223372036854775807)))))
 (.br (.b2 .eq (.iapp 47 (.cons wLater_x1 (.cons wLater_x2 .nil))) (.iapp 31 (.cons (.int .i64 (.var 14)) (.cons (.int .i64 (.var 15)) .nil))))
 (.br (.b2 .le (.iapp 1 (.cons wLater_x5 .nil)) (.iapp 48 (.cons wLater_x1 (.cons wLater_x2 .nil))))
 (.br (.b2 .le (.wrap .i64 (.i2 .sub (.iapp 48 (.cons wLater_x1 (.cons wLater_x2 .nil))) (.iapp 1 (.cons wLater_x5 .nil)))) (.lit (5)))
 (.br (.b2 .eq (.iapp 46 (.cons wLater_x3 (.cons wLater_x2 .nil))) (.lit (13)))
 (.ret (.bool (.tt true)))
 (.ret (.bool (.tt false))))
 (.ret (.bool (.tt false))))
 (.ret (.bool (.tt false))))
 (.ret (.bool (.tt false))))))))))))))))
abbrev ylc_wLater : Con := ⟨10, [(.agg (.cons (.int .u32 (.var 0)) (.cons (.int .i64 (.var 1)) (.cons (.int .i64 (.var 2)) (.cons (.int .i64 (.var 3)) (.cons (.int .i64 (.var 4)) (.cons (.int .i64 (.var 5)) (.cons (.int .i64 (.var 6)) (.cons (.bool (.bvar 0)) (.cons (.int .i64 (.var 7)) (.cons (.int .i64 (.var 8)) (.cons (.int .i64 (.var 9)) (.cons (.int .i64 (.var 10)) (.cons (.int .i64 (.var 11)) .nil)))))))))))))), (.agg (.cons (.int .u32 (.var 12)) (.cons (.int .u32 (.var 13)) .nil))), (.agg (.cons (.int .i64 (.var 14)) (.cons (.int .i64 (.var 15)) .nil)))], (.b2 .and (.b2 .and (.b2 .and (.b2 .le (.lit (0)) (.var 0)) (.b2 .le (.var 0) (.lit (4294967295)))) (.b2 .and (.b2 .and (.b2 .le (.lit (-9223372036854775808)) (.var 1)) (.b2 .le (.var 1) (.lit (9223372036854775807)))) (.b2 .and (.b2 .and (.b2 .le (.lit (-9223372036854775808)) (.var 2)) (.b2 .le (.var 2) (.lit (9223372036854775807)))) (.b2 .and (.b2 .and (.b2 .le (.lit (-9223372036854775808)) (.var 3)) (.b2 .le (.var 3) (.lit (9223372036854775807)))) (.b2 .and (.b2 .and (.b2 .le (.lit (-9223372036854775808)) (.var 4)) (.b2 .le (.var 4) (.lit (9223372036854775807)))) (.b2 .and (.b2 .and (.b2 .le (.lit (-9223372036854775808)) (.var 5)) (.b2 .le (.var 5) (.lit (9223372036854775807)))) (.b2 .and (.b2 .and (.b2 .le (.lit (-9223372036854775808)) (.var 6)) (.b2 .le (.var 6) (.lit (9223372036854775807)))) (.b2 .and (.b2 .and (.b2 .le (.lit (-9223372036854775808)) (.var 7)) (.b2 .le (.var 7) (.lit (9223372036854775807)))) (.b2 .and (.b2 .and (.b2 .le (.lit (-9223372036854775808)) (.var 8)) (.b2 .le (.var 8) (.lit (9223372036854775807)))) (.b2 .and (.b2 .and (.b2 .le (.lit (-9223372036854775808)) (.var 9)) (.b2 .le (.var 9) (.lit (9223372036854775807)))) (.b2 .and (.b2 .and (.b2 .le (.lit (-9223372036854775808)) (.var 10)) (.b2 .le (.var 10) (.lit (9223372036854775807)))) (.b2 .and (.b2 .le (.lit (-9223372036854775808)) (.var 11)) (.b2 .le (.var 11) (.lit (9223372036854775807))))))))))))))) (.b2 .and (.b2 .and (.b2 .le (.lit (0)) (.var 12)) (.b2 .le (.var 12) (.lit (4294967295)))) (.b2 .and (.b2 .and (.b2 .le (.lit (0)) (.var 13)) (.b2 .le (.var 13) (.lit (4294967295)))) (.b2 .and (.b2 .and (.b2 .le (.lit (-9223372036854775808)) (.var 14)) (.b2 .le (.var 14) (.lit (9223372036854775807)))) (.b2 .and (.b2 .le (.lit (-9223372036854775808)) (.var 15)) (.b2 .le (.var 15) (.lit (9223372036854775807)))))))), (.bool (.tt true)), ⟨16, 1, 0, 0⟩, none⟩
theorem wLater_w : walk Tryd.prog 229 ⟨[ykc_give, yic_hcheck, yic_now, ykc_num, ylc_syncv, ykc_drop, yhc_mid, ykc_sure18], syG, [], [], []⟩ [] .v ylc_wLater ylc_wLater.n 3000 = some wLater_tree := by kernel_rfl
set_option maxHeartbeats 8000000 in
theorem wLater_h (rm : Int) (rs : Int) (rr : Int) (gp : Int) (gi : Int) (rl : Int) (ro : Int) (hb : Int) (ht : Int) (he : Int) (sf : Int) (ss : Int) (o0 : Int) (o1 : Int) (lo : Int) (hi : Int) (sy : Bool) (hc : holds (ylE [rm, rs, rr, gp, gi, rl, ro, hb, ht, he, sf, ss, o0, o1, lo, hi] [sy] [] []) (.b2 .and (.b2 .and (.b2 .and (.b2 .le (.lit (0)) (.var 0)) (.b2 .le (.var 0) (.lit (4294967295)))) (.b2 .and (.b2 .and (.b2 .le (.lit (-9223372036854775808)) (.var 1)) (.b2 .le (.var 1) (.lit (9223372036854775807)))) (.b2 .and (.b2 .and (.b2 .le (.lit (-9223372036854775808)) (.var 2)) (.b2 .le (.var 2) (.lit (9223372036854775807)))) (.b2 .and (.b2 .and (.b2 .le (.lit (-9223372036854775808)) (.var 3)) (.b2 .le (.var 3) (.lit (9223372036854775807)))) (.b2 .and (.b2 .and (.b2 .le (.lit (-9223372036854775808)) (.var 4)) (.b2 .le (.var 4) (.lit (9223372036854775807)))) (.b2 .and (.b2 .and (.b2 .le (.lit (-9223372036854775808)) (.var 5)) (.b2 .le (.var 5) (.lit (9223372036854775807)))) (.b2 .and (.b2 .and (.b2 .le (.lit (-9223372036854775808)) (.var 6)) (.b2 .le (.var 6) (.lit (9223372036854775807)))) (.b2 .and (.b2 .and (.b2 .le (.lit (-9223372036854775808)) (.var 7)) (.b2 .le (.var 7) (.lit (9223372036854775807)))) (.b2 .and (.b2 .and (.b2 .le (.lit (-9223372036854775808)) (.var 8)) (.b2 .le (.var 8) (.lit (9223372036854775807)))) (.b2 .and (.b2 .and (.b2 .le (.lit (-9223372036854775808)) (.var 9)) (.b2 .le (.var 9) (.lit (9223372036854775807)))) (.b2 .and (.b2 .and (.b2 .le (.lit (-9223372036854775808)) (.var 10)) (.b2 .le (.var 10) (.lit (9223372036854775807)))) (.b2 .and (.b2 .le (.lit (-9223372036854775808)) (.var 11)) (.b2 .le (.var 11) (.lit (9223372036854775807))))))))))))))) (.b2 .and (.b2 .and (.b2 .le (.lit (0)) (.var 12)) (.b2 .le (.var 12) (.lit (4294967295)))) (.b2 .and (.b2 .and (.b2 .le (.lit (0)) (.var 13)) (.b2 .le (.var 13) (.lit (4294967295)))) (.b2 .and (.b2 .and (.b2 .le (.lit (-9223372036854775808)) (.var 14)) (.b2 .le (.var 14) (.lit (9223372036854775807)))) (.b2 .and (.b2 .le (.lit (-9223372036854775808)) (.var 15)) (.b2 .le (.var 15) (.lit (9223372036854775807))))))))) (hty : patsTyp (ylE [rm, rs, rr, gp, gi, rl, ro, hb, ht, he, sf, ss, o0, o1, lo, hi] [sy] [] []) [(.agg (.cons (.int .u32 (.var 0)) (.cons (.int .i64 (.var 1)) (.cons (.int .i64 (.var 2)) (.cons (.int .i64 (.var 3)) (.cons (.int .i64 (.var 4)) (.cons (.int .i64 (.var 5)) (.cons (.int .i64 (.var 6)) (.cons (.bool (.bvar 0)) (.cons (.int .i64 (.var 7)) (.cons (.int .i64 (.var 8)) (.cons (.int .i64 (.var 9)) (.cons (.int .i64 (.var 10)) (.cons (.int .i64 (.var 11)) .nil)))))))))))))), (.agg (.cons (.int .u32 (.var 12)) (.cons (.int .u32 (.var 13)) .nil))), (.agg (.cons (.int .i64 (.var 14)) (.cons (.int .i64 (.var 15)) .nil)))]) : wLater_tree.holds (fun v_ => v_ = denV (ylE [rm, rs, rr, gp, gi, rl, ro, hb, ht, he, sf, ss, o0, o1, lo, hi] [sy] [] []) b0 (.bool (.tt true))) (ylE [rm, rs, rr, gp, gi, rl, ro, hb, ht, he, sf, ss, o0, o1, lo, hi] [sy] [] []) := by
  simp only [Tree.holds, Sy.holds, AllN, Env.more, ylE, List.cons_append, List.nil_append, List.append_nil, denV, denI, denB, denL, I2.den, VOp.den, List.getD_cons_zero, List.getD_cons_succ, Cst.den, syso, syse, syio, sybo, List.map_nil, List.map_cons, B2.ofInts, B2.denI, B2.denB, if_true, Bool.false_eq_true, if_false, Nat.div_one, Nat.mul_one, Nat.add_zero, holds] at hc
  simp only [patsTyp, patTyp, patTypL, ylE, denV, denL, List.getD_cons_zero, List.getD_cons_succ, and_true, true_and] at hty
  unfold wLater_tree
  simp only [wLater_x0, wLater_x1, wLater_x2, wLater_x3, wLater_x4, wLater_x5, wLater_x6, wLater_x7]
  simp only [Tree.holds, Sy.holds, AllN, Env.more, ylE, List.cons_append, List.nil_append, List.append_nil, denV, denI, denB, denL, I2.den, VOp.den, List.getD_cons_zero, List.getD_cons_succ, Cst.den, syso, syse, syio, sybo, yli_sa, yli_mi, yli_hme, yli_nwe, yli_nwt, yli_nwo, yli_gd, yli_sue, ylb_hm, List.map_nil, List.map_cons, B2.ofInts, B2.denI, B2.denB, if_true, Bool.false_eq_true, if_false, Nat.div_one, Nat.mul_one, Nat.add_zero]
  obtain ⟨A, hA⟩ : ∃ x, IntKind.wrap .i64 (hb + IntKind.wrap .i64 (if o1 < o0 then o1 else o0)) = x := ⟨_, rfl⟩
  obtain ⟨B, hB⟩ : ∃ x, IntKind.wrap .i64 (hb + IntKind.wrap .i64 (if o1 > o0 then o1 else o0)) = x := ⟨_, rfl⟩
  simp only [hA, hB, hoB_eq, hoL_eq, nwE_eq, nwT_eq, nwO_eq]
  have e0 : IntKind.wrap .i64 o0 = o0 := by have := wr_i64 o0; omega
  have e1 : IntKind.wrap .i64 o1 = o1 := by have := wr_i64 o1; omega
  have w0 := wr_i64 (hb + o0)
  have w1 := wr_i64 (hb + o1)
  have fAB : 0 ≤ hb → hb ≤ 1152921504606846976 → hb ≤ A ∧ A ≤ B ∧ B ≤ hb + 4294967295 := by (intro z1 z2; rw [← hA, ← hB]; split <;> split <;> simp only [e0, e1] <;> omega)
  clear hA hB e0 e1 w0 w1
  rcases hoE_or rm rs rr gp gi rl ro hb ht he sf ss with ⟨hp, ho⟩ | ⟨hp, ho⟩ <;> rcases su_spec A lo hi with ⟨q, e⟩ | ⟨q, e⟩
  all_goals
   simp only [e, gdq_n (show (1 : Int) ≠ 0 by decide), gdq_y (show (0 : Int) = 0 from rfl), show ((1 : Int) == 0) = false from rfl, show ((0 : Int) == 0) = true from rfl]
   try obtain ⟨f, a1, a2, a3, a4, a5, a6, a7, a8, a9, a10, a11, a12, a13, a14, a15, a16, a17, a18, a19, a20⟩ := id hp
   try have fAB := fAB a11 a12
   try have m1 := @nw_mono rm rs rr gp gi rl ro hb ht he sf ss A B sy fAB.2.1
   try have n1 := @nw_err rm rs rr gp gi rl ro hb ht he sf ss A sy (by omega) hp
   try have n2 := @nw_err rm rs rr gp gi rl ro hb ht he sf ss B sy (by omega) hp
   try have hl := later_y (A := A) (lo := lo) (hi := hi) hp (by omega) (by omega) (by omega) (by omega) (by omega)
   have w9 := wr_i64 (nwO rm rs rr gp gi rl ro A (miI lo hi) (satE (hi - miI lo hi)) sf ss true A - satE (hi - miI lo hi))
   refine ⟨?_, fun h0 => ?_⟩
   ·
    first
    | exact True.intro
    | omega
    | exact hc.1
    | exact ⟨hc.1, by omega⟩
    | exact ⟨hc.1, decide_eq_true hp, by omega, hc.2.2.2.1, hc.2.2.2.2⟩
    | exact ⟨hc.1, decide_eq_true hp, by omega⟩
    | (exfalso; omega)
    | skip
   ·
    refine ⟨fun h1 => ?_, fun h1 => ?_⟩
    ·
     first
     | exact True.intro
     | rfl
     | (exfalso; omega)
     | exact absurd True.intro (by assumption)
     | exact absurd rfl (by assumption)
     | skip
    ·
     refine ⟨?_, fun h2 => ?_⟩
     ·
      first
      | exact True.intro
      | omega
      | exact hc.1
      | exact ⟨hc.1, by omega⟩
      | exact ⟨hc.1, decide_eq_true hp, by omega, hc.2.2.2.1, hc.2.2.2.2⟩
      | exact ⟨hc.1, decide_eq_true hp, by omega⟩
      | (exfalso; omega)
      | skip
     ·
      refine ⟨?_, fun h3 => ?_⟩
      ·
       first
       | exact True.intro
       | omega
       | exact hc.1
       | exact ⟨hc.1, by omega⟩
       | exact ⟨hc.1, decide_eq_true hp, by omega, hc.2.2.2.1, hc.2.2.2.2⟩
       | exact ⟨hc.1, decide_eq_true hp, by omega⟩
       | (exfalso; omega)
       | skip
      ·
       try simp only [hw1]
       try simp only [hw0]
       refine ⟨fun h4 => ?_, fun h4 => ?_⟩
       ·
        try simp only [hw3]
        try simp only [hw2]
        refine ⟨fun h5 => ?_, fun h5 => ?_⟩
        ·
         try simp only [hw3]
         try simp only [hw2]
         try simp only [hw1]
         try simp only [hw0]
         refine ⟨fun h6 => ?_, fun h6 => ?_⟩
         ·
          first
          | exact True.intro
          | rfl
          | (exfalso; omega)
          | exact absurd True.intro (by assumption)
          | exact absurd rfl (by assumption)
          | skip
         ·
          try simp only [hw3]
          try simp only [hw2]
          try simp only [hw1]
          try simp only [hw0]
          refine ⟨fun h7 => ?_, fun h7 => ?_⟩
          ·
           first
           | exact True.intro
           | rfl
           | (exfalso; omega)
           | exact absurd True.intro (by assumption)
           | exact absurd rfl (by assumption)
           | skip
          ·
           refine ⟨?_, fun h8 => ?_⟩
           ·
            first
            | exact True.intro
            | omega
            | exact hc.1
            | exact ⟨hc.1, by omega⟩
            | exact ⟨hc.1, decide_eq_true hp, by omega, hc.2.2.2.1, hc.2.2.2.2⟩
            | exact ⟨hc.1, decide_eq_true hp, by omega⟩
            | (exfalso; omega)
            | skip
           ·
            try simp only [hw1]
            try simp only [hw0]
            refine ⟨fun h9 => ?_, fun h9 => ?_⟩
            ·
             try simp only [hw1]
             try simp only [hw0]
             refine ⟨fun h10 => ?_, fun h10 => ?_⟩
             ·
              first
              | exact True.intro
              | rfl
              | (exfalso; omega)
              | exact absurd True.intro (by assumption)
              | exact absurd rfl (by assumption)
              | skip
             ·
              first
              | exact True.intro
              | rfl
              | (exfalso; omega)
              | exact absurd True.intro (by assumption)
              | exact absurd rfl (by assumption)
              | skip
            ·
             refine ⟨?_, fun h11 => ?_⟩
             ·
              first
              | exact True.intro
              | omega
              | exact hc.1
              | exact ⟨hc.1, by omega⟩
              | exact ⟨hc.1, decide_eq_true hp, by omega, hc.2.2.2.1, hc.2.2.2.2⟩
              | exact ⟨hc.1, decide_eq_true hp, by omega⟩
              | (exfalso; omega)
              | skip
             ·
              try simp only [hw1]
              try simp only [hw0]
              refine ⟨?_, fun h12 => ?_⟩
              ·
               first
               | exact True.intro
               | omega
               | exact hc.1
               | exact ⟨hc.1, by omega⟩
               | exact ⟨hc.1, decide_eq_true hp, by omega, hc.2.2.2.1, hc.2.2.2.2⟩
               | exact ⟨hc.1, decide_eq_true hp, by omega⟩
               | (exfalso; omega)
               | skip
              ·
               try simp only [hw1]
               try simp only [hw0]
               refine ⟨fun h13 => ?_, fun h13 => ?_⟩
               ·
                try simp only [hw1]
                try simp only [hw0]
                refine ⟨fun h14 => ?_, fun h14 => ?_⟩
                ·
                 first
                 | exact True.intro
                 | rfl
                 | (exfalso; omega)
                 | exact absurd True.intro (by assumption)
                 | exact absurd rfl (by assumption)
                 | skip
                ·
                 try simp only [hw1]
                 try simp only [hw0]
                 refine ⟨fun h15 => ?_, fun h15 => ?_⟩
                 ·
                  first
                  | exact True.intro
                  | rfl
                  | (exfalso; omega)
                  | exact absurd True.intro (by assumption)
                  | exact absurd rfl (by assumption)
                  | skip
                 ·
                  first
                  | exact True.intro
                  | rfl
                  | (exfalso; omega)
                  | exact absurd True.intro (by assumption)
                  | exact absurd rfl (by assumption)
                  | skip
               ·
                try simp only [hw1]
                try simp only [hw0]
                refine ⟨?_, fun h16 => ?_⟩
                ·
                 first
                 | exact True.intro
                 | omega
                 | exact hc.1
                 | exact ⟨hc.1, by omega⟩
                 | exact ⟨hc.1, decide_eq_true hp, by omega, hc.2.2.2.1, hc.2.2.2.2⟩
                 | exact ⟨hc.1, decide_eq_true hp, by omega⟩
                 | (exfalso; omega)
                 | skip
                ·
                 try simp only [hw1]
                 try simp only [hw0]
                 refine ⟨fun h17 => ?_, fun h17 => ?_⟩
                 ·
                  try simp only [hw1]
                  try simp only [hw0]
                  refine ⟨fun h18 => ?_, fun h18 => ?_⟩
                  ·
                   try simp only [hw1]
                   try simp only [hw0]
                   refine ⟨fun h19 => ?_, fun h19 => ?_⟩
                   ·
                    try simp only [hw1]
                    try simp only [hw0]
                    refine ⟨fun h20 => ?_, fun h20 => ?_⟩
                    ·
                     first
                     | exact True.intro
                     | rfl
                     | (exfalso; omega)
                     | exact absurd True.intro (by assumption)
                     | exact absurd rfl (by assumption)
                     | skip
                    ·
                     first
                     | exact True.intro
                     | rfl
                     | (exfalso; omega)
                     | exact absurd True.intro (by assumption)
                     | exact absurd rfl (by assumption)
                     | skip
                   ·
                    first
                    | exact True.intro
                    | rfl
                    | (exfalso; omega)
                    | exact absurd True.intro (by assumption)
                    | exact absurd rfl (by assumption)
                    | skip
                  ·
                   first
                   | exact True.intro
                   | rfl
                   | (exfalso; omega)
                   | exact absurd True.intro (by assumption)
                   | exact absurd rfl (by assumption)
                   | skip
                 ·
                  first
                  | exact True.intro
                  | rfl
                  | (exfalso; omega)
                  | exact absurd True.intro (by assumption)
                  | exact absurd rfl (by assumption)
                  | skip
        ·
         refine ⟨?_, fun h21 => ?_⟩
         ·
          first
          | exact True.intro
          | omega
          | exact hc.1
          | exact ⟨hc.1, by omega⟩
          | exact ⟨hc.1, decide_eq_true hp, by omega, hc.2.2.2.1, hc.2.2.2.2⟩
          | exact ⟨hc.1, decide_eq_true hp, by omega⟩
          | (exfalso; omega)
          | skip
         ·
          try simp only [hw1]
          try simp only [hw0]
          refine ⟨fun h22 => ?_, fun h22 => ?_⟩
          ·
           try simp only [hw1]
           try simp only [hw0]
           refine ⟨fun h23 => ?_, fun h23 => ?_⟩
           ·
            first
            | exact True.intro
            | rfl
            | (exfalso; omega)
            | exact absurd True.intro (by assumption)
            | exact absurd rfl (by assumption)
            | skip
           ·
            first
            | exact True.intro
            | rfl
            | (exfalso; omega)
            | exact absurd True.intro (by assumption)
            | exact absurd rfl (by assumption)
            | skip
          ·
           refine ⟨?_, fun h24 => ?_⟩
           ·
            first
            | exact True.intro
            | omega
            | exact hc.1
            | exact ⟨hc.1, by omega⟩
            | exact ⟨hc.1, decide_eq_true hp, by omega, hc.2.2.2.1, hc.2.2.2.2⟩
            | exact ⟨hc.1, decide_eq_true hp, by omega⟩
            | (exfalso; omega)
            | skip
           ·
            try simp only [hw1]
            try simp only [hw0]
            refine ⟨?_, fun h25 => ?_⟩
            ·
             first
             | exact True.intro
             | omega
             | exact hc.1
             | exact ⟨hc.1, by omega⟩
             | exact ⟨hc.1, decide_eq_true hp, by omega, hc.2.2.2.1, hc.2.2.2.2⟩
             | exact ⟨hc.1, decide_eq_true hp, by omega⟩
             | (exfalso; omega)
             | skip
            ·
             try simp only [hw1]
             try simp only [hw0]
             refine ⟨fun h26 => ?_, fun h26 => ?_⟩
             ·
              try simp only [hw1]
              try simp only [hw0]
              refine ⟨fun h27 => ?_, fun h27 => ?_⟩
              ·
               first
               | exact True.intro
               | rfl
               | (exfalso; omega)
               | exact absurd True.intro (by assumption)
               | exact absurd rfl (by assumption)
               | skip
              ·
               try simp only [hw1]
               try simp only [hw0]
               refine ⟨fun h28 => ?_, fun h28 => ?_⟩
               ·
                first
                | exact True.intro
                | rfl
                | (exfalso; omega)
                | exact absurd True.intro (by assumption)
                | exact absurd rfl (by assumption)
                | skip
               ·
                first
                | exact True.intro
                | rfl
                | (exfalso; omega)
                | exact absurd True.intro (by assumption)
                | exact absurd rfl (by assumption)
                | skip
             ·
              try simp only [hw1]
              try simp only [hw0]
              refine ⟨?_, fun h29 => ?_⟩
              ·
               first
               | exact True.intro
               | omega
               | exact hc.1
               | exact ⟨hc.1, by omega⟩
               | exact ⟨hc.1, decide_eq_true hp, by omega, hc.2.2.2.1, hc.2.2.2.2⟩
               | exact ⟨hc.1, decide_eq_true hp, by omega⟩
               | (exfalso; omega)
               | skip
              ·
               try simp only [hw1]
               try simp only [hw0]
               refine ⟨fun h30 => ?_, fun h30 => ?_⟩
               ·
                try simp only [hw1]
                try simp only [hw0]
                refine ⟨fun h31 => ?_, fun h31 => ?_⟩
                ·
                 try simp only [hw1]
                 try simp only [hw0]
                 refine ⟨fun h32 => ?_, fun h32 => ?_⟩
                 ·
                  try simp only [hw1]
                  try simp only [hw0]
                  refine ⟨fun h33 => ?_, fun h33 => ?_⟩
                  ·
                   first
                   | exact True.intro
                   | rfl
                   | (exfalso; omega)
                   | exact absurd True.intro (by assumption)
                   | exact absurd rfl (by assumption)
                   | skip
                  ·
                   first
                   | exact True.intro
                   | rfl
                   | (exfalso; omega)
                   | exact absurd True.intro (by assumption)
                   | exact absurd rfl (by assumption)
                   | skip
                 ·
                  first
                  | exact True.intro
                  | rfl
                  | (exfalso; omega)
                  | exact absurd True.intro (by assumption)
                  | exact absurd rfl (by assumption)
                  | skip
                ·
                 first
                 | exact True.intro
                 | rfl
                 | (exfalso; omega)
                 | exact absurd True.intro (by assumption)
                 | exact absurd rfl (by assumption)
                 | skip
               ·
                first
                | exact True.intro
                | rfl
                | (exfalso; omega)
                | exact absurd True.intro (by assumption)
                | exact absurd rfl (by assumption)
                | skip
       ·
        try simp only [hw3]
        try simp only [hw2]
        refine ⟨fun h34 => ?_, fun h34 => ?_⟩
        ·
         try simp only [hw1]
         try simp only [hw0]
         refine ⟨fun h35 => ?_, fun h35 => ?_⟩
         ·
          try simp only [hw1]
          try simp only [hw0]
          refine ⟨fun h36 => ?_, fun h36 => ?_⟩
          ·
           first
           | exact True.intro
           | rfl
           | (exfalso; omega)
           | exact absurd True.intro (by assumption)
           | exact absurd rfl (by assumption)
           | skip
          ·
           refine ⟨?_, fun h37 => ?_⟩
           ·
            first
            | exact True.intro
            | omega
            | exact hc.1
            | exact ⟨hc.1, by omega⟩
            | exact ⟨hc.1, decide_eq_true hp, by omega, hc.2.2.2.1, hc.2.2.2.2⟩
            | exact ⟨hc.1, decide_eq_true hp, by omega⟩
            | (exfalso; omega)
            | skip
           ·
            try simp only [hw1]
            try simp only [hw0]
            refine ⟨fun h38 => ?_, fun h38 => ?_⟩
            ·
             try simp only [hw1]
             try simp only [hw0]
             refine ⟨fun h39 => ?_, fun h39 => ?_⟩
             ·
              first
              | exact True.intro
              | rfl
              | (exfalso; omega)
              | exact absurd True.intro (by assumption)
              | exact absurd rfl (by assumption)
              | skip
             ·
              first
              | exact True.intro
              | rfl
              | (exfalso; omega)
              | exact absurd True.intro (by assumption)
              | exact absurd rfl (by assumption)
              | skip
            ·
             refine ⟨?_, fun h40 => ?_⟩
             ·
              first
              | exact True.intro
              | omega
              | exact hc.1
              | exact ⟨hc.1, by omega⟩
              | exact ⟨hc.1, decide_eq_true hp, by omega, hc.2.2.2.1, hc.2.2.2.2⟩
              | exact ⟨hc.1, decide_eq_true hp, by omega⟩
              | (exfalso; omega)
              | skip
             ·
              try simp only [hw1]
              try simp only [hw0]
              refine ⟨?_, fun h41 => ?_⟩
              ·
               first
               | exact True.intro
               | omega
               | exact hc.1
               | exact ⟨hc.1, by omega⟩
               | exact ⟨hc.1, decide_eq_true hp, by omega, hc.2.2.2.1, hc.2.2.2.2⟩
               | exact ⟨hc.1, decide_eq_true hp, by omega⟩
               | (exfalso; omega)
               | skip
              ·
               try simp only [hw1]
               try simp only [hw0]
               refine ⟨fun h42 => ?_, fun h42 => ?_⟩
               ·
                try simp only [hw1]
                try simp only [hw0]
                refine ⟨fun h43 => ?_, fun h43 => ?_⟩
                ·
                 first
                 | exact True.intro
                 | rfl
                 | (exfalso; omega)
                 | exact absurd True.intro (by assumption)
                 | exact absurd rfl (by assumption)
                 | skip
                ·
                 try simp only [hw1]
                 try simp only [hw0]
                 refine ⟨fun h44 => ?_, fun h44 => ?_⟩
                 ·
                  first
                  | exact True.intro
                  | rfl
                  | (exfalso; omega)
                  | exact absurd True.intro (by assumption)
                  | exact absurd rfl (by assumption)
                  | skip
                 ·
                  first
                  | exact True.intro
                  | rfl
                  | (exfalso; omega)
                  | exact absurd True.intro (by assumption)
                  | exact absurd rfl (by assumption)
                  | skip
               ·
                try simp only [hw1]
                try simp only [hw0]
                refine ⟨?_, fun h45 => ?_⟩
                ·
                 first
                 | exact True.intro
                 | omega
                 | exact hc.1
                 | exact ⟨hc.1, by omega⟩
                 | exact ⟨hc.1, decide_eq_true hp, by omega, hc.2.2.2.1, hc.2.2.2.2⟩
                 | exact ⟨hc.1, decide_eq_true hp, by omega⟩
                 | (exfalso; omega)
                 | skip
                ·
                 try simp only [hw1]
                 try simp only [hw0]
                 refine ⟨fun h46 => ?_, fun h46 => ?_⟩
                 ·
                  try simp only [hw1]
                  try simp only [hw0]
                  refine ⟨fun h47 => ?_, fun h47 => ?_⟩
                  ·
                   try simp only [hw1]
                   try simp only [hw0]
                   refine ⟨fun h48 => ?_, fun h48 => ?_⟩
                   ·
                    try simp only [hw1]
                    try simp only [hw0]
                    refine ⟨fun h49 => ?_, fun h49 => ?_⟩
                    ·
                     first
                     | exact True.intro
                     | rfl
                     | (exfalso; omega)
                     | exact absurd True.intro (by assumption)
                     | exact absurd rfl (by assumption)
                     | skip
                    ·
                     first
                     | exact True.intro
                     | rfl
                     | (exfalso; omega)
                     | exact absurd True.intro (by assumption)
                     | exact absurd rfl (by assumption)
                     | skip
                   ·
                    first
                    | exact True.intro
                    | rfl
                    | (exfalso; omega)
                    | exact absurd True.intro (by assumption)
                    | exact absurd rfl (by assumption)
                    | skip
                  ·
                   first
                   | exact True.intro
                   | rfl
                   | (exfalso; omega)
                   | exact absurd True.intro (by assumption)
                   | exact absurd rfl (by assumption)
                   | skip
                 ·
                  first
                  | exact True.intro
                  | rfl
                  | (exfalso; omega)
                  | exact absurd True.intro (by assumption)
                  | exact absurd rfl (by assumption)
                  | skip
         ·
          refine ⟨?_, fun h50 => ?_⟩
          ·
           first
           | exact True.intro
           | omega
           | exact hc.1
           | exact ⟨hc.1, by omega⟩
           | exact ⟨hc.1, decide_eq_true hp, by omega, hc.2.2.2.1, hc.2.2.2.2⟩
           | exact ⟨hc.1, decide_eq_true hp, by omega⟩
           | (exfalso; omega)
           | skip
          ·
           try simp only [hw1]
           try simp only [hw0]
           refine ⟨fun h51 => ?_, fun h51 => ?_⟩
           ·
            try simp only [hw1]
            try simp only [hw0]
            refine ⟨fun h52 => ?_, fun h52 => ?_⟩
            ·
             first
             | exact True.intro
             | rfl
             | (exfalso; omega)
             | exact absurd True.intro (by assumption)
             | exact absurd rfl (by assumption)
             | skip
            ·
             first
             | exact True.intro
             | rfl
             | (exfalso; omega)
             | exact absurd True.intro (by assumption)
             | exact absurd rfl (by assumption)
             | skip
           ·
            refine ⟨?_, fun h53 => ?_⟩
            ·
             first
             | exact True.intro
             | omega
             | exact hc.1
             | exact ⟨hc.1, by omega⟩
             | exact ⟨hc.1, decide_eq_true hp, by omega, hc.2.2.2.1, hc.2.2.2.2⟩
             | exact ⟨hc.1, decide_eq_true hp, by omega⟩
             | (exfalso; omega)
             | skip
            ·
             try simp only [hw1]
             try simp only [hw0]
             refine ⟨?_, fun h54 => ?_⟩
             ·
              first
              | exact True.intro
              | omega
              | exact hc.1
              | exact ⟨hc.1, by omega⟩
              | exact ⟨hc.1, decide_eq_true hp, by omega, hc.2.2.2.1, hc.2.2.2.2⟩
              | exact ⟨hc.1, decide_eq_true hp, by omega⟩
              | (exfalso; omega)
              | skip
             ·
              try simp only [hw1]
              try simp only [hw0]
              refine ⟨fun h55 => ?_, fun h55 => ?_⟩
              ·
               try simp only [hw1]
               try simp only [hw0]
               refine ⟨fun h56 => ?_, fun h56 => ?_⟩
               ·
                first
                | exact True.intro
                | rfl
                | (exfalso; omega)
                | exact absurd True.intro (by assumption)
                | exact absurd rfl (by assumption)
                | skip
               ·
                try simp only [hw1]
                try simp only [hw0]
                refine ⟨fun h57 => ?_, fun h57 => ?_⟩
                ·
                 first
                 | exact True.intro
                 | rfl
                 | (exfalso; omega)
                 | exact absurd True.intro (by assumption)
                 | exact absurd rfl (by assumption)
                 | skip
                ·
                 first
                 | exact True.intro
                 | rfl
                 | (exfalso; omega)
                 | exact absurd True.intro (by assumption)
                 | exact absurd rfl (by assumption)
                 | skip
              ·
               try simp only [hw1]
               try simp only [hw0]
               refine ⟨?_, fun h58 => ?_⟩
               ·
                first
                | exact True.intro
                | omega
                | exact hc.1
                | exact ⟨hc.1, by omega⟩
                | exact ⟨hc.1, decide_eq_true hp, by omega, hc.2.2.2.1, hc.2.2.2.2⟩
                | exact ⟨hc.1, decide_eq_true hp, by omega⟩
                | (exfalso; omega)
                | skip
               ·
                try simp only [hw1]
                try simp only [hw0]
                refine ⟨fun h59 => ?_, fun h59 => ?_⟩
                ·
                 try simp only [hw1]
                 try simp only [hw0]
                 refine ⟨fun h60 => ?_, fun h60 => ?_⟩
                 ·
                  try simp only [hw1]
                  try simp only [hw0]
                  refine ⟨fun h61 => ?_, fun h61 => ?_⟩
                  ·
                   try simp only [hw1]
                   try simp only [hw0]
                   refine ⟨fun h62 => ?_, fun h62 => ?_⟩
                   ·
                    first
                    | exact True.intro
                    | rfl
                    | (exfalso; omega)
                    | exact absurd True.intro (by assumption)
                    | exact absurd rfl (by assumption)
                    | skip
                   ·
                    first
                    | exact True.intro
                    | rfl
                    | (exfalso; omega)
                    | exact absurd True.intro (by assumption)
                    | exact absurd rfl (by assumption)
                    | skip
                  ·
                   first
                   | exact True.intro
                   | rfl
                   | (exfalso; omega)
                   | exact absurd True.intro (by assumption)
                   | exact absurd rfl (by assumption)
                   | skip
                 ·
                  first
                  | exact True.intro
                  | rfl
                  | (exfalso; omega)
                  | exact absurd True.intro (by assumption)
                  | exact absurd rfl (by assumption)
                  | skip
                ·
                 first
                 | exact True.intro
                 | rfl
                 | (exfalso; omega)
                 | exact absurd True.intro (by assumption)
                 | exact absurd rfl (by assumption)
                 | skip
        ·
         refine ⟨?_, fun h63 => ?_⟩
         ·
          first
          | exact True.intro
          | omega
          | exact hc.1
          | exact ⟨hc.1, by omega⟩
          | exact ⟨hc.1, decide_eq_true hp, by omega, hc.2.2.2.1, hc.2.2.2.2⟩
          | exact ⟨hc.1, decide_eq_true hp, by omega⟩
          | (exfalso; omega)
          | skip
         ·
          try simp only [hw1]
          try simp only [hw0]
          refine ⟨fun h64 => ?_, fun h64 => ?_⟩
          ·
           try simp only [hw1]
           try simp only [hw0]
           refine ⟨fun h65 => ?_, fun h65 => ?_⟩
           ·
            first
            | exact True.intro
            | rfl
            | (exfalso; omega)
            | exact absurd True.intro (by assumption)
            | exact absurd rfl (by assumption)
            | skip
           ·
            first
            | exact True.intro
            | rfl
            | (exfalso; omega)
            | exact absurd True.intro (by assumption)
            | exact absurd rfl (by assumption)
            | skip
          ·
           refine ⟨?_, fun h66 => ?_⟩
           ·
            first
            | exact True.intro
            | omega
            | exact hc.1
            | exact ⟨hc.1, by omega⟩
            | exact ⟨hc.1, decide_eq_true hp, by omega, hc.2.2.2.1, hc.2.2.2.2⟩
            | exact ⟨hc.1, decide_eq_true hp, by omega⟩
            | (exfalso; omega)
            | skip
           ·
            try simp only [hw1]
            try simp only [hw0]
            refine ⟨?_, fun h67 => ?_⟩
            ·
             first
             | exact True.intro
             | omega
             | exact hc.1
             | exact ⟨hc.1, by omega⟩
             | exact ⟨hc.1, decide_eq_true hp, by omega, hc.2.2.2.1, hc.2.2.2.2⟩
             | exact ⟨hc.1, decide_eq_true hp, by omega⟩
             | (exfalso; omega)
             | skip
            ·
             try simp only [hw1]
             try simp only [hw0]
             refine ⟨fun h68 => ?_, fun h68 => ?_⟩
             ·
              try simp only [hw1]
              try simp only [hw0]
              refine ⟨fun h69 => ?_, fun h69 => ?_⟩
              ·
               first
               | exact True.intro
               | rfl
               | (exfalso; omega)
               | exact absurd True.intro (by assumption)
               | exact absurd rfl (by assumption)
               | skip
              ·
               try simp only [hw1]
               try simp only [hw0]
               refine ⟨fun h70 => ?_, fun h70 => ?_⟩
               ·
                first
                | exact True.intro
                | rfl
                | (exfalso; omega)
                | exact absurd True.intro (by assumption)
                | exact absurd rfl (by assumption)
                | skip
               ·
                first
                | exact True.intro
                | rfl
                | (exfalso; omega)
                | exact absurd True.intro (by assumption)
                | exact absurd rfl (by assumption)
                | skip
             ·
              try simp only [hw1]
              try simp only [hw0]
              refine ⟨?_, fun h71 => ?_⟩
              ·
               first
               | exact True.intro
               | omega
               | exact hc.1
               | exact ⟨hc.1, by omega⟩
               | exact ⟨hc.1, decide_eq_true hp, by omega, hc.2.2.2.1, hc.2.2.2.2⟩
               | exact ⟨hc.1, decide_eq_true hp, by omega⟩
               | (exfalso; omega)
               | skip
              ·
               try simp only [hw1]
               try simp only [hw0]
               refine ⟨fun h72 => ?_, fun h72 => ?_⟩
               ·
                try simp only [hw1]
                try simp only [hw0]
                refine ⟨fun h73 => ?_, fun h73 => ?_⟩
                ·
                 try simp only [hw1]
                 try simp only [hw0]
                 refine ⟨fun h74 => ?_, fun h74 => ?_⟩
                 ·
                  try simp only [hw1]
                  try simp only [hw0]
                  refine ⟨fun h75 => ?_, fun h75 => ?_⟩
                  ·
                   first
                   | exact True.intro
                   | rfl
                   | (exfalso; omega)
                   | exact absurd True.intro (by assumption)
                   | exact absurd rfl (by assumption)
                   | skip
                  ·
                   first
                   | exact True.intro
                   | rfl
                   | (exfalso; omega)
                   | exact absurd True.intro (by assumption)
                   | exact absurd rfl (by assumption)
                   | skip
                 ·
                  first
                  | exact True.intro
                  | rfl
                  | (exfalso; omega)
                  | exact absurd True.intro (by assumption)
                  | exact absurd rfl (by assumption)
                  | skip
                ·
                 first
                 | exact True.intro
                 | rfl
                 | (exfalso; omega)
                 | exact absurd True.intro (by assumption)
                 | exact absurd rfl (by assumption)
                 | skip
               ·
                first
                | exact True.intro
                | rfl
                | (exfalso; omega)
                | exact absurd True.intro (by assumption)
                | exact absurd rfl (by assumption)
                | skip
theorem ylg_wLater : ylc_wLater.Good Tryd.prog syG (ylE [] [] [] []) := good_of_walk (Γ := ⟨[ykc_give, yic_hcheck, yic_now, ykc_num, ylc_syncv, ykc_drop, yhc_mid, ykc_sure18], syG, [], [], []⟩) (ρ := ylE [] [] [] []) sym wLater_w rfl (fun _ _ _ _ => (ok_cons (Con.Good.env (Con.Good.up ykg_give ylup rfl) _ _ _ _) (ok_cons (Con.Good.env (Con.Good.up (Con.Good.up (Con.Good.up yig_hcheck yjup rfl) ykup rfl) ylup rfl) _ _ _ _) (ok_cons (Con.Good.env (Con.Good.up (Con.Good.up (Con.Good.up yig_now yjup rfl) ykup rfl) ylup rfl) _ _ _ _) (ok_cons (Con.Good.env (Con.Good.up ykg_num ylup rfl) _ _ _ _) (ok_cons (Con.Good.env ylg_syncv _ _ _ _) (ok_cons (Con.Good.env (Con.Good.up ykg_drop ylup rfl) _ _ _ _) (ok_cons (Con.Good.env (Con.Good.up (Con.Good.up (Con.Good.up (Con.Good.up yhg_mid yiup rfl) yjup rfl) ykup rfl) ylup rfl) _ _ _ _) (ok_cons (Con.Good.env (Con.Good.up ykg_sure18 ylup rfl) _ _ _ _) ok_nil))))))))) (fun rm rs rr gp gi rl ro hb ht he sf ss o0 o1 lo hi sy hc hty => wLater_h rm rs rr gp gi rl ro hb ht he sf ss o0 o1 lo hi sy hc hty)
end Go.Proofs.YtjhjgfnodhbacaaDoor
