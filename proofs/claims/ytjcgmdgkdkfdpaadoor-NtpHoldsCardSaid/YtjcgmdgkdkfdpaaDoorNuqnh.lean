/-
 Layer 41 by the second engine: NtpHolds.
-/
import Derived.Test.YtjcgmdgkdkfdpaaDoorSycqnh
import Derived.Test.YtjcgmdgkdkfdpaaDoorNtqnh
import Derived.Test.YtjcgmdgkdkfdpaaDoorE00qnh
namespace Go.Proofs.YtjcgmdgkdkfdpaaDoor
open Go.RowKit Go.Extern.Stop Go.Stop Go.Extern Go.Proofs.YtjcgmdgkdkfdpaaDoor.Sy
set_option linter.unusedVariables false
set_option linter.unusedSimpArgs false
abbrev xrnuqnhk0_ : Tm := (.iapp 33 (.cons z0_ (.cons (.int .i64 (wr_ (ad_ (wr_ (ad_ (wr_ (ad_ v0_ (wr_ v3_))) v1_)) (wr_ (.i2 .rem v2_ (.lit 1000000)))))) (.cons (.int .i64 (wr_ (ad_ (wr_ (ad_ (wr_ (ad_ (wr_ (ad_ v0_ (wr_ v3_))) (wr_ v4_))) v1_)) (wr_ (.i2 .rem v2_ (.lit 1000000)))))) (.cons (.int .i64 (wr_ (ad_ (wr_ (ad_ (wr_ (ad_ v0_ (wr_ v3_))) (wr_ v4_))) (wr_ v5_)))) (.cons (.int .i64 (ad_ (.iapp 30 (.cons (.int .u32 (.iapp 31 (.cons (.int .i64 (wr_ (.i2 .rem v2_ (.lit 1000000)))) .nil))) .nil)) (.lit 2))) .nil))))))
abbrev xrnuqnhk1_ : Tm := (an_ (an_ (le_ (.lit 0) (.iapp 31 (.cons (.int .i64 (wr_ (.i2 .rem v2_ (.lit 1000000)))) .nil))) (le_ (.iapp 31 (.cons (.int .i64 (wr_ (.i2 .rem v2_ (.lit 1000000)))) .nil)) (.lit 4294967295))) (an_ (an_ (le_ (.lit 0) (.iapp 26 (.cons (.int .i64 (wr_ (ad_ (wr_ (ad_ (wr_ (ad_ v0_ (wr_ v3_))) v1_)) (wr_ (.i2 .rem v2_ (.lit 1000000)))))) .nil))) (le_ (.iapp 26 (.cons (.int .i64 (wr_ (ad_ (wr_ (ad_ (wr_ (ad_ v0_ (wr_ v3_))) v1_)) (wr_ (.i2 .rem v2_ (.lit 1000000)))))) .nil)) (.lit 18446744073709551615))) (an_ (an_ (le_ (.lit 0) (.iapp 26 (.cons z0_ .nil))) (le_ (.iapp 26 (.cons z0_ .nil)) (.lit 18446744073709551615))) (an_ (an_ (le_ (.lit 0) (.iapp 26 (.cons (.int .i64 (wr_ (ad_ (wr_ (ad_ (wr_ (ad_ v0_ (wr_ v3_))) v1_)) (wr_ (.i2 .rem v2_ (.lit 1000000)))))) .nil))) (le_ (.iapp 26 (.cons (.int .i64 (wr_ (ad_ (wr_ (ad_ (wr_ (ad_ v0_ (wr_ v3_))) v1_)) (wr_ (.i2 .rem v2_ (.lit 1000000)))))) .nil)) (.lit 18446744073709551615))) (an_ (le_ (.lit 0) (.iapp 26 (.cons (.int .i64 (wr_ (ad_ (wr_ (ad_ (wr_ (ad_ (wr_ (ad_ v0_ (wr_ v3_))) (wr_ v4_))) v1_)) (wr_ (.i2 .rem v2_ (.lit 1000000)))))) .nil))) (le_ (.iapp 26 (.cons (.int .i64 (wr_ (ad_ (wr_ (ad_ (wr_ (ad_ (wr_ (ad_ v0_ (wr_ v3_))) (wr_ v4_))) v1_)) (wr_ (.i2 .rem v2_ (.lit 1000000)))))) .nil)) (.lit 18446744073709551615)))))))
abbrev xrnuqnhk13_ : Tm := (wr_ (sb_ v1_ (wr_ (ad_ (wr_ (ml_ (wr_ (sb_ (wr_ (.i2 (.shr .u64) (.iapp 26 (.cons z0_ .nil)) (.lit 32))) (.lit 2208988800))) (.lit 1000000000))) (.iapp 38 (.cons (.int .i64 (wr_ (ml_ (wr_ (.wrap .u32 (.iapp 26 (.cons z0_ .nil)))) (.lit 1000000000)))) (.cons (.int .i64 (.lit 4294967296)) .nil)))))))
abbrev xrnuqnhk2_ : Tm := (.iapp 37 (.cons (.int .i64 xrnuqnhk13_) (.cons (.int .i64 (.lit 4294967296000000000)) .nil)))
abbrev xrnuqnhk3_ : Tm := (an_ (an_ (an_ (le_ lm_ (.iapp 35 (.cons (.int .i64 xrnuqnhk0_) (.cons z0_ .nil)))) (le_ (.iapp 35 (.cons (.int .i64 xrnuqnhk0_) (.cons z0_ .nil))) lM_)) (an_ (an_ (le_ lm_ (.iapp 35 (.cons (.int .i64 xrnuqnhk0_) (.cons (.int .i64 (wr_ (ad_ (wr_ (ad_ (wr_ (ad_ v0_ (wr_ v3_))) v1_)) (wr_ (.i2 .rem v2_ (.lit 1000000)))))) .nil)))) (le_ (.iapp 35 (.cons (.int .i64 xrnuqnhk0_) (.cons (.int .i64 (wr_ (ad_ (wr_ (ad_ (wr_ (ad_ v0_ (wr_ v3_))) v1_)) (wr_ (.i2 .rem v2_ (.lit 1000000)))))) .nil))) lM_)) (an_ (an_ (le_ lm_ (.iapp 35 (.cons (.int .i64 xrnuqnhk0_) (.cons (.int .i64 (wr_ (ad_ (wr_ (ad_ (wr_ (ad_ (wr_ (ad_ v0_ (wr_ v3_))) (wr_ v4_))) v1_)) (wr_ (.i2 .rem v2_ (.lit 1000000)))))) .nil)))) (le_ (.iapp 35 (.cons (.int .i64 xrnuqnhk0_) (.cons (.int .i64 (wr_ (ad_ (wr_ (ad_ (wr_ (ad_ (wr_ (ad_ v0_ (wr_ v3_))) (wr_ v4_))) v1_)) (wr_ (.i2 .rem v2_ (.lit 1000000)))))) .nil))) lM_)) (an_ (an_ (le_ lm_ (.iapp 35 (.cons (.int .i64 xrnuqnhk0_) (.cons (.int .i64 (wr_ (ad_ (wr_ (ad_ (wr_ (ad_ v0_ (wr_ v3_))) (wr_ v4_))) (wr_ v5_)))) .nil)))) (le_ (.iapp 35 (.cons (.int .i64 xrnuqnhk0_) (.cons (.int .i64 (wr_ (ad_ (wr_ (ad_ (wr_ (ad_ v0_ (wr_ v3_))) (wr_ v4_))) (wr_ v5_)))) .nil))) lM_)) (an_ (le_ lm_ (.iapp 35 (.cons (.int .i64 xrnuqnhk0_) (.cons (.int .i64 (ad_ (.iapp 30 (.cons (.int .u32 (.iapp 31 (.cons (.int .i64 (wr_ (.i2 .rem v2_ (.lit 1000000)))) .nil))) .nil)) (.lit 2))) .nil)))) (le_ (.iapp 35 (.cons (.int .i64 xrnuqnhk0_) (.cons (.int .i64 (ad_ (.iapp 30 (.cons (.int .u32 (.iapp 31 (.cons (.int .i64 (wr_ (.i2 .rem v2_ (.lit 1000000)))) .nil))) .nil)) (.lit 2))) .nil))) lM_)))))) (eq_ (.iapp 33 (.cons (.int .i64 (.iapp 35 (.cons (.int .i64 xrnuqnhk0_) (.cons z0_ .nil)))) (.cons (.int .i64 (.iapp 35 (.cons (.int .i64 xrnuqnhk0_) (.cons (.int .i64 (wr_ (ad_ (wr_ (ad_ (wr_ (ad_ v0_ (wr_ v3_))) v1_)) (wr_ (.i2 .rem v2_ (.lit 1000000)))))) .nil)))) (.cons (.int .i64 (.iapp 35 (.cons (.int .i64 xrnuqnhk0_) (.cons (.int .i64 (wr_ (ad_ (wr_ (ad_ (wr_ (ad_ (wr_ (ad_ v0_ (wr_ v3_))) (wr_ v4_))) v1_)) (wr_ (.i2 .rem v2_ (.lit 1000000)))))) .nil)))) (.cons (.int .i64 (.iapp 35 (.cons (.int .i64 xrnuqnhk0_) (.cons (.int .i64 (wr_ (ad_ (wr_ (ad_ (wr_ (ad_ v0_ (wr_ v3_))) (wr_ v4_))) (wr_ v5_)))) .nil)))) (.cons (.int .i64 (.iapp 35 (.cons (.int .i64 xrnuqnhk0_) (.cons (.int .i64 (ad_ (.iapp 30 (.cons (.int .u32 (.iapp 31 (.cons (.int .i64 (wr_ (.i2 .rem v2_ (.lit 1000000)))) .nil))) .nil)) (.lit 2))) .nil)))) .nil)))))) (.lit 0)))
abbrev xrnuqnhk12_ : Tm := (an_ (lt_ (.lit (-4611686018427387904)) v0_) (lt_ v0_ (.lit 4611686018427387904)))
abbrev xrnuqnhk4_ : Tm := (an_ (an_ (le_ (.lit 0) (.iapp 31 (.cons (.int .i64 (wr_ (.i2 .rem v2_ (.lit 1000000)))) .nil))) (le_ (.iapp 31 (.cons (.int .i64 (wr_ (.i2 .rem v2_ (.lit 1000000)))) .nil)) (.lit 4294967295))) (an_ xrnuqnhk12_ (an_ (an_ (lt_ (.lit (-4611686018427387904)) (wr_ (ad_ (wr_ (ad_ (wr_ (ad_ v0_ (wr_ v3_))) (wr_ v4_))) (wr_ v5_)))) (lt_ (wr_ (ad_ (wr_ (ad_ (wr_ (ad_ v0_ (wr_ v3_))) (wr_ v4_))) (wr_ v5_))) (.lit 4611686018427387904))) (an_ (an_ (an_ (lt_ (.lit (-4611686018427387904)) (wr_ (ad_ (wr_ (ad_ (wr_ (ad_ v0_ (wr_ v3_))) v1_)) (wr_ (.i2 .rem v2_ (.lit 1000000)))))) (lt_ (wr_ (ad_ (wr_ (ad_ (wr_ (ad_ v0_ (wr_ v3_))) v1_)) (wr_ (.i2 .rem v2_ (.lit 1000000))))) (.lit 4611686018427387904))) (an_ (lt_ (.lit (-2000000000000000000)) (sb_ (wr_ (ad_ (wr_ (ad_ (wr_ (ad_ v0_ (wr_ v3_))) (wr_ v4_))) (wr_ v5_))) (wr_ (ad_ (wr_ (ad_ (wr_ (ad_ v0_ (wr_ v3_))) v1_)) (wr_ (.i2 .rem v2_ (.lit 1000000))))))) (lt_ (sb_ (wr_ (ad_ (wr_ (ad_ (wr_ (ad_ v0_ (wr_ v3_))) (wr_ v4_))) (wr_ v5_))) (wr_ (ad_ (wr_ (ad_ (wr_ (ad_ v0_ (wr_ v3_))) v1_)) (wr_ (.i2 .rem v2_ (.lit 1000000)))))) (.lit 2147483648000000000)))) (an_ (an_ (lt_ (.lit (-4611686018427387904)) (wr_ (ad_ (wr_ (ad_ (wr_ (ad_ (wr_ (ad_ v0_ (wr_ v3_))) (wr_ v4_))) v1_)) (wr_ (.i2 .rem v2_ (.lit 1000000)))))) (lt_ (wr_ (ad_ (wr_ (ad_ (wr_ (ad_ (wr_ (ad_ v0_ (wr_ v3_))) (wr_ v4_))) v1_)) (wr_ (.i2 .rem v2_ (.lit 1000000))))) (.lit 4611686018427387904))) (an_ (lt_ (.lit (-2000000000000000000)) (sb_ (wr_ (ad_ (wr_ (ad_ (wr_ (ad_ v0_ (wr_ v3_))) (wr_ v4_))) (wr_ v5_))) (wr_ (ad_ (wr_ (ad_ (wr_ (ad_ (wr_ (ad_ v0_ (wr_ v3_))) (wr_ v4_))) v1_)) (wr_ (.i2 .rem v2_ (.lit 1000000))))))) (lt_ (sb_ (wr_ (ad_ (wr_ (ad_ (wr_ (ad_ v0_ (wr_ v3_))) (wr_ v4_))) (wr_ v5_))) (wr_ (ad_ (wr_ (ad_ (wr_ (ad_ (wr_ (ad_ v0_ (wr_ v3_))) (wr_ v4_))) v1_)) (wr_ (.i2 .rem v2_ (.lit 1000000)))))) (.lit 2147483648000000000))))))))
abbrev xrnuqnhk5_ : Tm := (an_ (le_ (.iapp 1 (.cons (.int .i64 (sb_ (sb_ (.iapp 35 (.cons (.int .i64 xrnuqnhk0_) (.cons (.int .i64 (wr_ (ad_ (wr_ (ad_ (wr_ (ad_ (wr_ (ad_ v0_ (wr_ v3_))) (wr_ v4_))) v1_)) (wr_ (.i2 .rem v2_ (.lit 1000000)))))) .nil))) (.iapp 35 (.cons (.int .i64 xrnuqnhk0_) (.cons (.int .i64 (wr_ (ad_ (wr_ (ad_ (wr_ (ad_ v0_ (wr_ v3_))) (wr_ v4_))) (wr_ v5_)))) .nil)))) (.iapp 35 (.cons (.int .i64 xrnuqnhk0_) (.cons (.int .i64 (ad_ (.iapp 30 (.cons (.int .u32 (.iapp 31 (.cons (.int .i64 (wr_ (.i2 .rem v2_ (.lit 1000000)))) .nil))) .nil)) (.lit 2))) .nil))))) .nil)) v1_) (le_ v1_ (.iapp 1 (.cons (.int .i64 (ad_ (sb_ (.iapp 35 (.cons (.int .i64 xrnuqnhk0_) (.cons (.int .i64 (wr_ (ad_ (wr_ (ad_ (wr_ (ad_ v0_ (wr_ v3_))) v1_)) (wr_ (.i2 .rem v2_ (.lit 1000000)))))) .nil))) (.iapp 35 (.cons (.int .i64 xrnuqnhk0_) (.cons z0_ .nil)))) (.iapp 35 (.cons (.int .i64 xrnuqnhk0_) (.cons (.int .i64 (ad_ (.iapp 30 (.cons (.int .u32 (.iapp 31 (.cons (.int .i64 (wr_ (.i2 .rem v2_ (.lit 1000000)))) .nil))) .nil)) (.lit 2))) .nil))))) .nil))))
abbrev xrnuqnhk6_ : Tm := (an_ (an_ (le_ (.lit 0) (.iapp 26 (.cons z0_ .nil))) (le_ (.iapp 26 (.cons z0_ .nil)) (.lit 18446744073709551615))) (an_ (an_ (lt_ (.lit (-4611686018427387904)) (wr_ (ad_ (wr_ (ad_ (wr_ (ad_ v0_ (wr_ v3_))) v1_)) (wr_ (.i2 .rem v2_ (.lit 1000000)))))) (lt_ (wr_ (ad_ (wr_ (ad_ (wr_ (ad_ v0_ (wr_ v3_))) v1_)) (wr_ (.i2 .rem v2_ (.lit 1000000))))) (.lit 4611686018427387904))) (an_ (an_ (lt_ (.lit (-4611686018427387904)) (wr_ (ad_ (wr_ (ad_ (wr_ (ad_ (wr_ (ad_ v0_ (wr_ v3_))) (wr_ v4_))) v1_)) (wr_ (.i2 .rem v2_ (.lit 1000000)))))) (lt_ (wr_ (ad_ (wr_ (ad_ (wr_ (ad_ (wr_ (ad_ v0_ (wr_ v3_))) (wr_ v4_))) v1_)) (wr_ (.i2 .rem v2_ (.lit 1000000))))) (.lit 4611686018427387904))) (an_ (le_ (.lit 0) (wr_ (.i2 .rem v2_ (.lit 1000000)))) (le_ (wr_ (.i2 .rem v2_ (.lit 1000000))) (.lit 1073741824))))))
abbrev xrnuqnhk7_ : Tm := (.iapp 33 (.cons z2_ (.cons z1_ (.cons z3_ (.cons z4_ (.cons (.int .i64 (ad_ (.iapp 30 (.cons (.int .u32 v0_) .nil)) (.lit 2))) .nil))))))
abbrev xrnuqnhk8_ : Tm := (an_ (an_ (le_ lm_ v0_) (le_ v0_ lM_)) (an_ (an_ (le_ lm_ v1_) (le_ v1_ lM_)) (an_ (an_ (le_ (.lit 0) v2_) (le_ v2_ (.lit 4294967295))) (an_ (an_ (le_ (.lit 0) v3_) (le_ v3_ (.lit 4294967295))) (an_ (an_ (le_ (.lit 0) v4_) (le_ v4_ (.lit 4294967295))) (an_ (le_ (.lit 0) v5_) (le_ v5_ (.lit 4294967295))))))))
abbrev xrnuqnhk9_ : Tm := (an_ xrnuqnhk12_ (an_ (an_ (lt_ (.lit (-4611686018427387904)) (wr_ (ad_ v0_ (wr_ (ml_ (wr_ v2_) (.lit 499000000)))))) (lt_ (wr_ (ad_ v0_ (wr_ (ml_ (wr_ v2_) (.lit 499000000))))) (.lit 4611686018427387904))) (an_ (lt_ (.lit (-2000000000000000000)) (sb_ (wr_ (ad_ v0_ (wr_ (ml_ (wr_ v2_) (.lit 499000000))))) v0_)) (lt_ (sb_ (wr_ (ad_ v0_ (wr_ (ml_ (wr_ v2_) (.lit 499000000))))) v0_) (.lit 2147483648000000000)))))
abbrev xrnuqnhk10_ : Tm := (wr_ (ad_ (wr_ (ad_ (wr_ (.i2 .quo (wr_ (ad_ (.iapp 30 (.cons (.int .u32 (.lit 0)) .nil)) (.lit 1))) (.lit 2))) (.iapp 30 (.cons (.int .u32 v0_) .nil)))) (.lit 2)))
abbrev xrnuqnhk11_ : Tm := (.agg (.cons (.int .u8 (.lit 0)) (.cons (.int .u8 (.lit 0)) (.cons (.int .u8 (.lit 0)) (.cons (.int .u8 (.lit 0)) (.cons (.int .i8 (.lit 0)) (.cons (.int .i8 (.lit 0)) (.cons (.int .u32 (.lit 0)) (.cons (.int .u32 (.lit 0)) (.cons (.int .u8 (.lit 0)) (.cons (.int .u8 (.lit 0)) (.cons (.int .u8 (.lit 0)) (.cons (.int .u8 (.lit 0)) (.cons (.int .u64 (.lit 0)) (.cons (.int .u64 (.lit 0)) (.cons (.int .u64 (.lit 0)) (.cons (.int .u64 (.lit 0)) .nil)))))))))))))))))
abbrev xrnuqnhk14_ : Tm := (.iapp 28 (.cons (.int .u64 (.lit 0)) (.cons (.int .i64 (.lit 3)) .nil)))
abbrev xrnuqnhk15_ : Tm := (.iapp 28 (.cons (.int .u64 (.lit 0)) (.cons (.int .i64 (.lit 2)) .nil)))
abbrev xrnuqnhk16_ : Tm := (.iapp 28 (.cons (.int .u64 (.lit 0)) (.cons (.int .i64 (.lit 1)) .nil)))
abbrev xrnuqnhk17_ : Tm := (.iapp 28 (.cons (.int .u64 (.lit 0)) (.cons (.int .i64 (.lit 0)) .nil)))
abbrev xrnuqnhk18_ : Tm := (an_ (lt_ (.lit (-4611686018427387904)) v1_) (lt_ v1_ (.lit 4611686018427387904)))
abbrev xrnuqnhk19_ : Tm := (wr_ (ad_ (wr_ (sb_ v1_ xrnuqnhk2_)) (.lit 4294967296000000000)))
abbrev xrnuqnhk20_ : Tm := (.agg (.cons (.int .u32 v2_) (.cons (.int .u32 v3_) (.cons (.int .u32 v4_) (.cons (.int .u32 v5_) .nil)))))
theorem e2_spec (x : Int) : (x = 0 ∧ e2I x = 0) ∨ (x ≠ 0 ∧ e2I x = 2) := by unfold e2I; split <;> omega
theorem sh_ge {r : Int} (h0 : 0 ≤ r) (h1 : r ≤ 1073741824) : r ≤ shI (spI r) ∧ shI (spI r) ≤ r + 30520 ∧ 0 ≤ spI r ∧ spI r ≤ 4294967295 := by
 unfold shI spI
 omega
theorem good_split {P : Program} {G : Glob} {ρ : Env} {c : Con} (C : Tm) (h1 : Con.Good P G ρ { c with cnd := .b2 .and c.cnd C }) (h2 : Con.Good P G ρ { c with cnd := .b2 .and c.cnd (.not C) }) : c.Good P G ρ := by
 intro iv bv vv sv β ok w xs n1 n2 n3 n4 hc ho hG hr he
 by_cases h : holds { ρ with iv := iv, bv := bv, vv := vv, sv := sv } C
 · exact h1 iv bv vv sv β ok w xs n1 n2 n3 n4 ⟨hc, h⟩ ho hG hr he
 · exact h2 iv bv vv sv β ok w xs n1 n2 n3 n4 ⟨hc, h⟩ ho hG hr he
noncomputable def nuI : Nat → List Value → Int
 | i, l => ntI i l
noncomputable def nuB : Nat → List Value → Bool
 | i, l => ntB i l
noncomputable def nuV : Nat → List Value → Value
 | i, l => ntV i l
noncomputable abbrev nuE (iv : List Int) (bv : List Bool) (vv : List Value) (sv : List ByteArray) : Env := { iv := iv, bv := bv, vv := vv, sv := sv, fi := nuI, fb := nuB, fv := nuV, et := 186 }
set_option maxHeartbeats 8000000 in
theorem nuup : Agree 39 3 0 (ntE [] [] [] []) (nuE [] [] [] []) := ⟨rfl, (by
   intro f hf
   funext l
   show nuI f l = ntI f l
   unfold nuI
   split <;> first | rfl | omega), (by
   intro f hf
   funext l
   show nuB f l = ntB f l
   unfold nuB
   split <;> first | rfl | omega), (by
   intro f hf
   funext l
   show nuV f l = ntV f l
   unfold nuV
   split <;> first | rfl | omega)⟩
theorem nui_sa (k1 : IntKind) (a : Int) : nuI 1 [.int k1 a] = satE a := rfl
theorem nui_stv (k1 : IntKind) (t : Int) : nuI 26 [.int k1 t] = stV t := rfl
theorem nui_fb (k1 : IntKind) (l : Int) (k2 : IntKind) (v : Int) (k3 : IntKind) (m : Int) : nuI 29 [.int k1 l, .int k2 v, .int k3 m] = fbI l v m := rfl
theorem nui_sh (k1 : IntKind) (n : Int) : nuI 30 [.int k1 n] = shI n := rfl
theorem nui_spn (k1 : IntKind) (e : Int) : nuI 31 [.int k1 e] = spI e := rfl
theorem nui_ck (k1 : IntKind) (l : Int) (k2 : IntKind) (v : Int) (k3 : IntKind) (m : Int) : nuI 32 [.int k1 l, .int k2 v, .int k3 m] = ckE l v m := rfl
theorem nui_sce (k1 : IntKind) (a : Int) (k2 : IntKind) (c : Int) (k3 : IntKind) (s : Int) (k4 : IntKind) (g : Int) (k5 : IntKind) (e : Int) : nuI 33 [.int k1 a, .int k2 c, .int k3 s, .int k4 g, .int k5 e] = scE a c s g e := rfl
theorem nui_e2 (k1 : IntKind) (x : Int) : nuI 34 [.int k1 x] = e2I x := rfl
theorem nui_gd (k1 : IntKind) (e : Int) (k2 : IntKind) (x : Int) : nuI 35 [.int k1 e, .int k2 x] = gnF e x := rfl
theorem nui_dw (k1 : IntKind) (a : Int) (k2 : IntKind) (b : Int) : nuI 37 [.int k1 a, .int k2 b] = a % b := rfl
theorem nui_cl (k1 : IntKind) (a : Int) (k2 : IntKind) (b : Int) : nuI 38 [.int k1 a, .int k2 b] = -((-a) / b) := rfl
def nears_tree : Tree :=
 (.need (an_ (le_ lm_ v1_) (le_ v1_ lM_))
 (.br (.not xrnuqnhk18_)
 (.ret (.tup (.cons (.int .i64 (.lit 0)) (.cons (.iface 186 (.int .i64 (.lit 1))) .nil))))
 (.need (an_ (le_ (.lit 0) (wr_ (ml_ (wr_ (.wrap .u32 (.iapp 26 (.cons z0_ .nil)))) (.lit 1000000000)))) (le_ (wr_ (ml_ (wr_ (.wrap .u32 (.iapp 26 (.cons z0_ .nil)))) (.lit 1000000000))) lM_))
 (.need (an_ (le_ lm_ xrnuqnhk13_) (le_ xrnuqnhk13_ lM_))
 (.br (lt_ (.lit 2147483648000000000) xrnuqnhk2_)
 (.need (an_ (le_ lm_ xrnuqnhk19_) (le_ xrnuqnhk19_ lM_))
 (.br (.not (an_ (lt_ (.lit (-4611686018427387904)) xrnuqnhk19_) (lt_ xrnuqnhk19_ (.lit 4611686018427387904))))
 (.ret (.tup (.cons (.int .i64 (.lit 0)) (.cons (.iface 186 (.int .i64 (.lit 2))) .nil))))
 (.ret (.tup (.cons (.int .i64 xrnuqnhk19_) (.cons (.cst .nilI) .nil))))))
 (.need (an_ (le_ lm_ (wr_ (sb_ v1_ xrnuqnhk2_))) (le_ (wr_ (sb_ v1_ xrnuqnhk2_)) lM_))
 (.br (.not (an_ (lt_ (.lit (-4611686018427387904)) (wr_ (sb_ v1_ xrnuqnhk2_))) (lt_ (wr_ (sb_ v1_ xrnuqnhk2_)) (.lit 4611686018427387904))))
 (.ret (.tup (.cons (.int .i64 (.lit 0)) (.cons (.iface 186 (.int .i64 (.lit 2))) .nil))))
 (.ret (.tup (.cons (.int .i64 (wr_ (sb_ v1_ xrnuqnhk2_))) (.cons (.cst .nilI) .nil)))))))))))
abbrev nuc_nears : Con := ⟨75, [(.int .u64 (.iapp 26 (.cons z0_ .nil))), z1_], (an_ xrnuqnhk12_ (an_ xrnuqnhk18_ (an_ (lt_ (.lit (-2000000000000000000)) (sb_ v1_ v0_)) (lt_ (sb_ v1_ v0_) (.lit 2147483648000000000))))), (.tup (.cons z0_ (.cons (.err (.lit 0)) .nil))), ⟨2, 0, 0, 0⟩, none⟩
theorem nears_w : walk Tryd.prog 186 ⟨[ntc_istime, ntc_ceilr, ntc_divp], syG, [], [], []⟩ [] .v nuc_nears nuc_nears.n 3000 = some nears_tree := by kernel_rfl
theorem nears_h (c t : Int) : Hyp_ nuc_nears nears_tree (nuE [c, t] [] [] []) := by
 intro hc hty
 simp only [nuc_nears, Sy.holds, nuE, denV, denI, denB, denL, I2.den, VOp.den, List.getD_cons_zero, List.getD_cons_succ, Cst.den, syso, syse, syio, sybo, B2.ofInts, B2.denI, B2.denB, if_true, Bool.false_eq_true, if_false, Nat.div_one, Nat.mul_one, Nat.add_zero] at hc
 simp only [nuc_nears, patsTyp, patTyp, patTypL, nuE, denV, denL, List.getD_cons_zero, List.getD_cons_succ, and_true, true_and] at hty
 unfold nears_tree
 simp only [nuc_nears, Tree.holds, Sy.holds, nuE, denV, denI, denB, denL, I2.den, VOp.den, List.getD_cons_zero, List.getD_cons_succ, Cst.den, syso, syse, syio, sybo, nui_stv, nui_dw, nui_cl, B2.ofInts, B2.denI, B2.denB, if_true, Bool.false_eq_true, if_false, Nat.div_one, Nat.mul_one, Nat.add_zero]
 have hst := st_rng c
 have hnr := nr_st2 hc.2.2.1 hc.2.2.2
 have w4 : IntKind.wrap .u32 (stV c) = stV c % 4294967296 := IntKind.wrap_u32 _
 have w5 : IntKind.wrap .i64 (stV c % 4294967296) = stV c % 4294967296 := by have := wr_i64 (stV c % 4294967296); omega
 have w6 : IntKind.wrap .i64 (stV c % 4294967296 * 1000000000) = stV c % 4294967296 * 1000000000 := by have := wr_i64 (stV c % 4294967296 * 1000000000); omega
 have w1 : IntKind.wrap .i64 (stV c / 4294967296) = stV c / 4294967296 := by have := wr_i64 (stV c / 4294967296); omega
 have w2 : IntKind.wrap .i64 (stV c / 4294967296 - 2208988800) = stV c / 4294967296 - 2208988800 := by have := wr_i64 (stV c / 4294967296 - 2208988800); omega
 have w3 : IntKind.wrap .i64 ((stV c / 4294967296 - 2208988800) * 1000000000) = (stV c / 4294967296 - 2208988800) * 1000000000 := by have := wr_i64 ((stV c / 4294967296 - 2208988800) * 1000000000); omega
 simp only [shr32, w4, w5, w6, w1, w2, w3]
 obtain ⟨X, hX⟩ : ∃ x, -((-(stV c % 4294967296 * 1000000000)) / 4294967296) = x := ⟨_, rfl⟩
 simp only [hX]
 have hXb : 0 ≤ X ∧ X ≤ 1000000000 := by omega
 have w7 : IntKind.wrap .i64 ((stV c / 4294967296 - 2208988800) * 1000000000 + X) = (stV c / 4294967296 - 2208988800) * 1000000000 + X := by have := wr_i64 ((stV c / 4294967296 - 2208988800) * 1000000000 + X); omega
 simp only [w7]
 obtain ⟨T, hT⟩ : ∃ x, (stV c / 4294967296 - 2208988800) * 1000000000 + X = x := ⟨_, rfl⟩
 simp only [hT]
 have hTb : -2208988800000000000 ≤ T ∧ T ≤ 2085978497000000000 := by omega
 have w8 : IntKind.wrap .i64 (t - T) = t - T := by have := wr_i64 (t - T); omega
 simp only [w8]
 obtain ⟨B, hB⟩ : ∃ x, (t - T) % 4294967296000000000 = x := ⟨_, rfl⟩
 simp only [hB]
 have hBb : 0 ≤ B ∧ B < 4294967296000000000 := by omega
 have w9 : IntKind.wrap .i64 (t - B) = t - B := by have := wr_i64 (t - B); omega
 simp only [w9]
 have w10 := wr_i64 (t - B + 4294967296000000000)
 have hn0 : nrN (stV c) t = if 2147483648000000000 < B then t - B + 4294967296000000000 else t - B := by (unfold nrN; simp only [hX, hT, hB])
 have hn : (2147483648000000000 < B ∧ nrN (stV c) t = t - B + 4294967296000000000) ∨ (B ≤ 2147483648000000000 ∧ nrN (stV c) t = t - B) := by (rw [hn0]; split <;> omega)
 clear hn0 hB hT hX w1 w2 w3 w4 w5 w6 w7 w8 w9
 refine ⟨?_, fun h0 => ?_⟩
 ·
  omega
 refine ⟨fun h1 => ?_, fun h1 => ?_⟩
 refine ?a0; rotate_left
 refine ⟨?_, fun h2 => ?_⟩
 ·
  omega
 refine ⟨?_, fun h3 => ?_⟩
 ·
  omega
 refine ⟨fun h4 => ?_, fun h4 => ?_⟩
 refine ⟨?_, fun h5 => ?_⟩
 ·
  omega
 refine ⟨fun h6 => ?_, fun h6 => ?_⟩
 refine ?a1; rotate_left
 refine ?a2; rotate_left
 refine ⟨?_, fun h7 => ?_⟩
 ·
  omega
 refine ⟨fun h8 => ?_, fun h8 => ?_⟩
 refine ?a3; rotate_left
 refine ?a4; rotate_left
 case a0 | a1 | a2 | a3 | a4 =>
  first
  | (exfalso; omega)
  | (rw [show IntKind.wrap .i64 (t - B + 4294967296000000000) = c by omega]; first | done | rfl)
  | (rw [show t - B = c by omega]; first | done | rfl)
  | skip
theorem nug_nears : nuc_nears.Good Tryd.prog syG (nuE [] [] [] []) := good_of_walk (Γ := ⟨[ntc_istime, ntc_ceilr, ntc_divp], syG, [], [], []⟩) (ρ := nuE [] [] [] []) sym nears_w rfl (fun _ _ _ _ => (ok_cons (Con.Good.env (Con.Good.up ntg_istime nuup rfl) _ _ _ _) (ok_cons (Con.Good.env (Con.Good.up ntg_ceilr nuup rfl) _ _ _ _) (ok_cons (Con.Good.env (Con.Good.up ntg_divp nuup rfl) _ _ _ _) ok_nil)))) nears_h
def ofs_tree : Tree :=
 (.br (.not (eq_ (.iapp 32 (.cons (.int .u8 (.lit 0)) (.cons (.int .u8 (.lit 4)) (.cons (.int .u8 (.lit 4)) .nil)))) (.lit 0)))
 (.ret (.tup (.cons (.agg (.cons (.int .i64 (.lit 0)) (.cons (.int .i64 (.lit 0)) (.cons (.int .i64 (.lit 0)) (.cons (.int .i64 (.lit 0)) (.cons (.int .i64 (.lit 0)) .nil)))))) (.cons (.iface 186 (.int .i64 (.lit 1))) .nil))))
 (.need (an_ (lt_ (.lit (-4611686018427387904)) v2_) (lt_ v2_ (.lit 4611686018427387904)))
 (.need (an_ xrnuqnhk18_ (an_ (an_ (lt_ (.lit (-4611686018427387904)) v4_) (lt_ v4_ (.lit 4611686018427387904))) (an_ (lt_ (.lit (-2000000000000000000)) (sb_ v4_ v1_)) (lt_ (sb_ v4_ v1_) (.lit 2147483648000000000)))))
 (.need (an_ (an_ (lt_ (.lit (-4611686018427387904)) v3_) (lt_ v3_ (.lit 4611686018427387904))) (an_ (an_ (lt_ (.lit (-4611686018427387904)) v4_) (lt_ v4_ (.lit 4611686018427387904))) (an_ (lt_ (.lit (-2000000000000000000)) (sb_ v4_ v3_)) (lt_ (sb_ v4_ v3_) (.lit 2147483648000000000)))))
 (.need (an_ (le_ (.lit 0) v0_) (le_ v0_ (.lit 4294967295)))
 (.need (an_ (an_ (le_ lm_ v2_) (le_ v2_ lM_)) (an_ (an_ (le_ lm_ v1_) (le_ v1_ lM_)) (an_ (an_ (le_ lm_ v3_) (le_ v3_ lM_)) (an_ (an_ (le_ lm_ v4_) (le_ v4_ lM_)) (an_ (le_ lm_ xrnuqnhk10_) (le_ xrnuqnhk10_ lM_))))))
 (.br (.not (eq_ (.iapp 33 (.cons z2_ (.cons z1_ (.cons z3_ (.cons z4_ (.cons (.int .i64 xrnuqnhk10_) .nil)))))) (.lit 0)))
 (.ret (.tup (.cons (.agg (.cons (.int .i64 (.lit 0)) (.cons (.int .i64 (.lit 0)) (.cons (.int .i64 (.lit 0)) (.cons (.int .i64 (.lit 0)) (.cons (.int .i64 (.lit 0)) .nil)))))) (.cons (.iface 186 (.int .i64 (.lit 2))) .nil))))
 (.ret (.tup (.cons (.agg (.cons z2_ (.cons z1_ (.cons z3_ (.cons z4_ (.cons (.int .i64 xrnuqnhk10_) .nil)))))) (.cons (.cst .nilI) .nil)))))))))))
abbrev nuc_ofs : Con := ⟨86, [(.agg (.cons (.int .u8 (.lit 0)) (.cons (.int .u8 (.lit 4)) (.cons (.int .u8 (.lit 4)) (.cons (.int .u8 (.lit 1)) (.cons (.int .i8 (.lit 0)) (.cons (.int .i8 (.lit 0)) (.cons (.int .u32 (.lit 0)) (.cons (.int .u32 v0_) (.cons (.int .u8 (.lit 0)) (.cons (.int .u8 (.lit 0)) (.cons (.int .u8 (.lit 0)) (.cons (.int .u8 (.lit 0)) (.cons (.int .u64 (.iapp 26 (.cons z1_ .nil))) (.cons (.int .u64 (.iapp 26 (.cons z2_ .nil))) (.cons (.int .u64 (.iapp 26 (.cons z1_ .nil))) (.cons (.int .u64 (.iapp 26 (.cons z3_ .nil))) .nil))))))))))))))))), z2_, z4_], (an_ (an_ (le_ (.lit 0) v0_) (le_ v0_ (.lit 4294967295))) (an_ (an_ (lt_ (.lit (-4611686018427387904)) v2_) (lt_ v2_ (.lit 4611686018427387904))) (an_ (an_ (lt_ (.lit (-4611686018427387904)) v4_) (lt_ v4_ (.lit 4611686018427387904))) (an_ (an_ xrnuqnhk18_ (an_ (lt_ (.lit (-2000000000000000000)) (sb_ v4_ v1_)) (lt_ (sb_ v4_ v1_) (.lit 2147483648000000000)))) (an_ (an_ (lt_ (.lit (-4611686018427387904)) v3_) (lt_ v3_ (.lit 4611686018427387904))) (an_ (lt_ (.lit (-2000000000000000000)) (sb_ v4_ v3_)) (lt_ (sb_ v4_ v3_) (.lit 2147483648000000000)))))))), (.tup (.cons (.agg (.cons (.int .i64 (.iapp 35 (.cons (.int .i64 xrnuqnhk7_) (.cons z2_ .nil)))) (.cons (.int .i64 (.iapp 35 (.cons (.int .i64 xrnuqnhk7_) (.cons z1_ .nil)))) (.cons (.int .i64 (.iapp 35 (.cons (.int .i64 xrnuqnhk7_) (.cons z3_ .nil)))) (.cons (.int .i64 (.iapp 35 (.cons (.int .i64 xrnuqnhk7_) (.cons z4_ .nil)))) (.cons (.int .i64 (.iapp 35 (.cons (.int .i64 xrnuqnhk7_) (.cons (.int .i64 (ad_ (.iapp 30 (.cons (.int .u32 v0_) .nil)) (.lit 2))) .nil)))) .nil)))))) (.cons (.err (.iapp 34 (.cons (.int .i64 xrnuqnhk7_) .nil))) .nil))), ⟨5, 0, 0, 0⟩, none⟩
theorem ofs_w : walk Tryd.prog 186 ⟨[ntc_check, ntc_stamp, nuc_nears, ntc_short, ntc_scheck], syG, [], [], []⟩ [] .v nuc_ofs nuc_ofs.n 3000 = some ofs_tree := by kernel_rfl
theorem ofs_h (sp c a s g : Int) : Hyp_ nuc_ofs ofs_tree (nuE [sp, c, a, s, g] [] [] []) := by
 intro hc hty
 simp only [nuc_ofs, Sy.holds, nuE, denV, denI, denB, denL, I2.den, VOp.den, List.getD_cons_zero, List.getD_cons_succ, Cst.den, syso, syse, syio, sybo, B2.ofInts, B2.denI, B2.denB, if_true, Bool.false_eq_true, if_false, Nat.div_one, Nat.mul_one, Nat.add_zero] at hc
 simp only [nuc_ofs, patsTyp, patTyp, patTypL, nuE, denV, denL, List.getD_cons_zero, List.getD_cons_succ, and_true, true_and] at hty
 unfold ofs_tree
 simp only [nuc_ofs, Tree.holds, Sy.holds, nuE, denV, denI, denB, denL, I2.den, VOp.den, List.getD_cons_zero, List.getD_cons_succ, Cst.den, syso, syse, syio, sybo, nui_sh, nui_ck, nui_sce, nui_e2, nui_gd, B2.ofInts, B2.denI, B2.denB, if_true, Bool.false_eq_true, if_false, Nat.div_one, Nat.mul_one, Nat.add_zero]
 have f4 : ckE 0 4 4 = 0 := by decide
 have f5 : shI 0 = 0 := by decide
 simp only [f4, f5]
 have hsh : 0 ≤ shI sp ∧ shI sp ≤ 65536000000000 := by (unfold shI; omega)
 have g1 : IntKind.wrap .i64 ((IntKind.wrap .i64 (0 + 1)).tdiv 2) = 0 := by decide
 simp only [g1]
 have g2 : IntKind.wrap .i64 (0 + shI sp) = shI sp := by have := wr_i64 (0 + shI sp); omega
 simp only [g2]
 have g3 : IntKind.wrap .i64 (shI sp + 2) = shI sp + 2 := by have := wr_i64 (shI sp + 2); omega
 simp only [g3]
 refine ⟨fun h0 => ?_, fun h0 => ?_⟩
 refine ?a0; rotate_left
 refine ⟨?_, fun h1 => ?_⟩
 ·
  first
  | exact True.intro
  | omega
  | skip
 refine ⟨?_, fun h2 => ?_⟩
 ·
  first
  | exact True.intro
  | omega
  | skip
 refine ⟨?_, fun h3 => ?_⟩
 ·
  first
  | exact True.intro
  | omega
  | skip
 refine ⟨?_, fun h4 => ?_⟩
 ·
  first
  | exact True.intro
  | omega
  | skip
 refine ⟨?_, fun h5 => ?_⟩
 ·
  first
  | exact True.intro
  | omega
  | skip
 refine ⟨fun h6 => ?_, fun h6 => ?_⟩
 refine ?a1; rotate_left
 refine ?a2; rotate_left
 case a0 | a1 | a2 =>
  first
  | exact True.intro
  | rfl
  | (exfalso; omega)
  | exact absurd True.intro (by assumption)
  | (exfalso; simp only [not_true_eq_false] at *; done)
  | (have hE : ¬ scE a c s g (shI sp + 2) = 0 := by assumption
     have e2 : e2I (scE a c s g (shI sp + 2)) = 2 := if_neg hE
     simp only [gn_n hE]
     rw [e2]
     first | done | rfl)
  | (have hE : scE a c s g (shI sp + 2) = 0 := Decidable.of_not_not (by assumption)
     have e2 : e2I (scE a c s g (shI sp + 2)) = 0 := if_pos hE
     simp only [gn_y hE]
     rw [e2]
     first | done | rfl)
  | skip
theorem nug_ofs : nuc_ofs.Good Tryd.prog syG (nuE [] [] [] []) := good_of_walk (Γ := ⟨[ntc_check, ntc_stamp, nuc_nears, ntc_short, ntc_scheck], syG, [], [], []⟩) (ρ := nuE [] [] [] []) sym ofs_w rfl (fun _ _ _ _ => (ok_cons (Con.Good.env (Con.Good.up ntg_check nuup rfl) _ _ _ _) (ok_cons (Con.Good.env (Con.Good.up ntg_stamp nuup rfl) _ _ _ _) (ok_cons (Con.Good.env nug_nears _ _ _ _) (ok_cons (Con.Good.env (Con.Good.up ntg_short nuup rfl) _ _ _ _) (ok_cons (Con.Good.env (Con.Good.up ntg_scheck nuup rfl) _ _ _ _) ok_nil)))))) ofs_h
def dec47_tree : Tree :=
 (.ret (.tup (.cons xrnuqnhk11_ (.cons (.iface 186 (.int .i64 (.lit 3))) .nil))))
abbrev nuc_dec47 : Con := ⟨71, [(.hs .no (.cons (.int .u8) .nil) (.tup (.cons (.int .u8 (.iapp 29 (.cons (.int .u8 (.lit 0)) (.cons (.int .u8 (.lit 4)) (.cons (.int .u8 (.lit 3)) .nil))))) (.cons (.int .u8 (.lit 0)) (.cons (.int .u8 (.lit 0)) (.cons (.int .u8 (.lit 0)) (.cons (.int .u8 xrnuqnhk14_) (.cons (.int .u8 xrnuqnhk15_) (.cons (.int .u8 xrnuqnhk16_) (.cons (.int .u8 xrnuqnhk17_) (.cons (.int .u8 xrnuqnhk14_) (.cons (.int .u8 xrnuqnhk15_) (.cons (.int .u8 xrnuqnhk16_) (.cons (.int .u8 xrnuqnhk17_) (.cons (.int .u8 (.lit 0)) (.cons (.int .u8 (.lit 0)) (.cons (.int .u8 (.lit 0)) (.cons (.int .u8 (.lit 0)) (.cons (.int .u8 (.iapp 28 (.cons (.int .u64 (.lit 0)) (.cons (.int .i64 (.lit 7)) .nil)))) (.cons (.int .u8 (.iapp 28 (.cons (.int .u64 (.lit 0)) (.cons (.int .i64 (.lit 6)) .nil)))) (.cons (.int .u8 (.iapp 28 (.cons (.int .u64 (.lit 0)) (.cons (.int .i64 (.lit 5)) .nil)))) (.cons (.int .u8 (.iapp 28 (.cons (.int .u64 (.lit 0)) (.cons (.int .i64 (.lit 4)) .nil)))) (.cons (.int .u8 xrnuqnhk14_) (.cons (.int .u8 xrnuqnhk15_) (.cons (.int .u8 xrnuqnhk16_) (.cons (.int .u8 xrnuqnhk17_) (.cons (.int .u8 (.iapp 28 (.cons (.int .u64 (.lit 0)) (.cons (.int .i64 (.lit 7)) .nil)))) (.cons (.int .u8 (.iapp 28 (.cons (.int .u64 (.lit 0)) (.cons (.int .i64 (.lit 6)) .nil)))) (.cons (.int .u8 (.iapp 28 (.cons (.int .u64 (.lit 0)) (.cons (.int .i64 (.lit 5)) .nil)))) (.cons (.int .u8 (.iapp 28 (.cons (.int .u64 (.lit 0)) (.cons (.int .i64 (.lit 4)) .nil)))) (.cons (.int .u8 xrnuqnhk14_) (.cons (.int .u8 xrnuqnhk15_) (.cons (.int .u8 xrnuqnhk16_) (.cons (.int .u8 xrnuqnhk17_) (.cons (.int .u8 (.iapp 28 (.cons (.int .u64 (.lit 0)) (.cons (.int .i64 (.lit 7)) .nil)))) (.cons (.int .u8 (.iapp 28 (.cons (.int .u64 (.lit 0)) (.cons (.int .i64 (.lit 6)) .nil)))) (.cons (.int .u8 (.iapp 28 (.cons (.int .u64 (.lit 0)) (.cons (.int .i64 (.lit 5)) .nil)))) (.cons (.int .u8 (.iapp 28 (.cons (.int .u64 (.lit 0)) (.cons (.int .i64 (.lit 4)) .nil)))) (.cons (.int .u8 xrnuqnhk14_) (.cons (.int .u8 xrnuqnhk15_) (.cons (.int .u8 xrnuqnhk16_) (.cons (.int .u8 xrnuqnhk17_) (.cons (.int .u8 (.iapp 28 (.cons (.int .u64 v0_) (.cons (.int .i64 (.lit 7)) .nil)))) (.cons (.int .u8 (.iapp 28 (.cons (.int .u64 v0_) (.cons (.int .i64 (.lit 6)) .nil)))) (.cons (.int .u8 (.iapp 28 (.cons (.int .u64 v0_) (.cons (.int .i64 (.lit 5)) .nil)))) (.cons (.int .u8 (.iapp 28 (.cons (.int .u64 v0_) (.cons (.int .i64 (.lit 4)) .nil)))) (.cons (.int .u8 (.iapp 28 (.cons (.int .u64 v0_) (.cons (.int .i64 (.lit 3)) .nil)))) (.cons (.int .u8 (.iapp 28 (.cons (.int .u64 v0_) (.cons (.int .i64 (.lit 2)) .nil)))) (.cons (.int .u8 (.iapp 28 (.cons (.int .u64 v0_) (.cons (.int .i64 (.lit 1)) .nil)))) .nil)))))))))))))))))))))))))))))))))))))))))))))))))], (.tt true), (.tup (.cons xrnuqnhk11_ (.cons (.err (.lit 3)) .nil))), ⟨1, 0, 0, 0⟩, none⟩
theorem dec47_w : walk Tryd.prog 186 ⟨[], syG, [], [], []⟩ [] .v nuc_dec47 nuc_dec47.n 3000 = some dec47_tree := by kernel_rfl
theorem dec47_h (s : Int) : Hyp_ nuc_dec47 dec47_tree (nuE [s] [] [] []) := by
 intro hc hty
 simp only [nuc_dec47, Sy.holds, nuE, denV, denI, denB, denL, I2.den, VOp.den, List.getD_cons_zero, List.getD_cons_succ, Cst.den, syso, syse, syio, sybo, B2.ofInts, B2.denI, B2.denB, if_true, Bool.false_eq_true, if_false, Nat.div_one, Nat.mul_one, Nat.add_zero] at hc
 simp only [nuc_dec47, patsTyp, patTyp, patTypL, nuE, denV, denL, List.getD_cons_zero, List.getD_cons_succ, and_true, true_and] at hty
 unfold dec47_tree
 simp only [nuc_dec47, Tree.holds, Sy.holds, nuE, denV, denI, denB, denL, I2.den, VOp.den, List.getD_cons_zero, List.getD_cons_succ, Cst.den, syso, syse, syio, sybo, B2.ofInts, B2.denI, B2.denB, if_true, Bool.false_eq_true, if_false, Nat.div_one, Nat.mul_one, Nat.add_zero]
 first
 | exact True.intro
 | rfl
 | skip
theorem nug_dec47 : nuc_dec47.Good Tryd.prog syG (nuE [] [] [] []) := good_of_walk (Γ := ⟨[], syG, [], [], []⟩) (ρ := nuE [] [] [] []) sym dec47_w rfl (fun _ _ _ _ => ok_nil) dec47_h
def sure41_tree : Tree :=
 (.need (an_ (le_ (.lit 0) (.iapp 26 (.cons (.int .i64 (.lit 7)) .nil))) (le_ (.iapp 26 (.cons (.int .i64 (.lit 7)) .nil)) (.lit 18446744073709551615)))
 (.br (eq_ (.iapp 26 (.cons (.int .i64 (.lit 0)) .nil)) (.lit 9487534653230284800))
 (.br (eq_ (.iapp 29 (.cons (.int .u8 (.lit 0)) (.cons (.int .u8 (.lit 4)) (.cons (.int .u8 (.lit 3)) .nil)))) (.lit 35))
 (.ret (.bool (eq_ (.iapp 30 (.cons (.int .u32 (.lit 1)) .nil)) (.lit 15259))))
 (.ret (.bool (.tt false))))
 (.ret (.bool (.tt false)))))
abbrev nuc_sure41 : Con := ⟨68, [], (.tt true), (.bool (.tt true)), ⟨0, 0, 0, 0⟩, none⟩
theorem sure41_w : walk Tryd.prog 186 ⟨[ntc_stamp, nuc_nears, ntc_ask, ntc_encode, nuc_dec47, ntc_num, ntc_short], syG, [], [], []⟩ [] .v nuc_sure41 nuc_sure41.n 3000 = some sure41_tree := by kernel_rfl
theorem sure41_h : Hyp_ nuc_sure41 sure41_tree (nuE [] [] [] []) := by
 intro hc hty
 simp only [nuc_sure41, Sy.holds, nuE, denV, denI, denB, denL, I2.den, VOp.den, List.getD_cons_zero, List.getD_cons_succ, Cst.den, syso, syse, syio, sybo, B2.ofInts, B2.denI, B2.denB, if_true, Bool.false_eq_true, if_false, Nat.div_one, Nat.mul_one, Nat.add_zero] at hc
 simp only [nuc_sure41, patsTyp, patTyp, patTypL, nuE, denV, denL, List.getD_cons_zero, List.getD_cons_succ, and_true, true_and] at hty
 unfold sure41_tree
 simp only [nuc_sure41, Tree.holds, Sy.holds, nuE, denV, denI, denB, denL, I2.den, VOp.den, List.getD_cons_zero, List.getD_cons_succ, Cst.den, syso, syse, syio, sybo, nui_stv, nui_fb, nui_sh, B2.ofInts, B2.denI, B2.denB, if_true, Bool.false_eq_true, if_false, Nat.div_one, Nat.mul_one, Nat.add_zero]
 have q1 : stV 0 = 9487534653230284800 := by decide
 have q2 : fbI 0 4 3 = 35 := by decide
 have q3 : shI 1 = 15259 := by decide
 simp only [q1, q2, q3]
 have q4 := st_rng 7
 refine ⟨?_, fun h0 => ?_⟩
 ·
  first
  | exact True.intro
  | omega
  | decide
  | skip
 refine ⟨fun h1 => ?_, fun h1 => ?_⟩
 refine ⟨fun h2 => ?_, fun h2 => ?_⟩
 refine ?a0; rotate_left
 refine ?a1; rotate_left
 refine ?a2; rotate_left
 case a0 | a1 | a2 =>
  first
  | exact True.intro
  | rfl
  | (exfalso; omega)
  | exact absurd True.intro (by assumption)
  | skip
theorem nug_sure41 : nuc_sure41.Good Tryd.prog syG (nuE [] [] [] []) := good_of_walk (Γ := ⟨[ntc_stamp, nuc_nears, ntc_ask, ntc_encode, nuc_dec47, ntc_num, ntc_short], syG, [], [], []⟩) (ρ := nuE [] [] [] []) sym sure41_w rfl (fun _ _ _ _ => (ok_cons (Con.Good.env (Con.Good.up ntg_stamp nuup rfl) _ _ _ _) (ok_cons (Con.Good.env nug_nears _ _ _ _) (ok_cons (Con.Good.env (Con.Good.up ntg_ask nuup rfl) _ _ _ _) (ok_cons (Con.Good.env (Con.Good.up ntg_encode nuup rfl) _ _ _ _) (ok_cons (Con.Good.env nug_dec47 _ _ _ _) (ok_cons (Con.Good.env (Con.Good.up ntg_num nuup rfl) _ _ _ _) (ok_cons (Con.Good.env (Con.Good.up ntg_short nuup rfl) _ _ _ _) ok_nil)))))))) sure41_h
def wHoldsV_tree : Tree :=
 (.br (lt_ v0_ (.lit (-2305843009213693952)))
 (.ret (.bool (.tt true)))
 (.br (lt_ (.lit 2305843009213693952) v0_)
 (.ret (.bool (.tt true)))
 (.br (lt_ v1_ (.lit (-576460752303423488)))
 (.ret (.bool (.tt true)))
 (.br (lt_ (.lit 576460752303423488) v1_)
 (.ret (.bool (.tt true)))
 (.need xrnuqnhk12_
 (.need xrnuqnhk9_
 (.br (lt_ v0_ (wr_ (sb_ v0_ (.lit 1))))
 (.ret (.bool (.tt false)))
 (.need xrnuqnhk12_
 (.need xrnuqnhk6_
 (.need xrnuqnhk1_
 (.need xrnuqnhk1_
 (.br (lt_ v1_ (.lit (-1152921504606846976)))
 (.ret (.bool (.tt true)))
 (.br (lt_ (.lit 1152921504606846976) v1_)
 (.ret (.bool (.tt true)))
 (.need xrnuqnhk4_
 (.br (.not (eq_ (.iapp 34 (.cons (.int .i64 xrnuqnhk0_) .nil)) (.lit 0)))
 (.br (eq_ (.iapp 34 (.cons (.int .i64 xrnuqnhk0_) .nil)) (.lit 2))
 (.ret (.bool (.tt true)))
 (.ret (.bool (.tt false))))
 (.need xrnuqnhk3_
 (.br xrnuqnhk5_
 (.ret (.bool (.tt true)))
 (.ret (.bool (.tt false))))))))))))))))))))
abbrev nuc_wHoldsV : Con := ⟨13, [z0_, z1_, xrnuqnhk20_], (an_ xrnuqnhk8_ (an_ (le_ (.lit (-2305843009213693952)) v0_) (an_ (le_ v0_ (.lit 2305843009213693952)) (an_ (le_ (.lit (-576460752303423488)) v1_) (le_ v1_ (.lit 576460752303423488)))))), (.bool (.tt true)), ⟨6, 0, 0, 0⟩, none⟩
theorem wHoldsV_w : walk Tryd.prog 186 ⟨[ntc_stamp, nuc_nears, ntc_ask, ntc_answer, ntc_encode, ntc_decode, nuc_ofs, ntc_sof, ntc_has, ntc_num, nuc_sure41], syG, [], [], []⟩ [] .v nuc_wHoldsV nuc_wHoldsV.n 3000 = some wHoldsV_tree := by kernel_rfl
set_option maxHeartbeats 1000000 in
theorem wHoldsV_h (t ah o0 o1 o2 o3 : Int) : Hyp_ nuc_wHoldsV wHoldsV_tree (nuE [t, ah, o0, o1, o2, o3] [] [] []) := by
 intro hc hty
 simp only [nuc_wHoldsV, Sy.holds, nuE, denV, denI, denB, denL, I2.den, VOp.den, List.getD_cons_zero, List.getD_cons_succ, Cst.den, syso, syse, syio, sybo, B2.ofInts, B2.denI, B2.denB, if_true, Bool.false_eq_true, if_false, Nat.div_one, Nat.mul_one, Nat.add_zero] at hc
 simp only [nuc_wHoldsV, patsTyp, patTyp, patTypL, nuE, denV, denL, List.getD_cons_zero, List.getD_cons_succ, and_true, true_and] at hty
 unfold wHoldsV_tree
 simp only [nuc_wHoldsV, Tree.holds, Sy.holds, nuE, denV, denI, denB, denL, I2.den, VOp.den, List.getD_cons_zero, List.getD_cons_succ, Cst.den, syso, syse, syio, sybo, nui_sa, nui_stv, nui_sh, nui_spn, nui_sce, nui_e2, nui_gd, B2.ofInts, B2.denI, B2.denB, if_true, Bool.false_eq_true, if_false, Nat.div_one, Nat.mul_one, Nat.add_zero]
 have hR := hc.2
 have fo0 : IntKind.wrap .i64 (o0) = o0 := by have := wr_i64 (o0); omega
 have fo1 : IntKind.wrap .i64 (o1) = o1 := by have := wr_i64 (o1); omega
 have fo2 : IntKind.wrap .i64 (o2) = o2 := by have := wr_i64 (o2); omega
 have fo3 : IntKind.wrap .i64 (o3) = o3 := by have := wr_i64 (o3); omega
 have fm : IntKind.wrap .i64 (o0 * 499000000) = o0 * 499000000 := by have := wr_i64 (o0 * 499000000); omega
 have ht : o0.tmod 1000000 = o0 % 1000000 := Int.tmod_eq_emod_of_nonneg hc.1.2.2.1.1
 simp only [fo0, fo1, fo2, fo3, fm, ht]
 obtain ⟨r, hr⟩ : ∃ x, o0 % 1000000 = x := ⟨_, rfl⟩
 simp only [hr]
 have hrb : 0 ≤ r ∧ r < 1000000 := by omega
 have fr : IntKind.wrap .i64 (r) = r := by have := wr_i64 (r); omega
 have f1 : IntKind.wrap .i64 (t + o0 * 499000000) = t + o0 * 499000000 := by have := wr_i64 (t + o0 * 499000000); omega
 have f2 : IntKind.wrap .i64 (t + o1) = t + o1 := by have := wr_i64 (t + o1); omega
 have f3 : IntKind.wrap .i64 (t + o1 + ah) = t + o1 + ah := by have := wr_i64 (t + o1 + ah); omega
 have f4 : IntKind.wrap .i64 (t + o1 + ah + r) = t + o1 + ah + r := by have := wr_i64 (t + o1 + ah + r); omega
 have f5 : IntKind.wrap .i64 (t + o1 + o2) = t + o1 + o2 := by have := wr_i64 (t + o1 + o2); omega
 have f6 : IntKind.wrap .i64 (t + o1 + o2 + ah) = t + o1 + o2 + ah := by have := wr_i64 (t + o1 + o2 + ah); omega
 have f7 : IntKind.wrap .i64 (t + o1 + o2 + ah + r) = t + o1 + o2 + ah + r := by have := wr_i64 (t + o1 + o2 + ah + r); omega
 have f8 : IntKind.wrap .i64 (t + o1 + o2 + o3) = t + o1 + o2 + o3 := by have := wr_i64 (t + o1 + o2 + o3); omega
 have f9 : IntKind.wrap .i64 (t - 1) = t - 1 := by have := wr_i64 (t - 1); omega
 simp only [fr, f1, f2, f3, f4, f5, f6, f7, f8, f9]
 have s0 := st_rng t
 have s1 := st_rng (t + o1 + ah + r)
 have s2 := st_rng (t + o1 + o2 + ah + r)
 have hs := sh_ge (r := r) hrb.1 (by omega)
 obtain ⟨E, hE0⟩ : ∃ x, scE t (t + o1 + ah + r) (t + o1 + o2 + ah + r) (t + o1 + o2 + o3) (shI (spI r) + 2) = x := ⟨_, rfl⟩
 simp only [hE0]
 have he2 := e2_spec E
 clear fo0 fo1 fo2 fo3 fm ht fr f1 f2 f3 f4 f5 f6 f7 f8 f9
 refine ⟨fun h0 => ?_, fun h0 => ?_⟩
 refine ?a0; rotate_left
 refine ⟨fun h1 => ?_, fun h1 => ?_⟩
 refine ?a1; rotate_left
 refine ⟨fun h2 => ?_, fun h2 => ?_⟩
 refine ?a2; rotate_left
 refine ⟨fun h3 => ?_, fun h3 => ?_⟩
 refine ?a3; rotate_left
 refine ⟨?_, fun h4 => ?_⟩
 refine ?a4; rotate_left
 refine ⟨?_, fun h5 => ?_⟩
 refine ?a5; rotate_left
 refine ⟨fun h6 => ?_, fun h6 => ?_⟩
 refine ?a6; rotate_left
 refine ⟨?_, fun h7 => ?_⟩
 refine ?a7; rotate_left
 refine ⟨?_, fun h8 => ?_⟩
 refine ?a8; rotate_left
 refine ⟨?_, fun h9 => ?_⟩
 refine ?a9; rotate_left
 refine ⟨?_, fun h10 => ?_⟩
 refine ?a10; rotate_left
 refine ⟨fun h11 => ?_, fun h11 => ?_⟩
 refine ?a11; rotate_left
 refine ⟨fun h12 => ?_, fun h12 => ?_⟩
 refine ?a12; rotate_left
 refine ⟨?_, fun h13 => ?_⟩
 refine ?a13; rotate_left
 refine ⟨fun h14 => ?_, fun h14 => ?_⟩
 refine ⟨fun h15 => ?_, fun h15 => ?_⟩
 refine ?a14; rotate_left
 refine ?a15; rotate_left
 refine ⟨?_, fun h16 => ?_⟩
 refine ?a16; rotate_left
 refine ⟨fun h17 => ?_, fun h17 => ?_⟩
 refine ?a17; rotate_left
 refine ?a18; rotate_left
 case a0 | a1 | a2 | a3 | a6 | a11 | a12 | a14 | a15 | a17 | a18 =>
  first
  | exact True.intro
  | rfl
  | (exfalso; omega)
  | (exfalso
     have hE : E = 0 := by omega
     simp only [gn_y hE] at *
     have s3 := satE_spec (t + o1 + o2 + ah + r - (t + o1 + o2 + o3) - (shI (spI r) + 2))
     have s4 := satE_spec (t + o1 + ah + r - t + (shI (spI r) + 2))
     omega)
  | skip
 case a4 | a5 | a7 | a8 | a9 | a10 | a13 | a16 =>
  first
  | exact True.intro
  | omega
  | (have hE : E = 0 := by omega
     simp only [gn_y hE]
     simp only [hE0]
     omega)
  | skip
theorem nug_wHoldsV : nuc_wHoldsV.Good Tryd.prog syG (nuE [] [] [] []) := good_of_walk (Γ := ⟨[ntc_stamp, nuc_nears, ntc_ask, ntc_answer, ntc_encode, ntc_decode, nuc_ofs, ntc_sof, ntc_has, ntc_num, nuc_sure41], syG, [], [], []⟩) (ρ := nuE [] [] [] []) sym wHoldsV_w rfl (fun _ _ _ _ => (ok_cons (Con.Good.env (Con.Good.up ntg_stamp nuup rfl) _ _ _ _) (ok_cons (Con.Good.env nug_nears _ _ _ _) (ok_cons (Con.Good.env (Con.Good.up ntg_ask nuup rfl) _ _ _ _) (ok_cons (Con.Good.env (Con.Good.up ntg_answer nuup rfl) _ _ _ _) (ok_cons (Con.Good.env (Con.Good.up ntg_encode nuup rfl) _ _ _ _) (ok_cons (Con.Good.env (Con.Good.up ntg_decode nuup rfl) _ _ _ _) (ok_cons (Con.Good.env nug_ofs _ _ _ _) (ok_cons (Con.Good.env (Con.Good.up ntg_sof nuup rfl) _ _ _ _) (ok_cons (Con.Good.env (Con.Good.up ntg_has nuup rfl) _ _ _ _) (ok_cons (Con.Good.env (Con.Good.up ntg_num nuup rfl) _ _ _ _) (ok_cons (Con.Good.env nug_sure41 _ _ _ _) ok_nil)))))))))))) wHoldsV_h
def wHoldsX_tree : Tree :=
 (.br (lt_ v0_ (.lit (-2305843009213693952)))
 (.ret (.bool (.tt true)))
 (.br (lt_ (.lit 2305843009213693952) v0_)
 (.ret (.bool (.tt true)))
 (.br (lt_ v1_ (.lit (-576460752303423488)))
 (.ret (.bool (.tt true)))
 (.br (lt_ (.lit 576460752303423488) v1_)
 (.ret (.bool (.tt true)))
 (.need xrnuqnhk12_
 (.need xrnuqnhk9_
 (.br (lt_ v0_ (wr_ (sb_ v0_ (.lit 1))))
 (.ret (.bool (.tt false)))
 (.need xrnuqnhk12_
 (.need xrnuqnhk6_
 (.need xrnuqnhk1_
 (.need xrnuqnhk1_
 (.br (lt_ v1_ (.lit (-1152921504606846976)))
 (.ret (.bool (.tt true)))
 (.br (lt_ (.lit 1152921504606846976) v1_)
 (.ret (.bool (.tt true)))
 (.need xrnuqnhk4_
 (.br (.not (eq_ (.iapp 34 (.cons (.int .i64 xrnuqnhk0_) .nil)) (.lit 0)))
 (.br (eq_ (.iapp 34 (.cons (.int .i64 xrnuqnhk0_) .nil)) (.lit 2))
 (.ret (.bool (.tt true)))
 (.ret (.bool (.tt false))))
 (.need xrnuqnhk3_
 (.br xrnuqnhk5_
 (.ret (.bool (.tt true)))
 (.ret (.bool (.tt false))))))))))))))))))))
abbrev nuc_wHoldsX : Con := ⟨13, [z0_, z1_, xrnuqnhk20_], (an_ xrnuqnhk8_ (.not (an_ (le_ (.lit (-2305843009213693952)) v0_) (an_ (le_ v0_ (.lit 2305843009213693952)) (an_ (le_ (.lit (-576460752303423488)) v1_) (le_ v1_ (.lit 576460752303423488))))))), (.bool (.tt true)), ⟨6, 0, 0, 0⟩, none⟩
theorem wHoldsX_w : walk Tryd.prog 186 ⟨[ntc_stamp, nuc_nears, ntc_ask, ntc_answer, ntc_encode, ntc_decode, nuc_ofs, ntc_sof, ntc_has, ntc_num, nuc_sure41], syG, [], [], []⟩ [] .v nuc_wHoldsX nuc_wHoldsX.n 3000 = some wHoldsX_tree := by kernel_rfl
theorem wHoldsX_h (t ah o0 o1 o2 o3 : Int) : Hyp_ nuc_wHoldsX wHoldsX_tree (nuE [t, ah, o0, o1, o2, o3] [] [] []) := by
 intro hc hty
 simp only [nuc_wHoldsX, Sy.holds, nuE, denV, denI, denB, denL, I2.den, VOp.den, List.getD_cons_zero, List.getD_cons_succ, Cst.den, syso, syse, syio, sybo, B2.ofInts, B2.denI, B2.denB, if_true, Bool.false_eq_true, if_false, Nat.div_one, Nat.mul_one, Nat.add_zero] at hc
 simp only [nuc_wHoldsX, patsTyp, patTyp, patTypL, nuE, denV, denL, List.getD_cons_zero, List.getD_cons_succ, and_true, true_and] at hty
 unfold wHoldsX_tree
 simp only [nuc_wHoldsX, Tree.holds, Sy.holds, nuE, denV, denI, denB, denL, I2.den, VOp.den, List.getD_cons_zero, List.getD_cons_succ, Cst.den, syso, syse, syio, sybo, nui_sa, nui_stv, nui_sh, nui_spn, nui_sce, nui_e2, nui_gd, B2.ofInts, B2.denI, B2.denB, if_true, Bool.false_eq_true, if_false, Nat.div_one, Nat.mul_one, Nat.add_zero]
 have hn := hc.2
 refine ⟨fun h0 => ?_, fun h0 => ?_⟩
 refine ?a0; rotate_left
 refine ⟨fun h1 => ?_, fun h1 => ?_⟩
 refine ?a1; rotate_left
 refine ⟨fun h2 => ?_, fun h2 => ?_⟩
 refine ?a2; rotate_left
 refine ⟨fun h3 => ?_, fun h3 => ?_⟩
 refine ?a3; rotate_left
 refine ⟨?_, fun h4 => ?_⟩
 refine ?a4; rotate_left
 refine ⟨?_, fun h5 => ?_⟩
 refine ?a5; rotate_left
 refine ⟨fun h6 => ?_, fun h6 => ?_⟩
 refine ?a6; rotate_left
 refine ⟨?_, fun h7 => ?_⟩
 refine ?a7; rotate_left
 refine ⟨?_, fun h8 => ?_⟩
 refine ?a8; rotate_left
 refine ⟨?_, fun h9 => ?_⟩
 refine ?a9; rotate_left
 refine ⟨?_, fun h10 => ?_⟩
 refine ?a10; rotate_left
 refine ⟨fun h11 => ?_, fun h11 => ?_⟩
 refine ?a11; rotate_left
 refine ⟨fun h12 => ?_, fun h12 => ?_⟩
 refine ?a12; rotate_left
 refine ⟨?_, fun h13 => ?_⟩
 refine ?a13; rotate_left
 refine ⟨fun h14 => ?_, fun h14 => ?_⟩
 refine ⟨fun h15 => ?_, fun h15 => ?_⟩
 refine ?a14; rotate_left
 refine ?a15; rotate_left
 refine ⟨?_, fun h16 => ?_⟩
 refine ?a16; rotate_left
 refine ⟨fun h17 => ?_, fun h17 => ?_⟩
 refine ?a17; rotate_left
 refine ?a18; rotate_left
 case a0 | a1 | a2 | a3 | a6 | a11 | a12 | a14 | a15 | a17 | a18 =>
  first
  | exact True.intro
  | rfl
  | (exfalso; omega)
  | skip
 case a4 | a5 | a7 | a8 | a9 | a10 | a13 | a16 =>
  first
  | exact True.intro
  | (exfalso; omega)
  | skip
theorem nug_wHoldsX : nuc_wHoldsX.Good Tryd.prog syG (nuE [] [] [] []) := good_of_walk (Γ := ⟨[ntc_stamp, nuc_nears, ntc_ask, ntc_answer, ntc_encode, ntc_decode, nuc_ofs, ntc_sof, ntc_has, ntc_num, nuc_sure41], syG, [], [], []⟩) (ρ := nuE [] [] [] []) sym wHoldsX_w rfl (fun _ _ _ _ => (ok_cons (Con.Good.env (Con.Good.up ntg_stamp nuup rfl) _ _ _ _) (ok_cons (Con.Good.env nug_nears _ _ _ _) (ok_cons (Con.Good.env (Con.Good.up ntg_ask nuup rfl) _ _ _ _) (ok_cons (Con.Good.env (Con.Good.up ntg_answer nuup rfl) _ _ _ _) (ok_cons (Con.Good.env (Con.Good.up ntg_encode nuup rfl) _ _ _ _) (ok_cons (Con.Good.env (Con.Good.up ntg_decode nuup rfl) _ _ _ _) (ok_cons (Con.Good.env nug_ofs _ _ _ _) (ok_cons (Con.Good.env (Con.Good.up ntg_sof nuup rfl) _ _ _ _) (ok_cons (Con.Good.env (Con.Good.up ntg_has nuup rfl) _ _ _ _) (ok_cons (Con.Good.env (Con.Good.up ntg_num nuup rfl) _ _ _ _) (ok_cons (Con.Good.env nug_sure41 _ _ _ _) ok_nil)))))))))))) wHoldsX_h
abbrev nuc_wHolds : Con := ⟨13, [z0_, z1_, xrnuqnhk20_], xrnuqnhk8_, (.bool (.tt true)), ⟨6, 0, 0, 0⟩, none⟩
theorem nug_wHolds : nuc_wHolds.Good Tryd.prog syG (nuE [] [] [] []) := by
 exact good_split (an_ (le_ (.lit (-2305843009213693952)) v0_) (an_ (le_ v0_ (.lit 2305843009213693952)) (an_ (le_ (.lit (-576460752303423488)) v1_) (le_ v1_ (.lit 576460752303423488))))) nug_wHoldsV nug_wHoldsX
end Go.Proofs.YtjcgmdgkdkfdpaaDoor
