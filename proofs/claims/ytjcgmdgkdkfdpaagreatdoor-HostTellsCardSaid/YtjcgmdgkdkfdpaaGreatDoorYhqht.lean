/-
 Layer 18 by the second engine: clamps, factors adjusted, spans, the servo.
-/
import Derived.Test.YtjcgmdgkdkfdpaaGreatDoorSycqht
import Derived.Test.YtjcgmdgkdkfdpaaGreatDoorYcqht
import Derived.Test.YtjcgmdgkdkfdpaaGreatDoorE00qht
import Derived.Test.YtjcgmdgkdkfdpaaGreatDoorW02sqht
import Derived.Test.YtjcgmdgkdkfdpaaGreatDoorSrvqht
import Derived.Test.YtjcgmdgkdkfdpaaGreatDoorFloqht
namespace Go.Proofs.YtjcgmdgkdkfdpaaGreatDoor
open Go.RowKit Go.Extern.Stop Go.Stop Go.Extern Go.Proofs.YtjcgmdgkdkfdpaaGreatDoor.Sy
set_option linter.unusedVariables false
set_option linter.unusedSimpArgs false
abbrev xryhqhtk2_ : Tm := (.iapp 26 (.cons (.int .i64 (.i2 (.shr .i64) v5_ (.lit 10))) (.cons (.int .i64 (.lit (-1048576))) (.cons (.int .i64 (.lit 1048576)) .nil))))
abbrev xryhqhtk0_ : Tm := (.iapp 26 (.cons (.int .i64 (wr_ (ad_ (.iapp 26 (.cons z1_ (.cons (.int .i64 (.lit (-1048576))) (.cons (.int .i64 (.lit 1048576)) .nil)))) xryhqhtk2_))) (.cons (.int .i64 (.lit (-1048576))) (.cons (.int .i64 (.lit 1048576)) .nil))))
abbrev xryhqhtk1_ : Tm := (wr_ (ad_ (wr_ (ad_ (.iapp 32 (.cons z0_ (.cons (.int .i64 (.lit 2)) .nil))) (.iapp 32 (.cons z1_ (.cons (.int .i64 (.lit 2)) .nil))))) (wr_ (.i2 .quo (wr_ (ad_ (.iapp 33 (.cons z0_ (.cons (.int .i64 (.lit 2)) .nil))) (.iapp 33 (.cons z1_ (.cons (.int .i64 (.lit 2)) .nil))))) (.lit 2)))))
abbrev xryhqhtk17_ : Tm := (.agg (.cons (.int .u32 (.lit 0)) (.cons (.int .i64 (.lit 0)) .nil)))
abbrev xryhqhtk3_ : Tm := (.tup (.cons xryhqhtk17_ (.cons (.int .i64 (.lit 2)) .nil)))
abbrev xryhqhtk4_ : Tm := (an_ (le_ lm_ v1_) (le_ v1_ lM_))
abbrev xryhqhtk5_ : Tm := (.i2 (.shr .i64) (wr_ (ml_ (wr_ v0_) (wr_ (ad_ (.lit 1073741824) (.iapp 26 (.cons z2_ (.cons (.int .i64 (.lit (-1073741824))) (.cons (.int .i64 (.lit 1073741824)) .nil)))))))) (.lit 30))
abbrev xryhqhtk6_ : Tm := (.vop .fdiv (.cons (.vop .cre (.cons (.vapp 1 (.cons z2_ (.cons z3_ (.cons (.int .i64 xryhqhtk2_) (.cons (.int .i64 xryhqhtk0_) .nil))))) .nil)) (.cons (.cst (.flt .f64 4652218415073722368)) .nil)))
abbrev xryhqhtk7_ : Tm := (wr_ (ad_ v0_ (wr_ (.wrap .u64 (.i2 .quo (.wrap .u64 (sb_ (.wrap .u64 v1_) (.wrap .u64 v0_))) (.lit 2))))))
abbrev xryhqhtk8_ : Tm := (an_ (le_ lm_ v2_) (le_ v2_ lM_))
abbrev xryhqhtk9_ : Tm := (an_ (le_ lm_ v0_) (le_ v0_ lM_))
abbrev xryhqhtk10_ : Tm := (.agg (.cons (.int .i64 (.iapp 1 (.cons (.int .i64 (sb_ v0_ v2_)) .nil))) (.cons (.int .i64 (.iapp 1 (.cons (.int .i64 (ad_ v1_ v2_)) .nil))) .nil)))
abbrev xryhqhtk11_ : Tm := (.agg (.cons z0_ (.cons z1_ .nil)))
abbrev xryhqhtk12_ : Tm := (.iapp 6 (.cons (.int .i64 (wr_ v0_)) (.cons (.int .i64 (wr_ (ad_ (.lit 1073741824) v2_))) (.cons (.int .i64 (.lit 1073741824)) .nil))))
abbrev xryhqhtk13_ : Tm := (.iapp 6 (.cons (.int .i64 (wr_ v0_)) (.cons (.int .i64 (.lit 2147483648)) (.cons (.int .i64 (.lit 1073741824)) .nil))))
abbrev xryhqhtk14_ : Tm := (.tup (.cons (.int .i64 (.lit 0)) (.cons (.iface 94 (.int .i64 (.lit 1))) .nil)))
abbrev xryhqhtk15_ : Tm := (.tup (.cons (.int .i64 (wr_ (sb_ v0_ v1_))) (.cons (.int .i64 (.lit 0)) .nil)))
abbrev xryhqhtk16_ : Tm := (.iapp 6 (.cons (.int .i64 (wr_ v0_)) (.cons (.int .i64 (.lit 0)) (.cons (.int .i64 (.lit 1073741824)) .nil))))
abbrev xryhqhtk18_ : Tm := (.agg (.cons (.int .i64 (.lit 0)) (.cons (.int .i64 (.lit 0)) .nil)))
def adF (m p : Int) : Int := m * (1073741824 + clI p (-1073741824) 1073741824) / 1073741824
def adE (m s p : Int) : Int := if ¬ fmP m s then 1 else if 1 ≤ adF m p ∧ adF m p ≤ 4294967295 then 0 else 2
def adA (m s p : Int) : Int := if adE m s p = 0 then adF m p else 0
def adS (m s p : Int) : Int := if adE m s p = 0 then s else 0
theorem ad_spec (m s p : Int) : (¬ fmP m s ∧ feE m s = 1 ∧ adE m s p = 1 ∧ adA m s p = 0 ∧ adS m s p = 0) ∨ (fmP m s ∧ feE m s = 0 ∧ ((1 ≤ adF m p ∧ adF m p ≤ 4294967295 ∧ adE m s p = 0 ∧ adA m s p = adF m p ∧ adS m s p = s) ∨ ((adF m p < 1 ∨ 4294967295 < adF m p) ∧ adE m s p = 2 ∧ adA m s p = 0 ∧ adS m s p = 0))) := by
 have key : ∀ n, adE m s p = n → n ≠ 0 → adA m s p = 0 ∧ adS m s p = 0 := fun n h1 h2 => by
   unfold adA adS
   rw [if_neg (by omega), if_neg (by omega)]
   exact ⟨rfl, rfl⟩
 by_cases h : fmP m s
 · right
   refine ⟨h, feE_y h, ?_⟩
   by_cases h2 : 1 ≤ adF m p ∧ adF m p ≤ 4294967295
   · left
     have e : adE m s p = 0 := by unfold adE; rw [if_neg (not_not_intro h), if_pos h2]
     exact ⟨h2.1, h2.2, e, by unfold adA; rw [if_pos e], by unfold adS; rw [if_pos e]⟩
   · right
     have e : adE m s p = 2 := by unfold adE; rw [if_neg (not_not_intro h), if_neg h2]
     exact ⟨by omega, e, key _ e (by decide)⟩
 · left
   have e : adE m s p = 1 := by unfold adE; rw [if_pos h]
   exact ⟨h, feE_n h, e, key _ e (by decide)⟩
theorem ad_prod {m p : Int} (h0 : 0 ≤ m) (h1 : m ≤ 4294967295) : (0 ≤ 1073741824 + clI p (-1073741824) 1073741824 ∧ 1073741824 + clI p (-1073741824) 1073741824 ≤ 2147483648) ∧ 0 ≤ m * (1073741824 + clI p (-1073741824) 1073741824) ∧ m * (1073741824 + clI p (-1073741824) 1073741824) ≤ 9223372034707292160 := by
 have hc := cl_spec p (-1073741824) 1073741824
 have e : 0 ≤ 1073741824 + clI p (-1073741824) 1073741824 ∧ 1073741824 + clI p (-1073741824) 1073741824 ≤ 2147483648 := by omega
 generalize 1073741824 + clI p (-1073741824) 1073741824 = q at e ⊢
 refine ⟨e, Int.mul_nonneg h0 e.1, ?_⟩
 have := Int.mul_le_mul h1 e.2 e.1 (by decide)
 omega
theorem ad_md {m p : Int} (h0 : 0 ≤ m) (h1 : m ≤ 4294967295) : mdN m (1073741824 + clI p (-1073741824) 1073741824) 1073741824 = adF m p ∧ mdE m (1073741824 + clI p (-1073741824) 1073741824) 1073741824 = 0 := by
 obtain ⟨_, h2, h3⟩ := ad_prod (p := p) h0 h1
 have e : m * (1073741824 + clI p (-1073741824) 1073741824) / 1073741824 = adF m p := rfl
 have hin : InR (m * (1073741824 + clI p (-1073741824) 1073741824) / 1073741824) := by constructor <;> omega
 unfold mdN mdE
 rw [if_neg (by omega), if_pos hin, if_neg (by omega), if_pos hin]
 exact ⟨e, rfl⟩
theorem shr30 (x : Int) : x.fdiv (2 ^ (Min.min (Int.toNat 30) (IntKind.bits .i64))) = x / 1073741824 := Int.fdiv_eq_ediv_of_nonneg _ (by decide)
theorem tdiv_spec (a : Int) {d : Int} (hd : 0 < d) : (0 ≤ a ∧ a.tdiv d = a / d) ∨ (a < 0 ∧ a.tdiv d = -((-a) / d)) := by
 by_cases h : 0 ≤ a
 · exact .inl ⟨h, Int.tdiv_eq_ediv_of_nonneg h⟩
 · refine .inr ⟨by omega, ?_⟩
   have e := Int.neg_tdiv (-a) d
   rw [Int.neg_neg] at e
   rw [e, Int.tdiv_eq_ediv_of_nonneg (by omega)]
theorem shr10 (x : Int) : x.fdiv (2 ^ (Min.min (Int.toNat 10) (IntKind.bits .i64))) = x / 1024 := Int.fdiv_eq_ediv_of_nonneg _ (by decide)
theorem midw {a b : Int} (h : a ≤ b) (ha : InR a) (hb : InR b) : IntKind.wrap .i64 (a + IntKind.wrap .i64 (IntKind.wrap .u64 (Int.tdiv (IntKind.wrap .u64 (IntKind.wrap .u64 b - IntKind.wrap .u64 a)) 2))) = a + (b - a) / 2 := by
 have e1 : IntKind.wrap .u64 (IntKind.wrap .u64 b - IntKind.wrap .u64 a) = b - a := by simp only [IntKind.wrap_u64]; omega
 rw [e1, Int.tdiv_eq_ediv_of_nonneg (by omega)]
 have e2 : IntKind.wrap .u64 ((b - a) / 2) = (b - a) / 2 := by rw [IntKind.wrap_u64]; omega
 have e3 : IntKind.wrap .i64 ((b - a) / 2) = (b - a) / 2 := by have := wr_i64 ((b - a) / 2); omega
 rw [e2, e3]
 have := wr_i64 (a + (b - a) / 2)
 omega
def spI (a b : Int) : Int := if b < a then 1 else 0
theorem spI_spec (a b : Int) : (b < a ∧ spI a b = 1) ∨ (a ≤ b ∧ spI a b = 0) := by unfold spI; split <;> omega
def miI (a b : Int) : Int := a + (b - a) / 2
def plI (a b : Int) : Int := a + (if b < 0 then -b else b)
theorem plI_spec (a b : Int) : (b < 0 ∧ plI a b = a - b) ∨ (0 ≤ b ∧ plI a b = a + b) := by unfold plI; split <;> omega
theorem pl_of {p q o s : Int} (p0 : 0 ≤ p) (p1 : p ≤ 1024) (q0 : 0 ≤ q) (q1 : q ≤ 1024) (o0 : -1048576 ≤ o) (o1 : o ≤ 1048576) (s0 : -1048576 ≤ s) (s1 : s ≤ 1048576) : ∃ re im, cmulV (cpxV (.float .f64 (FloatKind.f64.nearest p)) (.float .f64 (FloatKind.f64.nearest q))) (cpxV (.float .f64 (FloatKind.f64.nearest o)) (.float .f64 (FloatKind.f64.nearest (-s)))) = some (.complex .f64 re im) ∧ FV re (p * o + q * s) ∧ FV im (q * o - p * s) := by
 have fp := fv_int (x := p) (by omega) (by omega)
 have fq := fv_int (x := q) (by omega) (by omega)
 have fo := fv_int (x := o) (by omega) (by omega)
 have fs := fv_int (x := -s) (by omega) (by omega)
 have b1 := mul_bd p0 p1 o0 o1
 have b2 := mul_bd q0 q1 (show -1048576 ≤ -s by omega) (by omega)
 have b3 := mul_bd p0 p1 (show -1048576 ≤ -s by omega) (by omega)
 have b4 := mul_bd q0 q1 o0 o1
 obtain ⟨ac, h1, f1⟩ := fv_mul fp fo (by omega)
 obtain ⟨bd, h2, f2⟩ := fv_mul fq fs (by omega)
 obtain ⟨ad, h3, f3⟩ := fv_mul fp fs (by omega)
 obtain ⟨bc, h4, f4⟩ := fv_mul fq fo (by omega)
 obtain ⟨re, h5, f5⟩ := fv_sub f1 f2 (by omega)
 obtain ⟨im, h6, f6⟩ := fv_add f3 f4 (by omega)
 refine ⟨re, im, ?_, ?_, ?_⟩
 · have e : cMulBits (FloatKind.f64.nearest p) (FloatKind.f64.nearest q) (FloatKind.f64.nearest o) (FloatKind.f64.nearest (-s)) = some (re, im) := by
     have g1 : floatBits .mul .f64 (FloatKind.f64.nearest p) (FloatKind.f64.nearest o) = some ac := h1
     have g2 : floatBits .mul .f64 (FloatKind.f64.nearest q) (FloatKind.f64.nearest (-s)) = some bd := h2
     have g3 : floatBits .mul .f64 (FloatKind.f64.nearest p) (FloatKind.f64.nearest (-s)) = some ad := h3
     have g4 : floatBits .mul .f64 (FloatKind.f64.nearest q) (FloatKind.f64.nearest o) = some bc := h4
     have g5 : floatBits .sub .f64 ac bd = some re := h5
     have g6 : floatBits .add .f64 ad bc = some im := h6
     unfold cMulBits
     rw [g1, g2, g3, g4]
     simp only [Option.bind_some]
     rw [g5]
     simp only [Option.bind_some]
     rw [g6]
     rfl
   unfold cpxV cmulV
   simp only
   rw [e]
   rfl
 · rw [Int.mul_neg, Int.sub_neg] at f5
   exact f5
 · rw [Int.mul_neg] at f6
   rw [show q * o - p * s = -(p * s) + q * o by omega]
   exact f6
def plz (p q o s : Int) : Value := (cmulV (cpxV (.float .f64 (FloatKind.f64.nearest p)) (.float .f64 (FloatKind.f64.nearest q))) (cpxV (.float .f64 (FloatKind.f64.nearest o)) (.float .f64 (FloatKind.f64.nearest (-s))))).getD Go.undef
def plE (p q o s : Int) : Int := if svK p q 0 = 0 ∧ -1048576 ≤ o ∧ o ≤ 1048576 ∧ -1048576 ≤ s ∧ s ≤ 1048576 then 0 else 1
def plZ (p q o s : Int) : Value := if plE p q o s = 0 then plz p q o s else .complex .f64 0 0
theorem pl_spec (p q o s : Int) : ((svK p q 0 = 0 ∧ -1048576 ≤ o ∧ o ≤ 1048576 ∧ -1048576 ≤ s ∧ s ≤ 1048576) ∧ plE p q o s = 0 ∧ plZ p q o s = plz p q o s) ∨ ((svK p q 0 ≠ 0 ∨ o < -1048576 ∨ 1048576 < o ∨ s < -1048576 ∨ 1048576 < s) ∧ plE p q o s = 1 ∧ plZ p q o s = .complex .f64 0 0) := by
 by_cases h : svK p q 0 = 0 ∧ -1048576 ≤ o ∧ o ≤ 1048576 ∧ -1048576 ≤ s ∧ s ≤ 1048576
 · have e : plE p q o s = 0 := by unfold plE; rw [if_pos h]
   exact .inl ⟨h, e, by unfold plZ; rw [if_pos e]⟩
 · have e : plE p q o s = 1 := by unfold plE; rw [if_neg h]
   exact .inr ⟨by omega, e, by unfold plZ; rw [if_neg (by omega)]⟩
def isNV : Value → Bool
 | .float .f64 b => (match FloatKind.f64.decode b with | .number .. => true | _ => false)
 | _ => false
def flrW : Value → Value
 | .float .f64 b => .float .f64 (flrV b)
 | _ => Go.undef
theorem isN_iff {v : Value} (h : isNV v = true) : ∃ b, v = .float .f64 b ∧ ∃ s m p, FloatKind.f64.decode b = .number s m p := by
 unfold isNV at h
 split at h
 · rename_i b
   split at h
   · rename_i s m p hd
     exact ⟨b, rfl, s, m, p, hd⟩
   · cases h
 · cases h
theorem isN_of {b : Nat} (h : ∃ s m p, FloatKind.f64.decode b = .number s m p) : isNV (.float .f64 b) = true := by
 obtain ⟨s, m, p, hd⟩ := h
 unfold isNV
 simp only [hd]
theorem floor_v (v : Value) (w : World) (h : isNV v = true) : Calls Tryz.prog 87 #[v] w fun e w' => e = .returned (flrW v) ∧ Below w.heap.size w w' := by
 obtain ⟨b, rfl, hb⟩ := isN_iff h
 exact floor_c b hb w
theorem real_q {re : Nat} {x : Int} (h : FV re x) (h0 : -4503599627370496 ≤ x) (h1 : x ≤ 4503599627370496) : ∃ r, fdivV (.float .f64 re) (.float .f64 4652218415073722368) = some (.float .f64 r) ∧ isNV (.float .f64 r) = true ∧ floatToIntVal .f64 (flrV r) .i64 = some (x / 1024) := by
 obtain ⟨r, hr, hq⟩ := fq_div h (by omega)
 obtain ⟨hn, hf⟩ := fq_floor hq (by omega)
 refine ⟨r, ?_, isN_of hn, fv_toInt hf (by omega) (by omega)⟩
 have g : floatBits .quo .f64 re 4652218415073722368 = some r := hr
 unfold fdivV
 simp only
 rw [g]
 rfl
theorem pull_q {p q o s : Int} (he : plE p q o s = 0) : isCV (plZ p q o s) = true ∧ ∃ r, fdivV (creV (plZ p q o s)) (.float .f64 4652218415073722368) = some (.float .f64 r) ∧ isNV (.float .f64 r) = true ∧ floatToIntVal .f64 (flrV r) .i64 = some ((p * o + q * s) / 1024) := by
 rcases pl_spec p q o s with ⟨⟨h, o0, o1, s0, s1⟩, _, e⟩ | ⟨_, e, _⟩
 · rcases sv_spec p q 0 with ⟨⟨p0, p1, q0, q1, _⟩, _⟩ | ⟨_, e2⟩
   · obtain ⟨re, im, h1, h2, h3⟩ := pl_of p0 p1 q0 q1 o0 o1 s0 s1
     have hz : plZ p q o s = .complex .f64 re im := by rw [e]; unfold plz; rw [h1]; rfl
     rw [hz]
     have b1 := mul_bd p0 p1 o0 o1
     have b2 := mul_bd q0 q1 s0 s1
     exact ⟨rfl, real_q h2 (by omega) (by omega)⟩
   · omega
 · omega
def slE (m : Int) : Int := if m < 0 then 1 else 0
def slA (o m : Int) : Int := if m < 0 then 0 else clI o (-m) m
def slR (o m : Int) : Int := if m < 0 then 0 else satE (o - clI o (-m) m)
noncomputable def yhI : Nat → List Value → Int
 | 26, [.int _ v, .int _ lo, .int _ hi] => clI v lo hi
 | 27, [.int _ m, .int _ s, .int _ p] => adA m s p
 | 28, [.int _ m, .int _ s, .int _ p] => adS m s p
 | 29, [.int _ m, .int _ s, .int _ p] => adE m s p
 | 30, [.int _ a, .int _ b] => spI a b
 | 31, [.int _ a, .int _ b] => miI a b
 | 32, [.int _ a, .int _ b] => a / b
 | 33, [.int _ a, .int _ b] => a % b
 | 34, [.int _ a, .int _ b] => plI a b
 | 35, [.int _ p, .int _ q, .int _ l] => svK p q l
 | 36, [.int _ s, .int _ o] => stS s o
 | 37, [.int _ p, .int _ q, .int _ o, .int _ s] => plE p q o s
 | 38, [.int _ o, .int _ m] => slA o m
 | 39, [.int _ m] => slE m
 | 40, [.int _ o, .int _ m] => slR o m
 | 41, [.int _ p, .int _ q, .int _ l, .int _ s, .int _ o] => stF p q l s o
 | i, l => ycI i l
noncomputable def yhB : Nat → List Value → Bool
 | 3, [v] => isNV v
 | i, l => ycB i l
noncomputable def yhV : Nat → List Value → Value
 | 0, [v] => flrW v
 | 1, [.int _ p, .int _ q, .int _ o, .int _ s] => plZ p q o s
 | i, l => ycV i l
noncomputable abbrev yhE (iv : List Int) (bv : List Bool) (vv : List Value) (sv : List ByteArray) : Env := { iv := iv, bv := bv, vv := vv, sv := sv, fi := yhI, fb := yhB, fv := yhV, et := 94 }
set_option maxHeartbeats 8000000 in
theorem yhup : Agree 26 3 0 (ycE [] [] [] []) (yhE [] [] [] []) := ⟨rfl, (by
   intro f hf
   funext l
   show yhI f l = ycI f l
   unfold yhI
   split <;> first | rfl | omega), (by
   intro f hf
   funext l
   show yhB f l = ycB f l
   unfold yhB
   split <;> first | rfl | omega), (by
   intro f hf
   funext l
   show yhV f l = ycV f l
   unfold yhV
   split <;> first | rfl | omega)⟩
theorem yhi_sz (k1 : IntKind) (a : Int) : yhI 0 [.int k1 a] = szE a := rfl
theorem yhi_sa (k1 : IntKind) (a : Int) : yhI 1 [.int k1 a] = satE a := rfl
theorem yhi_nv (k1 : IntKind) (a : Int) : yhI 2 [.int k1 a] = svE a := rfl
theorem yhi_so (k1 : IntKind) (a : Int) : yhI 4 [.int k1 a] = soE a := rfl
theorem yhi_bd (k1 : IntKind) (a : Int) (k2 : IntKind) (o : Int) : yhI 5 [.int k1 a, .int k2 o] = bdE a o := rfl
theorem yhi_mdn (k1 : IntKind) (a : Int) (k2 : IntKind) (b : Int) (k3 : IntKind) (c : Int) : yhI 6 [.int k1 a, .int k2 b, .int k3 c] = mdN a b c := rfl
theorem yhi_mde (k1 : IntKind) (a : Int) (k2 : IntKind) (b : Int) (k3 : IntKind) (c : Int) : yhI 7 [.int k1 a, .int k2 b, .int k3 c] = mdE a b c := rfl
theorem yhi_fe (k1 : IntKind) (a : Int) (k2 : IntKind) (s : Int) : yhI 13 [.int k1 a, .int k2 s] = feE a s := rfl
theorem yhi_cl (k1 : IntKind) (v : Int) (k2 : IntKind) (lo : Int) (k3 : IntKind) (hi : Int) : yhI 26 [.int k1 v, .int k2 lo, .int k3 hi] = clI v lo hi := rfl
theorem yhi_ada (k1 : IntKind) (m : Int) (k2 : IntKind) (s : Int) (k3 : IntKind) (p : Int) : yhI 27 [.int k1 m, .int k2 s, .int k3 p] = adA m s p := rfl
theorem yhi_ads (k1 : IntKind) (m : Int) (k2 : IntKind) (s : Int) (k3 : IntKind) (p : Int) : yhI 28 [.int k1 m, .int k2 s, .int k3 p] = adS m s p := rfl
theorem yhi_ade (k1 : IntKind) (m : Int) (k2 : IntKind) (s : Int) (k3 : IntKind) (p : Int) : yhI 29 [.int k1 m, .int k2 s, .int k3 p] = adE m s p := rfl
theorem yhi_se (k1 : IntKind) (a : Int) (k2 : IntKind) (b : Int) : yhI 30 [.int k1 a, .int k2 b] = spI a b := rfl
theorem yhi_mi (k1 : IntKind) (a : Int) (k2 : IntKind) (b : Int) : yhI 31 [.int k1 a, .int k2 b] = miI a b := rfl
theorem yhi_dv (k1 : IntKind) (a : Int) (k2 : IntKind) (b : Int) : yhI 32 [.int k1 a, .int k2 b] = a / b := rfl
theorem yhi_dw (k1 : IntKind) (a : Int) (k2 : IntKind) (b : Int) : yhI 33 [.int k1 a, .int k2 b] = a % b := rfl
theorem yhi_sve (k1 : IntKind) (p : Int) (k2 : IntKind) (q : Int) (k3 : IntKind) (l : Int) : yhI 35 [.int k1 p, .int k2 q, .int k3 l] = svK p q l := rfl
theorem yhi_sts (k1 : IntKind) (s : Int) (k2 : IntKind) (o : Int) : yhI 36 [.int k1 s, .int k2 o] = stS s o := rfl
theorem yhi_ple (k1 : IntKind) (p : Int) (k2 : IntKind) (q : Int) (k3 : IntKind) (o : Int) (k4 : IntKind) (s : Int) : yhI 37 [.int k1 p, .int k2 q, .int k3 o, .int k4 s] = plE p q o s := rfl
theorem yhi_stf (k1 : IntKind) (p : Int) (k2 : IntKind) (q : Int) (k3 : IntKind) (l : Int) (k4 : IntKind) (s : Int) (k5 : IntKind) (o : Int) : yhI 41 [.int k1 p, .int k2 q, .int k3 l, .int k4 s, .int k5 o] = stF p q l s o := rfl
theorem yhb_fm (k1 : IntKind) (a : Int) (k2 : IntKind) (s : Int) : yhB 0 [.int k1 a, .int k2 s] = decide (fmP a s) := rfl
theorem yhb_isn (v : Value) : yhB 3 [v] = isNV v := rfl
theorem yhv_flr (v : Value) : yhV 0 [v] = flrW v := rfl
theorem yhv_plz (k1 : IntKind) (p : Int) (k2 : IntKind) (q : Int) (k3 : IntKind) (o : Int) (k4 : IntKind) (s : Int) : yhV 1 [.int k1 p, .int k2 q, .int k3 o, .int k4 s] = plZ p q o s := rfl
def clamp_tree : Tree :=
 (.br (lt_ v0_ v1_)
 (.ret z1_)
 (.br (lt_ v2_ v1_)
 (.ret z1_)
 (.ret (.int .i64 (.i2 .min v0_ v2_)))))
abbrev yhc_clamp : Con := ⟨85, [z0_, z1_, z2_], (le_ v1_ v2_), (.int .i64 (.iapp 26 (.cons z0_ (.cons z1_ (.cons z2_ .nil))))), ⟨3, 0, 0, 0⟩, none⟩
theorem clamp_w : walk Tryz.prog 94 ⟨[], syG, [], [], []⟩ [] .v yhc_clamp yhc_clamp.n 3000 = some clamp_tree := by kernel_rfl
theorem clamp_h (v lo hi : Int) : Hyp_ yhc_clamp clamp_tree (yhE [v, lo, hi] [] [] []) := by
 intro hc hty
 simp only [yhc_clamp, Sy.holds, yhE, denV, denI, denB, denL, I2.den, VOp.den, List.getD_cons_zero, List.getD_cons_succ, Cst.den, syso, syse, syio, sybo, B2.ofInts, B2.denI, B2.denB, if_true, Bool.false_eq_true, if_false, Nat.div_one, Nat.mul_one, Nat.add_zero] at hc
 simp only [yhc_clamp, patsTyp, patTyp, patTypL, yhE, denV, denL, List.getD_cons_zero, List.getD_cons_succ, and_true, true_and] at hty
 unfold clamp_tree
 simp only [yhc_clamp, Tree.holds, Sy.holds, yhE, denV, denI, denB, denL, I2.den, VOp.den, List.getD_cons_zero, List.getD_cons_succ, Cst.den, syso, syse, syio, sybo, yhi_cl, B2.ofInts, B2.denI, B2.denB, if_true, Bool.false_eq_true, if_false, Nat.div_one, Nat.mul_one, Nat.add_zero]
 have hs := cl_spec v lo hi
 refine ⟨fun h0 => ?_, fun h0 => ?_⟩
 refine ?a0; rotate_left
 refine ⟨fun h1 => ?_, fun h1 => ?_⟩
 refine ?a1; rotate_left
 refine ?a2; rotate_left
 case a0 | a1 | a2 =>
  first
  | (exfalso; omega)
  | (rw [show clI v lo hi = lo by omega]; done)
  | (rw [show clI v lo hi = v by omega]; done)
  | (rw [show clI v lo hi = hi by omega]; done)
  | (refine congrArg (Value.int .i64) ?_; split <;> omega)
theorem yhg_clamp : yhc_clamp.Good Tryz.prog syG (yhE [] [] [] []) := good_of_walk (Γ := ⟨[], syG, [], [], []⟩) (ρ := yhE [] [] [] []) sym clamp_w rfl (fun _ _ _ _ => ok_nil) clamp_h
def rclamp_tree : Tree :=
 (.br (lt_ v0_ v1_)
 (.ret z1_)
 (.br (lt_ v2_ v1_)
 (.ret z1_)
 (.br (lt_ v2_ v0_)
 (.ret z2_)
 (.ret z0_))))
abbrev yhc_rclamp : Con := ⟨91, [z0_, z1_, z2_], (le_ v1_ v2_), (.int .i64 (.iapp 26 (.cons z0_ (.cons z1_ (.cons z2_ .nil))))), ⟨3, 0, 0, 0⟩, none⟩
theorem rclamp_w : walk Tryz.prog 94 ⟨[], syG, [], [], []⟩ [] .v yhc_rclamp yhc_rclamp.n 3000 = some rclamp_tree := by kernel_rfl
theorem rclamp_h (v lo hi : Int) : Hyp_ yhc_rclamp rclamp_tree (yhE [v, lo, hi] [] [] []) := by
 intro hc hty
 simp only [yhc_rclamp, Sy.holds, yhE, denV, denI, denB, denL, I2.den, VOp.den, List.getD_cons_zero, List.getD_cons_succ, Cst.den, syso, syse, syio, sybo, B2.ofInts, B2.denI, B2.denB, if_true, Bool.false_eq_true, if_false, Nat.div_one, Nat.mul_one, Nat.add_zero] at hc
 simp only [yhc_rclamp, patsTyp, patTyp, patTypL, yhE, denV, denL, List.getD_cons_zero, List.getD_cons_succ, and_true, true_and] at hty
 unfold rclamp_tree
 simp only [yhc_rclamp, Tree.holds, Sy.holds, yhE, denV, denI, denB, denL, I2.den, VOp.den, List.getD_cons_zero, List.getD_cons_succ, Cst.den, syso, syse, syio, sybo, yhi_cl, B2.ofInts, B2.denI, B2.denB, if_true, Bool.false_eq_true, if_false, Nat.div_one, Nat.mul_one, Nat.add_zero]
 have hs := cl_spec v lo hi
 refine ⟨fun h0 => ?_, fun h0 => ?_⟩
 refine ?a0; rotate_left
 refine ⟨fun h1 => ?_, fun h1 => ?_⟩
 refine ?a1; rotate_left
 refine ⟨fun h2 => ?_, fun h2 => ?_⟩
 refine ?a2; rotate_left
 refine ?a3; rotate_left
 case a0 | a1 | a2 | a3 =>
  first
  | (exfalso; omega)
  | (rw [show clI v lo hi = lo by omega]; done)
  | (rw [show clI v lo hi = v by omega]; done)
  | (rw [show clI v lo hi = hi by omega]; done)
theorem yhg_rclamp : yhc_rclamp.Good Tryz.prog syG (yhE [] [] [] []) := good_of_walk (Γ := ⟨[], syG, [], [], []⟩) (ρ := yhE [] [] [] []) sym rclamp_w rfl (fun _ _ _ _ => ok_nil) rclamp_h
def rless_tree : Tree :=
 (.br (lt_ v1_ (.lit 0))
 (.br (lt_ (wr_ (ad_ lM_ v1_)) v0_)
 (.ret (.tup (.cons (.int .i64 (.lit 0)) (.cons (.int .i64 (.lit 1)) .nil))))
 (.br (lt_ (.lit 0) v1_)
 (.br (lt_ v0_ (wr_ (ad_ lm_ v1_)))
 (.ret (.tup (.cons (.int .i64 (.lit 0)) (.cons (.int .i64 (.lit (-1))) .nil))))
 (.ret xryhqhtk15_))
 (.ret xryhqhtk15_)))
 (.br (lt_ (.lit 0) v1_)
 (.br (lt_ v0_ (wr_ (ad_ lm_ v1_)))
 (.ret (.tup (.cons (.int .i64 (.lit 0)) (.cons (.int .i64 (.lit (-1))) .nil))))
 (.ret xryhqhtk15_))
 (.ret xryhqhtk15_)))
abbrev yhc_rless : Con := ⟨46, [z0_, z1_], (an_ xryhqhtk9_ xryhqhtk4_), (.tup (.cons (.int .i64 (.iapp 2 (.cons (.int .i64 (sb_ v0_ v1_)) .nil))) (.cons (.int .i64 (.iapp 4 (.cons (.int .i64 (sb_ v0_ v1_)) .nil))) .nil))), ⟨2, 0, 0, 0⟩, none⟩
theorem rless_w : walk Tryz.prog 94 ⟨[], syG, [], [], []⟩ [] .v yhc_rless yhc_rless.n 3000 = some rless_tree := by kernel_rfl
theorem rless_h (a b : Int) : Hyp_ yhc_rless rless_tree (yhE [a, b] [] [] []) := by
 intro hc hty
 simp only [yhc_rless, Sy.holds, yhE, denV, denI, denB, denL, I2.den, VOp.den, List.getD_cons_zero, List.getD_cons_succ, Cst.den, syso, syse, syio, sybo, B2.ofInts, B2.denI, B2.denB, if_true, Bool.false_eq_true, if_false, Nat.div_one, Nat.mul_one, Nat.add_zero] at hc
 simp only [yhc_rless, patsTyp, patTyp, patTypL, yhE, denV, denL, List.getD_cons_zero, List.getD_cons_succ, and_true, true_and] at hty
 unfold rless_tree
 simp only [yhc_rless, Tree.holds, Sy.holds, yhE, denV, denI, denB, denL, I2.den, VOp.den, List.getD_cons_zero, List.getD_cons_succ, Cst.den, syso, syse, syio, sybo, yhi_nv, yhi_so, B2.ofInts, B2.denI, B2.denB, if_true, Bool.false_eq_true, if_false, Nat.div_one, Nat.mul_one, Nat.add_zero]
 refine ⟨fun h0 => ?_, fun h0 => ?_⟩
 have wf0 := wr_i64 (9223372036854775807 + b)
 refine ⟨fun h1 => ?_, fun h1 => ?_⟩
 refine ?a0; rotate_left
 refine ⟨fun h2 => ?_, fun h2 => ?_⟩
 have wf1 := wr_i64 ((-9223372036854775808) + b)
 refine ⟨fun h3 => ?_, fun h3 => ?_⟩
 refine ?a1; rotate_left
 have wf2 := wr_i64 (a - b)
 refine ?a2; rotate_left
 have wf3 := wr_i64 (a - b)
 refine ?a3; rotate_left
 refine ⟨fun h4 => ?_, fun h4 => ?_⟩
 have wf4 := wr_i64 ((-9223372036854775808) + b)
 refine ⟨fun h5 => ?_, fun h5 => ?_⟩
 refine ?a4; rotate_left
 have wf5 := wr_i64 (a - b)
 refine ?a5; rotate_left
 have wf6 := wr_i64 (a - b)
 refine ?a6; rotate_left
 case a0 | a1 | a2 | a3 | a4 | a5 | a6 =>
  have hs := svE_spec (a - b)
  first
  | (exfalso; omega)
  | (rw [show svE (a - b) = IntKind.wrap .i64 (a - b) by omega, show soE (a - b) = 0 by omega]; done)
  | (rw [show svE (a - b) = 0 by omega, show soE (a - b) = 1 by omega]; done)
  | (rw [show svE (a - b) = 0 by omega, show soE (a - b) = -1 by omega]; done)
theorem yhg_rless : yhc_rless.Good Tryz.prog syG (yhE [] [] [] []) := good_of_walk (Γ := ⟨[], syG, [], [], []⟩) (ρ := yhE [] [] [] []) sym rless_w rfl (fun _ _ _ _ => ok_nil) rless_h
def rdiv2_tree : Tree :=
 (.br (lt_ v0_ (.lit 0))
 (.br (.not (eq_ (wr_ (ml_ (wr_ (.i2 .quo v0_ (.lit 2))) (.lit 2))) v0_))
 (.ret (.tup (.cons (.int .i64 (wr_ (sb_ (wr_ (.i2 .quo v0_ (.lit 2))) (.lit 1)))) (.cons (.int .i64 (wr_ (sb_ v0_ (wr_ (ml_ (wr_ (sb_ (wr_ (.i2 .quo v0_ (.lit 2))) (.lit 1))) (.lit 2)))))) .nil))))
 (.ret (.tup (.cons (.int .i64 (wr_ (.i2 .quo v0_ (.lit 2)))) (.cons (.int .i64 (wr_ (sb_ v0_ (wr_ (ml_ (wr_ (.i2 .quo v0_ (.lit 2))) (.lit 2)))))) .nil)))))
 (.ret (.tup (.cons (.int .i64 (wr_ (.i2 .quo v0_ (.lit 2)))) (.cons (.int .i64 (wr_ (sb_ v0_ (wr_ (ml_ (wr_ (.i2 .quo v0_ (.lit 2))) (.lit 2)))))) .nil)))))
abbrev yhc_rdiv2 : Con := ⟨90, [z0_, (.int .i64 (.lit 2))], xryhqhtk9_, (.tup (.cons (.int .i64 (.iapp 32 (.cons z0_ (.cons (.int .i64 (.lit 2)) .nil)))) (.cons (.int .i64 (.iapp 33 (.cons z0_ (.cons (.int .i64 (.lit 2)) .nil)))) .nil))), ⟨1, 0, 0, 0⟩, none⟩
theorem rdiv2_w : walk Tryz.prog 94 ⟨[], syG, [], [], []⟩ [] .v yhc_rdiv2 yhc_rdiv2.n 3000 = some rdiv2_tree := by kernel_rfl
theorem rdiv2_h (a : Int) : Hyp_ yhc_rdiv2 rdiv2_tree (yhE [a] [] [] []) := by
 intro hc hty
 simp only [yhc_rdiv2, Sy.holds, yhE, denV, denI, denB, denL, I2.den, VOp.den, List.getD_cons_zero, List.getD_cons_succ, Cst.den, syso, syse, syio, sybo, B2.ofInts, B2.denI, B2.denB, if_true, Bool.false_eq_true, if_false, Nat.div_one, Nat.mul_one, Nat.add_zero] at hc
 simp only [yhc_rdiv2, patsTyp, patTyp, patTypL, yhE, denV, denL, List.getD_cons_zero, List.getD_cons_succ, and_true, true_and] at hty
 unfold rdiv2_tree
 simp only [yhc_rdiv2, Tree.holds, Sy.holds, yhE, denV, denI, denB, denL, I2.den, VOp.den, List.getD_cons_zero, List.getD_cons_succ, Cst.den, syso, syse, syio, sybo, yhi_dv, yhi_dw, B2.ofInts, B2.denI, B2.denB, if_true, Bool.false_eq_true, if_false, Nat.div_one, Nat.mul_one, Nat.add_zero]
 have e1 := tdiv_spec a (show (0 : Int) < 2 by decide)
 refine ⟨fun h0 => ?_, fun h0 => ?_⟩
 have wf0 := wr_i64 (Int.tdiv a 2)
 have wf1 := wr_i64 ((IntKind.wrap .i64 (Int.tdiv a 2)) * 2)
 refine ⟨fun h1 => ?_, fun h1 => ?_⟩
 have wf2 := wr_i64 ((IntKind.wrap .i64 (Int.tdiv a 2)) - 1)
 have wf3 := wr_i64 ((IntKind.wrap .i64 ((IntKind.wrap .i64 (Int.tdiv a 2)) - 1)) * 2)
 have wf4 := wr_i64 (a - (IntKind.wrap .i64 ((IntKind.wrap .i64 ((IntKind.wrap .i64 (Int.tdiv a 2)) - 1)) * 2)))
 refine ?a0; rotate_left
 have wf5 := wr_i64 (a - (IntKind.wrap .i64 ((IntKind.wrap .i64 (Int.tdiv a 2)) * 2)))
 refine ?a1; rotate_left
 have wf6 := wr_i64 (Int.tdiv a 2)
 have wf7 := wr_i64 ((IntKind.wrap .i64 (Int.tdiv a 2)) * 2)
 have wf8 := wr_i64 (a - (IntKind.wrap .i64 ((IntKind.wrap .i64 (Int.tdiv a 2)) * 2)))
 refine ?a2; rotate_left
 case a0 | a1 | a2 =>
  all_goals first | omega | rfl | (simp only [Value.tuple.injEq, Value.agg.injEq, Value.int.injEq, Value.bool.injEq, Array.mk.injEq, List.cons.injEq, true_and, and_true]; omega) | (refine congrArg Value.bool (Bool.eq_iff_iff.2 ?_); simp only [beq_iff_eq, decide_eq_true_eq, true_iff, false_iff, Bool.false_eq_true, Bool.not_eq_true', Bool.and_eq_true, Bool.or_eq_true, decide_eq_false_iff_not]; omega)
theorem yhg_rdiv2 : yhc_rdiv2.Good Tryz.prog syG (yhE [] [] [] []) := good_of_walk (Γ := ⟨[], syG, [], [], []⟩) (ρ := yhE [] [] [] []) sym rdiv2_w rfl (fun _ _ _ _ => ok_nil) rdiv2_h
def rdiv1024_tree : Tree :=
 (.br (lt_ v0_ (.lit 0))
 (.br (.not (eq_ (wr_ (ml_ (wr_ (.i2 .quo v0_ (.lit 1024))) (.lit 1024))) v0_))
 (.ret (.tup (.cons (.int .i64 (wr_ (sb_ (wr_ (.i2 .quo v0_ (.lit 1024))) (.lit 1)))) (.cons (.int .i64 (wr_ (sb_ v0_ (wr_ (ml_ (wr_ (sb_ (wr_ (.i2 .quo v0_ (.lit 1024))) (.lit 1))) (.lit 1024)))))) .nil))))
 (.ret (.tup (.cons (.int .i64 (wr_ (.i2 .quo v0_ (.lit 1024)))) (.cons (.int .i64 (wr_ (sb_ v0_ (wr_ (ml_ (wr_ (.i2 .quo v0_ (.lit 1024))) (.lit 1024)))))) .nil)))))
 (.ret (.tup (.cons (.int .i64 (wr_ (.i2 .quo v0_ (.lit 1024)))) (.cons (.int .i64 (wr_ (sb_ v0_ (wr_ (ml_ (wr_ (.i2 .quo v0_ (.lit 1024))) (.lit 1024)))))) .nil)))))
abbrev yhc_rdiv1024 : Con := ⟨90, [z0_, (.int .i64 (.lit 1024))], xryhqhtk9_, (.tup (.cons (.int .i64 (.iapp 32 (.cons z0_ (.cons (.int .i64 (.lit 1024)) .nil)))) (.cons (.int .i64 (.iapp 33 (.cons z0_ (.cons (.int .i64 (.lit 1024)) .nil)))) .nil))), ⟨1, 0, 0, 0⟩, none⟩
theorem rdiv1024_w : walk Tryz.prog 94 ⟨[], syG, [], [], []⟩ [] .v yhc_rdiv1024 yhc_rdiv1024.n 3000 = some rdiv1024_tree := by kernel_rfl
theorem rdiv1024_h (a : Int) : Hyp_ yhc_rdiv1024 rdiv1024_tree (yhE [a] [] [] []) := by
 intro hc hty
 simp only [yhc_rdiv1024, Sy.holds, yhE, denV, denI, denB, denL, I2.den, VOp.den, List.getD_cons_zero, List.getD_cons_succ, Cst.den, syso, syse, syio, sybo, B2.ofInts, B2.denI, B2.denB, if_true, Bool.false_eq_true, if_false, Nat.div_one, Nat.mul_one, Nat.add_zero] at hc
 simp only [yhc_rdiv1024, patsTyp, patTyp, patTypL, yhE, denV, denL, List.getD_cons_zero, List.getD_cons_succ, and_true, true_and] at hty
 unfold rdiv1024_tree
 simp only [yhc_rdiv1024, Tree.holds, Sy.holds, yhE, denV, denI, denB, denL, I2.den, VOp.den, List.getD_cons_zero, List.getD_cons_succ, Cst.den, syso, syse, syio, sybo, yhi_dv, yhi_dw, B2.ofInts, B2.denI, B2.denB, if_true, Bool.false_eq_true, if_false, Nat.div_one, Nat.mul_one, Nat.add_zero]
 have e1 := tdiv_spec a (show (0 : Int) < 1024 by decide)
 refine ⟨fun h0 => ?_, fun h0 => ?_⟩
 have wf0 := wr_i64 (Int.tdiv a 1024)
 have wf1 := wr_i64 ((IntKind.wrap .i64 (Int.tdiv a 1024)) * 1024)
 refine ⟨fun h1 => ?_, fun h1 => ?_⟩
 have wf2 := wr_i64 ((IntKind.wrap .i64 (Int.tdiv a 1024)) - 1)
 have wf3 := wr_i64 ((IntKind.wrap .i64 ((IntKind.wrap .i64 (Int.tdiv a 1024)) - 1)) * 1024)
 have wf4 := wr_i64 (a - (IntKind.wrap .i64 ((IntKind.wrap .i64 ((IntKind.wrap .i64 (Int.tdiv a 1024)) - 1)) * 1024)))
 refine ?a0; rotate_left
 have wf5 := wr_i64 (a - (IntKind.wrap .i64 ((IntKind.wrap .i64 (Int.tdiv a 1024)) * 1024)))
 refine ?a1; rotate_left
 have wf6 := wr_i64 (Int.tdiv a 1024)
 have wf7 := wr_i64 ((IntKind.wrap .i64 (Int.tdiv a 1024)) * 1024)
 have wf8 := wr_i64 (a - (IntKind.wrap .i64 ((IntKind.wrap .i64 (Int.tdiv a 1024)) * 1024)))
 refine ?a2; rotate_left
 case a0 | a1 | a2 =>
  all_goals first | omega | rfl | (simp only [Value.tuple.injEq, Value.agg.injEq, Value.int.injEq, Value.bool.injEq, Array.mk.injEq, List.cons.injEq, true_and, and_true]; omega) | (refine congrArg Value.bool (Bool.eq_iff_iff.2 ?_); simp only [beq_iff_eq, decide_eq_true_eq, true_iff, false_iff, Bool.false_eq_true, Bool.not_eq_true', Bool.and_eq_true, Bool.or_eq_true, decide_eq_false_iff_not]; omega)
theorem yhg_rdiv1024 : yhc_rdiv1024.Good Tryz.prog syG (yhE [] [] [] []) := good_of_walk (Γ := ⟨[], syG, [], [], []⟩) (ρ := yhE [] [] [] []) sym rdiv1024_w rfl (fun _ _ _ _ => ok_nil) rdiv1024_h
def adjust_tree : Tree :=
 (.need (an_ (an_ (le_ (.lit 0) v0_) (le_ v0_ (.lit 4294967295))) xryhqhtk4_)
 (.br (.not (eq_ (.iapp 13 (.cons (.int .u32 v0_) (.cons z1_ .nil))) (.lit 0)))
 (.ret (.tup (.cons xryhqhtk17_ (.cons (.err (.iapp 13 (.cons (.int .u32 v0_) (.cons z1_ .nil)))) .nil))))
 (.br (lt_ xryhqhtk5_ (.lit 1))
 (.ret (.tup (.cons xryhqhtk17_ (.cons (.iface 94 (.int .i64 (.lit 2))) .nil))))
 (.br (lt_ (.lit 4294967295) xryhqhtk5_)
 (.ret (.tup (.cons xryhqhtk17_ (.cons (.iface 94 (.int .i64 (.lit 2))) .nil))))
 (.ret (.tup (.cons (.agg (.cons (.int .u32 (.wrap .u32 xryhqhtk5_)) (.cons z1_ .nil))) (.cons (.cst .nilI) .nil))))))))
abbrev yhc_adjust : Con := ⟨50, [(.agg (.cons (.int .u32 v0_) (.cons z1_ .nil))), z2_], (an_ (an_ (an_ (le_ (.lit 0) v0_) (le_ v0_ (.lit 4294967295))) xryhqhtk4_) xryhqhtk8_), (.tup (.cons (.agg (.cons (.int .u32 (.iapp 27 (.cons (.int .u32 v0_) (.cons z1_ (.cons z2_ .nil))))) (.cons (.int .i64 (.iapp 28 (.cons (.int .u32 v0_) (.cons z1_ (.cons z2_ .nil))))) .nil))) (.cons (.err (.iapp 29 (.cons (.int .u32 v0_) (.cons z1_ (.cons z2_ .nil))))) .nil))), ⟨3, 0, 0, 0⟩, none⟩
theorem adjust_w : walk Tryz.prog 94 ⟨[yac_rcheck, yhc_clamp], syG, [], [], []⟩ [] .v yhc_adjust yhc_adjust.n 3000 = some adjust_tree := by kernel_rfl
theorem adjust_h (m s p : Int) : Hyp_ yhc_adjust adjust_tree (yhE [m, s, p] [] [] []) := by
 intro hc hty
 simp only [yhc_adjust, Sy.holds, yhE, denV, denI, denB, denL, I2.den, VOp.den, List.getD_cons_zero, List.getD_cons_succ, Cst.den, syso, syse, syio, sybo, B2.ofInts, B2.denI, B2.denB, if_true, Bool.false_eq_true, if_false, Nat.div_one, Nat.mul_one, Nat.add_zero] at hc
 simp only [yhc_adjust, patsTyp, patTyp, patTypL, yhE, denV, denL, List.getD_cons_zero, List.getD_cons_succ, and_true, true_and] at hty
 unfold adjust_tree
 simp only [yhc_adjust, Tree.holds, Sy.holds, yhE, denV, denI, denB, denL, I2.den, VOp.den, List.getD_cons_zero, List.getD_cons_succ, Cst.den, syso, syse, syio, sybo, yhi_fe, yhi_cl, yhi_ada, yhi_ads, yhi_ade, B2.ofInts, B2.denI, B2.denB, if_true, Bool.false_eq_true, if_false, Nat.div_one, Nat.mul_one, Nat.add_zero]
 obtain ⟨pr1, pr2, pr3⟩ := ad_prod (p := p) hc.1.1.1 hc.1.1.2
 have w1 : IntKind.wrap .i64 m = m := by have := wr_i64 m; omega
 have w2 : IntKind.wrap .i64 (1073741824 + clI p (-1073741824) 1073741824) = 1073741824 + clI p (-1073741824) 1073741824 := by have := wr_i64 (1073741824 + clI p (-1073741824) 1073741824); omega
 have w3 : IntKind.wrap .i64 (m * (1073741824 + clI p (-1073741824) 1073741824)) = m * (1073741824 + clI p (-1073741824) 1073741824) := by have := wr_i64 (m * (1073741824 + clI p (-1073741824) 1073741824)); omega
 have e4 : m * (1073741824 + clI p (-1073741824) 1073741824) / 1073741824 = adF m p := rfl
 simp only [w1, w2, w3, shr30, e4]
 have ha := ad_spec m s p
 refine ⟨?_, fun h0 => ?_⟩
 ·
  omega
 refine ⟨fun h1 => ?_, fun h1 => ?_⟩
 refine ?a0; rotate_left
 refine ⟨fun h2 => ?_, fun h2 => ?_⟩
 refine ?a1; rotate_left
 refine ⟨fun h3 => ?_, fun h3 => ?_⟩
 refine ?a2; rotate_left
 refine ?a3; rotate_left
 case a0 | a1 | a2 | a3 =>
  rcases ha with ⟨f, f1, a1, a2, a3⟩ | ⟨f, f1, ⟨b1, b2, a1, a2, a3⟩ | ⟨b1, a1, a2, a3⟩⟩
  all_goals first
  | (exfalso; omega)
  | (rw [a1, a2, a3, f1]; done)
  | (rw [a1, a2, a3, f1]; rfl)
  | (rw [a1, a2, a3]; rfl)
  | (rw [a1, a2, a3, show IntKind.wrap .u32 (adF m p) = adF m p by (have := wr_u32 (adF m p); omega)]; rfl)
theorem yhg_adjust : yhc_adjust.Good Tryz.prog syG (yhE [] [] [] []) := good_of_walk (Γ := ⟨[yac_rcheck, yhc_clamp], syG, [], [], []⟩) (ρ := yhE [] [] [] []) sym adjust_w rfl (fun _ _ _ _ => (ok_cons (Con.Good.env (Con.Good.up (Con.Good.up (Con.Good.up yag_rcheck ybup rfl) ycup rfl) yhup rfl) _ _ _ _) (ok_cons (Con.Good.env yhg_clamp _ _ _ _) ok_nil))) adjust_h
abbrev yhc_rmdiv : Con := ⟨52, [z0_, z1_, z2_], (an_ (an_ xryhqhtk9_ xryhqhtk4_) xryhqhtk8_), (.tup (.cons (.int .i64 (.iapp 6 (.cons z0_ (.cons z1_ (.cons z2_ .nil))))) (.cons (.int .i64 (.iapp 7 (.cons z0_ (.cons z1_ (.cons z2_ .nil))))) .nil))), ⟨3, 0, 0, 0⟩, none⟩
theorem yhg_rmdiv : yhc_rmdiv.Good Tryz.prog syG (yhE [] [] [] []) := good_flat rfl rfl rfl (by
 intro a b c hc β ok w hG
 have hc' := hc
 simp only [Tree.holds, Sy.holds, AllN, Env.more, yhE, List.cons_append, List.nil_append, List.append_nil, denV, denI, denB, denL, I2.den, VOp.den, List.getD_cons_zero, List.getD_cons_succ, Cst.den, syso, syse, syio, sybo, yhi_mdn, yhi_mde, List.map_nil, List.map_cons, B2.ofInts, B2.denI, B2.denB, if_true, Bool.false_eq_true, if_false, Nat.div_one, Nat.mul_one, Nat.add_zero, holds] at hc
 exact rmuldiv a b c w hc.1.1 hc.1.2 hc.2)
def radjust_tree : Tree :=
 (.need (an_ (an_ (le_ (.lit 0) v0_) (le_ v0_ (.lit 4294967295))) xryhqhtk4_)
 (.br (.not (.bapp 0 (.cons (.int .u32 v0_) (.cons z1_ .nil))))
 (.ret (.tup (.cons xryhqhtk17_ (.cons (.int .i64 (.lit 1)) .nil))))
 (.br (lt_ (.lit 1073741824) v2_)
 (.need (an_ (le_ lm_ (wr_ v0_)) (le_ (wr_ v0_) lM_))
 (.br (.not (eq_ (.iapp 7 (.cons (.int .i64 (wr_ v0_)) (.cons (.int .i64 (.lit 2147483648)) (.cons (.int .i64 (.lit 1073741824)) .nil)))) (.lit 0)))
 (.ret xryhqhtk3_)
 (.br (lt_ xryhqhtk13_ (.lit 1))
 (.ret xryhqhtk3_)
 (.br (lt_ (.lit 4294967295) xryhqhtk13_)
 (.ret xryhqhtk3_)
 (.ret (.tup (.cons (.agg (.cons (.int .u32 (.wrap .u32 xryhqhtk13_)) (.cons z1_ .nil))) (.cons (.int .i64 (.lit 0)) .nil))))))))
 (.br (lt_ v2_ (.lit (-1073741824)))
 (.need (an_ (le_ lm_ (wr_ v0_)) (le_ (wr_ v0_) lM_))
 (.br (.not (eq_ (.iapp 7 (.cons (.int .i64 (wr_ v0_)) (.cons (.int .i64 (.lit 0)) (.cons (.int .i64 (.lit 1073741824)) .nil)))) (.lit 0)))
 (.ret xryhqhtk3_)
 (.br (lt_ xryhqhtk16_ (.lit 1))
 (.ret xryhqhtk3_)
 (.br (lt_ (.lit 4294967295) xryhqhtk16_)
 (.ret xryhqhtk3_)
 (.ret (.tup (.cons (.agg (.cons (.int .u32 (.wrap .u32 xryhqhtk16_)) (.cons z1_ .nil))) (.cons (.int .i64 (.lit 0)) .nil))))))))
 (.need (an_ (an_ (le_ lm_ (wr_ v0_)) (le_ (wr_ v0_) lM_)) (an_ (le_ lm_ (wr_ (ad_ (.lit 1073741824) v2_))) (le_ (wr_ (ad_ (.lit 1073741824) v2_)) lM_)))
 (.br (.not (eq_ (.iapp 7 (.cons (.int .i64 (wr_ v0_)) (.cons (.int .i64 (wr_ (ad_ (.lit 1073741824) v2_))) (.cons (.int .i64 (.lit 1073741824)) .nil)))) (.lit 0)))
 (.ret xryhqhtk3_)
 (.br (lt_ xryhqhtk12_ (.lit 1))
 (.ret xryhqhtk3_)
 (.br (lt_ (.lit 4294967295) xryhqhtk12_)
 (.ret xryhqhtk3_)
 (.ret (.tup (.cons (.agg (.cons (.int .u32 (.wrap .u32 xryhqhtk12_)) (.cons z1_ .nil))) (.cons (.int .i64 (.lit 0)) .nil))))))))))))
abbrev yhc_radjust : Con := ⟨13, [(.agg (.cons (.int .u32 v0_) (.cons z1_ .nil))), z2_], (an_ (an_ (an_ (le_ (.lit 0) v0_) (le_ v0_ (.lit 4294967295))) xryhqhtk4_) xryhqhtk8_), (.tup (.cons (.agg (.cons (.int .u32 (.iapp 27 (.cons (.int .u32 v0_) (.cons z1_ (.cons z2_ .nil))))) (.cons (.int .i64 (.iapp 28 (.cons (.int .u32 v0_) (.cons z1_ (.cons z2_ .nil))))) .nil))) (.cons (.int .i64 (.iapp 29 (.cons (.int .u32 v0_) (.cons z1_ (.cons z2_ .nil))))) .nil))), ⟨3, 0, 0, 0⟩, none⟩
theorem radjust_w : walk Tryz.prog 94 ⟨[yac_rfmay, yhc_rmdiv], syG, [], [], []⟩ [] .v yhc_radjust yhc_radjust.n 3000 = some radjust_tree := by kernel_rfl
theorem radjust_h (m s p : Int) : Hyp_ yhc_radjust radjust_tree (yhE [m, s, p] [] [] []) := by
 intro hc hty
 simp only [yhc_radjust, Sy.holds, yhE, denV, denI, denB, denL, I2.den, VOp.den, List.getD_cons_zero, List.getD_cons_succ, Cst.den, syso, syse, syio, sybo, B2.ofInts, B2.denI, B2.denB, if_true, Bool.false_eq_true, if_false, Nat.div_one, Nat.mul_one, Nat.add_zero] at hc
 simp only [yhc_radjust, patsTyp, patTyp, patTypL, yhE, denV, denL, List.getD_cons_zero, List.getD_cons_succ, and_true, true_and] at hty
 unfold radjust_tree
 simp only [yhc_radjust, Tree.holds, Sy.holds, yhE, denV, denI, denB, denL, I2.den, VOp.den, List.getD_cons_zero, List.getD_cons_succ, Cst.den, syso, syse, syio, sybo, yhi_mdn, yhi_mde, yhi_ada, yhi_ads, yhi_ade, yhb_fm, B2.ofInts, B2.denI, B2.denB, if_true, Bool.false_eq_true, if_false, Nat.div_one, Nat.mul_one, Nat.add_zero]
 obtain ⟨pr1, pr2, pr3⟩ := ad_prod (p := p) hc.1.1.1 hc.1.1.2
 have w1 : IntKind.wrap .i64 m = m := by have := wr_i64 m; omega
 have hcl := cl_spec p (-1073741824) 1073741824
 obtain ⟨md1, md2⟩ := ad_md (p := p) hc.1.1.1 hc.1.1.2
 simp only [w1]
 have ha := ad_spec m s p
 have wq := wr_i64 (1073741824 + p)
 have key : ∀ x, x = 1073741824 + clI p (-1073741824) 1073741824 → mdN m x 1073741824 = adF m p ∧ mdE m x 1073741824 = 0 := fun x h => by rw [h]; exact ⟨md1, md2⟩
 refine ⟨?_, fun h0 => ?_⟩
 ·
  omega
 refine ⟨fun h1 => ?_, fun h1 => ?_⟩
 refine ?a0; rotate_left
 refine ⟨fun h2 => ?_, fun h2 => ?_⟩
 refine ⟨?_, fun h3 => ?_⟩
 ·
  omega
 refine ⟨fun h4 => ?_, fun h4 => ?_⟩
 refine ?a1; rotate_left
 refine ⟨fun h5 => ?_, fun h5 => ?_⟩
 refine ?a2; rotate_left
 refine ⟨fun h6 => ?_, fun h6 => ?_⟩
 refine ?a3; rotate_left
 refine ?a4; rotate_left
 refine ⟨fun h7 => ?_, fun h7 => ?_⟩
 refine ⟨?_, fun h8 => ?_⟩
 ·
  omega
 refine ⟨fun h9 => ?_, fun h9 => ?_⟩
 refine ?a5; rotate_left
 refine ⟨fun h10 => ?_, fun h10 => ?_⟩
 refine ?a6; rotate_left
 refine ⟨fun h11 => ?_, fun h11 => ?_⟩
 refine ?a7; rotate_left
 refine ?a8; rotate_left
 refine ⟨?_, fun h12 => ?_⟩
 ·
  omega
 refine ⟨fun h13 => ?_, fun h13 => ?_⟩
 refine ?a9; rotate_left
 refine ⟨fun h14 => ?_, fun h14 => ?_⟩
 refine ?a10; rotate_left
 refine ⟨fun h15 => ?_, fun h15 => ?_⟩
 refine ?a11; rotate_left
 refine ?a12; rotate_left
 case a0 | a1 | a2 | a3 | a4 | a5 | a6 | a7 | a8 | a9 | a10 | a11 | a12 =>
  first
  | (exfalso; omega)
  | (rcases ha with ⟨f, f1, a1, a2, a3⟩ | ⟨f, f1, ha⟩
     · first
       | exact absurd (decide_eq_true f) (by assumption)
       | exact absurd (of_decide_eq_true (by assumption)) f
       | exact absurd (of_decide_eq_true (Decidable.of_not_not (by assumption))) f
       | (rw [a1, a2, a3]; first | done | rfl)
     · first
       | exact absurd (decide_eq_true f) (by assumption)
       | (have hk := key 2147483648 (by omega)
          first
          | exact absurd hk.2 (by assumption)
          | (simp only [hk.1, hk.2] at *
             rcases ha with ⟨b1, b2, a1, a2, a3⟩ | ⟨b1, a1, a2, a3⟩
             all_goals first
             | (exfalso; omega)
             | (rw [a1, a2, a3]; first | done | rfl)
             | (rw [a1, a2, a3, show IntKind.wrap .u32 (adF m p) = adF m p by (have := wr_u32 (adF m p); omega)]; first | done | rfl)))
       | (have hk := key 0 (by omega)
          first
          | exact absurd hk.2 (by assumption)
          | (simp only [hk.1, hk.2] at *
             rcases ha with ⟨b1, b2, a1, a2, a3⟩ | ⟨b1, a1, a2, a3⟩
             all_goals first
             | (exfalso; omega)
             | (rw [a1, a2, a3]; first | done | rfl)
             | (rw [a1, a2, a3, show IntKind.wrap .u32 (adF m p) = adF m p by (have := wr_u32 (adF m p); omega)]; first | done | rfl)))
       | (have e0 : IntKind.wrap .i64 (1073741824 + p) = 1073741824 + p := by omega
          simp only [e0] at *
          have hk := key (1073741824 + p) (by omega)
          first
          | exact absurd hk.2 (by assumption)
          | (simp only [hk.1, hk.2] at *
             rcases ha with ⟨b1, b2, a1, a2, a3⟩ | ⟨b1, a1, a2, a3⟩
             all_goals first
             | (exfalso; omega)
             | (rw [a1, a2, a3]; first | done | rfl)
             | (rw [a1, a2, a3, show IntKind.wrap .u32 (adF m p) = adF m p by (have := wr_u32 (adF m p); omega)]; first | done | rfl)))
       | skip)
  | skip
theorem yhg_radjust : yhc_radjust.Good Tryz.prog syG (yhE [] [] [] []) := good_of_walk (Γ := ⟨[yac_rfmay, yhc_rmdiv], syG, [], [], []⟩) (ρ := yhE [] [] [] []) sym radjust_w rfl (fun _ _ _ _ => (ok_cons (Con.Good.env (Con.Good.up (Con.Good.up (Con.Good.up yag_rfmay ybup rfl) ycup rfl) yhup rfl) _ _ _ _) (ok_cons (Con.Good.env yhg_rmdiv _ _ _ _) ok_nil))) radjust_h
def both_tree : Tree :=
 (.br (lt_ v0_ (.lit 0))
 (.ret xryhqhtk14_)
 (.br (lt_ (.lit 1048576) v0_)
 (.ret xryhqhtk14_)
 (.br (lt_ v1_ (.lit 0))
 (.ret xryhqhtk14_)
 (.br (lt_ (.lit 1048576) v1_)
 (.ret xryhqhtk14_)
 (.ret (.tup (.cons (.int .i64 (wr_ (ad_ v0_ v1_))) (.cons (.cst .nilI) .nil))))))))
abbrev yhc_both : Con := ⟨112, [z0_, z1_], (an_ (le_ (.lit 0) v0_) (an_ (le_ v0_ (.lit 1048576)) (an_ (le_ (.lit 0) v1_) (le_ v1_ (.lit 1048576))))), (.tup (.cons (.int .i64 (ad_ v0_ v1_)) (.cons (.err (.lit 0)) .nil))), ⟨2, 0, 0, 0⟩, none⟩
theorem both_w : walk Tryz.prog 94 ⟨[], syG, [], [], []⟩ [] .v yhc_both yhc_both.n 3000 = some both_tree := by kernel_rfl
theorem both_h (a b : Int) : Hyp_ yhc_both both_tree (yhE [a, b] [] [] []) := by
 intro hc hty
 simp only [yhc_both, Sy.holds, yhE, denV, denI, denB, denL, I2.den, VOp.den, List.getD_cons_zero, List.getD_cons_succ, Cst.den, syso, syse, syio, sybo, B2.ofInts, B2.denI, B2.denB, if_true, Bool.false_eq_true, if_false, Nat.div_one, Nat.mul_one, Nat.add_zero] at hc
 simp only [yhc_both, patsTyp, patTyp, patTypL, yhE, denV, denL, List.getD_cons_zero, List.getD_cons_succ, and_true, true_and] at hty
 unfold both_tree
 simp only [yhc_both, Tree.holds, Sy.holds, yhE, denV, denI, denB, denL, I2.den, VOp.den, List.getD_cons_zero, List.getD_cons_succ, Cst.den, syso, syse, syio, sybo, B2.ofInts, B2.denI, B2.denB, if_true, Bool.false_eq_true, if_false, Nat.div_one, Nat.mul_one, Nat.add_zero]
 refine ⟨fun h0 => ?_, fun h0 => ?_⟩
 refine ?a0; rotate_left
 refine ⟨fun h1 => ?_, fun h1 => ?_⟩
 refine ?a1; rotate_left
 refine ⟨fun h2 => ?_, fun h2 => ?_⟩
 refine ?a2; rotate_left
 refine ⟨fun h3 => ?_, fun h3 => ?_⟩
 refine ?a3; rotate_left
 have wf0 := wr_i64 (a + b)
 refine ?a4; rotate_left
 case a0 | a1 | a2 | a3 | a4 =>
  first
  | (exfalso; omega)
  | (rw [show IntKind.wrap .i64 (a + b) = a + b by omega]; done)
  | (rw [show IntKind.wrap .i64 (a + b) = a + b by omega]; rfl)
theorem yhg_both : yhc_both.Good Tryz.prog syG (yhE [] [] [] []) := good_of_walk (Γ := ⟨[], syG, [], [], []⟩) (ρ := yhE [] [] [] []) sym both_w rfl (fun _ _ _ _ => ok_nil) both_h
def spck_tree : Tree :=
 (.br (lt_ v1_ v0_)
 (.ret (.iface 94 (.int .i64 (.lit 1))))
 (.ret (.cst .nilI)))
abbrev yhc_spck : Con := ⟨37, [xryhqhtk11_], (.tt true), (.err (.iapp 30 (.cons z0_ (.cons z1_ .nil)))), ⟨2, 0, 0, 0⟩, none⟩
theorem spck_w : walk Tryz.prog 94 ⟨[], syG, [], [], []⟩ [] .v yhc_spck yhc_spck.n 3000 = some spck_tree := by kernel_rfl
theorem spck_h (a b : Int) : Hyp_ yhc_spck spck_tree (yhE [a, b] [] [] []) := by
 intro hc hty
 simp only [yhc_spck, Sy.holds, yhE, denV, denI, denB, denL, I2.den, VOp.den, List.getD_cons_zero, List.getD_cons_succ, Cst.den, syso, syse, syio, sybo, B2.ofInts, B2.denI, B2.denB, if_true, Bool.false_eq_true, if_false, Nat.div_one, Nat.mul_one, Nat.add_zero] at hc
 simp only [yhc_spck, patsTyp, patTyp, patTypL, yhE, denV, denL, List.getD_cons_zero, List.getD_cons_succ, and_true, true_and] at hty
 unfold spck_tree
 simp only [yhc_spck, Tree.holds, Sy.holds, yhE, denV, denI, denB, denL, I2.den, VOp.den, List.getD_cons_zero, List.getD_cons_succ, Cst.den, syso, syse, syio, sybo, yhi_se, B2.ofInts, B2.denI, B2.denB, if_true, Bool.false_eq_true, if_false, Nat.div_one, Nat.mul_one, Nat.add_zero]
 have hs := spI_spec a b
 refine ⟨fun h0 => ?_, fun h0 => ?_⟩
 refine ?a0; rotate_left
 refine ?a1; rotate_left
 case a0 | a1 =>
  first
  | (rw [show spI a b = 0 by omega]; rfl)
  | (rw [show spI a b = 1 by omega]; rfl)
theorem yhg_spck : yhc_spck.Good Tryz.prog syG (yhE [] [] [] []) := good_of_walk (Γ := ⟨[], syG, [], [], []⟩) (ρ := yhE [] [] [] []) sym spck_w rfl (fun _ _ _ _ => ok_nil) spck_h
def mid_tree : Tree :=
 (.br (.not (eq_ (.iapp 30 (.cons z0_ (.cons z1_ .nil))) (.lit 0)))
 (.ret (.tup (.cons (.int .i64 (.lit 0)) (.cons (.int .i64 (.lit 0)) (.cons (.err (.iapp 30 (.cons z0_ (.cons z1_ .nil)))) .nil)))))
 (.need (an_ xryhqhtk4_ (an_ (le_ lm_ xryhqhtk7_) (le_ xryhqhtk7_ lM_)))
 (.ret (.tup (.cons (.int .i64 xryhqhtk7_) (.cons (.int .i64 (.iapp 1 (.cons (.int .i64 (sb_ v1_ xryhqhtk7_)) .nil))) (.cons (.cst .nilI) .nil)))))))
abbrev yhc_mid : Con := ⟨80, [xryhqhtk11_], (an_ (le_ v0_ v1_) (an_ xryhqhtk9_ xryhqhtk4_)), (.tup (.cons (.int .i64 (.iapp 31 (.cons z0_ (.cons z1_ .nil)))) (.cons (.int .i64 (.iapp 1 (.cons (.int .i64 (sb_ v1_ (.iapp 31 (.cons z0_ (.cons z1_ .nil))))) .nil))) (.cons (.err (.lit 0)) .nil)))), ⟨2, 0, 0, 0⟩, none⟩
theorem mid_w : walk Tryz.prog 94 ⟨[yhc_spck, yac_subsat], syG, [], [], []⟩ [] .v yhc_mid yhc_mid.n 3000 = some mid_tree := by kernel_rfl
theorem mid_h (a b : Int) : Hyp_ yhc_mid mid_tree (yhE [a, b] [] [] []) := by
 intro hc hty
 simp only [yhc_mid, Sy.holds, yhE, denV, denI, denB, denL, I2.den, VOp.den, List.getD_cons_zero, List.getD_cons_succ, Cst.den, syso, syse, syio, sybo, B2.ofInts, B2.denI, B2.denB, if_true, Bool.false_eq_true, if_false, Nat.div_one, Nat.mul_one, Nat.add_zero] at hc
 simp only [yhc_mid, patsTyp, patTyp, patTypL, yhE, denV, denL, List.getD_cons_zero, List.getD_cons_succ, and_true, true_and] at hty
 unfold mid_tree
 simp only [yhc_mid, Tree.holds, Sy.holds, yhE, denV, denI, denB, denL, I2.den, VOp.den, List.getD_cons_zero, List.getD_cons_succ, Cst.den, syso, syse, syio, sybo, yhi_sa, yhi_se, yhi_mi, B2.ofInts, B2.denI, B2.denB, if_true, Bool.false_eq_true, if_false, Nat.div_one, Nat.mul_one, Nat.add_zero]
 have em : a + (b - a) / 2 = miI a b := rfl
 simp only [midw hc.1 hc.2.1 hc.2.2, em]
 have hs := spI_spec a b
 have hm : a ≤ miI a b ∧ miI a b ≤ b := by unfold miI; omega
 refine ⟨fun h0 => ?_, fun h0 => ?_⟩
 ·
  first
  | (exfalso; omega)
  | rfl
 refine ⟨?_, fun h1 => ?_⟩
 ·
  omega
 ·
  first
  | (exfalso; omega)
  | rfl
theorem yhg_mid : yhc_mid.Good Tryz.prog syG (yhE [] [] [] []) := good_of_walk (Γ := ⟨[yhc_spck, yac_subsat], syG, [], [], []⟩) (ρ := yhE [] [] [] []) sym mid_w rfl (fun _ _ _ _ => (ok_cons (Con.Good.env yhg_spck _ _ _ _) (ok_cons (Con.Good.env (Con.Good.up (Con.Good.up (Con.Good.up yag_subsat ybup rfl) ycup rfl) yhup rfl) _ _ _ _) ok_nil))) mid_h
def rmid_tree : Tree :=
 (.need xryhqhtk9_
 (.need xryhqhtk4_
 (.need (an_ xryhqhtk4_ (an_ (le_ lm_ xryhqhtk1_) (le_ xryhqhtk1_ lM_)))
 (.ret (.tup (.cons (.int .i64 xryhqhtk1_) (.cons (.int .i64 (.iapp 5 (.cons (.int .i64 (.iapp 2 (.cons (.int .i64 (sb_ v1_ xryhqhtk1_)) .nil))) (.cons (.int .i64 (.iapp 4 (.cons (.int .i64 (sb_ v1_ xryhqhtk1_)) .nil))) .nil)))) .nil)))))))
abbrev yhc_rmid : Con := ⟨89, [xryhqhtk11_], (an_ (le_ v0_ v1_) (an_ xryhqhtk9_ xryhqhtk4_)), (.tup (.cons (.int .i64 (.iapp 31 (.cons z0_ (.cons z1_ .nil)))) (.cons (.int .i64 (.iapp 1 (.cons (.int .i64 (sb_ v1_ (.iapp 31 (.cons z0_ (.cons z1_ .nil))))) .nil))) .nil))), ⟨2, 0, 0, 0⟩, none⟩
theorem rmid_w : walk Tryz.prog 94 ⟨[yhc_rdiv2, yhc_rless, yac_rbound], syG, [], [], []⟩ [] .v yhc_rmid yhc_rmid.n 3000 = some rmid_tree := by kernel_rfl
theorem rmid_h (a b : Int) : Hyp_ yhc_rmid rmid_tree (yhE [a, b] [] [] []) := by
 intro hc hty
 simp only [yhc_rmid, Sy.holds, yhE, denV, denI, denB, denL, I2.den, VOp.den, List.getD_cons_zero, List.getD_cons_succ, Cst.den, syso, syse, syio, sybo, B2.ofInts, B2.denI, B2.denB, if_true, Bool.false_eq_true, if_false, Nat.div_one, Nat.mul_one, Nat.add_zero] at hc
 simp only [yhc_rmid, patsTyp, patTyp, patTypL, yhE, denV, denL, List.getD_cons_zero, List.getD_cons_succ, and_true, true_and] at hty
 unfold rmid_tree
 simp only [yhc_rmid, Tree.holds, Sy.holds, yhE, denV, denI, denB, denL, I2.den, VOp.den, List.getD_cons_zero, List.getD_cons_succ, Cst.den, syso, syse, syio, sybo, yhi_sa, yhi_nv, yhi_so, yhi_bd, yhi_mi, yhi_dv, yhi_dw, B2.ofInts, B2.denI, B2.denB, if_true, Bool.false_eq_true, if_false, Nat.div_one, Nat.mul_one, Nat.add_zero]
 have e1 : IntKind.wrap .i64 (a / 2 + b / 2) = a / 2 + b / 2 := by have := wr_i64 (a / 2 + b / 2); omega
 have e2 : IntKind.wrap .i64 (a % 2 + b % 2) = a % 2 + b % 2 := by have := wr_i64 (a % 2 + b % 2); omega
 have e3 : (a % 2 + b % 2).tdiv 2 = (a % 2 + b % 2) / 2 := Int.tdiv_eq_ediv_of_nonneg (by omega)
 have e4 : IntKind.wrap .i64 ((a % 2 + b % 2) / 2) = (a % 2 + b % 2) / 2 := by have := wr_i64 ((a % 2 + b % 2) / 2); omega
 have e5 : IntKind.wrap .i64 (a / 2 + b / 2 + (a % 2 + b % 2) / 2) = miI a b := by (have := wr_i64 (a / 2 + b / 2 + (a % 2 + b % 2) / 2); unfold miI; omega)
 simp only [e1, e2, e3, e4, e5]
 have hm : a ≤ miI a b ∧ miI a b ≤ b := by unfold miI; omega
 refine ⟨?_, fun h0 => ?_⟩
 ·
  omega
 refine ⟨?_, fun h1 => ?_⟩
 ·
  omega
 refine ⟨?_, fun h2 => ?_⟩
 ·
  omega
 ·
  simp only [bd_sat]
  first | done | rfl
theorem yhg_rmid : yhc_rmid.Good Tryz.prog syG (yhE [] [] [] []) := good_of_walk (Γ := ⟨[yhc_rdiv2, yhc_rless, yac_rbound], syG, [], [], []⟩) (ρ := yhE [] [] [] []) sym rmid_w rfl (fun _ _ _ _ => (ok_cons (Con.Good.env yhg_rdiv2 _ _ _ _) (ok_cons (Con.Good.env yhg_rless _ _ _ _) (ok_cons (Con.Good.env (Con.Good.up (Con.Good.up (Con.Good.up yag_rbound ybup rfl) ycup rfl) yhup rfl) _ _ _ _) ok_nil)))) rmid_h
def sgrow_tree : Tree :=
 (.br (.not (eq_ (.iapp 30 (.cons z0_ (.cons z1_ .nil))) (.lit 0)))
 (.ret (.tup (.cons xryhqhtk18_ (.cons (.iface 94 (.int .i64 (.lit 1))) .nil))))
 (.br (lt_ v2_ (.lit 0))
 (.ret (.tup (.cons xryhqhtk18_ (.cons (.iface 94 (.int .i64 (.lit 1))) .nil))))
 (.need (an_ xryhqhtk9_ xryhqhtk8_)
 (.need (an_ xryhqhtk4_ xryhqhtk8_)
 (.ret (.tup (.cons xryhqhtk10_ (.cons (.cst .nilI) .nil))))))))
abbrev yhc_sgrow : Con := ⟨40, [xryhqhtk11_, z2_], (an_ (le_ v0_ v1_) (an_ (le_ (.lit 0) v2_) (an_ xryhqhtk9_ (an_ xryhqhtk4_ xryhqhtk8_)))), (.tup (.cons xryhqhtk10_ (.cons (.err (.lit 0)) .nil))), ⟨3, 0, 0, 0⟩, none⟩
theorem sgrow_w : walk Tryz.prog 94 ⟨[yhc_spck, yac_subsat, yac_addsat], syG, [], [], []⟩ [] .v yhc_sgrow yhc_sgrow.n 3000 = some sgrow_tree := by kernel_rfl
theorem sgrow_h (a b n : Int) : Hyp_ yhc_sgrow sgrow_tree (yhE [a, b, n] [] [] []) := by
 intro hc hty
 simp only [yhc_sgrow, Sy.holds, yhE, denV, denI, denB, denL, I2.den, VOp.den, List.getD_cons_zero, List.getD_cons_succ, Cst.den, syso, syse, syio, sybo, B2.ofInts, B2.denI, B2.denB, if_true, Bool.false_eq_true, if_false, Nat.div_one, Nat.mul_one, Nat.add_zero] at hc
 simp only [yhc_sgrow, patsTyp, patTyp, patTypL, yhE, denV, denL, List.getD_cons_zero, List.getD_cons_succ, and_true, true_and] at hty
 unfold sgrow_tree
 simp only [yhc_sgrow, Tree.holds, Sy.holds, yhE, denV, denI, denB, denL, I2.den, VOp.den, List.getD_cons_zero, List.getD_cons_succ, Cst.den, syso, syse, syio, sybo, yhi_sa, yhi_se, B2.ofInts, B2.denI, B2.denB, if_true, Bool.false_eq_true, if_false, Nat.div_one, Nat.mul_one, Nat.add_zero]
 refine ⟨fun h0 => ?_, fun h0 => ?_⟩
 refine ?a0; rotate_left
 refine ⟨fun h1 => ?_, fun h1 => ?_⟩
 refine ?a1; rotate_left
 refine ⟨?_, fun h2 => ?_⟩
 ·
  omega
 refine ⟨?_, fun h3 => ?_⟩
 ·
  omega
 refine ?a2; rotate_left
 case a0 | a1 | a2 =>
  first
  | rfl
  | (have hsp := spI_spec a b
     exfalso
     omega)
theorem yhg_sgrow : yhc_sgrow.Good Tryz.prog syG (yhE [] [] [] []) := good_of_walk (Γ := ⟨[yhc_spck, yac_subsat, yac_addsat], syG, [], [], []⟩) (ρ := yhE [] [] [] []) sym sgrow_w rfl (fun _ _ _ _ => (ok_cons (Con.Good.env yhg_spck _ _ _ _) (ok_cons (Con.Good.env (Con.Good.up (Con.Good.up (Con.Good.up yag_subsat ybup rfl) ycup rfl) yhup rfl) _ _ _ _) (ok_cons (Con.Good.env (Con.Good.up (Con.Good.up (Con.Good.up yag_addsat ybup rfl) ycup rfl) yhup rfl) _ _ _ _) ok_nil)))) sgrow_h
def rsgrow_tree : Tree :=
 (.need (an_ xryhqhtk9_ xryhqhtk8_)
 (.need (an_ xryhqhtk4_ xryhqhtk8_)
 (.ret (.agg (.cons (.int .i64 (.iapp 5 (.cons (.int .i64 (.iapp 2 (.cons (.int .i64 (sb_ v0_ v2_)) .nil))) (.cons (.int .i64 (.iapp 4 (.cons (.int .i64 (sb_ v0_ v2_)) .nil))) .nil)))) (.cons (.int .i64 (.iapp 5 (.cons (.int .i64 (.iapp 2 (.cons (.int .i64 (ad_ v1_ v2_)) .nil))) (.cons (.int .i64 (.iapp 4 (.cons (.int .i64 (ad_ v1_ v2_)) .nil))) .nil)))) .nil))))))
abbrev yhc_rsgrow : Con := ⟨45, [xryhqhtk11_, z2_], (an_ (le_ v0_ v1_) (an_ (le_ (.lit 0) v2_) (an_ xryhqhtk9_ (an_ xryhqhtk4_ xryhqhtk8_)))), xryhqhtk10_, ⟨3, 0, 0, 0⟩, none⟩
theorem rsgrow_w : walk Tryz.prog 94 ⟨[yac_rsum, yhc_rless, yac_rbound], syG, [], [], []⟩ [] .v yhc_rsgrow yhc_rsgrow.n 3000 = some rsgrow_tree := by kernel_rfl
theorem rsgrow_h (a b n : Int) : Hyp_ yhc_rsgrow rsgrow_tree (yhE [a, b, n] [] [] []) := by
 intro hc hty
 simp only [yhc_rsgrow, Sy.holds, yhE, denV, denI, denB, denL, I2.den, VOp.den, List.getD_cons_zero, List.getD_cons_succ, Cst.den, syso, syse, syio, sybo, B2.ofInts, B2.denI, B2.denB, if_true, Bool.false_eq_true, if_false, Nat.div_one, Nat.mul_one, Nat.add_zero] at hc
 simp only [yhc_rsgrow, patsTyp, patTyp, patTypL, yhE, denV, denL, List.getD_cons_zero, List.getD_cons_succ, and_true, true_and] at hty
 unfold rsgrow_tree
 simp only [yhc_rsgrow, Tree.holds, Sy.holds, yhE, denV, denI, denB, denL, I2.den, VOp.den, List.getD_cons_zero, List.getD_cons_succ, Cst.den, syso, syse, syio, sybo, yhi_sa, yhi_nv, yhi_so, yhi_bd, B2.ofInts, B2.denI, B2.denB, if_true, Bool.false_eq_true, if_false, Nat.div_one, Nat.mul_one, Nat.add_zero]
 refine ⟨?_, fun h0 => ?_⟩
 ·
  omega
 refine ⟨?_, fun h1 => ?_⟩
 ·
  omega
 ·
  simp only [bd_sat]
theorem yhg_rsgrow : yhc_rsgrow.Good Tryz.prog syG (yhE [] [] [] []) := good_of_walk (Γ := ⟨[yac_rsum, yhc_rless, yac_rbound], syG, [], [], []⟩) (ρ := yhE [] [] [] []) sym rsgrow_w rfl (fun _ _ _ _ => (ok_cons (Con.Good.env (Con.Good.up (Con.Good.up (Con.Good.up yag_rsum ybup rfl) ycup rfl) yhup rfl) _ _ _ _) (ok_cons (Con.Good.env yhg_rless _ _ _ _) (ok_cons (Con.Good.env (Con.Good.up (Con.Good.up (Con.Good.up yag_rbound ybup rfl) ycup rfl) yhup rfl) _ _ _ _) ok_nil)))) rsgrow_h
abbrev yhc_floor : Con := ⟨87, [o0_], (.bapp 3 (.cons o0_ .nil)), (.vapp 0 (.cons o0_ .nil)), ⟨0, 0, 1, 0⟩, none⟩
theorem yhg_floor : yhc_floor.Good Tryz.prog syG (yhE [] [] [] []) := good_flat rfl rfl rfl (by
 intro v hc β ok w hG
 have hc' := hc
 simp only [Tree.holds, Sy.holds, AllN, Env.more, yhE, List.cons_append, List.nil_append, List.append_nil, denV, denI, denB, denL, I2.den, VOp.den, List.getD_cons_zero, List.getD_cons_succ, Cst.den, syso, syse, syio, sybo, yhb_isn, yhv_flr, List.map_nil, List.map_cons, B2.ofInts, B2.denI, B2.denB, if_true, Bool.false_eq_true, if_false, Nat.div_one, Nat.mul_one, Nat.add_zero, holds] at hc
 exact floor_v v w hc)
def parts_tree : Tree :=
 (.ret xryhqhtk11_)
abbrev yhc_parts : Con := ⟨117, [xryhqhtk11_], (.tt true), xryhqhtk11_, ⟨2, 0, 0, 0⟩, none⟩
theorem parts_w : walk Tryz.prog 94 ⟨[], syG, [], [], []⟩ [] .v yhc_parts yhc_parts.n 3000 = some parts_tree := by kernel_rfl
theorem parts_h (a b : Int) : Hyp_ yhc_parts parts_tree (yhE [a, b] [] [] []) := by
 intro hc hty
 simp only [yhc_parts, Sy.holds, yhE, denV, denI, denB, denL, I2.den, VOp.den, List.getD_cons_zero, List.getD_cons_succ, Cst.den, syso, syse, syio, sybo, B2.ofInts, B2.denI, B2.denB, if_true, Bool.false_eq_true, if_false, Nat.div_one, Nat.mul_one, Nat.add_zero] at hc
 simp only [yhc_parts, patsTyp, patTyp, patTypL, yhE, denV, denL, List.getD_cons_zero, List.getD_cons_succ, and_true, true_and] at hty
 unfold parts_tree
 simp only [yhc_parts, Tree.holds, Sy.holds, yhE, denV, denI, denB, denL, I2.den, VOp.den, List.getD_cons_zero, List.getD_cons_succ, Cst.den, syso, syse, syio, sybo, B2.ofInts, B2.denI, B2.denB, if_true, Bool.false_eq_true, if_false, Nat.div_one, Nat.mul_one, Nat.add_zero]
 all_goals first | omega | rfl | (simp only [Value.tuple.injEq, Value.agg.injEq, Value.int.injEq, Value.bool.injEq, Array.mk.injEq, List.cons.injEq, true_and, and_true]; omega) | (refine congrArg Value.bool (Bool.eq_iff_iff.2 ?_); simp only [beq_iff_eq, decide_eq_true_eq, true_iff, false_iff, Bool.false_eq_true, Bool.not_eq_true', Bool.and_eq_true, Bool.or_eq_true, decide_eq_false_iff_not]; omega)
theorem yhg_parts : yhc_parts.Good Tryz.prog syG (yhE [] [] [] []) := good_of_walk (Γ := ⟨[], syG, [], [], []⟩) (ρ := yhE [] [] [] []) sym parts_w rfl (fun _ _ _ _ => ok_nil) parts_h
def sck_tree : Tree :=
 (.br (lt_ v0_ (.lit 0))
 (.ret (.iface 94 (.int .i64 (.lit 1))))
 (.br (lt_ (.lit 1024) v0_)
 (.ret (.iface 94 (.int .i64 (.lit 1))))
 (.br (lt_ v1_ (.lit 0))
 (.ret (.iface 94 (.int .i64 (.lit 1))))
 (.br (lt_ (.lit 1024) v1_)
 (.ret (.iface 94 (.int .i64 (.lit 1))))
 (.br (lt_ v2_ (.lit 0))
 (.ret (.iface 94 (.int .i64 (.lit 1))))
 (.br (lt_ (.lit 1048576) v2_)
 (.ret (.iface 94 (.int .i64 (.lit 1))))
 (.ret (.cst .nilI))))))))
abbrev yhc_sck : Con := ⟨84, [xryhqhtk11_, z2_], (.tt true), (.err (.iapp 35 (.cons z0_ (.cons z1_ (.cons z2_ .nil))))), ⟨3, 0, 0, 0⟩, none⟩
theorem sck_w : walk Tryz.prog 94 ⟨[yhc_parts], syG, [], [], []⟩ [] .v yhc_sck yhc_sck.n 3000 = some sck_tree := by kernel_rfl
theorem sck_h (p q l : Int) : Hyp_ yhc_sck sck_tree (yhE [p, q, l] [] [] []) := by
 intro hc hty
 simp only [yhc_sck, Sy.holds, yhE, denV, denI, denB, denL, I2.den, VOp.den, List.getD_cons_zero, List.getD_cons_succ, Cst.den, syso, syse, syio, sybo, B2.ofInts, B2.denI, B2.denB, if_true, Bool.false_eq_true, if_false, Nat.div_one, Nat.mul_one, Nat.add_zero] at hc
 simp only [yhc_sck, patsTyp, patTyp, patTypL, yhE, denV, denL, List.getD_cons_zero, List.getD_cons_succ, and_true, true_and] at hty
 unfold sck_tree
 simp only [yhc_sck, Tree.holds, Sy.holds, yhE, denV, denI, denB, denL, I2.den, VOp.den, List.getD_cons_zero, List.getD_cons_succ, Cst.den, syso, syse, syio, sybo, yhi_sve, B2.ofInts, B2.denI, B2.denB, if_true, Bool.false_eq_true, if_false, Nat.div_one, Nat.mul_one, Nat.add_zero]
 have hs := sv_spec p q l
 refine ⟨fun h0 => ?_, fun h0 => ?_⟩
 refine ?a0; rotate_left
 refine ⟨fun h1 => ?_, fun h1 => ?_⟩
 refine ?a1; rotate_left
 refine ⟨fun h2 => ?_, fun h2 => ?_⟩
 refine ?a2; rotate_left
 refine ⟨fun h3 => ?_, fun h3 => ?_⟩
 refine ?a3; rotate_left
 refine ⟨fun h4 => ?_, fun h4 => ?_⟩
 refine ?a4; rotate_left
 refine ⟨fun h5 => ?_, fun h5 => ?_⟩
 refine ?a5; rotate_left
 refine ?a6; rotate_left
 case a0 | a1 | a2 | a3 | a4 | a5 | a6 =>
  first
  | (exfalso; omega)
  | (rw [show svK p q l = 0 by omega]; rfl)
  | (rw [show svK p q l = 1 by omega]; rfl)
theorem yhg_sck : yhc_sck.Good Tryz.prog syG (yhE [] [] [] []) := good_of_walk (Γ := ⟨[yhc_parts], syG, [], [], []⟩) (ρ := yhE [] [] [] []) sym sck_w rfl (fun _ _ _ _ => (ok_cons (Con.Good.env yhg_parts _ _ _ _) ok_nil)) sck_h
def pull_tree : Tree :=
 (.br (.not (eq_ (.iapp 35 (.cons z0_ (.cons z1_ (.cons (.int .i64 (.lit 0)) .nil)))) (.lit 0)))
 (.ret (.tup (.cons (.cst (.cpx .f64 0 0)) (.cons (.iface 94 (.int .i64 (.lit 1))) .nil))))
 (.need xryhqhtk8_
 (.br (lt_ (.lit 1048576) (.iapp 0 (.cons z2_ .nil)))
 (.ret (.tup (.cons (.cst (.cpx .f64 0 0)) (.cons (.iface 94 (.int .i64 (.lit 1))) .nil))))
 (.need (an_ (le_ lm_ v3_) (le_ v3_ lM_))
 (.br (lt_ (.lit 1048576) (.iapp 0 (.cons z3_ .nil)))
 (.ret (.tup (.cons (.cst (.cpx .f64 0 0)) (.cons (.iface 94 (.int .i64 (.lit 1))) .nil))))
 (.need (.ofB (.vop .okL (.cons (.vop .i2f (.cons z0_ .nil)) (.cons (.vop .i2f (.cons z1_ .nil)) .nil))))
 (.need (.ofB (.vop .okL (.cons (.vop .i2f (.cons z2_ .nil)) (.cons (.vop .i2f (.cons (.int .i64 (wr_ (sb_ (.lit 0) v3_))) .nil)) .nil))))
 (.need (.ofB (.vop .okM (.cons (.vop .cpx (.cons (.vop .i2f (.cons z0_ .nil)) (.cons (.vop .i2f (.cons z1_ .nil)) .nil))) (.cons (.vop .cpx (.cons (.vop .i2f (.cons z2_ .nil)) (.cons (.vop .i2f (.cons (.int .i64 (wr_ (sb_ (.lit 0) v3_))) .nil)) .nil))) .nil))))
 (.ret (.tup (.cons (.vop .cmul (.cons (.vop .cpx (.cons (.vop .i2f (.cons z0_ .nil)) (.cons (.vop .i2f (.cons z1_ .nil)) .nil))) (.cons (.vop .cpx (.cons (.vop .i2f (.cons z2_ .nil)) (.cons (.vop .i2f (.cons (.int .i64 (wr_ (sb_ (.lit 0) v3_))) .nil)) .nil))) .nil))) (.cons (.cst .nilI) .nil))))))))))))
abbrev yhc_pull : Con := ⟨86, [xryhqhtk11_, z2_, z3_], (an_ xryhqhtk9_ (an_ xryhqhtk4_ (an_ xryhqhtk8_ (an_ (le_ lm_ v3_) (le_ v3_ lM_))))), (.tup (.cons (.vapp 1 (.cons z0_ (.cons z1_ (.cons z2_ (.cons z3_ .nil))))) (.cons (.err (.iapp 37 (.cons z0_ (.cons z1_ (.cons z2_ (.cons z3_ .nil)))))) .nil))), ⟨4, 0, 0, 0⟩, none⟩
theorem pull_w : walk Tryz.prog 94 ⟨[yhc_sck, yac_size, yhc_parts], syG, [], [], []⟩ [] .v yhc_pull yhc_pull.n 3000 = some pull_tree := by kernel_rfl
theorem pull_h (p q o s : Int) : Hyp_ yhc_pull pull_tree (yhE [p, q, o, s] [] [] []) := by
 intro hc hty
 simp only [yhc_pull, Sy.holds, yhE, denV, denI, denB, denL, I2.den, VOp.den, List.getD_cons_zero, List.getD_cons_succ, Cst.den, syso, syse, syio, sybo, B2.ofInts, B2.denI, B2.denB, if_true, Bool.false_eq_true, if_false, Nat.div_one, Nat.mul_one, Nat.add_zero] at hc
 simp only [yhc_pull, patsTyp, patTyp, patTypL, yhE, denV, denL, List.getD_cons_zero, List.getD_cons_succ, and_true, true_and] at hty
 unfold pull_tree
 simp only [yhc_pull, Tree.holds, Sy.holds, yhE, denV, denI, denB, denL, I2.den, VOp.den, List.getD_cons_zero, List.getD_cons_succ, Cst.den, syso, syse, syio, sybo, yhi_sz, yhi_sve, yhi_ple, yhv_plz, B2.ofInts, B2.denI, B2.denB, if_true, Bool.false_eq_true, if_false, Nat.div_one, Nat.mul_one, Nat.add_zero]
 have hp := pl_spec p q o s
 have z1 := szE_spec o ⟨by omega, by omega⟩
 have z2 := szE_spec s ⟨by omega, by omega⟩
 have hsv := sv_spec p q 0
 have ww := wr_i64 (0 - s)
 refine ⟨fun h0 => ?_, fun h0 => ?_⟩
 refine ?a0; rotate_left
 refine ⟨?_, fun h1 => ?_⟩
 refine ?a1; rotate_left
 refine ⟨fun h2 => ?_, fun h2 => ?_⟩
 refine ?a2; rotate_left
 refine ⟨?_, fun h3 => ?_⟩
 refine ?a3; rotate_left
 refine ⟨fun h4 => ?_, fun h4 => ?_⟩
 refine ?a4; rotate_left
 refine ⟨?_, fun h5 => ?_⟩
 refine ?a5; rotate_left
 refine ⟨?_, fun h6 => ?_⟩
 refine ?a6; rotate_left
 refine ⟨?_, fun h7 => ?_⟩
 refine ?a7; rotate_left
 refine ?a8; rotate_left
 case a0 | a2 | a4 | a8 =>
  rcases hp with ⟨_, e0, e1⟩ | ⟨_, e0, e1⟩
  all_goals first
  | (exfalso; omega)
  | (rw [e0, e1]; rfl)
  | (have e : IntKind.wrap .i64 (0 - s) = -s := by omega
     rw [e0, e1, e]
     rfl)
 case a1 | a3 | a5 | a6 | a7 =>
  first
  | omega
  | rfl
  | (have e : IntKind.wrap .i64 (0 - s) = -s := by omega
     rw [e]
     obtain ⟨re, im, e2, _⟩ := pl_of (p := p) (q := q) (o := o) (s := s) (by omega) (by omega) (by omega) (by omega) (by omega) (by omega) (by omega) (by omega)
     show (cmulV _ _).isSome = true
     rw [e2]
     rfl)
theorem yhg_pull : yhc_pull.Good Tryz.prog syG (yhE [] [] [] []) := good_of_walk (Γ := ⟨[yhc_sck, yac_size, yhc_parts], syG, [], [], []⟩) (ρ := yhE [] [] [] []) sym pull_w rfl (fun _ _ _ _ => (ok_cons (Con.Good.env yhg_sck _ _ _ _) (ok_cons (Con.Good.env (Con.Good.up (Con.Good.up (Con.Good.up yag_size ybup rfl) ycup rfl) yhup rfl) _ _ _ _) (ok_cons (Con.Good.env yhg_parts _ _ _ _) ok_nil)))) pull_h
def step_tree : Tree :=
 (.br (.not (eq_ (.iapp 35 (.cons z2_ (.cons z3_ (.cons z4_ .nil)))) (.lit 0)))
 (.ret (.tup (.cons xryhqhtk18_ (.cons (.err (.iapp 35 (.cons z2_ (.cons z3_ (.cons z4_ .nil))))) .nil))))
 (.need (an_ xryhqhtk8_ (an_ (an_ (le_ lm_ v3_) (le_ v3_ lM_)) (an_ (an_ (le_ lm_ xryhqhtk2_) (le_ xryhqhtk2_ lM_)) (an_ (le_ lm_ xryhqhtk0_) (le_ xryhqhtk0_ lM_)))))
 (.br (.not (eq_ (.iapp 37 (.cons z2_ (.cons z3_ (.cons (.int .i64 xryhqhtk2_) (.cons (.int .i64 xryhqhtk0_) .nil))))) (.lit 0)))
 (.ret (.tup (.cons xryhqhtk18_ (.cons (.err (.iapp 37 (.cons z2_ (.cons z3_ (.cons (.int .i64 xryhqhtk2_) (.cons (.int .i64 xryhqhtk0_) .nil)))))) .nil))))
 (.need (.ofB (.vop .isC (.cons (.vapp 1 (.cons z2_ (.cons z3_ (.cons (.int .i64 xryhqhtk2_) (.cons (.int .i64 xryhqhtk0_) .nil))))) .nil)))
 (.need (.ofB (.vop .okD (.cons (.vop .cre (.cons (.vapp 1 (.cons z2_ (.cons z3_ (.cons (.int .i64 xryhqhtk2_) (.cons (.int .i64 xryhqhtk0_) .nil))))) .nil)) (.cons (.cst (.flt .f64 4652218415073722368)) .nil))))
 (.need (.bapp 3 (.cons xryhqhtk6_ .nil))
 (.need (.ofB (.vop .isF (.cons (.vapp 0 (.cons xryhqhtk6_ .nil)) .nil)))
 (.need (le_ (wr_ (sb_ (.lit 0) v4_)) v4_)
 (.ret (.tup (.cons (.agg (.cons (.int .i64 (.iapp 26 (.cons (.int .i64 (.ofI (.vop .f2i (.cons (.vapp 0 (.cons xryhqhtk6_ .nil)) .nil)))) (.cons (.int .i64 (wr_ (sb_ (.lit 0) v4_))) (.cons z4_ .nil))))) (.cons (.int .i64 xryhqhtk0_) .nil))) (.cons (.cst .nilI) .nil))))))))))))
abbrev yhc_step : Con := ⟨42, [xryhqhtk11_, (.agg (.cons z2_ (.cons z3_ .nil))), z4_, z5_], (an_ (eq_ (.iapp 35 (.cons z2_ (.cons z3_ (.cons z4_ .nil)))) (.lit 0)) (an_ (an_ (le_ lm_ v5_) (le_ v5_ lM_)) xryhqhtk4_)), (.tup (.cons (.agg (.cons (.int .i64 (.iapp 41 (.cons z2_ (.cons z3_ (.cons z4_ (.cons z1_ (.cons z5_ .nil))))))) (.cons (.int .i64 (.iapp 36 (.cons z1_ (.cons z5_ .nil)))) .nil))) (.cons (.err (.lit 0)) .nil))), ⟨6, 0, 0, 0⟩, none⟩
theorem step_w : walk Tryz.prog 94 ⟨[yhc_sck, yhc_clamp, yhc_pull, yhc_floor], syG, [], [], []⟩ [] .v yhc_step yhc_step.n 3000 = some step_tree := by kernel_rfl
theorem step_h (sf ss p q l o : Int) : Hyp_ yhc_step step_tree (yhE [sf, ss, p, q, l, o] [] [] []) := by
 intro hc hty
 simp only [yhc_step, Sy.holds, yhE, denV, denI, denB, denL, I2.den, VOp.den, List.getD_cons_zero, List.getD_cons_succ, Cst.den, syso, syse, syio, sybo, yhi_sve, B2.ofInts, B2.denI, B2.denB, if_true, Bool.false_eq_true, if_false, Nat.div_one, Nat.mul_one, Nat.add_zero] at hc
 simp only [yhc_step, patsTyp, patTyp, patTypL, yhE, denV, denL, List.getD_cons_zero, List.getD_cons_succ, and_true, true_and] at hty
 unfold step_tree
 simp only [yhc_step, Tree.holds, Sy.holds, yhE, denV, denI, denB, denL, I2.den, VOp.den, List.getD_cons_zero, List.getD_cons_succ, Cst.den, syso, syse, syio, sybo, yhi_cl, yhi_sve, yhi_sts, yhi_ple, yhi_stf, yhb_isn, yhv_flr, yhv_plz, B2.ofInts, B2.denI, B2.denB, if_true, Bool.false_eq_true, if_false, Nat.div_one, Nat.mul_one, Nat.add_zero]
 have hsv := sv_spec p q l
 have hso := sv_spec p q 0
 have c1 := cl_spec ss (-1048576) 1048576
 have r1 := stO_rng o
 have r2 := stS_rng ss o
 have e1 : clI (o / 1024) (-1048576) 1048576 = stO o := rfl
 simp only [shr10, e1]
 have w1 : IntKind.wrap .i64 (clI ss (-1048576) 1048576 + stO o) = clI ss (-1048576) 1048576 + stO o := by have := wr_i64 (clI ss (-1048576) 1048576 + stO o); omega
 have e2 : clI (clI ss (-1048576) 1048576 + stO o) (-1048576) 1048576 = stS ss o := rfl
 simp only [w1, e2]
 have he : plE p q (stO o) (stS ss o) = 0 := by (have := pl_spec p q (stO o) (stS ss o); omega)
 obtain ⟨hC, r, hd, hN, hT⟩ := pull_q he
 have w2 : IntKind.wrap .i64 (0 - l) = -l := by have := wr_i64 (0 - l); omega
 simp only [hd, Option.getD_some, w2]
 have hf : flrW (.float .f64 r) = .float .f64 (flrV r) := rfl
 have hi : Go.RowKit.intOf (f2iV (.float .f64 (flrV r))) = (p * stO o + q * stS ss o) / 1024 := by unfold f2iV; simp only [hT]; rfl
 simp only [hf, hi]
 have e3 : clI ((p * stO o + q * stS ss o) / 1024) (-l) l = stF p q l ss o := rfl
 simp only [e3]
 refine ⟨fun h0 => ?_, fun h0 => ?_⟩
 ·
  first
  | (exfalso; omega)
  | rfl
  | skip
 refine ⟨?_, fun h1 => ?_⟩
 refine ?a0; rotate_left
 refine ⟨fun h2 => ?_, fun h2 => ?_⟩
 ·
  first
  | (exfalso; omega)
  | rfl
  | skip
 refine ⟨?_, fun h3 => ?_⟩
 refine ?a1; rotate_left
 refine ⟨?_, fun h4 => ?_⟩
 refine ?a2; rotate_left
 refine ⟨?_, fun h5 => ?_⟩
 refine ?a3; rotate_left
 refine ⟨?_, fun h6 => ?_⟩
 refine ?a4; rotate_left
 refine ⟨?_, fun h7 => ?_⟩
 refine ?a5; rotate_left
 ·
  first
  | (exfalso; omega)
  | rfl
  | skip
 case a0 | a1 | a2 | a3 | a4 | a5 =>
  first
  | omega
  | rfl
  | exact hC
  | exact hN
  | (simp only [isFV, hT, Option.isSome_some]; done)
  | skip
theorem yhg_step : yhc_step.Good Tryz.prog syG (yhE [] [] [] []) := good_of_walk (Γ := ⟨[yhc_sck, yhc_clamp, yhc_pull, yhc_floor], syG, [], [], []⟩) (ρ := yhE [] [] [] []) sym step_w rfl (fun _ _ _ _ => (ok_cons (Con.Good.env yhg_sck _ _ _ _) (ok_cons (Con.Good.env yhg_clamp _ _ _ _) (ok_cons (Con.Good.env yhg_pull _ _ _ _) (ok_cons (Con.Good.env yhg_floor _ _ _ _) ok_nil))))) step_h
end Go.Proofs.YtjcgmdgkdkfdpaaGreatDoor
