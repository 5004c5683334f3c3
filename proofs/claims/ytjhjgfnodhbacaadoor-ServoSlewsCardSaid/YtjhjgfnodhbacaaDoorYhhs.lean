/-
  Layer 18 by the second engine: clamps, factors adjusted, spans, the servo.
-/
import Derived.Test.YtjhjgfnodhbacaaDoorSychs
import Derived.Test.YtjhjgfnodhbacaaDoorYchs
import Derived.Test.YtjhjgfnodhbacaaDoorE00hs
import Derived.Test.YtjhjgfnodhbacaaDoorW02shs
import Derived.Test.YtjhjgfnodhbacaaDoorSrvhs
import Derived.Test.YtjhjgfnodhbacaaDoorFlohs
namespace Go.Proofs.YtjhjgfnodhbacaaDoor
open Go.RowKit Go.Extern.Stop Go.Stop Go.Extern Go.Proofs.YtjhjgfnodhbacaaDoor.Sy
set_option linter.unusedVariables false
set_option linter.unusedSimpArgs false
def adF (m p : Int) : Int := m * (1073741824 + clI p (-1073741824) 1073741824) / 1073741824
def adE (m s p : Int) : Int := if ¬ fmP m s then 1 else if 1 ≤ adF m p ∧ adF m p ≤ 4294967295 then 0 else 2
def adA (m s p : Int) : Int := if adE m s p = 0 then adF m p else 0
def adS (m s p : Int) : Int := if adE m s p = 0 then s else 0
theorem tdiv_spec (a : Int) {d : Int} (hd : 0 < d) : (0 ≤ a ∧ a.tdiv d = a / d) ∨ (a < 0 ∧ a.tdiv d = -((-a) / d)) := by
  by_cases h : 0 ≤ a
  · exact .inl ⟨h, Int.tdiv_eq_ediv_of_nonneg h⟩
  · refine .inr ⟨by omega, ?_⟩
    have e := Int.neg_tdiv (-a) d
    rw [Int.neg_neg] at e
    rw [e, Int.tdiv_eq_ediv_of_nonneg (by omega)]
theorem shr10 (x : Int) : x.fdiv (2 ^ (Min.min (Int.toNat 10) (IntKind.bits .i64))) = x / 1024 := Int.fdiv_eq_ediv_of_nonneg _ (by decide)
def spI (a b : Int) : Int := if b < a then 1 else 0
def miI (a b : Int) : Int := a + (b - a) / 2
def plI (a b : Int) : Int := a + (if b < 0 then -b else b)
theorem pl_of {p q o s : Int} (p0 : 0 ≤ p) (p1 : p ≤ 1024) (q0 : 0 ≤ q) (q1 : q ≤ 1024) (o0 : -1048576 ≤ o) (o1 : o ≤ 1048576) (s0 : -1048576 ≤ s) (s1 : s ≤ 1048576) : ∃ re im, cmulV (cpxV (.float .f64 (FloatKind.f64.nearest p)) (.float .f64 (FloatKind.f64.nearest q))) (cpxV (.float .f64 (FloatKind.f64.nearest o)) (.float .f64 (FloatKind.f64.nearest (-s)))) = some (.complex .f64 re im) ∧ FV re (p * o + q * s) ∧ FV im (q * o - p * s) := by
  have fp := fv_int (x := p) (by omega) (by omega)
  have fq := fv_int (x := q) (by omega) (by omega)
  have fo := fv_int (x := o) (by omega) (by omega)
  have fs := fv_int (x := -s) (by omega) (by omega)
  have b1 := mul_bd p0 p1 o0 o1
  have b2 := mul_bd q0 q1 (show -1048576 ≤ -s by omega) (by omega)
  have b3 := mul_bd p0 p1 (show -1048576 ≤ -s by omega) (by omega)
  have b4 := mul_bd q0 q1 o0 o1
  obtain ⟨ac, h1, f1⟩ := fv_mul fp fo (by omega)
  obtain ⟨bd, h2, f2⟩ := fv_mul fq fs (by omega)
  obtain ⟨ad, h3, f3⟩ := fv_mul fp fs (by omega)
  obtain ⟨bc, h4, f4⟩ := fv_mul fq fo (by omega)
  obtain ⟨re, h5, f5⟩ := fv_sub f1 f2 (by omega)
  obtain ⟨im, h6, f6⟩ := fv_add f3 f4 (by omega)
  refine ⟨re, im, ?_, ?_, ?_⟩
  · have e : cMulBits (FloatKind.f64.nearest p) (FloatKind.f64.nearest q) (FloatKind.f64.nearest o) (FloatKind.f64.nearest (-s)) = some (re, im) := by
      have g1 : floatBits .mul .f64 (FloatKind.f64.nearest p) (FloatKind.f64.nearest o) = some ac := h1
      have g2 : floatBits .mul .f64 (FloatKind.f64.nearest q) (FloatKind.f64.nearest (-s)) = some bd := h2
      have g3 : floatBits .mul .f64 (FloatKind.f64.nearest p) (FloatKind.f64.nearest (-s)) = some ad := h3
      have g4 : floatBits .mul .f64 (FloatKind.f64.nearest q) (FloatKind.f64.nearest o) = some bc := h4
      have g5 : floatBits .sub .f64 ac bd = some re := h5
      have g6 : floatBits .add .f64 ad bc = some im := h6
      unfold cMulBits
      rw [g1, g2, g3, g4]
      simp only [Option.bind_some]
      rw [g5]
      simp only [Option.bind_some]
      rw [g6]
      rfl
    unfold cpxV cmulV
    simp only
    rw [e]
    rfl
  · rw [Int.mul_neg, Int.sub_neg] at f5
    exact f5
  · rw [Int.mul_neg] at f6
    rw [show q * o - p * s = -(p * s) + q * o by omega]
    exact f6
def plz (p q o s : Int) : Value := (cmulV (cpxV (.float .f64 (FloatKind.f64.nearest p)) (.float .f64 (FloatKind.f64.nearest q))) (cpxV (.float .f64 (FloatKind.f64.nearest o)) (.float .f64 (FloatKind.f64.nearest (-s))))).getD Go.undef
def plE (p q o s : Int) : Int := if svK p q 0 = 0 ∧ -1048576 ≤ o ∧ o ≤ 1048576 ∧ -1048576 ≤ s ∧ s ≤ 1048576 then 0 else 1
def plZ (p q o s : Int) : Value := if plE p q o s = 0 then plz p q o s else .complex .f64 0 0
theorem pl_spec (p q o s : Int) : ((svK p q 0 = 0 ∧ -1048576 ≤ o ∧ o ≤ 1048576 ∧ -1048576 ≤ s ∧ s ≤ 1048576) ∧ plE p q o s = 0 ∧ plZ p q o s = plz p q o s) ∨ ((svK p q 0 ≠ 0 ∨ o < -1048576 ∨ 1048576 < o ∨ s < -1048576 ∨ 1048576 < s) ∧ plE p q o s = 1 ∧ plZ p q o s = .complex .f64 0 0) := by
  by_cases h : svK p q 0 = 0 ∧ -1048576 ≤ o ∧ o ≤ 1048576 ∧ -1048576 ≤ s ∧ s ≤ 1048576
  · have e : plE p q o s = 0 := by unfold plE; rw [if_pos h]
    exact .inl ⟨h, e, by unfold plZ; rw [if_pos e]⟩
  · have e : plE p q o s = 1 := by unfold plE; rw [if_neg h]
    exact .inr ⟨by omega, e, by unfold plZ; rw [if_neg (by omega)]⟩
def isNV : Value → Bool
  | .float .f64 b => (match FloatKind.f64.decode b with | .number .. => true | _ => false)
  | _ => false
def flrW : Value → Value
  | .float .f64 b => .float .f64 (flrV b)
  | _ => Go.undef
theorem isN_iff {v : Value} (h : isNV v = true) : ∃ b, v = .float .f64 b ∧ ∃ s m p, FloatKind.f64.decode b = .number s m p := by
  unfold isNV at h
  split at h
  · rename_i b
    split at h
    · rename_i s m p hd
      exact ⟨b, rfl, s, m, p, hd⟩
    · cases h
  · cases h
theorem isN_of {b : Nat} (h : ∃ s m p, FloatKind.f64.decode b = .number s m p) : isNV (.float .f64 b) = true := by
  obtain ⟨s, m, p, hd⟩ := h
  unfold isNV
  simp only [hd]
theorem floor_v (v : Value) (w : World) (h : isNV v = true) : Calls Tryd.prog 135 #[v] w fun e w' => e = .returned (flrW v) ∧ Below w.heap.size w w' := by
  obtain ⟨b, rfl, hb⟩ := isN_iff h
  exact floor_c b hb w
theorem real_q {re : Nat} {x : Int} (h : FV re x) (h0 : -4503599627370496 ≤ x) (h1 : x ≤ 4503599627370496) : ∃ r, fdivV (.float .f64 re) (.float .f64 4652218415073722368) = some (.float .f64 r) ∧ isNV (.float .f64 r) = true ∧ floatToIntVal .f64 (flrV r) .i64 = some (x / 1024) := by
  obtain ⟨r, hr, hq⟩ := fq_div h (by omega)
  obtain ⟨hn, hf⟩ := fq_floor hq (by omega)
  refine ⟨r, ?_, isN_of hn, fv_toInt hf (by omega) (by omega)⟩
  have g : floatBits .quo .f64 re 4652218415073722368 = some r := hr
  unfold fdivV
  simp only
  rw [g]
  rfl
theorem pull_q {p q o s : Int} (he : plE p q o s = 0) : isCV (plZ p q o s) = true ∧ ∃ r, fdivV (creV (plZ p q o s)) (.float .f64 4652218415073722368) = some (.float .f64 r) ∧ isNV (.float .f64 r) = true ∧ floatToIntVal .f64 (flrV r) .i64 = some ((p * o + q * s) / 1024) := by
  rcases pl_spec p q o s with ⟨⟨h, o0, o1, s0, s1⟩, _, e⟩ | ⟨_, e, _⟩
  · rcases sv_spec p q 0 with ⟨⟨p0, p1, q0, q1, _⟩, _⟩ | ⟨_, e2⟩
    · obtain ⟨re, im, h1, h2, h3⟩ := pl_of p0 p1 q0 q1 o0 o1 s0 s1
      have hz : plZ p q o s = .complex .f64 re im := by rw [e]; unfold plz; rw [h1]; rfl
      rw [hz]
      have b1 := mul_bd p0 p1 o0 o1
      have b2 := mul_bd q0 q1 s0 s1
      exact ⟨rfl, real_q h2 (by omega) (by omega)⟩
    · omega
  · omega
theorem pull_i (p q o s : Int) : isCV (plZ p q o s) = true ∧ (plE p q o s = 0 → isFV (creV (plZ p q o s)) = true ∧ f2iV (creV (plZ p q o s)) = .int .i64 (p * o + q * s) ∧ isFV (cimV (plZ p q o s)) = true ∧ f2iV (cimV (plZ p q o s)) = .int .i64 (q * o - p * s)) ∧ (plE p q o s = 1 → isFV (creV (plZ p q o s)) = true ∧ f2iV (creV (plZ p q o s)) = .int .i64 0 ∧ isFV (cimV (plZ p q o s)) = true ∧ f2iV (cimV (plZ p q o s)) = .int .i64 0) := by
  rcases pl_spec p q o s with ⟨⟨h, o0, o1, s0, s1⟩, e0, e⟩ | ⟨_, e0, e⟩
  · rcases sv_spec p q 0 with ⟨⟨p0, p1, q0, q1, _⟩, _⟩ | ⟨_, e2⟩
    · obtain ⟨re, im, h1, h2, h3⟩ := pl_of p0 p1 q0 q1 o0 o1 s0 s1
      have hz : plZ p q o s = .complex .f64 re im := by rw [e]; unfold plz; rw [h1]; rfl
      have b1 := mul_bd p0 p1 o0 o1
      have b2 := mul_bd q0 q1 s0 s1
      have b3 := mul_bd q0 q1 o0 o1
      have b4 := mul_bd p0 p1 s0 s1
      have i1 := fv_toInt h2 (by omega) (by omega)
      have i2 := fv_toInt h3 (by omega) (by omega)
      rw [hz]
      refine ⟨rfl, fun _ => ⟨?_, ?_, ?_, ?_⟩, fun h => by omega⟩
      · unfold creV isFV; simp only [i1]; rfl
      · unfold creV f2iV; simp only [i1]; rfl
      · unfold cimV isFV; simp only [i2]; rfl
      · unfold cimV f2iV; simp only [i2]; rfl
    · omega
  · rw [e]
    exact ⟨rfl, fun h => by omega, fun _ => ⟨by rfl, by rfl, by rfl, by rfl⟩⟩
def slE (m : Int) : Int := if m < 0 then 1 else 0
def slA (o m : Int) : Int := if m < 0 then 0 else clI o (-m) m
def slR (o m : Int) : Int := if m < 0 then 0 else satE (o - clI o (-m) m)
theorem sl_spec (o m : Int) : (m < 0 ∧ slE m = 1 ∧ slA o m = 0 ∧ slR o m = 0) ∨ (0 ≤ m ∧ slE m = 0 ∧ slA o m = clI o (-m) m ∧ slR o m = satE (o - clI o (-m) m)) := by
  unfold slE slA slR
  by_cases h : m < 0
  · rw [if_pos h, if_pos h, if_pos h]; exact .inl ⟨h, rfl, rfl, rfl⟩
  · rw [if_neg h, if_neg h, if_neg h]; exact .inr ⟨by omega, rfl, rfl, rfl⟩
noncomputable def yhI : Nat → List Value → Int
  | 26, [.int _ v, .int _ lo, .int _ hi] => clI v lo hi
  | 27, [.int _ m, .int _ s, .int _ p] => adA m s p
  | 28, [.int _ m, .int _ s, .int _ p] => adS m s p
  | 29, [.int _ m, .int _ s, .int _ p] => adE m s p
  | 30, [.int _ a, .int _ b] => spI a b
  | 31, [.int _ a, .int _ b] => miI a b
  | 32, [.int _ a, .int _ b] => a / b
  | 33, [.int _ a, .int _ b] => a % b
  | 34, [.int _ a, .int _ b] => plI a b
  | 35, [.int _ p, .int _ q, .int _ l] => svK p q l
  | 36, [.int _ s, .int _ o] => stS s o
  | 37, [.int _ p, .int _ q, .int _ o, .int _ s] => plE p q o s
  | 38, [.int _ o, .int _ m] => slA o m
  | 39, [.int _ m] => slE m
  | 40, [.int _ o, .int _ m] => slR o m
  | 41, [.int _ p, .int _ q, .int _ l, .int _ s, .int _ o] => stF p q l s o
  | i, l => ycI i l
noncomputable def yhB : Nat → List Value → Bool
  | 3, [v] => isNV v
  | i, l => ycB i l
noncomputable def yhV : Nat → List Value → Value
  | 0, [v] => flrW v
  | 1, [.int _ p, .int _ q, .int _ o, .int _ s] => plZ p q o s
  | i, l => ycV i l
noncomputable abbrev yhE (iv : List Int) (bv : List Bool) (vv : List Value) (sv : List ByteArray) : Env := { iv := iv, bv := bv, vv := vv, sv := sv, fi := yhI, fb := yhB, fv := yhV, et := 229 }
set_option maxHeartbeats 8000000 in
theorem yhup : Agree 26 3 0 (ycE [] [] [] []) (yhE [] [] [] []) := ⟨rfl, (by
    intro f hf
    funext l
    show yhI f l = ycI f l
    unfold yhI
    split <;> first | rfl | omega), (by
    intro f hf
    funext l
    show yhB f l = ycB f l
    unfold yhB
    split <;> first | rfl | omega), (by
    intro f hf
    funext l
    show yhV f l = ycV f l
    unfold yhV
    split <;> first | rfl | omega)⟩
theorem yhi_sz (k1 : IntKind) (a : Int) : yhI 0 [.int k1 a] = szE a := rfl
theorem yhi_sa (k1 : IntKind) (a : Int) : yhI 1 [.int k1 a] = satE a := rfl
theorem yhi_nv (k1 : IntKind) (a : Int) : yhI 2 [.int k1 a] = svE a := rfl
theorem yhi_so (k1 : IntKind) (a : Int) : yhI 4 [.int k1 a] = soE a := rfl
theorem yhi_cl (k1 : IntKind) (v : Int) (k2 : IntKind) (lo : Int) (k3 : IntKind) (hi : Int) : yhI 26 [.int k1 v, .int k2 lo, .int k3 hi] = clI v lo hi := rfl
theorem yhi_dv (k1 : IntKind) (a : Int) (k2 : IntKind) (b : Int) : yhI 32 [.int k1 a, .int k2 b] = a / b := rfl
theorem yhi_dw (k1 : IntKind) (a : Int) (k2 : IntKind) (b : Int) : yhI 33 [.int k1 a, .int k2 b] = a % b := rfl
theorem yhi_sve (k1 : IntKind) (p : Int) (k2 : IntKind) (q : Int) (k3 : IntKind) (l : Int) : yhI 35 [.int k1 p, .int k2 q, .int k3 l] = svK p q l := rfl
theorem yhi_ple (k1 : IntKind) (p : Int) (k2 : IntKind) (q : Int) (k3 : IntKind) (o : Int) (k4 : IntKind) (s : Int) : yhI 37 [.int k1 p, .int k2 q, .int k3 o, .int k4 s] = plE p q o s := rfl
theorem yhi_sla (k1 : IntKind) (o : Int) (k2 : IntKind) (m : Int) : yhI 38 [.int k1 o, .int k2 m] = slA o m := rfl
theorem yhi_sle (k1 : IntKind) (m : Int) : yhI 39 [.int k1 m] = slE m := rfl
theorem yhi_slr (k1 : IntKind) (o : Int) (k2 : IntKind) (m : Int) : yhI 40 [.int k1 o, .int k2 m] = slR o m := rfl
theorem yhb_isn (v : Value) : yhB 3 [v] = isNV v := rfl
theorem yhv_flr (v : Value) : yhV 0 [v] = flrW v := rfl
theorem yhv_plz (k1 : IntKind) (p : Int) (k2 : IntKind) (q : Int) (k3 : IntKind) (o : Int) (k4 : IntKind) (s : Int) : yhV 1 [.int k1 p, .int k2 q, .int k3 o, .int k4 s] = plZ p q o s := rfl
def clamp_tree : Tree :=
 (.br (.b2 .lt (.var 0) (.var 1))
 (.ret (.int .i64 (.var 1)))
 (.br (.b2 .lt (.var 2) (.var 1))
 (.ret (.int .i64 (.var 1)))
 (.ret (.int .i64 (.i2 .min (.var 0) (.var 2))))))
abbrev yhc_clamp : Con := ⟨134, [(.int .i64 (.var 0)), (.int .i64 (.var 1)), (.int .i64 (.var 2))], (.b2 .le (.var 1) (.var 2)), (.int .i64 (.iapp 26 (.cons (.int .i64 (.var 0)) (.cons (.int .i64 (.var 1)) (.cons (.int .i64 (.var 2)) .nil))))), ⟨3, 0, 0, 0⟩, none⟩
theorem clamp_w : walk Tryd.prog 229 ⟨[], syG, [], [], []⟩ [] .v yhc_clamp yhc_clamp.n 3000 = some clamp_tree := by kernel_rfl
theorem clamp_h (v : Int) (lo : Int) (hi : Int) (hc : holds (yhE [v, lo, hi] [] [] []) (.b2 .le (.var 1) (.var 2))) (hty : patsTyp (yhE [v, lo, hi] [] [] []) [(.int .i64 (.var 0)), (.int .i64 (.var 1)), (.int .i64 (.var 2))]) : clamp_tree.holds (fun v_ => v_ = denV (yhE [v, lo, hi] [] [] []) b0 (.int .i64 (.iapp 26 (.cons (.int .i64 (.var 0)) (.cons (.int .i64 (.var 1)) (.cons (.int .i64 (.var 2)) .nil)))))) (yhE [v, lo, hi] [] [] []) := by
  simp only [Tree.holds, Sy.holds, AllN, Env.more, yhE, List.cons_append, List.nil_append, List.append_nil, denV, denI, denB, denL, I2.den, VOp.den, List.getD_cons_zero, List.getD_cons_succ, Cst.den, syso, syse, syio, sybo, List.map_nil, List.map_cons, B2.ofInts, B2.denI, B2.denB, if_true, Bool.false_eq_true, if_false, Nat.div_one, Nat.mul_one, Nat.add_zero, holds] at hc
  simp only [patsTyp, patTyp, patTypL, yhE, denV, denL, List.getD_cons_zero, List.getD_cons_succ, and_true, true_and] at hty
  unfold clamp_tree
  simp only [Tree.holds, Sy.holds, AllN, Env.more, yhE, List.cons_append, List.nil_append, List.append_nil, denV, denI, denB, denL, I2.den, VOp.den, List.getD_cons_zero, List.getD_cons_succ, Cst.den, syso, syse, syio, sybo, yhi_cl, List.map_nil, List.map_cons, B2.ofInts, B2.denI, B2.denB, if_true, Bool.false_eq_true, if_false, Nat.div_one, Nat.mul_one, Nat.add_zero]
  have hs := cl_spec v lo hi
  refine ⟨fun h0 => ?_, fun h0 => ?_⟩
  ·
   first
   | (exfalso; omega)
   | (rw [show clI v lo hi = lo by omega]; done)
   | (rw [show clI v lo hi = v by omega]; done)
   | (rw [show clI v lo hi = hi by omega]; done)
   | (refine congrArg (Value.int .i64) ?_; split <;> omega)
  ·
   refine ⟨fun h1 => ?_, fun h1 => ?_⟩
   ·
    first
    | (exfalso; omega)
    | (rw [show clI v lo hi = lo by omega]; done)
    | (rw [show clI v lo hi = v by omega]; done)
    | (rw [show clI v lo hi = hi by omega]; done)
    | (refine congrArg (Value.int .i64) ?_; split <;> omega)
   ·
    first
    | (exfalso; omega)
    | (rw [show clI v lo hi = lo by omega]; done)
    | (rw [show clI v lo hi = v by omega]; done)
    | (rw [show clI v lo hi = hi by omega]; done)
    | (refine congrArg (Value.int .i64) ?_; split <;> omega)
theorem yhg_clamp : yhc_clamp.Good Tryd.prog syG (yhE [] [] [] []) := good_of_walk (Γ := ⟨[], syG, [], [], []⟩) (ρ := yhE [] [] [] []) sym clamp_w rfl (fun _ _ _ _ => ok_nil) (fun v lo hi hc hty => clamp_h v lo hi hc hty)
def rclamp_tree : Tree :=
 (.br (.b2 .lt (.var 0) (.var 1))
 (.ret (.int .i64 (.var 1)))
 (.br (.b2 .lt (.var 2) (.var 1))
 (.ret (.int .i64 (.var 1)))
 (.br (.b2 .lt (.var 2) (.var 0))
 (.ret (.int .i64 (.var 2)))
 (.ret (.int .i64 (.var 0))))))
abbrev yhc_rclamp : Con := ⟨137, [(.int .i64 (.var 0)), (.int .i64 (.var 1)), (.int .i64 (.var 2))], (.b2 .le (.var 1) (.var 2)), (.int .i64 (.iapp 26 (.cons (.int .i64 (.var 0)) (.cons (.int .i64 (.var 1)) (.cons (.int .i64 (.var 2)) .nil))))), ⟨3, 0, 0, 0⟩, none⟩
theorem rclamp_w : walk Tryd.prog 229 ⟨[], syG, [], [], []⟩ [] .v yhc_rclamp yhc_rclamp.n 3000 = some rclamp_tree := by kernel_rfl
theorem rclamp_h (v : Int) (lo : Int) (hi : Int) (hc : holds (yhE [v, lo, hi] [] [] []) (.b2 .le (.var 1) (.var 2))) (hty : patsTyp (yhE [v, lo, hi] [] [] []) [(.int .i64 (.var 0)), (.int .i64 (.var 1)), (.int .i64 (.var 2))]) : rclamp_tree.holds (fun v_ => v_ = denV (yhE [v, lo, hi] [] [] []) b0 (.int .i64 (.iapp 26 (.cons (.int .i64 (.var 0)) (.cons (.int .i64 (.var 1)) (.cons (.int .i64 (.var 2)) .nil)))))) (yhE [v, lo, hi] [] [] []) := by
  simp only [Tree.holds, Sy.holds, AllN, Env.more, yhE, List.cons_append, List.nil_append, List.append_nil, denV, denI, denB, denL, I2.den, VOp.den, List.getD_cons_zero, List.getD_cons_succ, Cst.den, syso, syse, syio, sybo, List.map_nil, List.map_cons, B2.ofInts, B2.denI, B2.denB, if_true, Bool.false_eq_true, if_false, Nat.div_one, Nat.mul_one, Nat.add_zero, holds] at hc
  simp only [patsTyp, patTyp, patTypL, yhE, denV, denL, List.getD_cons_zero, List.getD_cons_succ, and_true, true_and] at hty
  unfold rclamp_tree
  simp only [Tree.holds, Sy.holds, AllN, Env.more, yhE, List.cons_append, List.nil_append, List.append_nil, denV, denI, denB, denL, I2.den, VOp.den, List.getD_cons_zero, List.getD_cons_succ, Cst.den, syso, syse, syio, sybo, yhi_cl, List.map_nil, List.map_cons, B2.ofInts, B2.denI, B2.denB, if_true, Bool.false_eq_true, if_false, Nat.div_one, Nat.mul_one, Nat.add_zero]
  have hs := cl_spec v lo hi
  refine ⟨fun h0 => ?_, fun h0 => ?_⟩
  ·
   first
   | (exfalso; omega)
   | (rw [show clI v lo hi = lo by omega]; done)
   | (rw [show clI v lo hi = v by omega]; done)
   | (rw [show clI v lo hi = hi by omega]; done)
  ·
   refine ⟨fun h1 => ?_, fun h1 => ?_⟩
   ·
    first
    | (exfalso; omega)
    | (rw [show clI v lo hi = lo by omega]; done)
    | (rw [show clI v lo hi = v by omega]; done)
    | (rw [show clI v lo hi = hi by omega]; done)
   ·
    refine ⟨fun h2 => ?_, fun h2 => ?_⟩
    ·
     first
     | (exfalso; omega)
     | (rw [show clI v lo hi = lo by omega]; done)
     | (rw [show clI v lo hi = v by omega]; done)
     | (rw [show clI v lo hi = hi by omega]; done)
    ·
     first
     | (exfalso; omega)
     | (rw [show clI v lo hi = lo by omega]; done)
     | (rw [show clI v lo hi = v by omega]; done)
     | (rw [show clI v lo hi = hi by omega]; done)
theorem yhg_rclamp : yhc_rclamp.Good Tryd.prog syG (yhE [] [] [] []) := good_of_walk (Γ := ⟨[], syG, [], [], []⟩) (ρ := yhE [] [] [] []) sym rclamp_w rfl (fun _ _ _ _ => ok_nil) (fun v lo hi hc hty => rclamp_h v lo hi hc hty)
def rless_tree : Tree :=
 (.br (.b2 .lt (.var 1) (.lit (0)))
 (.br (.b2 .lt (.wrap .i64 (.i2 .add (.lit (9223372036854775807)) (.var 1))) (.var 0))
 (.ret (.tup (.cons (.int .i64 (.lit (0))) (.cons (.int .i64 (.lit (1))) .nil))))
 (.br (.b2 .lt (.lit (0)) (.var 1))
 (.br (.b2 .lt (.var 0) (.wrap .i64 (.i2 .add (.lit (-9223372036854775808)) (.var 1))))
 (.ret (.tup (.cons (.int .i64 (.lit (0))) (.cons (.int .i64 (.lit (-1))) .nil))))
 (.ret (.tup (.cons (.int .i64 (.wrap .i64 (.i2 .sub (.var 0) (.var 1)))) (.cons (.int .i64 (.lit (0))) .nil)))))
 (.ret (.tup (.cons (.int .i64 (.wrap .i64 (.i2 .sub (.var 0) (.var 1)))) (.cons (.int .i64 (.lit (0))) .nil))))))
 (.br (.b2 .lt (.lit (0)) (.var 1))
 (.br (.b2 .lt (.var 0) (.wrap .i64 (.i2 .add (.lit (-9223372036854775808)) (.var 1))))
 (.ret (.tup (.cons (.int .i64 (.lit (0))) (.cons (.int .i64 (.lit (-1))) .nil))))
 (.ret (.tup (.cons (.int .i64 (.wrap .i64 (.i2 .sub (.var 0) (.var 1)))) (.cons (.int .i64 (.lit (0))) .nil)))))
 (.ret (.tup (.cons (.int .i64 (.wrap .i64 (.i2 .sub (.var 0) (.var 1)))) (.cons (.int .i64 (.lit (0))) .nil))))))
abbrev yhc_rless : Con := ⟨141, [(.int .i64 (.var 0)), (.int .i64 (.var 1))], (.b2 .and (.b2 .and (.b2 .le (.lit (-9223372036854775808)) (.var 0)) (.b2 .le (.var 0) (.lit (9223372036854775807)))) (.b2 .and (.b2 .le (.lit (-9223372036854775808)) (.var 1)) (.b2 .le (.var 1) (.lit (9223372036854775807))))), (.tup (.cons (.int .i64 (.iapp 2 (.cons (.int .i64 (.i2 .sub (.var 0) (.var 1))) .nil))) (.cons (.int .i64 (.iapp 4 (.cons (.int .i64 (.i2 .sub (.var 0) (.var 1))) .nil))) .nil))), ⟨2, 0, 0, 0⟩, none⟩
theorem rless_w : walk Tryd.prog 229 ⟨[], syG, [], [], []⟩ [] .v yhc_rless yhc_rless.n 3000 = some rless_tree := by kernel_rfl
theorem rless_h (a : Int) (b : Int) (hc : holds (yhE [a, b] [] [] []) (.b2 .and (.b2 .and (.b2 .le (.lit (-9223372036854775808)) (.var 0)) (.b2 .le (.var 0) (.lit (9223372036854775807)))) (.b2 .and (.b2 .le (.lit (-9223372036854775808)) (.var 1)) (.b2 .le (.var 1) (.lit (9223372036854775807)))))) (hty : patsTyp (yhE [a, b] [] [] []) [(.int .i64 (.var 0)), (.int .i64 (.var 1))]) : rless_tree.holds (fun v_ => v_ = denV (yhE [a, b] [] [] []) b0 (.tup (.cons (.int .i64 (.iapp 2 (.cons (.int .i64 (.i2 .sub (.var 0) (.var 1))) .nil))) (.cons (.int .i64 (.iapp 4 (.cons (.int .i64 (.i2 .sub (.var 0) (.var 1))) .nil))) .nil)))) (yhE [a, b] [] [] []) := by
  simp only [Tree.holds, Sy.holds, AllN, Env.more, yhE, List.cons_append, List.nil_append, List.append_nil, denV, denI, denB, denL, I2.den, VOp.den, List.getD_cons_zero, List.getD_cons_succ, Cst.den, syso, syse, syio, sybo, List.map_nil, List.map_cons, B2.ofInts, B2.denI, B2.denB, if_true, Bool.false_eq_true, if_false, Nat.div_one, Nat.mul_one, Nat.add_zero, holds] at hc
  simp only [patsTyp, patTyp, patTypL, yhE, denV, denL, List.getD_cons_zero, List.getD_cons_succ, and_true, true_and] at hty
  unfold rless_tree
  simp only [Tree.holds, Sy.holds, AllN, Env.more, yhE, List.cons_append, List.nil_append, List.append_nil, denV, denI, denB, denL, I2.den, VOp.den, List.getD_cons_zero, List.getD_cons_succ, Cst.den, syso, syse, syio, sybo, yhi_nv, yhi_so, List.map_nil, List.map_cons, B2.ofInts, B2.denI, B2.denB, if_true, Bool.false_eq_true, if_false, Nat.div_one, Nat.mul_one, Nat.add_zero]
  refine ⟨fun h0 => ?_, fun h0 => ?_⟩
  ·
   have wf0 := wr_i64 (9223372036854775807 + b)
   refine ⟨fun h1 => ?_, fun h1 => ?_⟩
   ·
    have hs := svE_spec (a - b)
    first
    | (exfalso; omega)
    | (rw [show svE (a - b) = IntKind.wrap .i64 (a - b) by omega, show soE (a - b) = 0 by omega]; done)
    | (rw [show svE (a - b) = 0 by omega, show soE (a - b) = 1 by omega]; done)
    | (rw [show svE (a - b) = 0 by omega, show soE (a - b) = -1 by omega]; done)
   ·
    refine ⟨fun h2 => ?_, fun h2 => ?_⟩
    ·
     have wf1 := wr_i64 ((-9223372036854775808) + b)
     refine ⟨fun h3 => ?_, fun h3 => ?_⟩
     ·
      have hs := svE_spec (a - b)
      first
      | (exfalso; omega)
      | (rw [show svE (a - b) = IntKind.wrap .i64 (a - b) by omega, show soE (a - b) = 0 by omega]; done)
      | (rw [show svE (a - b) = 0 by omega, show soE (a - b) = 1 by omega]; done)
      | (rw [show svE (a - b) = 0 by omega, show soE (a - b) = -1 by omega]; done)
     ·
      have wf2 := wr_i64 (a - b)
      have hs := svE_spec (a - b)
      first
      | (exfalso; omega)
      | (rw [show svE (a - b) = IntKind.wrap .i64 (a - b) by omega, show soE (a - b) = 0 by omega]; done)
      | (rw [show svE (a - b) = 0 by omega, show soE (a - b) = 1 by omega]; done)
      | (rw [show svE (a - b) = 0 by omega, show soE (a - b) = -1 by omega]; done)
    ·
     have wf3 := wr_i64 (a - b)
     have hs := svE_spec (a - b)
     first
     | (exfalso; omega)
     | (rw [show svE (a - b) = IntKind.wrap .i64 (a - b) by omega, show soE (a - b) = 0 by omega]; done)
     | (rw [show svE (a - b) = 0 by omega, show soE (a - b) = 1 by omega]; done)
     | (rw [show svE (a - b) = 0 by omega, show soE (a - b) = -1 by omega]; done)
  ·
   refine ⟨fun h4 => ?_, fun h4 => ?_⟩
   ·
    have wf4 := wr_i64 ((-9223372036854775808) + b)
    refine ⟨fun h5 => ?_, fun h5 => ?_⟩
    ·
     have hs := svE_spec (a - b)
     first
     | (exfalso; omega)
     | (rw [show svE (a - b) = IntKind.wrap .i64 (a - b) by omega, show soE (a - b) = 0 by omega]; done)
     | (rw [show svE (a - b) = 0 by omega, show soE (a - b) = 1 by omega]; done)
     | (rw [show svE (a - b) = 0 by omega, show soE (a - b) = -1 by omega]; done)
    ·
     have wf5 := wr_i64 (a - b)
     have hs := svE_spec (a - b)
     first
     | (exfalso; omega)
     | (rw [show svE (a - b) = IntKind.wrap .i64 (a - b) by omega, show soE (a - b) = 0 by omega]; done)
     | (rw [show svE (a - b) = 0 by omega, show soE (a - b) = 1 by omega]; done)
     | (rw [show svE (a - b) = 0 by omega, show soE (a - b) = -1 by omega]; done)
   ·
    have wf6 := wr_i64 (a - b)
    have hs := svE_spec (a - b)
    first
    | (exfalso; omega)
    | (rw [show svE (a - b) = IntKind.wrap .i64 (a - b) by omega, show soE (a - b) = 0 by omega]; done)
    | (rw [show svE (a - b) = 0 by omega, show soE (a - b) = 1 by omega]; done)
    | (rw [show svE (a - b) = 0 by omega, show soE (a - b) = -1 by omega]; done)
theorem yhg_rless : yhc_rless.Good Tryd.prog syG (yhE [] [] [] []) := good_of_walk (Γ := ⟨[], syG, [], [], []⟩) (ρ := yhE [] [] [] []) sym rless_w rfl (fun _ _ _ _ => ok_nil) (fun a b hc hty => rless_h a b hc hty)
def rdiv1024_tree : Tree :=
 (.br (.b2 .lt (.var 0) (.lit (0)))
 (.br (.not (.b2 .eq (.wrap .i64 (.i2 .mul (.wrap .i64 (.i2 .quo (.var 0) (.lit (1024)))) (.lit (1024)))) (.var 0)))
 (.ret (.tup (.cons (.int .i64 (.wrap .i64 (.i2 .sub (.wrap .i64 (.i2 .quo (.var 0) (.lit (1024)))) (.lit (1))))) (.cons (.int .i64 (.wrap .i64 (.i2 .sub (.var 0) (.wrap .i64 (.i2 .mul (.wrap .i64 (.i2 .sub (.wrap .i64 (.i2 .quo (.var 0) (.lit (1024)))) (.lit (1)))) (.lit (1024))))))) .nil))))
 (.ret (.tup (.cons (.int .i64 (.wrap .i64 (.i2 .quo (.var 0) (.lit (1024))))) (.cons (.int .i64 (.wrap .i64 (.i2 .sub (.var 0) (.wrap .i64 (.i2 .mul (.wrap .i64 (.i2 .quo (.var 0) (.lit (1024)))) (.lit (1024))))))) .nil)))))
 (.ret (.tup (.cons (.int .i64 (.wrap .i64 (.i2 .quo (.var 0) (.lit (1024))))) (.cons (.int .i64 (.wrap .i64 (.i2 .sub (.var 0) (.wrap .i64 (.i2 .mul (.wrap .i64 (.i2 .quo (.var 0) (.lit (1024)))) (.lit (1024))))))) .nil)))))
abbrev yhc_rdiv1024 : Con := ⟨136, [(.int .i64 (.var 0)), (.int .i64 (.lit (1024)))], (.b2 .and (.b2 .le (.lit (-9223372036854775808)) (.var 0)) (.b2 .le (.var 0) (.lit (9223372036854775807)))), (.tup (.cons (.int .i64 (.iapp 32 (.cons (.int .i64 (.var 0)) (.cons (.int .i64 (.lit (1024))) .nil)))) (.cons (.int .i64 (.iapp 33 (.cons (.int .i64 (.var 0)) (.cons (.int .i64 (.lit (1024))) .nil)))) .nil))), ⟨1, 0, 0, 0⟩, none⟩
theorem rdiv1024_w : walk Tryd.prog 229 ⟨[], syG, [], [], []⟩ [] .v yhc_rdiv1024 yhc_rdiv1024.n 3000 = some rdiv1024_tree := by kernel_rfl
theorem rdiv1024_h (a : Int) (hc : holds (yhE [a] [] [] []) (.b2 .and (.b2 .le (.lit (-9223372036854775808)) (.var 0)) (.b2 .le (.var 0) (.lit (9223372036854775807))))) (hty : patsTyp (yhE [a] [] [] []) [(.int .i64 (.var 0)), (.int .i64 (.lit (1024)))]) : rdiv1024_tree.holds (fun v_ => v_ = denV (yhE [a] [] [] []) b0 (.tup (.cons (.int .i64 (.iapp 32 (.cons (.int .i64 (.var 0)) (.cons (.int .i64 (.lit (1024))) .nil)))) (.cons (.int .i64 (.iapp 33 (.cons (.int .i64 (.var 0)) (.cons (.int .i64 (.lit (1024))) .nil)))) .nil)))) (yhE [a] [] [] []) := by
  simp only [Tree.holds, Sy.holds, AllN, Env.more, yhE, List.cons_append, List.nil_append, List.append_nil, denV, denI, denB, denL, I2.den, VOp.den, List.getD_cons_zero, List.getD_cons_succ, Cst.den, syso, syse, syio, sybo, List.map_nil, List.map_cons, B2.ofInts, B2.denI, B2.denB, if_true, Bool.false_eq_true, if_false, Nat.div_one, Nat.mul_one, Nat.add_zero, holds] at hc
  simp only [patsTyp, patTyp, patTypL, yhE, denV, denL, List.getD_cons_zero, List.getD_cons_succ, and_true, true_and] at hty
  unfold rdiv1024_tree
  simp only [Tree.holds, Sy.holds, AllN, Env.more, yhE, List.cons_append, List.nil_append, List.append_nil, denV, denI, denB, denL, I2.den, VOp.den, List.getD_cons_zero, List.getD_cons_succ, Cst.den, syso, syse, syio, sybo, yhi_dv, yhi_dw, List.map_nil, List.map_cons, B2.ofInts, B2.denI, B2.denB, if_true, Bool.false_eq_true, if_false, Nat.div_one, Nat.mul_one, Nat.add_zero]
  have e1 := tdiv_spec a (show (0 : Int) < 1024 by decide)
  refine ⟨fun h0 => ?_, fun h0 => ?_⟩
  ·
   have wf0 := wr_i64 (Int.tdiv a 1024)
   have wf1 := wr_i64 ((IntKind.wrap .i64 (Int.tdiv a 1024)) * 1024)
   refine ⟨fun h1 => ?_, fun h1 => ?_⟩
   ·
    have wf2 := wr_i64 ((IntKind.wrap .i64 (Int.tdiv a 1024)) - 1)
    have wf3 := wr_i64 ((IntKind.wrap .i64 ((IntKind.wrap .i64 (Int.tdiv a 1024)) - 1)) * 1024)
    have wf4 := wr_i64 (a - (IntKind.wrap .i64 ((IntKind.wrap .i64 ((IntKind.wrap .i64 (Int.tdiv a 1024)) - 1)) * 1024)))
    all_goals first | omega | rfl | (simp only [Value.tuple.injEq, Value.agg.injEq, Value.int.injEq, Value.bool.injEq, Array.mk.injEq, List.cons.injEq, true_and, and_true]; omega) | (refine congrArg Value.bool (Bool.eq_iff_iff.2 ?_); simp only [beq_iff_eq, decide_eq_true_eq, true_iff, false_iff, Bool.false_eq_true, Bool.not_eq_true', Bool.and_eq_true, Bool.or_eq_true, decide_eq_false_iff_not]; omega)
   ·
    have wf5 := wr_i64 (a - (IntKind.wrap .i64 ((IntKind.wrap .i64 (Int.tdiv a 1024)) * 1024)))
    all_goals first | omega | rfl | (simp only [Value.tuple.injEq, Value.agg.injEq, Value.int.injEq, Value.bool.injEq, Array.mk.injEq, List.cons.injEq, true_and, and_true]; omega) | (refine congrArg Value.bool (Bool.eq_iff_iff.2 ?_); simp only [beq_iff_eq, decide_eq_true_eq, true_iff, false_iff, Bool.false_eq_true, Bool.not_eq_true', Bool.and_eq_true, Bool.or_eq_true, decide_eq_false_iff_not]; omega)
  ·
   have wf6 := wr_i64 (Int.tdiv a 1024)
   have wf7 := wr_i64 ((IntKind.wrap .i64 (Int.tdiv a 1024)) * 1024)
   have wf8 := wr_i64 (a - (IntKind.wrap .i64 ((IntKind.wrap .i64 (Int.tdiv a 1024)) * 1024)))
   all_goals first | omega | rfl | (simp only [Value.tuple.injEq, Value.agg.injEq, Value.int.injEq, Value.bool.injEq, Array.mk.injEq, List.cons.injEq, true_and, and_true]; omega) | (refine congrArg Value.bool (Bool.eq_iff_iff.2 ?_); simp only [beq_iff_eq, decide_eq_true_eq, true_iff, false_iff, Bool.false_eq_true, Bool.not_eq_true', Bool.and_eq_true, Bool.or_eq_true, decide_eq_false_iff_not]; omega)
theorem yhg_rdiv1024 : yhc_rdiv1024.Good Tryd.prog syG (yhE [] [] [] []) := good_of_walk (Γ := ⟨[], syG, [], [], []⟩) (ρ := yhE [] [] [] []) sym rdiv1024_w rfl (fun _ _ _ _ => ok_nil) (fun a hc hty => rdiv1024_h a hc hty)
abbrev yhc_floor : Con := ⟨135, [(.opq 0)], (.bapp 3 (.cons (.opq 0) .nil)), (.vapp 0 (.cons (.opq 0) .nil)), ⟨0, 0, 1, 0⟩, none⟩
theorem yhg_floor : yhc_floor.Good Tryd.prog syG (yhE [] [] [] []) := good_flat rfl rfl rfl (by
  intro v hc β ok w hG
  have hc' := hc
  simp only [Tree.holds, Sy.holds, AllN, Env.more, yhE, List.cons_append, List.nil_append, List.append_nil, denV, denI, denB, denL, I2.den, VOp.den, List.getD_cons_zero, List.getD_cons_succ, Cst.den, syso, syse, syio, sybo, yhb_isn, yhv_flr, List.map_nil, List.map_cons, B2.ofInts, B2.denI, B2.denB, if_true, Bool.false_eq_true, if_false, Nat.div_one, Nat.mul_one, Nat.add_zero, holds] at hc
  exact floor_v v w hc)
def parts_tree : Tree :=
 (.ret (.agg (.cons (.int .i64 (.var 0)) (.cons (.int .i64 (.var 1)) .nil))))
abbrev yhc_parts : Con := ⟨139, [(.agg (.cons (.int .i64 (.var 0)) (.cons (.int .i64 (.var 1)) .nil)))], (.tt true), (.agg (.cons (.int .i64 (.var 0)) (.cons (.int .i64 (.var 1)) .nil))), ⟨2, 0, 0, 0⟩, none⟩
theorem parts_w : walk Tryd.prog 229 ⟨[], syG, [], [], []⟩ [] .v yhc_parts yhc_parts.n 3000 = some parts_tree := by kernel_rfl
theorem parts_h (a : Int) (b : Int) (hc : holds (yhE [a, b] [] [] []) (.tt true)) (hty : patsTyp (yhE [a, b] [] [] []) [(.agg (.cons (.int .i64 (.var 0)) (.cons (.int .i64 (.var 1)) .nil)))]) : parts_tree.holds (fun v_ => v_ = denV (yhE [a, b] [] [] []) b0 (.agg (.cons (.int .i64 (.var 0)) (.cons (.int .i64 (.var 1)) .nil)))) (yhE [a, b] [] [] []) := by
  simp only [Tree.holds, Sy.holds, AllN, Env.more, yhE, List.cons_append, List.nil_append, List.append_nil, denV, denI, denB, denL, I2.den, VOp.den, List.getD_cons_zero, List.getD_cons_succ, Cst.den, syso, syse, syio, sybo, List.map_nil, List.map_cons, B2.ofInts, B2.denI, B2.denB, if_true, Bool.false_eq_true, if_false, Nat.div_one, Nat.mul_one, Nat.add_zero, holds] at hc
  simp only [patsTyp, patTyp, patTypL, yhE, denV, denL, List.getD_cons_zero, List.getD_cons_succ, and_true, true_and] at hty
  unfold parts_tree
  simp only [Tree.holds, Sy.holds, AllN, Env.more, yhE, List.cons_append, List.nil_append, List.append_nil, denV, denI, denB, denL, I2.den, VOp.den, List.getD_cons_zero, List.getD_cons_succ, Cst.den, syso, syse, syio, sybo, List.map_nil, List.map_cons, B2.ofInts, B2.denI, B2.denB, if_true, Bool.false_eq_true, if_false, Nat.div_one, Nat.mul_one, Nat.add_zero]
  all_goals first | omega | rfl | (simp only [Value.tuple.injEq, Value.agg.injEq, Value.int.injEq, Value.bool.injEq, Array.mk.injEq, List.cons.injEq, true_and, and_true]; omega) | (refine congrArg Value.bool (Bool.eq_iff_iff.2 ?_); simp only [beq_iff_eq, decide_eq_true_eq, true_iff, false_iff, Bool.false_eq_true, Bool.not_eq_true', Bool.and_eq_true, Bool.or_eq_true, decide_eq_false_iff_not]; omega)
theorem yhg_parts : yhc_parts.Good Tryd.prog syG (yhE [] [] [] []) := good_of_walk (Γ := ⟨[], syG, [], [], []⟩) (ρ := yhE [] [] [] []) sym parts_w rfl (fun _ _ _ _ => ok_nil) (fun a b hc hty => parts_h a b hc hty)
def sck_tree : Tree :=
 (.br (.b2 .lt (.var 0) (.lit (0)))
 (.ret (.iface 229 (.int .i64 (.lit (1)))))
 (.br (.b2 .lt (.lit (1024)) (.var 0))
 (.ret (.iface 229 (.int .i64 (.lit (1)))))
 (.br (.b2 .lt (.var 1) (.lit (0)))
 (.ret (.iface 229 (.int .i64 (.lit (1)))))
 (.br (.b2 .lt (.lit (1024)) (.var 1))
 (.ret (.iface 229 (.int .i64 (.lit (1)))))
 (.br (.b2 .lt (.var 2) (.lit (0)))
 (.ret (.iface 229 (.int .i64 (.lit (1)))))
 (.br (.b2 .lt (.lit (1048576)) (.var 2))
 (.ret (.iface 229 (.int .i64 (.lit (1)))))
 (.ret (.cst .nilI))))))))
abbrev yhc_sck : Con := ⟨51, [(.agg (.cons (.int .i64 (.var 0)) (.cons (.int .i64 (.var 1)) .nil))), (.int .i64 (.var 2))], (.tt true), (.err (.iapp 35 (.cons (.int .i64 (.var 0)) (.cons (.int .i64 (.var 1)) (.cons (.int .i64 (.var 2)) .nil))))), ⟨3, 0, 0, 0⟩, none⟩
theorem sck_w : walk Tryd.prog 229 ⟨[yhc_parts], syG, [], [], []⟩ [] .v yhc_sck yhc_sck.n 3000 = some sck_tree := by kernel_rfl
theorem sck_h (p : Int) (q : Int) (l : Int) (hc : holds (yhE [p, q, l] [] [] []) (.tt true)) (hty : patsTyp (yhE [p, q, l] [] [] []) [(.agg (.cons (.int .i64 (.var 0)) (.cons (.int .i64 (.var 1)) .nil))), (.int .i64 (.var 2))]) : sck_tree.holds (fun v_ => v_ = denV (yhE [p, q, l] [] [] []) b0 (.err (.iapp 35 (.cons (.int .i64 (.var 0)) (.cons (.int .i64 (.var 1)) (.cons (.int .i64 (.var 2)) .nil)))))) (yhE [p, q, l] [] [] []) := by
  simp only [Tree.holds, Sy.holds, AllN, Env.more, yhE, List.cons_append, List.nil_append, List.append_nil, denV, denI, denB, denL, I2.den, VOp.den, List.getD_cons_zero, List.getD_cons_succ, Cst.den, syso, syse, syio, sybo, List.map_nil, List.map_cons, B2.ofInts, B2.denI, B2.denB, if_true, Bool.false_eq_true, if_false, Nat.div_one, Nat.mul_one, Nat.add_zero, holds] at hc
  simp only [patsTyp, patTyp, patTypL, yhE, denV, denL, List.getD_cons_zero, List.getD_cons_succ, and_true, true_and] at hty
  unfold sck_tree
  simp only [Tree.holds, Sy.holds, AllN, Env.more, yhE, List.cons_append, List.nil_append, List.append_nil, denV, denI, denB, denL, I2.den, VOp.den, List.getD_cons_zero, List.getD_cons_succ, Cst.den, syso, syse, syio, sybo, yhi_sve, List.map_nil, List.map_cons, B2.ofInts, B2.denI, B2.denB, if_true, Bool.false_eq_true, if_false, Nat.div_one, Nat.mul_one, Nat.add_zero]
  have hs := sv_spec p q l
  refine ⟨fun h0 => ?_, fun h0 => ?_⟩
  ·
   first
   | (exfalso; omega)
   | (rw [show svK p q l = 0 by omega]; rfl)
   | (rw [show svK p q l = 1 by omega]; rfl)
  ·
   refine ⟨fun h1 => ?_, fun h1 => ?_⟩
   ·
    first
    | (exfalso; omega)
    | (rw [show svK p q l = 0 by omega]; rfl)
    | (rw [show svK p q l = 1 by omega]; rfl)
   ·
    refine ⟨fun h2 => ?_, fun h2 => ?_⟩
    ·
     first
     | (exfalso; omega)
     | (rw [show svK p q l = 0 by omega]; rfl)
     | (rw [show svK p q l = 1 by omega]; rfl)
    ·
     refine ⟨fun h3 => ?_, fun h3 => ?_⟩
     ·
      first
      | (exfalso; omega)
      | (rw [show svK p q l = 0 by omega]; rfl)
      | (rw [show svK p q l = 1 by omega]; rfl)
     ·
      refine ⟨fun h4 => ?_, fun h4 => ?_⟩
      ·
       first
       | (exfalso; omega)
       | (rw [show svK p q l = 0 by omega]; rfl)
       | (rw [show svK p q l = 1 by omega]; rfl)
      ·
       refine ⟨fun h5 => ?_, fun h5 => ?_⟩
       ·
        first
        | (exfalso; omega)
        | (rw [show svK p q l = 0 by omega]; rfl)
        | (rw [show svK p q l = 1 by omega]; rfl)
       ·
        first
        | (exfalso; omega)
        | (rw [show svK p q l = 0 by omega]; rfl)
        | (rw [show svK p q l = 1 by omega]; rfl)
theorem yhg_sck : yhc_sck.Good Tryd.prog syG (yhE [] [] [] []) := good_of_walk (Γ := ⟨[yhc_parts], syG, [], [], []⟩) (ρ := yhE [] [] [] []) sym sck_w rfl (fun _ _ _ _ => (ok_cons (Con.Good.env yhg_parts _ _ _ _) ok_nil)) (fun p q l hc hty => sck_h p q l hc hty)
def pull_tree : Tree :=
 (.br (.not (.b2 .eq (.iapp 35 (.cons (.int .i64 (.var 0)) (.cons (.int .i64 (.var 1)) (.cons (.int .i64 (.lit (0))) .nil)))) (.lit (0))))
 (.ret (.tup (.cons (.cst (.cpx .f64 0 0)) (.cons (.iface 229 (.int .i64 (.lit (1)))) .nil))))
 (.need (.b2 .and (.b2 .le (.lit (-9223372036854775808)) (.var 2)) (.b2 .le (.var 2) (.lit (9223372036854775807))))
 (.br (.b2 .lt (.lit (1048576)) (.iapp 0 (.cons (.int .i64 (.var 2)) .nil)))
 (.ret (.tup (.cons (.cst (.cpx .f64 0 0)) (.cons (.iface 229 (.int .i64 (.lit (1)))) .nil))))
 (.need (.b2 .and (.b2 .le (.lit (-9223372036854775808)) (.var 3)) (.b2 .le (.var 3) (.lit (9223372036854775807))))
 (.br (.b2 .lt (.lit (1048576)) (.iapp 0 (.cons (.int .i64 (.var 3)) .nil)))
 (.ret (.tup (.cons (.cst (.cpx .f64 0 0)) (.cons (.iface 229 (.int .i64 (.lit (1)))) .nil))))
 (.need (.ofB (.vop .okL (.cons (.vop .i2f (.cons (.int .i64 (.var 0)) .nil)) (.cons (.vop .i2f (.cons (.int .i64 (.var 1)) .nil)) .nil))))
 (.need (.ofB (.vop .okL (.cons (.vop .i2f (.cons (.int .i64 (.var 2)) .nil)) (.cons (.vop .i2f (.cons (.int .i64 (.wrap .i64 (.i2 .sub (.lit (0)) (.var 3)))) .nil)) .nil))))
 (.need (.ofB (.vop .okM (.cons (.vop .cpx (.cons (.vop .i2f (.cons (.int .i64 (.var 0)) .nil)) (.cons (.vop .i2f (.cons (.int .i64 (.var 1)) .nil)) .nil))) (.cons (.vop .cpx (.cons (.vop .i2f (.cons (.int .i64 (.var 2)) .nil)) (.cons (.vop .i2f (.cons (.int .i64 (.wrap .i64 (.i2 .sub (.lit (0)) (.var 3)))) .nil)) .nil))) .nil))))
 (.ret (.tup (.cons (.vop .cmul (.cons (.vop .cpx (.cons (.vop .i2f (.cons (.int .i64 (.var 0)) .nil)) (.cons (.vop .i2f (.cons (.int .i64 (.var 1)) .nil)) .nil))) (.cons (.vop .cpx (.cons (.vop .i2f (.cons (.int .i64 (.var 2)) .nil)) (.cons (.vop .i2f (.cons (.int .i64 (.wrap .i64 (.i2 .sub (.lit (0)) (.var 3)))) .nil)) .nil))) .nil))) (.cons (.cst .nilI) .nil))))))))))))
abbrev yhc_pull : Con := ⟨46, [(.agg (.cons (.int .i64 (.var 0)) (.cons (.int .i64 (.var 1)) .nil))), (.int .i64 (.var 2)), (.int .i64 (.var 3))], (.b2 .and (.b2 .and (.b2 .le (.lit (-9223372036854775808)) (.var 0)) (.b2 .le (.var 0) (.lit (9223372036854775807)))) (.b2 .and (.b2 .and (.b2 .le (.lit (-9223372036854775808)) (.var 1)) (.b2 .le (.var 1) (.lit (9223372036854775807)))) (.b2 .and (.b2 .and (.b2 .le (.lit (-9223372036854775808)) (.var 2)) (.b2 .le (.var 2) (.lit (9223372036854775807)))) (.b2 .and (.b2 .le (.lit (-9223372036854775808)) (.var 3)) (.b2 .le (.var 3) (.lit (9223372036854775807))))))), (.tup (.cons (.vapp 1 (.cons (.int .i64 (.var 0)) (.cons (.int .i64 (.var 1)) (.cons (.int .i64 (.var 2)) (.cons (.int .i64 (.var 3)) .nil))))) (.cons (.err (.iapp 37 (.cons (.int .i64 (.var 0)) (.cons (.int .i64 (.var 1)) (.cons (.int .i64 (.var 2)) (.cons (.int .i64 (.var 3)) .nil)))))) .nil))), ⟨4, 0, 0, 0⟩, none⟩
theorem pull_w : walk Tryd.prog 229 ⟨[yhc_sck, yac_size, yhc_parts], syG, [], [], []⟩ [] .v yhc_pull yhc_pull.n 3000 = some pull_tree := by kernel_rfl
theorem pull_h (p : Int) (q : Int) (o : Int) (s : Int) (hc : holds (yhE [p, q, o, s] [] [] []) (.b2 .and (.b2 .and (.b2 .le (.lit (-9223372036854775808)) (.var 0)) (.b2 .le (.var 0) (.lit (9223372036854775807)))) (.b2 .and (.b2 .and (.b2 .le (.lit (-9223372036854775808)) (.var 1)) (.b2 .le (.var 1) (.lit (9223372036854775807)))) (.b2 .and (.b2 .and (.b2 .le (.lit (-9223372036854775808)) (.var 2)) (.b2 .le (.var 2) (.lit (9223372036854775807)))) (.b2 .and (.b2 .le (.lit (-9223372036854775808)) (.var 3)) (.b2 .le (.var 3) (.lit (9223372036854775807)))))))) (hty : patsTyp (yhE [p, q, o, s] [] [] []) [(.agg (.cons (.int .i64 (.var 0)) (.cons (.int .i64 (.var 1)) .nil))), (.int .i64 (.var 2)), (.int .i64 (.var 3))]) : pull_tree.holds (fun v_ => v_ = denV (yhE [p, q, o, s] [] [] []) b0 (.tup (.cons (.vapp 1 (.cons (.int .i64 (.var 0)) (.cons (.int .i64 (.var 1)) (.cons (.int .i64 (.var 2)) (.cons (.int .i64 (.var 3)) .nil))))) (.cons (.err (.iapp 37 (.cons (.int .i64 (.var 0)) (.cons (.int .i64 (.var 1)) (.cons (.int .i64 (.var 2)) (.cons (.int .i64 (.var 3)) .nil)))))) .nil)))) (yhE [p, q, o, s] [] [] []) := by
  simp only [Tree.holds, Sy.holds, AllN, Env.more, yhE, List.cons_append, List.nil_append, List.append_nil, denV, denI, denB, denL, I2.den, VOp.den, List.getD_cons_zero, List.getD_cons_succ, Cst.den, syso, syse, syio, sybo, List.map_nil, List.map_cons, B2.ofInts, B2.denI, B2.denB, if_true, Bool.false_eq_true, if_false, Nat.div_one, Nat.mul_one, Nat.add_zero, holds] at hc
  simp only [patsTyp, patTyp, patTypL, yhE, denV, denL, List.getD_cons_zero, List.getD_cons_succ, and_true, true_and] at hty
  unfold pull_tree
  simp only [Tree.holds, Sy.holds, AllN, Env.more, yhE, List.cons_append, List.nil_append, List.append_nil, denV, denI, denB, denL, I2.den, VOp.den, List.getD_cons_zero, List.getD_cons_succ, Cst.den, syso, syse, syio, sybo, yhi_sz, yhi_sve, yhi_ple, yhv_plz, List.map_nil, List.map_cons, B2.ofInts, B2.denI, B2.denB, if_true, Bool.false_eq_true, if_false, Nat.div_one, Nat.mul_one, Nat.add_zero]
  have hp := pl_spec p q o s
  have z1 := szE_spec o ⟨by omega, by omega⟩
  have z2 := szE_spec s ⟨by omega, by omega⟩
  have hsv := sv_spec p q 0
  have ww := wr_i64 (0 - s)
  refine ⟨fun h0 => ?_, fun h0 => ?_⟩
  ·
   rcases hp with ⟨_, e0, e1⟩ | ⟨_, e0, e1⟩
   all_goals first
   | (exfalso; omega)
   | (rw [e0, e1]; rfl)
   | (have e : IntKind.wrap .i64 (0 - s) = -s := by omega
      rw [e0, e1, e]
      rfl)
  ·
   refine ⟨?_, fun h1 => ?_⟩
   ·
    first
    | omega
    | rfl
    | (have e : IntKind.wrap .i64 (0 - s) = -s := by omega
       rw [e]
       obtain ⟨re, im, e2, _⟩ := pl_of (p := p) (q := q) (o := o) (s := s) (by omega) (by omega) (by omega) (by omega) (by omega) (by omega) (by omega) (by omega)
       show (cmulV _ _).isSome = true
       rw [e2]
       rfl)
   ·
    refine ⟨fun h2 => ?_, fun h2 => ?_⟩
    ·
     rcases hp with ⟨_, e0, e1⟩ | ⟨_, e0, e1⟩
     all_goals first
     | (exfalso; omega)
     | (rw [e0, e1]; rfl)
     | (have e : IntKind.wrap .i64 (0 - s) = -s := by omega
        rw [e0, e1, e]
        rfl)
    ·
     refine ⟨?_, fun h3 => ?_⟩
     ·
      first
      | omega
      | rfl
      | (have e : IntKind.wrap .i64 (0 - s) = -s := by omega
         rw [e]
         obtain ⟨re, im, e2, _⟩ := pl_of (p := p) (q := q) (o := o) (s := s) (by omega) (by omega) (by omega) (by omega) (by omega) (by omega) (by omega) (by omega)
         show (cmulV _ _).isSome = true
         rw [e2]
         rfl)
     ·
      refine ⟨fun h4 => ?_, fun h4 => ?_⟩
      ·
       rcases hp with ⟨_, e0, e1⟩ | ⟨_, e0, e1⟩
       all_goals first
       | (exfalso; omega)
       | (rw [e0, e1]; rfl)
       | (have e : IntKind.wrap .i64 (0 - s) = -s := by omega
          rw [e0, e1, e]
          rfl)
      ·
       refine ⟨?_, fun h5 => ?_⟩
       ·
        first
        | omega
        | rfl
        | (have e : IntKind.wrap .i64 (0 - s) = -s := by omega
           rw [e]
           obtain ⟨re, im, e2, _⟩ := pl_of (p := p) (q := q) (o := o) (s := s) (by omega) (by omega) (by omega) (by omega) (by omega) (by omega) (by omega) (by omega)
           show (cmulV _ _).isSome = true
           rw [e2]
           rfl)
       ·
        refine ⟨?_, fun h6 => ?_⟩
        ·
         first
         | omega
         | rfl
         | (have e : IntKind.wrap .i64 (0 - s) = -s := by omega
            rw [e]
            obtain ⟨re, im, e2, _⟩ := pl_of (p := p) (q := q) (o := o) (s := s) (by omega) (by omega) (by omega) (by omega) (by omega) (by omega) (by omega) (by omega)
            show (cmulV _ _).isSome = true
            rw [e2]
            rfl)
        ·
         try simp only [hw0]
         refine ⟨?_, fun h7 => ?_⟩
         ·
          first
          | omega
          | rfl
          | (have e : IntKind.wrap .i64 (0 - s) = -s := by omega
             rw [e]
             obtain ⟨re, im, e2, _⟩ := pl_of (p := p) (q := q) (o := o) (s := s) (by omega) (by omega) (by omega) (by omega) (by omega) (by omega) (by omega) (by omega)
             show (cmulV _ _).isSome = true
             rw [e2]
             rfl)
         ·
          try simp only [hw0]
          rcases hp with ⟨_, e0, e1⟩ | ⟨_, e0, e1⟩
          all_goals first
          | (exfalso; omega)
          | (rw [e0, e1]; rfl)
          | (have e : IntKind.wrap .i64 (0 - s) = -s := by omega
             rw [e0, e1, e]
             rfl)
theorem yhg_pull : yhc_pull.Good Tryd.prog syG (yhE [] [] [] []) := good_of_walk (Γ := ⟨[yhc_sck, yac_size, yhc_parts], syG, [], [], []⟩) (ρ := yhE [] [] [] []) sym pull_w rfl (fun _ _ _ _ => (ok_cons (Con.Good.env yhg_sck _ _ _ _) (ok_cons (Con.Good.env (Con.Good.up (Con.Good.up (Con.Good.up yag_size ybup rfl) ycup rfl) yhup rfl) _ _ _ _) (ok_cons (Con.Good.env yhg_parts _ _ _ _) ok_nil)))) (fun p q o s hc hty => pull_h p q o s hc hty)
def slew_tree : Tree :=
 (.br (.b2 .lt (.var 1) (.lit (0)))
 (.ret (.tup (.cons (.int .i64 (.lit (0))) (.cons (.int .i64 (.lit (0))) (.cons (.iface 229 (.int .i64 (.lit (1)))) .nil)))))
 (.need (.b2 .le (.wrap .i64 (.i2 .sub (.lit (0)) (.var 1))) (.var 1))
 (.need (.b2 .and (.b2 .and (.b2 .le (.lit (-9223372036854775808)) (.var 0)) (.b2 .le (.var 0) (.lit (9223372036854775807)))) (.b2 .and (.b2 .le (.lit (-9223372036854775808)) (.iapp 26 (.cons (.int .i64 (.var 0)) (.cons (.int .i64 (.wrap .i64 (.i2 .sub (.lit (0)) (.var 1)))) (.cons (.int .i64 (.var 1)) .nil))))) (.b2 .le (.iapp 26 (.cons (.int .i64 (.var 0)) (.cons (.int .i64 (.wrap .i64 (.i2 .sub (.lit (0)) (.var 1)))) (.cons (.int .i64 (.var 1)) .nil)))) (.lit (9223372036854775807)))))
 (.ret (.tup (.cons (.int .i64 (.iapp 26 (.cons (.int .i64 (.var 0)) (.cons (.int .i64 (.wrap .i64 (.i2 .sub (.lit (0)) (.var 1)))) (.cons (.int .i64 (.var 1)) .nil))))) (.cons (.int .i64 (.iapp 1 (.cons (.int .i64 (.i2 .sub (.var 0) (.iapp 26 (.cons (.int .i64 (.var 0)) (.cons (.int .i64 (.wrap .i64 (.i2 .sub (.lit (0)) (.var 1)))) (.cons (.int .i64 (.var 1)) .nil)))))) .nil))) (.cons (.cst .nilI) .nil))))))))
abbrev yhc_slew : Con := ⟨48, [(.int .i64 (.var 0)), (.int .i64 (.var 1))], (.b2 .and (.b2 .and (.b2 .le (.lit (-9223372036854775808)) (.var 0)) (.b2 .le (.var 0) (.lit (9223372036854775807)))) (.b2 .and (.b2 .le (.lit (-9223372036854775808)) (.var 1)) (.b2 .le (.var 1) (.lit (9223372036854775807))))), (.tup (.cons (.int .i64 (.iapp 38 (.cons (.int .i64 (.var 0)) (.cons (.int .i64 (.var 1)) .nil)))) (.cons (.int .i64 (.iapp 40 (.cons (.int .i64 (.var 0)) (.cons (.int .i64 (.var 1)) .nil)))) (.cons (.err (.iapp 39 (.cons (.int .i64 (.var 1)) .nil))) .nil)))), ⟨2, 0, 0, 0⟩, none⟩
theorem slew_w : walk Tryd.prog 229 ⟨[yhc_clamp, yac_subsat], syG, [], [], []⟩ [] .v yhc_slew yhc_slew.n 3000 = some slew_tree := by kernel_rfl
theorem slew_h (o : Int) (m : Int) (hc : holds (yhE [o, m] [] [] []) (.b2 .and (.b2 .and (.b2 .le (.lit (-9223372036854775808)) (.var 0)) (.b2 .le (.var 0) (.lit (9223372036854775807)))) (.b2 .and (.b2 .le (.lit (-9223372036854775808)) (.var 1)) (.b2 .le (.var 1) (.lit (9223372036854775807)))))) (hty : patsTyp (yhE [o, m] [] [] []) [(.int .i64 (.var 0)), (.int .i64 (.var 1))]) : slew_tree.holds (fun v_ => v_ = denV (yhE [o, m] [] [] []) b0 (.tup (.cons (.int .i64 (.iapp 38 (.cons (.int .i64 (.var 0)) (.cons (.int .i64 (.var 1)) .nil)))) (.cons (.int .i64 (.iapp 40 (.cons (.int .i64 (.var 0)) (.cons (.int .i64 (.var 1)) .nil)))) (.cons (.err (.iapp 39 (.cons (.int .i64 (.var 1)) .nil))) .nil))))) (yhE [o, m] [] [] []) := by
  simp only [Tree.holds, Sy.holds, AllN, Env.more, yhE, List.cons_append, List.nil_append, List.append_nil, denV, denI, denB, denL, I2.den, VOp.den, List.getD_cons_zero, List.getD_cons_succ, Cst.den, syso, syse, syio, sybo, List.map_nil, List.map_cons, B2.ofInts, B2.denI, B2.denB, if_true, Bool.false_eq_true, if_false, Nat.div_one, Nat.mul_one, Nat.add_zero, holds] at hc
  simp only [patsTyp, patTyp, patTypL, yhE, denV, denL, List.getD_cons_zero, List.getD_cons_succ, and_true, true_and] at hty
  unfold slew_tree
  simp only [Tree.holds, Sy.holds, AllN, Env.more, yhE, List.cons_append, List.nil_append, List.append_nil, denV, denI, denB, denL, I2.den, VOp.den, List.getD_cons_zero, List.getD_cons_succ, Cst.den, syso, syse, syio, sybo, yhi_sa, yhi_cl, yhi_sla, yhi_sle, yhi_slr, List.map_nil, List.map_cons, B2.ofInts, B2.denI, B2.denB, if_true, Bool.false_eq_true, if_false, Nat.div_one, Nat.mul_one, Nat.add_zero]
  have hs := sl_spec o m
  have cs := cl_spec o (-m) m
  have ww := wr_i64 (0 - m)
  refine ⟨fun h0 => ?_, fun h0 => ?_⟩
  ·
   rcases hs with ⟨_, e1, e2, e3⟩ | ⟨_, e1, e2, e3⟩
   all_goals first
   | (exfalso; omega)
   | (rw [e1, e2, e3]; rfl)
   | (rw [e1, e2, e3, show IntKind.wrap .i64 (0 - m) = -m by omega]; rfl)
  ·
   refine ⟨?_, fun h1 => ?_⟩
   ·
    first
    | omega
    | (rw [show IntKind.wrap .i64 (0 - m) = -m by omega]; omega)
   ·
    try simp only [hw0]
    refine ⟨?_, fun h2 => ?_⟩
    ·
     first
     | omega
     | (rw [show IntKind.wrap .i64 (0 - m) = -m by omega]; omega)
    ·
     try simp only [hw0]
     rcases hs with ⟨_, e1, e2, e3⟩ | ⟨_, e1, e2, e3⟩
     all_goals first
     | (exfalso; omega)
     | (rw [e1, e2, e3]; rfl)
     | (rw [e1, e2, e3, show IntKind.wrap .i64 (0 - m) = -m by omega]; rfl)
theorem yhg_slew : yhc_slew.Good Tryd.prog syG (yhE [] [] [] []) := good_of_walk (Γ := ⟨[yhc_clamp, yac_subsat], syG, [], [], []⟩) (ρ := yhE [] [] [] []) sym slew_w rfl (fun _ _ _ _ => (ok_cons (Con.Good.env yhg_clamp _ _ _ _) (ok_cons (Con.Good.env (Con.Good.up (Con.Good.up (Con.Good.up yag_subsat ybup rfl) ycup rfl) yhup rfl) _ _ _ _) ok_nil))) (fun o m hc hty => slew_h o m hc hty)
end Go.Proofs.YtjhjgfnodhbacaaDoor
