/-
  Layer 16 by the second engine: the servo, its laws.
-/
import Derived.Test.YtjhjgfnodhbacaaDoorSychs
import Derived.Test.YtjhjgfnodhbacaaDoorYhhs
import Derived.Test.YtjhjgfnodhbacaaDoorE00hs
import Derived.Test.YtjhjgfnodhbacaaDoorNumhs
namespace Go.Proofs.YtjhjgfnodhbacaaDoor
open Go.RowKit Go.Extern.Stop Go.Stop Go.Extern Go.Proofs.YtjhjgfnodhbacaaDoor.Sy
set_option linter.unusedVariables false
set_option linter.unusedSimpArgs false
def geF (e x : Int) : Int := if e = 0 then x else 0
theorem ge_y {e : Int} (h : e = 0) (x : Int) : geF e x = x := by unfold geF; rw [if_pos h]
theorem ge_n {e : Int} (h : e ≠ 0) (x : Int) : geF e x = 0 := by unfold geF; rw [if_neg h]
def plA (p q o s : Int) : Int := if plE p q o s = 0 then p * o + q * s else 0
def plB (p q o s : Int) : Int := if plE p q o s = 0 then q * o - p * s else 0
theorem pl_or (p q o s : Int) : ((svK p q 0 = 0 ∧ -1048576 ≤ o ∧ o ≤ 1048576 ∧ -1048576 ≤ s ∧ s ≤ 1048576) ∧ plE p q o s = 0 ∧ plA p q o s = p * o + q * s ∧ plB p q o s = q * o - p * s) ∨ ((svK p q 0 = 1 ∨ o < -1048576 ∨ 1048576 < o ∨ s < -1048576 ∨ 1048576 < s) ∧ plE p q o s = 1 ∧ plA p q o s = 0 ∧ plB p q o s = 0) := by
  have hv := sv_spec p q 0
  rcases pl_spec p q o s with ⟨h, e, _⟩ | ⟨h, e, _⟩
  · exact .inl ⟨h, e, by unfold plA; rw [if_pos e], by unfold plB; rw [if_pos e]⟩
  · exact .inr ⟨by omega, e, by unfold plA; rw [if_neg (by omega)], by unfold plB; rw [if_neg (by omega)]⟩
theorem pl_parts (p q o s : Int) : isCV (plZ p q o s) = true ∧ isFV (creV (plZ p q o s)) = true ∧ isFV (cimV (plZ p q o s)) = true ∧ Go.RowKit.intOf (f2iV (creV (plZ p q o s))) = plA p q o s ∧ Go.RowKit.intOf (f2iV (cimV (plZ p q o s))) = plB p q o s := by
  obtain ⟨h1, h2, h3⟩ := pull_i p q o s
  rcases pl_or p q o s with ⟨_, e, ea, eb⟩ | ⟨_, e, ea, eb⟩
  · obtain ⟨a, b, c, d⟩ := h2 e
    exact ⟨h1, a, c, by rw [b, ea]; rfl, by rw [d, eb]; rfl⟩
  · obtain ⟨a, b, c, d⟩ := h3 e
    exact ⟨h1, a, c, by rw [b, ea]; rfl, by rw [d, eb]; rfl⟩
theorem q_re : feqV (creV (plZ 2 1 3 5)) (.float .f64 4622382067542392832) = some true := by kernel_rfl
theorem q_im : feqV (cimV (plZ 2 1 3 5)) (.float .f64 13842939354630062080) = some true := by kernel_rfl
theorem q_st : stF 2 1 100 0 1024000 = 2 ∧ stS 0 1024000 = 1000 ∧ svK 2 1 100 = 0 ∧ svK (-1) 0 100 = 1 ∧ plE 2 1 3 5 = 0 ∧ slA (-9) 4 = -4 ∧ slR (-9) 4 = -5 ∧ slE 4 = 0 := by decide
theorem q_c : isCV (plZ 2 1 3 5) = true := (pl_parts 2 1 3 5).1
noncomputable def okR (l : List Value) : Bool := @decide (∀ x ∈ l, inK x) (Classical.propDecidable _)
theorem okR_iff {l : List Value} : okR l = true ↔ ∀ x ∈ l, inK x := @decide_eq_true_iff _ (Classical.propDecidable _)
abbrev KI : SK := .cons (.int .i16) .nil
theorem off_at {l : Value} (h : typ (.sl KI) l) (hr : okR (Sy.rows l) = true) (k : Nat) : -32768 ≤ Go.RowKit.intOf ((Sy.rows l).getD k Go.undef) ∧ Go.RowKit.intOf ((Sy.rows l).getD k Go.undef) ≤ 32767 := by
  obtain ⟨_, n, h1, h2, h3⟩ := h
  have hw : SK.wd KI = 1 := rfl
  rw [hw] at h2 h3
  by_cases hk : k < n
  · obtain ⟨t0, _⟩ := h3 k hk
    rw [Nat.mul_one] at t0
    have hm : (Sy.rows l).getD k Go.undef ∈ Sy.rows l := by rw [List.getD_eq_getElem?_getD, List.getElem?_eq_getElem (by omega)]; exact List.getElem_mem _
    exact bounds_i16 (okR_iff.1 hr _ hm _ _ t0)
  · rw [List.getD_eq_getElem?_getD, List.getElem?_eq_none (by omega)]
    exact ⟨by decide, by decide⟩
theorem num16_any (n : Int) (w : World) (hg : w.cell? ⟨0, 0, none⟩ = some asHandle) : Calls Tryd.prog 50 #[errVal 229 n] w fun e w' => e = .returned (.int .i64 n) ∧ Below w.heap.size w w' := by
  unfold errVal
  split
  · rename_i h; subst h; exact num16_nil _
  · exact num16_err _ _ hg
theorem cl_neg {x l : Int} (hl : 0 ≤ l) : clI (-x) (-l) l = -clI x (-l) l := by
  have h1 := cl_spec x (-l) l
  have h2 := cl_spec (-x) (-l) l
  omega
theorem st_k {k : Int} (h0 : -32768 ≤ k) (h1 : k ≤ 32767) : stO (k * 1024) = k ∧ stO (-(k * 1024)) = -k := by
  have c1 := cl_spec (k * 1024 / 1024) (-1048576) 1048576
  have c2 := cl_spec (-(k * 1024) / 1024) (-1048576) 1048576
  unfold stO
  omega
theorem st_neg {k s : Int} (h0 : -32768 ≤ k) (h1 : k ≤ 32767) : stS (-s) (-(k * 1024)) = -stS s (k * 1024) := by
  obtain ⟨e1, e2⟩ := st_k h0 h1
  unfold stS
  rw [e1, e2]
  have c1 := cl_neg (x := s) (l := 1048576) (by decide)
  rw [c1]
  have c2 := cl_neg (x := clI s (-1048576) 1048576 + k) (l := 1048576) (by decide)
  rw [← c2]
  congr 1
  omega
theorem st_fr {p q l k s : Int} (hl : 0 ≤ l) (h0 : -32768 ≤ k) (h1 : k ≤ 32767) : -1 ≤ stF p q l s (k * 1024) + stF p q l (-s) (-(k * 1024)) ∧ stF p q l s (k * 1024) + stF p q l (-s) (-(k * 1024)) ≤ 0 ∧ -l ≤ stF p q l s (k * 1024) ∧ stF p q l s (k * 1024) ≤ l ∧ -l ≤ stF p q l (-s) (-(k * 1024)) ∧ stF p q l (-s) (-(k * 1024)) ≤ l := by
  obtain ⟨e1, e2⟩ := st_k h0 h1
  unfold stF
  rw [st_neg h0 h1, e1, e2, Int.mul_neg, Int.mul_neg]
  generalize p * k = x
  generalize q * stS s (k * 1024) = y
  have c1 := cl_spec ((x + y) / 1024) (-l) l
  have c2 := cl_spec ((-x + -y) / 1024) (-l) l
  omega
theorem st_zero (p q l : Int) (hl : 0 ≤ l) : stS 0 0 = 0 ∧ stF p q l 0 0 = 0 := by
  have e : stS 0 0 = 0 := by decide
  have e2 : stO 0 = 0 := by decide
  refine ⟨e, ?_⟩
  unfold stF
  rw [e, e2, Int.mul_zero, Int.mul_zero]
  have := cl_spec ((0 + 0) / 1024) (-l) l
  omega
noncomputable def yoI : Nat → List Value → Int
  | 42, [.int _ e, .int _ x] => geF e x
  | 43, [.int _ p, .int _ q, .int _ o, .int _ s] => plA p q o s
  | 44, [.int _ p, .int _ q, .int _ o, .int _ s] => plB p q o s
  | i, l => yhI i l
noncomputable def yoB : Nat → List Value → Bool
  | 4, [l] => okR (rows l)
  | i, l => yhB i l
noncomputable def yoV : Nat → List Value → Value
  | i, l => yhV i l
noncomputable abbrev yoE (iv : List Int) (bv : List Bool) (vv : List Value) (sv : List ByteArray) : Env := { iv := iv, bv := bv, vv := vv, sv := sv, fi := yoI, fb := yoB, fv := yoV, et := 229 }
set_option maxHeartbeats 8000000 in
theorem youp : Agree 42 4 2 (yhE [] [] [] []) (yoE [] [] [] []) := ⟨rfl, (by
    intro f hf
    funext l
    show yoI f l = yhI f l
    unfold yoI
    split <;> first | rfl | omega), (by
    intro f hf
    funext l
    show yoB f l = yhB f l
    unfold yoB
    split <;> first | rfl | omega), (by
    intro f hf
    funext l
    show yoV f l = yhV f l
    unfold yoV
    split <;> first | rfl | omega)⟩
theorem yoi_nv (k1 : IntKind) (a : Int) : yoI 2 [.int k1 a] = svE a := rfl
theorem yoi_so (k1 : IntKind) (a : Int) : yoI 4 [.int k1 a] = soE a := rfl
theorem yoi_bd (k1 : IntKind) (a : Int) (k2 : IntKind) (o : Int) : yoI 5 [.int k1 a, .int k2 o] = bdE a o := rfl
theorem yoi_cl (k1 : IntKind) (v : Int) (k2 : IntKind) (lo : Int) (k3 : IntKind) (hi : Int) : yoI 26 [.int k1 v, .int k2 lo, .int k3 hi] = clI v lo hi := rfl
theorem yoi_dv (k1 : IntKind) (a : Int) (k2 : IntKind) (b : Int) : yoI 32 [.int k1 a, .int k2 b] = a / b := rfl
theorem yoi_sve (k1 : IntKind) (p : Int) (k2 : IntKind) (q : Int) (k3 : IntKind) (l : Int) : yoI 35 [.int k1 p, .int k2 q, .int k3 l] = svK p q l := rfl
theorem yoi_sts (k1 : IntKind) (s : Int) (k2 : IntKind) (o : Int) : yoI 36 [.int k1 s, .int k2 o] = stS s o := rfl
theorem yoi_ple (k1 : IntKind) (p : Int) (k2 : IntKind) (q : Int) (k3 : IntKind) (o : Int) (k4 : IntKind) (s : Int) : yoI 37 [.int k1 p, .int k2 q, .int k3 o, .int k4 s] = plE p q o s := rfl
theorem yoi_sla (k1 : IntKind) (o : Int) (k2 : IntKind) (m : Int) : yoI 38 [.int k1 o, .int k2 m] = slA o m := rfl
theorem yoi_sle (k1 : IntKind) (m : Int) : yoI 39 [.int k1 m] = slE m := rfl
theorem yoi_slr (k1 : IntKind) (o : Int) (k2 : IntKind) (m : Int) : yoI 40 [.int k1 o, .int k2 m] = slR o m := rfl
theorem yoi_stf (k1 : IntKind) (p : Int) (k2 : IntKind) (q : Int) (k3 : IntKind) (l : Int) (k4 : IntKind) (s : Int) (k5 : IntKind) (o : Int) : yoI 41 [.int k1 p, .int k2 q, .int k3 l, .int k4 s, .int k5 o] = stF p q l s o := rfl
theorem yoi_ge (k1 : IntKind) (e : Int) (k2 : IntKind) (x : Int) : yoI 42 [.int k1 e, .int k2 x] = geF e x := rfl
theorem yoi_pla (k1 : IntKind) (p : Int) (k2 : IntKind) (q : Int) (k3 : IntKind) (o : Int) (k4 : IntKind) (s : Int) : yoI 43 [.int k1 p, .int k2 q, .int k3 o, .int k4 s] = plA p q o s := rfl
theorem yoi_plb (k1 : IntKind) (p : Int) (k2 : IntKind) (q : Int) (k3 : IntKind) (o : Int) (k4 : IntKind) (s : Int) : yoI 44 [.int k1 p, .int k2 q, .int k3 o, .int k4 s] = plB p q o s := rfl
theorem yob_isn (v : Value) : yoB 3 [v] = isNV v := rfl
theorem yov_flr (v : Value) : yoV 0 [v] = flrW v := rfl
theorem yov_plz (k1 : IntKind) (p : Int) (k2 : IntKind) (q : Int) (k3 : IntKind) (o : Int) (k4 : IntKind) (s : Int) : yoV 1 [.int k1 p, .int k2 q, .int k3 o, .int k4 s] = plZ p q o s := rfl
abbrev yoc_num : Con := ⟨50, [(.err (.var 0))], (.tt true), (.int .i64 (.var 0)), ⟨1, 0, 0, 0⟩, none⟩
theorem yog_num : yoc_num.Good Tryd.prog syG (yoE [] [] [] []) := good_flat rfl rfl rfl (by
  intro n hc β ok w hG
  have hc' := hc
  simp only [Tree.holds, Sy.holds, AllN, Env.more, yoE, List.cons_append, List.nil_append, List.append_nil, denV, denI, denB, denL, I2.den, VOp.den, List.getD_cons_zero, List.getD_cons_succ, Cst.den, syso, syse, syio, sybo, List.map_nil, List.map_cons, B2.ofInts, B2.denI, B2.denB, if_true, Bool.false_eq_true, if_false, Nat.div_one, Nat.mul_one, Nat.add_zero, holds] at hc
  exact num16_any n w (hG _ (List.mem_singleton.2 rfl)).2.2)
def stepg_x0 : Tm := (.int .i64 (.iapp 26 (.cons (.int .i64 (.wrap .i64 (.i2 .add (.iapp 26 (.cons (.int .i64 (.var 1)) (.cons (.int .i64 (.lit (-1048576))) (.cons (.int .i64 (.lit (1048576))) .nil)))) (.iapp 26 (.cons (.int .i64 (.i2 (.shr .i64) (.var 5) (.lit (10)))) (.cons (.int .i64 (.lit (-1048576))) (.cons (.int .i64 (.lit (1048576))) .nil))))))) (.cons (.int .i64 (.lit (-1048576))) (.cons (.int .i64 (.lit (1048576))) .nil)))))
def stepg_x1 : Tm := (.vapp 1 (.cons (.int .i64 (.var 2)) (.cons (.int .i64 (.var 3)) (.cons (.int .i64 (.iapp 26 (.cons (.int .i64 (.i2 (.shr .i64) (.var 5) (.lit (10)))) (.cons (.int .i64 (.lit (-1048576))) (.cons (.int .i64 (.lit (1048576))) .nil))))) (.cons stepg_x0 .nil)))))
def stepg_tree : Tree :=
 (.br (.not (.b2 .eq (.iapp 35 (.cons (.int .i64 (.var 2)) (.cons (.int .i64 (.var 3)) (.cons (.int .i64 (.var 4)) .nil)))) (.lit (0))))
 (.ret (.tup (.cons (.agg (.cons (.int .i64 (.lit (0))) (.cons (.int .i64 (.lit (0))) .nil))) (.cons (.err (.iapp 35 (.cons (.int .i64 (.var 2)) (.cons (.int .i64 (.var 3)) (.cons (.int .i64 (.var 4)) .nil))))) .nil))))
 (.need (.b2 .and (.b2 .and (.b2 .le (.lit (-9223372036854775808)) (.var 2)) (.b2 .le (.var 2) (.lit (9223372036854775807)))) (.b2 .and (.b2 .and (.b2 .le (.lit (-9223372036854775808)) (.var 3)) (.b2 .le (.var 3) (.lit (9223372036854775807)))) (.b2 .and (.b2 .and (.b2 .le (.lit (-9223372036854775808)) (.iapp 26 (.cons (.int .i64 (.i2 (.shr .i64) (.var 5) (.lit (10)))) (.cons (.int .i64 (.lit (-1048576))) (.cons (.int .i64 (.lit (1048576))) .nil))))) (.b2 .le (.iapp 26 (.cons (.int .i64 (.i2 (.shr .i64) (.var 5) (.lit (10)))) (.cons (.int .i64 (.lit (-1048576))) (.cons (.int .i64 (.lit (1048576))) .nil)))) (.lit (9223372036854775807)))) (.b2 .and (.b2 .le (.lit (-9223372036854775808)) (.iapp 26 (.cons (.int .i64 (.wrap .i64 (.i2 .add (.iapp 26 (.cons (.int .i64 (.var 1)) (.cons (.int .i64 (.lit (-1048576))) (.cons (.int .i64 (.lit (1048576))) .nil)))) (.iapp 26 (.cons (.int .i64 (.i2 (.shr .i64) (.var 5) (.lit (10)))) (.cons (.int .i64 (.lit (-1048576))) (.cons (.int .i64 (.lit (1048576))) .nil))))))) (.cons (.int .i64 (.lit (-1048576))) (.cons (.int .i64 (.lit (1048576))) .nil))))) (.b2 .le (.iapp 26 (.cons (.int .i64 (.wrap .i64 (.i2 .add (.iapp 26 (.cons (.int .i64 (.var 1)) (.cons (.int .i64 (.lit (-1048576))) (.cons (.int .i64 (.lit (1048576))) .nil)))) (.iapp 26 (.cons (.int .i64 (.i2 (.shr .i64) (.var 5) (.lit (10)))) (.cons (.int .i64 (.lit (-1048576))) (.cons (.int .i64 (.lit (1048576))) .nil))))))) (.cons (.int .i64 (.lit (-1048576))) (.cons (.int .i64 (.lit (1048576))) .nil)))) (.lit (9223372036854775807)))))))
 (.br (.not (.b2 .eq (.iapp 37 (.cons (.int .i64 (.var 2)) (.cons (.int .i64 (.var 3)) (.cons (.int .i64 (.iapp 26 (.cons (.int .i64 (.i2 (.shr .i64) (.var 5) (.lit (10)))) (.cons (.int .i64 (.lit (-1048576))) (.cons (.int .i64 (.lit (1048576))) .nil))))) (.cons stepg_x0 .nil))))) (.lit (0))))
 (.ret (.tup (.cons (.agg (.cons (.int .i64 (.lit (0))) (.cons (.int .i64 (.lit (0))) .nil))) (.cons (.err (.iapp 37 (.cons (.int .i64 (.var 2)) (.cons (.int .i64 (.var 3)) (.cons (.int .i64 (.iapp 26 (.cons (.int .i64 (.i2 (.shr .i64) (.var 5) (.lit (10)))) (.cons (.int .i64 (.lit (-1048576))) (.cons (.int .i64 (.lit (1048576))) .nil))))) (.cons stepg_x0 .nil)))))) .nil))))
 (.need (.ofB (.vop .isC (.cons stepg_x1 .nil)))
 (.need (.ofB (.vop .okD (.cons (.vop .cre (.cons stepg_x1 .nil)) (.cons (.cst (.flt .f64 4652218415073722368)) .nil))))
 (.need (.bapp 3 (.cons (.vop .fdiv (.cons (.vop .cre (.cons stepg_x1 .nil)) (.cons (.cst (.flt .f64 4652218415073722368)) .nil))) .nil))
 (.need (.ofB (.vop .isF (.cons (.vapp 0 (.cons (.vop .fdiv (.cons (.vop .cre (.cons stepg_x1 .nil)) (.cons (.cst (.flt .f64 4652218415073722368)) .nil))) .nil)) .nil)))
 (.need (.b2 .le (.wrap .i64 (.i2 .sub (.lit (0)) (.var 4))) (.var 4))
 (.ret (.tup (.cons (.agg (.cons (.int .i64 (.iapp 26 (.cons (.int .i64 (.ofI (.vop .f2i (.cons (.vapp 0 (.cons (.vop .fdiv (.cons (.vop .cre (.cons stepg_x1 .nil)) (.cons (.cst (.flt .f64 4652218415073722368)) .nil))) .nil)) .nil)))) (.cons (.int .i64 (.wrap .i64 (.i2 .sub (.lit (0)) (.var 4)))) (.cons (.int .i64 (.var 4)) .nil))))) (.cons stepg_x0 .nil))) (.cons (.cst .nilI) .nil))))))))))))
abbrev yoc_stepg : Con := ⟨44, [(.agg (.cons (.int .i64 (.var 0)) (.cons (.int .i64 (.var 1)) .nil))), (.agg (.cons (.int .i64 (.var 2)) (.cons (.int .i64 (.var 3)) .nil))), (.int .i64 (.var 4)), (.int .i64 (.var 5))], (.b2 .and (.b2 .and (.b2 .le (.lit (-9223372036854775808)) (.var 0)) (.b2 .le (.var 0) (.lit (9223372036854775807)))) (.b2 .and (.b2 .and (.b2 .le (.lit (-9223372036854775808)) (.var 1)) (.b2 .le (.var 1) (.lit (9223372036854775807)))) (.b2 .and (.b2 .and (.b2 .le (.lit (-9223372036854775808)) (.var 2)) (.b2 .le (.var 2) (.lit (9223372036854775807)))) (.b2 .and (.b2 .and (.b2 .le (.lit (-9223372036854775808)) (.var 3)) (.b2 .le (.var 3) (.lit (9223372036854775807)))) (.b2 .and (.b2 .and (.b2 .le (.lit (-9223372036854775808)) (.var 4)) (.b2 .le (.var 4) (.lit (9223372036854775807)))) (.b2 .and (.b2 .le (.lit (-9223372036854775808)) (.var 5)) (.b2 .le (.var 5) (.lit (9223372036854775807))))))))), (.tup (.cons (.agg (.cons (.int .i64 (.iapp 42 (.cons (.int .i64 (.iapp 35 (.cons (.int .i64 (.var 2)) (.cons (.int .i64 (.var 3)) (.cons (.int .i64 (.var 4)) .nil))))) (.cons (.int .i64 (.iapp 41 (.cons (.int .i64 (.var 2)) (.cons (.int .i64 (.var 3)) (.cons (.int .i64 (.var 4)) (.cons (.int .i64 (.var 1)) (.cons (.int .i64 (.var 5)) .nil))))))) .nil)))) (.cons (.int .i64 (.iapp 42 (.cons (.int .i64 (.iapp 35 (.cons (.int .i64 (.var 2)) (.cons (.int .i64 (.var 3)) (.cons (.int .i64 (.var 4)) .nil))))) (.cons (.int .i64 (.iapp 36 (.cons (.int .i64 (.var 1)) (.cons (.int .i64 (.var 5)) .nil)))) .nil)))) .nil))) (.cons (.err (.iapp 35 (.cons (.int .i64 (.var 2)) (.cons (.int .i64 (.var 3)) (.cons (.int .i64 (.var 4)) .nil))))) .nil))), ⟨6, 0, 0, 0⟩, none⟩
theorem stepg_w : walk Tryd.prog 229 ⟨[yhc_sck, yhc_clamp, yhc_pull, yhc_floor], syG, [], [], []⟩ [] .v yoc_stepg yoc_stepg.n 3000 = some stepg_tree := by kernel_rfl
theorem stepg_h (sf : Int) (ss : Int) (p : Int) (q : Int) (l : Int) (o : Int) (hc : holds (yoE [sf, ss, p, q, l, o] [] [] []) (.b2 .and (.b2 .and (.b2 .le (.lit (-9223372036854775808)) (.var 0)) (.b2 .le (.var 0) (.lit (9223372036854775807)))) (.b2 .and (.b2 .and (.b2 .le (.lit (-9223372036854775808)) (.var 1)) (.b2 .le (.var 1) (.lit (9223372036854775807)))) (.b2 .and (.b2 .and (.b2 .le (.lit (-9223372036854775808)) (.var 2)) (.b2 .le (.var 2) (.lit (9223372036854775807)))) (.b2 .and (.b2 .and (.b2 .le (.lit (-9223372036854775808)) (.var 3)) (.b2 .le (.var 3) (.lit (9223372036854775807)))) (.b2 .and (.b2 .and (.b2 .le (.lit (-9223372036854775808)) (.var 4)) (.b2 .le (.var 4) (.lit (9223372036854775807)))) (.b2 .and (.b2 .le (.lit (-9223372036854775808)) (.var 5)) (.b2 .le (.var 5) (.lit (9223372036854775807)))))))))) (hty : patsTyp (yoE [sf, ss, p, q, l, o] [] [] []) [(.agg (.cons (.int .i64 (.var 0)) (.cons (.int .i64 (.var 1)) .nil))), (.agg (.cons (.int .i64 (.var 2)) (.cons (.int .i64 (.var 3)) .nil))), (.int .i64 (.var 4)), (.int .i64 (.var 5))]) : stepg_tree.holds (fun v_ => v_ = denV (yoE [sf, ss, p, q, l, o] [] [] []) b0 (.tup (.cons (.agg (.cons (.int .i64 (.iapp 42 (.cons (.int .i64 (.iapp 35 (.cons (.int .i64 (.var 2)) (.cons (.int .i64 (.var 3)) (.cons (.int .i64 (.var 4)) .nil))))) (.cons (.int .i64 (.iapp 41 (.cons (.int .i64 (.var 2)) (.cons (.int .i64 (.var 3)) (.cons (.int .i64 (.var 4)) (.cons (.int .i64 (.var 1)) (.cons (.int .i64 (.var 5)) .nil))))))) .nil)))) (.cons (.int .i64 (.iapp 42 (.cons (.int .i64 (.iapp 35 (.cons (.int .i64 (.var 2)) (.cons (.int .i64 (.var 3)) (.cons (.int .i64 (.var 4)) .nil))))) (.cons (.int .i64 (.iapp 36 (.cons (.int .i64 (.var 1)) (.cons (.int .i64 (.var 5)) .nil)))) .nil)))) .nil))) (.cons (.err (.iapp 35 (.cons (.int .i64 (.var 2)) (.cons (.int .i64 (.var 3)) (.cons (.int .i64 (.var 4)) .nil))))) .nil)))) (yoE [sf, ss, p, q, l, o] [] [] []) := by
  simp only [Tree.holds, Sy.holds, AllN, Env.more, yoE, List.cons_append, List.nil_append, List.append_nil, denV, denI, denB, denL, I2.den, VOp.den, List.getD_cons_zero, List.getD_cons_succ, Cst.den, syso, syse, syio, sybo, List.map_nil, List.map_cons, B2.ofInts, B2.denI, B2.denB, if_true, Bool.false_eq_true, if_false, Nat.div_one, Nat.mul_one, Nat.add_zero, holds] at hc
  simp only [patsTyp, patTyp, patTypL, yoE, denV, denL, List.getD_cons_zero, List.getD_cons_succ, and_true, true_and] at hty
  unfold stepg_tree
  simp only [stepg_x0, stepg_x1]
  simp only [Tree.holds, Sy.holds, AllN, Env.more, yoE, List.cons_append, List.nil_append, List.append_nil, denV, denI, denB, denL, I2.den, VOp.den, List.getD_cons_zero, List.getD_cons_succ, Cst.den, syso, syse, syio, sybo, yoi_cl, yoi_sve, yoi_sts, yoi_ple, yoi_stf, yoi_ge, yob_isn, yov_flr, yov_plz, List.map_nil, List.map_cons, B2.ofInts, B2.denI, B2.denB, if_true, Bool.false_eq_true, if_false, Nat.div_one, Nat.mul_one, Nat.add_zero]
  have hsv := sv_spec p q l
  have hso := sv_spec p q 0
  have c1 := cl_spec ss (-1048576) 1048576
  have r1 := stO_rng o
  have r2 := stS_rng ss o
  have e1 : clI (o / 1024) (-1048576) 1048576 = stO o := rfl
  simp only [shr10, e1]
  have w1 : IntKind.wrap .i64 (clI ss (-1048576) 1048576 + stO o) = clI ss (-1048576) 1048576 + stO o := by have := wr_i64 (clI ss (-1048576) 1048576 + stO o); omega
  have e2 : clI (clI ss (-1048576) 1048576 + stO o) (-1048576) 1048576 = stS ss o := rfl
  simp only [w1, e2]
  have he : svK p q l = 0 → plE p q (stO o) (stS ss o) = 0 := fun hz => by (have := pl_spec p q (stO o) (stS ss o); omega)
  refine ⟨fun h0 => ?_, fun h0 => ?_⟩
  ·
   first
   | (exfalso; omega)
   | (rw [ge_n (by omega), ge_n (by omega)]; first | done | rfl)
   | (rw [ge_n (by omega), ge_n (by omega), show svK p q l = 1 by omega]; first | done | rfl)
   | (have hz : svK p q l = 0 := by omega
      obtain ⟨hC, r, hd, hN, hT⟩ := pull_q (he hz)
      have w2 : IntKind.wrap .i64 (0 - l) = -l := by (have := wr_i64 (0 - l); omega)
      have hf : flrW (.float .f64 r) = .float .f64 (flrV r) := rfl
      have hi : Go.RowKit.intOf (f2iV (.float .f64 (flrV r))) = (p * stO o + q * stS ss o) / 1024 := by (unfold f2iV; simp only [hT]; rfl)
      have e3 : clI ((p * stO o + q * stS ss o) / 1024) (-l) l = stF p q l ss o := rfl
      simp only [hd, Option.getD_some, hf, hi, w2, e3]
      rw [ge_y hz, ge_y hz, hz]
      first | done | rfl)
   | (have hz : svK p q l = 0 := by omega
      have hpe := he hz
      exfalso
      omega)
   | skip
  ·
   refine ⟨?_, fun h1 => ?_⟩
   ·
    first
    | omega
    | rfl
    | exact (pl_parts p q (stO o) (stS ss o)).1
    | (have hz : svK p q l = 0 := by omega
       obtain ⟨hC, r, hd, hN, hT⟩ := pull_q (he hz)
       have w2 : IntKind.wrap .i64 (0 - l) = -l := by (have := wr_i64 (0 - l); omega)
       have hf : flrW (.float .f64 r) = .float .f64 (flrV r) := rfl
       simp only [hd, Option.getD_some, hf, w2]
       first
       | omega
       | rfl
       | exact hC
       | exact hN
       | (simp only [isFV, hT, Option.isSome_some]; done))
    | skip
   ·
    refine ⟨fun h2 => ?_, fun h2 => ?_⟩
    ·
     first
     | (exfalso; omega)
     | (rw [ge_n (by omega), ge_n (by omega)]; first | done | rfl)
     | (rw [ge_n (by omega), ge_n (by omega), show svK p q l = 1 by omega]; first | done | rfl)
     | (have hz : svK p q l = 0 := by omega
        obtain ⟨hC, r, hd, hN, hT⟩ := pull_q (he hz)
        have w2 : IntKind.wrap .i64 (0 - l) = -l := by (have := wr_i64 (0 - l); omega)
        have hf : flrW (.float .f64 r) = .float .f64 (flrV r) := rfl
        have hi : Go.RowKit.intOf (f2iV (.float .f64 (flrV r))) = (p * stO o + q * stS ss o) / 1024 := by (unfold f2iV; simp only [hT]; rfl)
        have e3 : clI ((p * stO o + q * stS ss o) / 1024) (-l) l = stF p q l ss o := rfl
        simp only [hd, Option.getD_some, hf, hi, w2, e3]
        rw [ge_y hz, ge_y hz, hz]
        first | done | rfl)
     | (have hz : svK p q l = 0 := by omega
        have hpe := he hz
        exfalso
        omega)
     | skip
    ·
     refine ⟨?_, fun h3 => ?_⟩
     ·
      first
      | omega
      | rfl
      | exact (pl_parts p q (stO o) (stS ss o)).1
      | (have hz : svK p q l = 0 := by omega
         obtain ⟨hC, r, hd, hN, hT⟩ := pull_q (he hz)
         have w2 : IntKind.wrap .i64 (0 - l) = -l := by (have := wr_i64 (0 - l); omega)
         have hf : flrW (.float .f64 r) = .float .f64 (flrV r) := rfl
         simp only [hd, Option.getD_some, hf, w2]
         first
         | omega
         | rfl
         | exact hC
         | exact hN
         | (simp only [isFV, hT, Option.isSome_some]; done))
      | skip
     ·
      refine ⟨?_, fun h4 => ?_⟩
      ·
       first
       | omega
       | rfl
       | exact (pl_parts p q (stO o) (stS ss o)).1
       | (have hz : svK p q l = 0 := by omega
          obtain ⟨hC, r, hd, hN, hT⟩ := pull_q (he hz)
          have w2 : IntKind.wrap .i64 (0 - l) = -l := by (have := wr_i64 (0 - l); omega)
          have hf : flrW (.float .f64 r) = .float .f64 (flrV r) := rfl
          simp only [hd, Option.getD_some, hf, w2]
          first
          | omega
          | rfl
          | exact hC
          | exact hN
          | (simp only [isFV, hT, Option.isSome_some]; done))
       | skip
      ·
       refine ⟨?_, fun h5 => ?_⟩
       ·
        first
        | omega
        | rfl
        | exact (pl_parts p q (stO o) (stS ss o)).1
        | (have hz : svK p q l = 0 := by omega
           obtain ⟨hC, r, hd, hN, hT⟩ := pull_q (he hz)
           have w2 : IntKind.wrap .i64 (0 - l) = -l := by (have := wr_i64 (0 - l); omega)
           have hf : flrW (.float .f64 r) = .float .f64 (flrV r) := rfl
           simp only [hd, Option.getD_some, hf, w2]
           first
           | omega
           | rfl
           | exact hC
           | exact hN
           | (simp only [isFV, hT, Option.isSome_some]; done))
        | skip
       ·
        refine ⟨?_, fun h6 => ?_⟩
        ·
         first
         | omega
         | rfl
         | exact (pl_parts p q (stO o) (stS ss o)).1
         | (have hz : svK p q l = 0 := by omega
            obtain ⟨hC, r, hd, hN, hT⟩ := pull_q (he hz)
            have w2 : IntKind.wrap .i64 (0 - l) = -l := by (have := wr_i64 (0 - l); omega)
            have hf : flrW (.float .f64 r) = .float .f64 (flrV r) := rfl
            simp only [hd, Option.getD_some, hf, w2]
            first
            | omega
            | rfl
            | exact hC
            | exact hN
            | (simp only [isFV, hT, Option.isSome_some]; done))
         | skip
        ·
         refine ⟨?_, fun h7 => ?_⟩
         ·
          first
          | omega
          | rfl
          | exact (pl_parts p q (stO o) (stS ss o)).1
          | (have hz : svK p q l = 0 := by omega
             obtain ⟨hC, r, hd, hN, hT⟩ := pull_q (he hz)
             have w2 : IntKind.wrap .i64 (0 - l) = -l := by (have := wr_i64 (0 - l); omega)
             have hf : flrW (.float .f64 r) = .float .f64 (flrV r) := rfl
             simp only [hd, Option.getD_some, hf, w2]
             first
             | omega
             | rfl
             | exact hC
             | exact hN
             | (simp only [isFV, hT, Option.isSome_some]; done))
          | skip
         ·
          try simp only [hw0]
          first
          | (exfalso; omega)
          | (rw [ge_n (by omega), ge_n (by omega)]; first | done | rfl)
          | (rw [ge_n (by omega), ge_n (by omega), show svK p q l = 1 by omega]; first | done | rfl)
          | (have hz : svK p q l = 0 := by omega
             obtain ⟨hC, r, hd, hN, hT⟩ := pull_q (he hz)
             have w2 : IntKind.wrap .i64 (0 - l) = -l := by (have := wr_i64 (0 - l); omega)
             have hf : flrW (.float .f64 r) = .float .f64 (flrV r) := rfl
             have hi : Go.RowKit.intOf (f2iV (.float .f64 (flrV r))) = (p * stO o + q * stS ss o) / 1024 := by (unfold f2iV; simp only [hT]; rfl)
             have e3 : clI ((p * stO o + q * stS ss o) / 1024) (-l) l = stF p q l ss o := rfl
             simp only [hd, Option.getD_some, hf, hi, w2, e3]
             rw [ge_y hz, ge_y hz, hz]
             first | done | rfl)
          | (have hz : svK p q l = 0 := by omega
             have hpe := he hz
             exfalso
             omega)
          | skip
theorem yog_stepg : yoc_stepg.Good Tryd.prog syG (yoE [] [] [] []) := good_of_walk (Γ := ⟨[yhc_sck, yhc_clamp, yhc_pull, yhc_floor], syG, [], [], []⟩) (ρ := yoE [] [] [] []) sym stepg_w rfl (fun _ _ _ _ => (ok_cons (Con.Good.env (Con.Good.up yhg_sck youp rfl) _ _ _ _) (ok_cons (Con.Good.env (Con.Good.up yhg_clamp youp rfl) _ _ _ _) (ok_cons (Con.Good.env (Con.Good.up yhg_pull youp rfl) _ _ _ _) (ok_cons (Con.Good.env (Con.Good.up yhg_floor youp rfl) _ _ _ _) ok_nil))))) (fun sf ss p q l o hc hty => stepg_h sf ss p q l o hc hty)
def sure16_tree : Tree :=
 (.br (.b2 .eq (.iapp 35 (.cons (.int .i64 (.lit (2))) (.cons (.int .i64 (.lit (1))) (.cons (.int .i64 (.lit (100))) .nil)))) (.lit (0)))
 (.br (.b2 .eq (.iapp 37 (.cons (.int .i64 (.lit (2))) (.cons (.int .i64 (.lit (1))) (.cons (.int .i64 (.lit (3))) (.cons (.int .i64 (.lit (5))) .nil))))) (.lit (0)))
 (.br (.b2 .eq (.iapp 39 (.cons (.int .i64 (.lit (4))) .nil)) (.lit (0)))
 (.br (.b2 .and (.b2 .eq (.iapp 42 (.cons (.int .i64 (.iapp 35 (.cons (.int .i64 (.lit (2))) (.cons (.int .i64 (.lit (1))) (.cons (.int .i64 (.lit (100))) .nil))))) (.cons (.int .i64 (.iapp 41 (.cons (.int .i64 (.lit (2))) (.cons (.int .i64 (.lit (1))) (.cons (.int .i64 (.lit (100))) (.cons (.int .i64 (.lit (0))) (.cons (.int .i64 (.lit (1024000))) .nil))))))) .nil))) (.lit (2))) (.b2 .eq (.iapp 42 (.cons (.int .i64 (.iapp 35 (.cons (.int .i64 (.lit (2))) (.cons (.int .i64 (.lit (1))) (.cons (.int .i64 (.lit (100))) .nil))))) (.cons (.int .i64 (.iapp 36 (.cons (.int .i64 (.lit (0))) (.cons (.int .i64 (.lit (1024000))) .nil)))) .nil))) (.lit (1000))))
 (.need (.ofB (.vop .isC (.cons (.vapp 1 (.cons (.int .i64 (.lit (2))) (.cons (.int .i64 (.lit (1))) (.cons (.int .i64 (.lit (3))) (.cons (.int .i64 (.lit (5))) .nil))))) .nil)))
 (.need (.ofB (.vop .okL (.cons (.vop .cre (.cons (.vapp 1 (.cons (.int .i64 (.lit (2))) (.cons (.int .i64 (.lit (1))) (.cons (.int .i64 (.lit (3))) (.cons (.int .i64 (.lit (5))) .nil))))) .nil)) (.cons (.cst (.flt .f64 4622382067542392832)) .nil))))
 (.br (.ofB (.vop .feq (.cons (.vop .cre (.cons (.vapp 1 (.cons (.int .i64 (.lit (2))) (.cons (.int .i64 (.lit (1))) (.cons (.int .i64 (.lit (3))) (.cons (.int .i64 (.lit (5))) .nil))))) .nil)) (.cons (.cst (.flt .f64 4622382067542392832)) .nil))))
 (.need (.ofB (.vop .isC (.cons (.vapp 1 (.cons (.int .i64 (.lit (2))) (.cons (.int .i64 (.lit (1))) (.cons (.int .i64 (.lit (3))) (.cons (.int .i64 (.lit (5))) .nil))))) .nil)))
 (.need (.ofB (.vop .okL (.cons (.vop .cim (.cons (.vapp 1 (.cons (.int .i64 (.lit (2))) (.cons (.int .i64 (.lit (1))) (.cons (.int .i64 (.lit (3))) (.cons (.int .i64 (.lit (5))) .nil))))) .nil)) (.cons (.cst (.flt .f64 13842939354630062080)) .nil))))
 (.br (.ofB (.vop .feq (.cons (.vop .cim (.cons (.vapp 1 (.cons (.int .i64 (.lit (2))) (.cons (.int .i64 (.lit (1))) (.cons (.int .i64 (.lit (3))) (.cons (.int .i64 (.lit (5))) .nil))))) .nil)) (.cons (.cst (.flt .f64 13842939354630062080)) .nil))))
 (.br (.b2 .eq (.iapp 38 (.cons (.int .i64 (.lit (-9))) (.cons (.int .i64 (.lit (4))) .nil))) (.lit (-4)))
 (.br (.b2 .eq (.iapp 40 (.cons (.int .i64 (.lit (-9))) (.cons (.int .i64 (.lit (4))) .nil))) (.lit (-5)))
 (.ret (.bool (.b2 .eq (.iapp 35 (.cons (.int .i64 (.lit (-1))) (.cons (.int .i64 (.lit (0))) (.cons (.int .i64 (.lit (100))) .nil)))) (.lit (1)))))
 (.ret (.bool (.tt false))))
 (.ret (.bool (.tt false))))
 (.ret (.bool (.tt false))))))
 (.ret (.bool (.tt false))))))
 (.ret (.bool (.tt false))))
 (.ret (.bool (.tt false))))
 (.ret (.bool (.tt false))))
 (.ret (.bool (.tt false))))
abbrev yoc_sure16 : Con := ⟨53, [], (.tt true), (.bool (.tt true)), ⟨0, 0, 0, 0⟩, none⟩
theorem sure16_w : walk Tryd.prog 229 ⟨[yoc_stepg, yhc_pull, yhc_slew, yoc_num], syG, [], [], []⟩ [] .v yoc_sure16 yoc_sure16.n 3000 = some sure16_tree := by kernel_rfl
theorem sure16_h  (hc : holds (yoE [] [] [] []) (.tt true)) (hty : patsTyp (yoE [] [] [] []) []) : sure16_tree.holds (fun v_ => v_ = denV (yoE [] [] [] []) b0 (.bool (.tt true))) (yoE [] [] [] []) := by
  simp only [Tree.holds, Sy.holds, AllN, Env.more, yoE, List.cons_append, List.nil_append, List.append_nil, denV, denI, denB, denL, I2.den, VOp.den, List.getD_cons_zero, List.getD_cons_succ, Cst.den, syso, syse, syio, sybo, List.map_nil, List.map_cons, B2.ofInts, B2.denI, B2.denB, if_true, Bool.false_eq_true, if_false, Nat.div_one, Nat.mul_one, Nat.add_zero, holds] at hc
  simp only [patsTyp, patTyp, patTypL, yoE, denV, denL, List.getD_cons_zero, List.getD_cons_succ, and_true, true_and] at hty
  unfold sure16_tree
  simp only [Tree.holds, Sy.holds, AllN, Env.more, yoE, List.cons_append, List.nil_append, List.append_nil, denV, denI, denB, denL, I2.den, VOp.den, List.getD_cons_zero, List.getD_cons_succ, Cst.den, syso, syse, syio, sybo, yoi_sve, yoi_sts, yoi_ple, yoi_sla, yoi_sle, yoi_slr, yoi_stf, yoi_ge, yov_plz, List.map_nil, List.map_cons, B2.ofInts, B2.denI, B2.denB, if_true, Bool.false_eq_true, if_false, Nat.div_one, Nat.mul_one, Nat.add_zero]
  obtain ⟨s1, s2, s3, s4, s5, s6, s7, s8⟩ := q_st
  simp only [s1, s2, s3, s4, s5, s6, s7, s8, q_re, q_im, Option.getD_some, Option.isSome_some, ge_y (show (0 : Int) = 0 from rfl), ge_n (show (1 : Int) ≠ 0 by decide)]
  refine ⟨fun h0 => ?_, fun h0 => ?_⟩
  ·
   refine ⟨fun h1 => ?_, fun h1 => ?_⟩
   ·
    refine ⟨fun h2 => ?_, fun h2 => ?_⟩
    ·
     refine ⟨fun h3 => ?_, fun h3 => ?_⟩
     ·
      refine ⟨?_, fun h4 => ?_⟩
      ·
       first
       | exact True.intro
       | omega
       | rfl
       | exact q_c
       | decide
       | skip
      ·
       refine ⟨?_, fun h5 => ?_⟩
       ·
        first
        | exact True.intro
        | omega
        | rfl
        | exact q_c
        | decide
        | skip
       ·
        refine ⟨fun h6 => ?_, fun h6 => ?_⟩
        ·
         refine ⟨?_, fun h7 => ?_⟩
         ·
          first
          | exact True.intro
          | omega
          | rfl
          | exact q_c
          | decide
          | skip
         ·
          refine ⟨?_, fun h8 => ?_⟩
          ·
           first
           | exact True.intro
           | omega
           | rfl
           | exact q_c
           | decide
           | skip
          ·
           refine ⟨fun h9 => ?_, fun h9 => ?_⟩
           ·
            refine ⟨fun h10 => ?_, fun h10 => ?_⟩
            ·
             refine ⟨fun h11 => ?_, fun h11 => ?_⟩
             ·
              first
              | exact True.intro
              | rfl
              | (exfalso; omega)
              | exact absurd True.intro (by assumption)
              | exact absurd rfl (by assumption)
              | exact absurd (show True ∧ True from ⟨True.intro, True.intro⟩) (by assumption)
              | skip
             ·
              first
              | exact True.intro
              | rfl
              | (exfalso; omega)
              | exact absurd True.intro (by assumption)
              | exact absurd rfl (by assumption)
              | exact absurd (show True ∧ True from ⟨True.intro, True.intro⟩) (by assumption)
              | skip
            ·
             first
             | exact True.intro
             | rfl
             | (exfalso; omega)
             | exact absurd True.intro (by assumption)
             | exact absurd rfl (by assumption)
             | exact absurd (show True ∧ True from ⟨True.intro, True.intro⟩) (by assumption)
             | skip
           ·
            first
            | exact True.intro
            | rfl
            | (exfalso; omega)
            | exact absurd True.intro (by assumption)
            | exact absurd rfl (by assumption)
            | exact absurd (show True ∧ True from ⟨True.intro, True.intro⟩) (by assumption)
            | skip
        ·
         first
         | exact True.intro
         | rfl
         | (exfalso; omega)
         | exact absurd True.intro (by assumption)
         | exact absurd rfl (by assumption)
         | exact absurd (show True ∧ True from ⟨True.intro, True.intro⟩) (by assumption)
         | skip
     ·
      first
      | exact True.intro
      | rfl
      | (exfalso; omega)
      | exact absurd True.intro (by assumption)
      | exact absurd rfl (by assumption)
      | exact absurd (show True ∧ True from ⟨True.intro, True.intro⟩) (by assumption)
      | skip
    ·
     first
     | exact True.intro
     | rfl
     | (exfalso; omega)
     | exact absurd True.intro (by assumption)
     | exact absurd rfl (by assumption)
     | exact absurd (show True ∧ True from ⟨True.intro, True.intro⟩) (by assumption)
     | skip
   ·
    first
    | exact True.intro
    | rfl
    | (exfalso; omega)
    | exact absurd True.intro (by assumption)
    | exact absurd rfl (by assumption)
    | exact absurd (show True ∧ True from ⟨True.intro, True.intro⟩) (by assumption)
    | skip
  ·
   first
   | exact True.intro
   | rfl
   | (exfalso; omega)
   | exact absurd True.intro (by assumption)
   | exact absurd rfl (by assumption)
   | exact absurd (show True ∧ True from ⟨True.intro, True.intro⟩) (by assumption)
   | skip
theorem yog_sure16 : yoc_sure16.Good Tryd.prog syG (yoE [] [] [] []) := good_of_walk (Γ := ⟨[yoc_stepg, yhc_pull, yhc_slew, yoc_num], syG, [], [], []⟩) (ρ := yoE [] [] [] []) sym sure16_w rfl (fun _ _ _ _ => (ok_cons (Con.Good.env yog_stepg _ _ _ _) (ok_cons (Con.Good.env (Con.Good.up yhg_pull youp rfl) _ _ _ _) (ok_cons (Con.Good.env (Con.Good.up yhg_slew youp rfl) _ _ _ _) (ok_cons (Con.Good.env yog_num _ _ _ _) ok_nil))))) (fun hc hty => sure16_h  hc hty)
def rmay16_tree : Tree :=
 (.br (.b2 .le (.lit (0)) (.var 0))
 (.br (.b2 .le (.var 0) (.lit (1024)))
 (.br (.b2 .le (.lit (0)) (.var 1))
 (.br (.b2 .le (.var 1) (.lit (1024)))
 (.br (.b2 .le (.lit (0)) (.var 2))
 (.ret (.bool (.b2 .le (.var 2) (.lit (1048576)))))
 (.ret (.bool (.tt false))))
 (.ret (.bool (.tt false))))
 (.ret (.bool (.tt false))))
 (.ret (.bool (.tt false))))
 (.ret (.bool (.tt false))))
abbrev yoc_rmay16 : Con := ⟨52, [(.agg (.cons (.int .i64 (.var 0)) (.cons (.int .i64 (.var 1)) .nil))), (.int .i64 (.var 2))], (.tt true), (.bool (.b2 .eq (.iapp 35 (.cons (.int .i64 (.var 0)) (.cons (.int .i64 (.var 1)) (.cons (.int .i64 (.var 2)) .nil)))) (.lit (0)))), ⟨3, 0, 0, 0⟩, none⟩
theorem rmay16_w : walk Tryd.prog 229 ⟨[], syG, [], [], []⟩ [] .v yoc_rmay16 yoc_rmay16.n 3000 = some rmay16_tree := by kernel_rfl
theorem rmay16_h (p : Int) (q : Int) (l : Int) (hc : holds (yoE [p, q, l] [] [] []) (.tt true)) (hty : patsTyp (yoE [p, q, l] [] [] []) [(.agg (.cons (.int .i64 (.var 0)) (.cons (.int .i64 (.var 1)) .nil))), (.int .i64 (.var 2))]) : rmay16_tree.holds (fun v_ => v_ = denV (yoE [p, q, l] [] [] []) b0 (.bool (.b2 .eq (.iapp 35 (.cons (.int .i64 (.var 0)) (.cons (.int .i64 (.var 1)) (.cons (.int .i64 (.var 2)) .nil)))) (.lit (0))))) (yoE [p, q, l] [] [] []) := by
  simp only [Tree.holds, Sy.holds, AllN, Env.more, yoE, List.cons_append, List.nil_append, List.append_nil, denV, denI, denB, denL, I2.den, VOp.den, List.getD_cons_zero, List.getD_cons_succ, Cst.den, syso, syse, syio, sybo, List.map_nil, List.map_cons, B2.ofInts, B2.denI, B2.denB, if_true, Bool.false_eq_true, if_false, Nat.div_one, Nat.mul_one, Nat.add_zero, holds] at hc
  simp only [patsTyp, patTyp, patTypL, yoE, denV, denL, List.getD_cons_zero, List.getD_cons_succ, and_true, true_and] at hty
  unfold rmay16_tree
  simp only [Tree.holds, Sy.holds, AllN, Env.more, yoE, List.cons_append, List.nil_append, List.append_nil, denV, denI, denB, denL, I2.den, VOp.den, List.getD_cons_zero, List.getD_cons_succ, Cst.den, syso, syse, syio, sybo, yoi_sve, List.map_nil, List.map_cons, B2.ofInts, B2.denI, B2.denB, if_true, Bool.false_eq_true, if_false, Nat.div_one, Nat.mul_one, Nat.add_zero]
  have hs := sv_spec p q l
  refine ⟨fun h0 => ?_, fun h0 => ?_⟩
  ·
   refine ⟨fun h1 => ?_, fun h1 => ?_⟩
   ·
    refine ⟨fun h2 => ?_, fun h2 => ?_⟩
    ·
     refine ⟨fun h3 => ?_, fun h3 => ?_⟩
     ·
      refine ⟨fun h4 => ?_, fun h4 => ?_⟩
      ·
       refine congrArg Value.bool ?_
       first
       | (rw [show svK p q l = 0 by omega]; rfl)
       | (rw [show svK p q l = 1 by omega]; rfl)
       | (by_cases hl : l ≤ 1048576
          · rw [show svK p q l = 0 by omega]; simp only [hl, decide_true]; rfl
          · rw [show svK p q l = 1 by omega]; simp only [hl, decide_false]; rfl)
       | skip
      ·
       refine congrArg Value.bool ?_
       first
       | (rw [show svK p q l = 0 by omega]; rfl)
       | (rw [show svK p q l = 1 by omega]; rfl)
       | (by_cases hl : l ≤ 1048576
          · rw [show svK p q l = 0 by omega]; simp only [hl, decide_true]; rfl
          · rw [show svK p q l = 1 by omega]; simp only [hl, decide_false]; rfl)
       | skip
     ·
      refine congrArg Value.bool ?_
      first
      | (rw [show svK p q l = 0 by omega]; rfl)
      | (rw [show svK p q l = 1 by omega]; rfl)
      | (by_cases hl : l ≤ 1048576
         · rw [show svK p q l = 0 by omega]; simp only [hl, decide_true]; rfl
         · rw [show svK p q l = 1 by omega]; simp only [hl, decide_false]; rfl)
      | skip
    ·
     refine congrArg Value.bool ?_
     first
     | (rw [show svK p q l = 0 by omega]; rfl)
     | (rw [show svK p q l = 1 by omega]; rfl)
     | (by_cases hl : l ≤ 1048576
        · rw [show svK p q l = 0 by omega]; simp only [hl, decide_true]; rfl
        · rw [show svK p q l = 1 by omega]; simp only [hl, decide_false]; rfl)
     | skip
   ·
    refine congrArg Value.bool ?_
    first
    | (rw [show svK p q l = 0 by omega]; rfl)
    | (rw [show svK p q l = 1 by omega]; rfl)
    | (by_cases hl : l ≤ 1048576
       · rw [show svK p q l = 0 by omega]; simp only [hl, decide_true]; rfl
       · rw [show svK p q l = 1 by omega]; simp only [hl, decide_false]; rfl)
    | skip
  ·
   refine congrArg Value.bool ?_
   first
   | (rw [show svK p q l = 0 by omega]; rfl)
   | (rw [show svK p q l = 1 by omega]; rfl)
   | (by_cases hl : l ≤ 1048576
      · rw [show svK p q l = 0 by omega]; simp only [hl, decide_true]; rfl
      · rw [show svK p q l = 1 by omega]; simp only [hl, decide_false]; rfl)
   | skip
theorem yog_rmay16 : yoc_rmay16.Good Tryd.prog syG (yoE [] [] [] []) := good_of_walk (Γ := ⟨[], syG, [], [], []⟩) (ρ := yoE [] [] [] []) sym rmay16_w rfl (fun _ _ _ _ => ok_nil) (fun p q l hc hty => rmay16_h p q l hc hty)
def rpull_tree : Tree :=
 (.br (.not (.b2 .eq (.iapp 35 (.cons (.int .i64 (.var 0)) (.cons (.int .i64 (.var 1)) (.cons (.int .i64 (.lit (0))) .nil)))) (.lit (0))))
 (.ret (.tup (.cons (.int .i64 (.lit (0))) (.cons (.int .i64 (.lit (0))) (.cons (.int .i64 (.lit (1))) .nil)))))
 (.br (.b2 .lt (.var 2) (.lit (-1048576)))
 (.ret (.tup (.cons (.int .i64 (.lit (0))) (.cons (.int .i64 (.lit (0))) (.cons (.int .i64 (.lit (1))) .nil)))))
 (.br (.b2 .lt (.lit (1048576)) (.var 2))
 (.ret (.tup (.cons (.int .i64 (.lit (0))) (.cons (.int .i64 (.lit (0))) (.cons (.int .i64 (.lit (1))) .nil)))))
 (.br (.b2 .lt (.var 3) (.lit (-1048576)))
 (.ret (.tup (.cons (.int .i64 (.lit (0))) (.cons (.int .i64 (.lit (0))) (.cons (.int .i64 (.lit (1))) .nil)))))
 (.br (.b2 .lt (.lit (1048576)) (.var 3))
 (.ret (.tup (.cons (.int .i64 (.lit (0))) (.cons (.int .i64 (.lit (0))) (.cons (.int .i64 (.lit (1))) .nil)))))
 (.ret (.tup (.cons (.int .i64 (.wrap .i64 (.i2 .add (.wrap .i64 (.i2 .mul (.var 0) (.var 2))) (.wrap .i64 (.i2 .mul (.var 1) (.var 3)))))) (.cons (.int .i64 (.wrap .i64 (.i2 .sub (.wrap .i64 (.i2 .mul (.var 1) (.var 2))) (.wrap .i64 (.i2 .mul (.var 0) (.var 3)))))) (.cons (.int .i64 (.lit (0))) .nil))))))))))
abbrev yoc_rpull : Con := ⟨47, [(.agg (.cons (.int .i64 (.var 0)) (.cons (.int .i64 (.var 1)) .nil))), (.int .i64 (.var 2)), (.int .i64 (.var 3))], (.b2 .and (.b2 .and (.b2 .le (.lit (-9223372036854775808)) (.var 0)) (.b2 .le (.var 0) (.lit (9223372036854775807)))) (.b2 .and (.b2 .and (.b2 .le (.lit (-9223372036854775808)) (.var 1)) (.b2 .le (.var 1) (.lit (9223372036854775807)))) (.b2 .and (.b2 .and (.b2 .le (.lit (-9223372036854775808)) (.var 2)) (.b2 .le (.var 2) (.lit (9223372036854775807)))) (.b2 .and (.b2 .le (.lit (-9223372036854775808)) (.var 3)) (.b2 .le (.var 3) (.lit (9223372036854775807))))))), (.tup (.cons (.int .i64 (.iapp 43 (.cons (.int .i64 (.var 0)) (.cons (.int .i64 (.var 1)) (.cons (.int .i64 (.var 2)) (.cons (.int .i64 (.var 3)) .nil)))))) (.cons (.int .i64 (.iapp 44 (.cons (.int .i64 (.var 0)) (.cons (.int .i64 (.var 1)) (.cons (.int .i64 (.var 2)) (.cons (.int .i64 (.var 3)) .nil)))))) (.cons (.int .i64 (.iapp 37 (.cons (.int .i64 (.var 0)) (.cons (.int .i64 (.var 1)) (.cons (.int .i64 (.var 2)) (.cons (.int .i64 (.var 3)) .nil)))))) .nil)))), ⟨4, 0, 0, 0⟩, none⟩
theorem rpull_w : walk Tryd.prog 229 ⟨[yoc_rmay16], syG, [], [], []⟩ [] .v yoc_rpull yoc_rpull.n 3000 = some rpull_tree := by kernel_rfl
theorem rpull_h (p : Int) (q : Int) (o : Int) (s : Int) (hc : holds (yoE [p, q, o, s] [] [] []) (.b2 .and (.b2 .and (.b2 .le (.lit (-9223372036854775808)) (.var 0)) (.b2 .le (.var 0) (.lit (9223372036854775807)))) (.b2 .and (.b2 .and (.b2 .le (.lit (-9223372036854775808)) (.var 1)) (.b2 .le (.var 1) (.lit (9223372036854775807)))) (.b2 .and (.b2 .and (.b2 .le (.lit (-9223372036854775808)) (.var 2)) (.b2 .le (.var 2) (.lit (9223372036854775807)))) (.b2 .and (.b2 .le (.lit (-9223372036854775808)) (.var 3)) (.b2 .le (.var 3) (.lit (9223372036854775807)))))))) (hty : patsTyp (yoE [p, q, o, s] [] [] []) [(.agg (.cons (.int .i64 (.var 0)) (.cons (.int .i64 (.var 1)) .nil))), (.int .i64 (.var 2)), (.int .i64 (.var 3))]) : rpull_tree.holds (fun v_ => v_ = denV (yoE [p, q, o, s] [] [] []) b0 (.tup (.cons (.int .i64 (.iapp 43 (.cons (.int .i64 (.var 0)) (.cons (.int .i64 (.var 1)) (.cons (.int .i64 (.var 2)) (.cons (.int .i64 (.var 3)) .nil)))))) (.cons (.int .i64 (.iapp 44 (.cons (.int .i64 (.var 0)) (.cons (.int .i64 (.var 1)) (.cons (.int .i64 (.var 2)) (.cons (.int .i64 (.var 3)) .nil)))))) (.cons (.int .i64 (.iapp 37 (.cons (.int .i64 (.var 0)) (.cons (.int .i64 (.var 1)) (.cons (.int .i64 (.var 2)) (.cons (.int .i64 (.var 3)) .nil)))))) .nil))))) (yoE [p, q, o, s] [] [] []) := by
  simp only [Tree.holds, Sy.holds, AllN, Env.more, yoE, List.cons_append, List.nil_append, List.append_nil, denV, denI, denB, denL, I2.den, VOp.den, List.getD_cons_zero, List.getD_cons_succ, Cst.den, syso, syse, syio, sybo, List.map_nil, List.map_cons, B2.ofInts, B2.denI, B2.denB, if_true, Bool.false_eq_true, if_false, Nat.div_one, Nat.mul_one, Nat.add_zero, holds] at hc
  simp only [patsTyp, patTyp, patTypL, yoE, denV, denL, List.getD_cons_zero, List.getD_cons_succ, and_true, true_and] at hty
  unfold rpull_tree
  simp only [Tree.holds, Sy.holds, AllN, Env.more, yoE, List.cons_append, List.nil_append, List.append_nil, denV, denI, denB, denL, I2.den, VOp.den, List.getD_cons_zero, List.getD_cons_succ, Cst.den, syso, syse, syio, sybo, yoi_sve, yoi_ple, yoi_pla, yoi_plb, List.map_nil, List.map_cons, B2.ofInts, B2.denI, B2.denB, if_true, Bool.false_eq_true, if_false, Nat.div_one, Nat.mul_one, Nat.add_zero]
  have hp := pl_or p q o s
  have hv := sv_spec p q 0
  refine ⟨fun h0 => ?_, fun h0 => ?_⟩
  ·
   rcases hp with ⟨h, e, ea, eb⟩ | ⟨h, e, ea, eb⟩
   all_goals first
   | (exfalso; omega)
   | (rw [e, ea, eb]; done)
   | (rw [e, ea, eb]; rfl)
   | (have b1 := mul_bd (p := p) (a := o) (by omega) (by omega) (by omega) (by omega)
      have b2 := mul_bd (p := q) (a := s) (by omega) (by omega) (by omega) (by omega)
      have b3 := mul_bd (p := q) (a := o) (by omega) (by omega) (by omega) (by omega)
      have b4 := mul_bd (p := p) (a := s) (by omega) (by omega) (by omega) (by omega)
      have w1 := wr_i64 (p * o)
      have w2 := wr_i64 (q * s)
      have w3 := wr_i64 (q * o)
      have w4 := wr_i64 (p * s)
      rw [show IntKind.wrap .i64 (p * o) = p * o by omega, show IntKind.wrap .i64 (q * s) = q * s by omega, show IntKind.wrap .i64 (q * o) = q * o by omega, show IntKind.wrap .i64 (p * s) = p * s by omega, e, ea, eb]
      have w5 := wr_i64 (p * o + q * s)
      have w6 := wr_i64 (q * o - p * s)
      rw [show IntKind.wrap .i64 (p * o + q * s) = p * o + q * s by omega, show IntKind.wrap .i64 (q * o - p * s) = q * o - p * s by omega])
   | skip
  ·
   refine ⟨fun h1 => ?_, fun h1 => ?_⟩
   ·
    rcases hp with ⟨h, e, ea, eb⟩ | ⟨h, e, ea, eb⟩
    all_goals first
    | (exfalso; omega)
    | (rw [e, ea, eb]; done)
    | (rw [e, ea, eb]; rfl)
    | (have b1 := mul_bd (p := p) (a := o) (by omega) (by omega) (by omega) (by omega)
       have b2 := mul_bd (p := q) (a := s) (by omega) (by omega) (by omega) (by omega)
       have b3 := mul_bd (p := q) (a := o) (by omega) (by omega) (by omega) (by omega)
       have b4 := mul_bd (p := p) (a := s) (by omega) (by omega) (by omega) (by omega)
       have w1 := wr_i64 (p * o)
       have w2 := wr_i64 (q * s)
       have w3 := wr_i64 (q * o)
       have w4 := wr_i64 (p * s)
       rw [show IntKind.wrap .i64 (p * o) = p * o by omega, show IntKind.wrap .i64 (q * s) = q * s by omega, show IntKind.wrap .i64 (q * o) = q * o by omega, show IntKind.wrap .i64 (p * s) = p * s by omega, e, ea, eb]
       have w5 := wr_i64 (p * o + q * s)
       have w6 := wr_i64 (q * o - p * s)
       rw [show IntKind.wrap .i64 (p * o + q * s) = p * o + q * s by omega, show IntKind.wrap .i64 (q * o - p * s) = q * o - p * s by omega])
    | skip
   ·
    refine ⟨fun h2 => ?_, fun h2 => ?_⟩
    ·
     rcases hp with ⟨h, e, ea, eb⟩ | ⟨h, e, ea, eb⟩
     all_goals first
     | (exfalso; omega)
     | (rw [e, ea, eb]; done)
     | (rw [e, ea, eb]; rfl)
     | (have b1 := mul_bd (p := p) (a := o) (by omega) (by omega) (by omega) (by omega)
        have b2 := mul_bd (p := q) (a := s) (by omega) (by omega) (by omega) (by omega)
        have b3 := mul_bd (p := q) (a := o) (by omega) (by omega) (by omega) (by omega)
        have b4 := mul_bd (p := p) (a := s) (by omega) (by omega) (by omega) (by omega)
        have w1 := wr_i64 (p * o)
        have w2 := wr_i64 (q * s)
        have w3 := wr_i64 (q * o)
        have w4 := wr_i64 (p * s)
        rw [show IntKind.wrap .i64 (p * o) = p * o by omega, show IntKind.wrap .i64 (q * s) = q * s by omega, show IntKind.wrap .i64 (q * o) = q * o by omega, show IntKind.wrap .i64 (p * s) = p * s by omega, e, ea, eb]
        have w5 := wr_i64 (p * o + q * s)
        have w6 := wr_i64 (q * o - p * s)
        rw [show IntKind.wrap .i64 (p * o + q * s) = p * o + q * s by omega, show IntKind.wrap .i64 (q * o - p * s) = q * o - p * s by omega])
     | skip
    ·
     refine ⟨fun h3 => ?_, fun h3 => ?_⟩
     ·
      rcases hp with ⟨h, e, ea, eb⟩ | ⟨h, e, ea, eb⟩
      all_goals first
      | (exfalso; omega)
      | (rw [e, ea, eb]; done)
      | (rw [e, ea, eb]; rfl)
      | (have b1 := mul_bd (p := p) (a := o) (by omega) (by omega) (by omega) (by omega)
         have b2 := mul_bd (p := q) (a := s) (by omega) (by omega) (by omega) (by omega)
         have b3 := mul_bd (p := q) (a := o) (by omega) (by omega) (by omega) (by omega)
         have b4 := mul_bd (p := p) (a := s) (by omega) (by omega) (by omega) (by omega)
         have w1 := wr_i64 (p * o)
         have w2 := wr_i64 (q * s)
         have w3 := wr_i64 (q * o)
         have w4 := wr_i64 (p * s)
         rw [show IntKind.wrap .i64 (p * o) = p * o by omega, show IntKind.wrap .i64 (q * s) = q * s by omega, show IntKind.wrap .i64 (q * o) = q * o by omega, show IntKind.wrap .i64 (p * s) = p * s by omega, e, ea, eb]
         have w5 := wr_i64 (p * o + q * s)
         have w6 := wr_i64 (q * o - p * s)
         rw [show IntKind.wrap .i64 (p * o + q * s) = p * o + q * s by omega, show IntKind.wrap .i64 (q * o - p * s) = q * o - p * s by omega])
      | skip
     ·
      refine ⟨fun h4 => ?_, fun h4 => ?_⟩
      ·
       rcases hp with ⟨h, e, ea, eb⟩ | ⟨h, e, ea, eb⟩
       all_goals first
       | (exfalso; omega)
       | (rw [e, ea, eb]; done)
       | (rw [e, ea, eb]; rfl)
       | (have b1 := mul_bd (p := p) (a := o) (by omega) (by omega) (by omega) (by omega)
          have b2 := mul_bd (p := q) (a := s) (by omega) (by omega) (by omega) (by omega)
          have b3 := mul_bd (p := q) (a := o) (by omega) (by omega) (by omega) (by omega)
          have b4 := mul_bd (p := p) (a := s) (by omega) (by omega) (by omega) (by omega)
          have w1 := wr_i64 (p * o)
          have w2 := wr_i64 (q * s)
          have w3 := wr_i64 (q * o)
          have w4 := wr_i64 (p * s)
          rw [show IntKind.wrap .i64 (p * o) = p * o by omega, show IntKind.wrap .i64 (q * s) = q * s by omega, show IntKind.wrap .i64 (q * o) = q * o by omega, show IntKind.wrap .i64 (p * s) = p * s by omega, e, ea, eb]
          have w5 := wr_i64 (p * o + q * s)
          have w6 := wr_i64 (q * o - p * s)
          rw [show IntKind.wrap .i64 (p * o + q * s) = p * o + q * s by omega, show IntKind.wrap .i64 (q * o - p * s) = q * o - p * s by omega])
       | skip
      ·
       rcases hp with ⟨h, e, ea, eb⟩ | ⟨h, e, ea, eb⟩
       all_goals first
       | (exfalso; omega)
       | (rw [e, ea, eb]; done)
       | (rw [e, ea, eb]; rfl)
       | (have b1 := mul_bd (p := p) (a := o) (by omega) (by omega) (by omega) (by omega)
          have b2 := mul_bd (p := q) (a := s) (by omega) (by omega) (by omega) (by omega)
          have b3 := mul_bd (p := q) (a := o) (by omega) (by omega) (by omega) (by omega)
          have b4 := mul_bd (p := p) (a := s) (by omega) (by omega) (by omega) (by omega)
          have w1 := wr_i64 (p * o)
          have w2 := wr_i64 (q * s)
          have w3 := wr_i64 (q * o)
          have w4 := wr_i64 (p * s)
          rw [show IntKind.wrap .i64 (p * o) = p * o by omega, show IntKind.wrap .i64 (q * s) = q * s by omega, show IntKind.wrap .i64 (q * o) = q * o by omega, show IntKind.wrap .i64 (p * s) = p * s by omega, e, ea, eb]
          have w5 := wr_i64 (p * o + q * s)
          have w6 := wr_i64 (q * o - p * s)
          rw [show IntKind.wrap .i64 (p * o + q * s) = p * o + q * s by omega, show IntKind.wrap .i64 (q * o - p * s) = q * o - p * s by omega])
       | skip
theorem yog_rpull : yoc_rpull.Good Tryd.prog syG (yoE [] [] [] []) := good_of_walk (Γ := ⟨[yoc_rmay16], syG, [], [], []⟩) (ρ := yoE [] [] [] []) sym rpull_w rfl (fun _ _ _ _ => (ok_cons (Con.Good.env yog_rmay16 _ _ _ _) ok_nil)) (fun p q o s hc hty => rpull_h p q o s hc hty)
def rslew_tree : Tree :=
 (.br (.b2 .lt (.var 1) (.lit (0)))
 (.ret (.tup (.cons (.int .i64 (.lit (0))) (.cons (.int .i64 (.lit (0))) (.cons (.int .i64 (.lit (1))) .nil)))))
 (.need (.b2 .le (.wrap .i64 (.i2 .sub (.lit (0)) (.var 1))) (.var 1))
 (.need (.b2 .and (.b2 .and (.b2 .le (.lit (-9223372036854775808)) (.var 0)) (.b2 .le (.var 0) (.lit (9223372036854775807)))) (.b2 .and (.b2 .le (.lit (-9223372036854775808)) (.iapp 26 (.cons (.int .i64 (.var 0)) (.cons (.int .i64 (.wrap .i64 (.i2 .sub (.lit (0)) (.var 1)))) (.cons (.int .i64 (.var 1)) .nil))))) (.b2 .le (.iapp 26 (.cons (.int .i64 (.var 0)) (.cons (.int .i64 (.wrap .i64 (.i2 .sub (.lit (0)) (.var 1)))) (.cons (.int .i64 (.var 1)) .nil)))) (.lit (9223372036854775807)))))
 (.ret (.tup (.cons (.int .i64 (.iapp 26 (.cons (.int .i64 (.var 0)) (.cons (.int .i64 (.wrap .i64 (.i2 .sub (.lit (0)) (.var 1)))) (.cons (.int .i64 (.var 1)) .nil))))) (.cons (.int .i64 (.iapp 5 (.cons (.int .i64 (.iapp 2 (.cons (.int .i64 (.i2 .sub (.var 0) (.iapp 26 (.cons (.int .i64 (.var 0)) (.cons (.int .i64 (.wrap .i64 (.i2 .sub (.lit (0)) (.var 1)))) (.cons (.int .i64 (.var 1)) .nil)))))) .nil))) (.cons (.int .i64 (.iapp 4 (.cons (.int .i64 (.i2 .sub (.var 0) (.iapp 26 (.cons (.int .i64 (.var 0)) (.cons (.int .i64 (.wrap .i64 (.i2 .sub (.lit (0)) (.var 1)))) (.cons (.int .i64 (.var 1)) .nil)))))) .nil))) .nil)))) (.cons (.int .i64 (.lit (0))) .nil))))))))
abbrev yoc_rslew : Con := ⟨49, [(.int .i64 (.var 0)), (.int .i64 (.var 1))], (.b2 .and (.b2 .and (.b2 .le (.lit (-9223372036854775808)) (.var 0)) (.b2 .le (.var 0) (.lit (9223372036854775807)))) (.b2 .and (.b2 .le (.lit (-9223372036854775808)) (.var 1)) (.b2 .le (.var 1) (.lit (9223372036854775807))))), (.tup (.cons (.int .i64 (.iapp 38 (.cons (.int .i64 (.var 0)) (.cons (.int .i64 (.var 1)) .nil)))) (.cons (.int .i64 (.iapp 40 (.cons (.int .i64 (.var 0)) (.cons (.int .i64 (.var 1)) .nil)))) (.cons (.int .i64 (.iapp 39 (.cons (.int .i64 (.var 1)) .nil))) .nil)))), ⟨2, 0, 0, 0⟩, none⟩
theorem rslew_w : walk Tryd.prog 229 ⟨[yhc_rclamp, yhc_rless, yac_rbound], syG, [], [], []⟩ [] .v yoc_rslew yoc_rslew.n 3000 = some rslew_tree := by kernel_rfl
theorem rslew_h (o : Int) (m : Int) (hc : holds (yoE [o, m] [] [] []) (.b2 .and (.b2 .and (.b2 .le (.lit (-9223372036854775808)) (.var 0)) (.b2 .le (.var 0) (.lit (9223372036854775807)))) (.b2 .and (.b2 .le (.lit (-9223372036854775808)) (.var 1)) (.b2 .le (.var 1) (.lit (9223372036854775807)))))) (hty : patsTyp (yoE [o, m] [] [] []) [(.int .i64 (.var 0)), (.int .i64 (.var 1))]) : rslew_tree.holds (fun v_ => v_ = denV (yoE [o, m] [] [] []) b0 (.tup (.cons (.int .i64 (.iapp 38 (.cons (.int .i64 (.var 0)) (.cons (.int .i64 (.var 1)) .nil)))) (.cons (.int .i64 (.iapp 40 (.cons (.int .i64 (.var 0)) (.cons (.int .i64 (.var 1)) .nil)))) (.cons (.int .i64 (.iapp 39 (.cons (.int .i64 (.var 1)) .nil))) .nil))))) (yoE [o, m] [] [] []) := by
  simp only [Tree.holds, Sy.holds, AllN, Env.more, yoE, List.cons_append, List.nil_append, List.append_nil, denV, denI, denB, denL, I2.den, VOp.den, List.getD_cons_zero, List.getD_cons_succ, Cst.den, syso, syse, syio, sybo, List.map_nil, List.map_cons, B2.ofInts, B2.denI, B2.denB, if_true, Bool.false_eq_true, if_false, Nat.div_one, Nat.mul_one, Nat.add_zero, holds] at hc
  simp only [patsTyp, patTyp, patTypL, yoE, denV, denL, List.getD_cons_zero, List.getD_cons_succ, and_true, true_and] at hty
  unfold rslew_tree
  simp only [Tree.holds, Sy.holds, AllN, Env.more, yoE, List.cons_append, List.nil_append, List.append_nil, denV, denI, denB, denL, I2.den, VOp.den, List.getD_cons_zero, List.getD_cons_succ, Cst.den, syso, syse, syio, sybo, yoi_nv, yoi_so, yoi_bd, yoi_cl, yoi_sla, yoi_sle, yoi_slr, List.map_nil, List.map_cons, B2.ofInts, B2.denI, B2.denB, if_true, Bool.false_eq_true, if_false, Nat.div_one, Nat.mul_one, Nat.add_zero]
  have hs := sl_spec o m
  have cs := cl_spec o (-m) m
  have ww := wr_i64 (0 - m)
  refine ⟨fun h0 => ?_, fun h0 => ?_⟩
  ·
   rcases hs with ⟨_, e1, e2, e3⟩ | ⟨_, e1, e2, e3⟩
   all_goals first
   | (exfalso; omega)
   | (rw [e1, e2, e3]; done)
   | (rw [e1, e2, e3]; rfl)
   | (rw [e1, e2, e3, show IntKind.wrap .i64 (0 - m) = -m by omega, bd_sat]; done)
   | (rw [e1, e2, e3, show IntKind.wrap .i64 (0 - m) = -m by omega, bd_sat]; rfl)
   | skip
  ·
   refine ⟨?_, fun h1 => ?_⟩
   ·
    first
    | omega
    | (rw [show IntKind.wrap .i64 (0 - m) = -m by omega]; omega)
   ·
    try simp only [hw0]
    refine ⟨?_, fun h2 => ?_⟩
    ·
     first
     | omega
     | (rw [show IntKind.wrap .i64 (0 - m) = -m by omega]; omega)
    ·
     try simp only [hw0]
     rcases hs with ⟨_, e1, e2, e3⟩ | ⟨_, e1, e2, e3⟩
     all_goals first
     | (exfalso; omega)
     | (rw [e1, e2, e3]; done)
     | (rw [e1, e2, e3]; rfl)
     | (rw [e1, e2, e3, show IntKind.wrap .i64 (0 - m) = -m by omega, bd_sat]; done)
     | (rw [e1, e2, e3, show IntKind.wrap .i64 (0 - m) = -m by omega, bd_sat]; rfl)
     | skip
theorem yog_rslew : yoc_rslew.Good Tryd.prog syG (yoE [] [] [] []) := good_of_walk (Γ := ⟨[yhc_rclamp, yhc_rless, yac_rbound], syG, [], [], []⟩) (ρ := yoE [] [] [] []) sym rslew_w rfl (fun _ _ _ _ => (ok_cons (Con.Good.env (Con.Good.up yhg_rclamp youp rfl) _ _ _ _) (ok_cons (Con.Good.env (Con.Good.up yhg_rless youp rfl) _ _ _ _) (ok_cons (Con.Good.env (Con.Good.up (Con.Good.up (Con.Good.up (Con.Good.up yag_rbound ybup rfl) ycup rfl) yhup rfl) youp rfl) _ _ _ _) ok_nil)))) (fun o m hc hty => rslew_h o m hc hty)
def rstep16_x0 : Tm := (.int .i64 (.wrap .i64 (.i2 .add (.iapp 26 (.cons (.int .i64 (.var 1)) (.cons (.int .i64 (.lit (-1048576))) (.cons (.int .i64 (.lit (1048576))) .nil)))) (.iapp 26 (.cons (.int .i64 (.iapp 32 (.cons (.int .i64 (.var 5)) (.cons (.int .i64 (.lit (1024))) .nil)))) (.cons (.int .i64 (.lit (-1048576))) (.cons (.int .i64 (.lit (1048576))) .nil)))))))
def rstep16_x1 : Tm := (.int .i64 (.iapp 26 (.cons (.int .i64 (.iapp 32 (.cons (.int .i64 (.var 5)) (.cons (.int .i64 (.lit (1024))) .nil)))) (.cons (.int .i64 (.lit (-1048576))) (.cons (.int .i64 (.lit (1048576))) .nil)))))
def rstep16_x2 : Tm := (.int .i64 (.iapp 26 (.cons rstep16_x0 (.cons (.int .i64 (.lit (-1048576))) (.cons (.int .i64 (.lit (1048576))) .nil)))))
def rstep16_tree : Tree :=
 (.br (.not (.b2 .eq (.iapp 35 (.cons (.int .i64 (.var 2)) (.cons (.int .i64 (.var 3)) (.cons (.int .i64 (.var 4)) .nil)))) (.lit (0))))
 (.ret (.tup (.cons (.agg (.cons (.int .i64 (.lit (0))) (.cons (.int .i64 (.lit (0))) .nil))) (.cons (.int .i64 (.lit (1))) .nil))))
 (.need (.b2 .and (.b2 .le (.lit (-9223372036854775808)) (.var 5)) (.b2 .le (.var 5) (.lit (9223372036854775807))))
 (.need (.b2 .and (.b2 .and (.b2 .le (.lit (-9223372036854775808)) (.var 2)) (.b2 .le (.var 2) (.lit (9223372036854775807)))) (.b2 .and (.b2 .and (.b2 .le (.lit (-9223372036854775808)) (.var 3)) (.b2 .le (.var 3) (.lit (9223372036854775807)))) (.b2 .and (.b2 .and (.b2 .le (.lit (-9223372036854775808)) (.iapp 26 (.cons (.int .i64 (.iapp 32 (.cons (.int .i64 (.var 5)) (.cons (.int .i64 (.lit (1024))) .nil)))) (.cons (.int .i64 (.lit (-1048576))) (.cons (.int .i64 (.lit (1048576))) .nil))))) (.b2 .le (.iapp 26 (.cons (.int .i64 (.iapp 32 (.cons (.int .i64 (.var 5)) (.cons (.int .i64 (.lit (1024))) .nil)))) (.cons (.int .i64 (.lit (-1048576))) (.cons (.int .i64 (.lit (1048576))) .nil)))) (.lit (9223372036854775807)))) (.b2 .and (.b2 .le (.lit (-9223372036854775808)) (.iapp 26 (.cons rstep16_x0 (.cons (.int .i64 (.lit (-1048576))) (.cons (.int .i64 (.lit (1048576))) .nil))))) (.b2 .le (.iapp 26 (.cons rstep16_x0 (.cons (.int .i64 (.lit (-1048576))) (.cons (.int .i64 (.lit (1048576))) .nil)))) (.lit (9223372036854775807)))))))
 (.need (.b2 .and (.b2 .le (.lit (-9223372036854775808)) (.iapp 43 (.cons (.int .i64 (.var 2)) (.cons (.int .i64 (.var 3)) (.cons rstep16_x1 (.cons rstep16_x2 .nil)))))) (.b2 .le (.iapp 43 (.cons (.int .i64 (.var 2)) (.cons (.int .i64 (.var 3)) (.cons rstep16_x1 (.cons rstep16_x2 .nil))))) (.lit (9223372036854775807))))
 (.need (.b2 .le (.wrap .i64 (.i2 .sub (.lit (0)) (.var 4))) (.var 4))
 (.ret (.tup (.cons (.agg (.cons (.int .i64 (.iapp 26 (.cons (.int .i64 (.iapp 32 (.cons (.int .i64 (.iapp 43 (.cons (.int .i64 (.var 2)) (.cons (.int .i64 (.var 3)) (.cons rstep16_x1 (.cons rstep16_x2 .nil)))))) (.cons (.int .i64 (.lit (1024))) .nil)))) (.cons (.int .i64 (.wrap .i64 (.i2 .sub (.lit (0)) (.var 4)))) (.cons (.int .i64 (.var 4)) .nil))))) (.cons rstep16_x2 .nil))) (.cons (.int .i64 (.lit (0))) .nil)))))))))
abbrev yoc_rstep16 : Con := ⟨45, [(.agg (.cons (.int .i64 (.var 0)) (.cons (.int .i64 (.var 1)) .nil))), (.agg (.cons (.int .i64 (.var 2)) (.cons (.int .i64 (.var 3)) .nil))), (.int .i64 (.var 4)), (.int .i64 (.var 5))], (.b2 .and (.b2 .and (.b2 .le (.lit (-9223372036854775808)) (.var 0)) (.b2 .le (.var 0) (.lit (9223372036854775807)))) (.b2 .and (.b2 .and (.b2 .le (.lit (-9223372036854775808)) (.var 1)) (.b2 .le (.var 1) (.lit (9223372036854775807)))) (.b2 .and (.b2 .and (.b2 .le (.lit (-9223372036854775808)) (.var 2)) (.b2 .le (.var 2) (.lit (9223372036854775807)))) (.b2 .and (.b2 .and (.b2 .le (.lit (-9223372036854775808)) (.var 3)) (.b2 .le (.var 3) (.lit (9223372036854775807)))) (.b2 .and (.b2 .and (.b2 .le (.lit (-9223372036854775808)) (.var 4)) (.b2 .le (.var 4) (.lit (9223372036854775807)))) (.b2 .and (.b2 .le (.lit (-9223372036854775808)) (.var 5)) (.b2 .le (.var 5) (.lit (9223372036854775807))))))))), (.tup (.cons (.agg (.cons (.int .i64 (.iapp 42 (.cons (.int .i64 (.iapp 35 (.cons (.int .i64 (.var 2)) (.cons (.int .i64 (.var 3)) (.cons (.int .i64 (.var 4)) .nil))))) (.cons (.int .i64 (.iapp 41 (.cons (.int .i64 (.var 2)) (.cons (.int .i64 (.var 3)) (.cons (.int .i64 (.var 4)) (.cons (.int .i64 (.var 1)) (.cons (.int .i64 (.var 5)) .nil))))))) .nil)))) (.cons (.int .i64 (.iapp 42 (.cons (.int .i64 (.iapp 35 (.cons (.int .i64 (.var 2)) (.cons (.int .i64 (.var 3)) (.cons (.int .i64 (.var 4)) .nil))))) (.cons (.int .i64 (.iapp 36 (.cons (.int .i64 (.var 1)) (.cons (.int .i64 (.var 5)) .nil)))) .nil)))) .nil))) (.cons (.int .i64 (.iapp 35 (.cons (.int .i64 (.var 2)) (.cons (.int .i64 (.var 3)) (.cons (.int .i64 (.var 4)) .nil))))) .nil))), ⟨6, 0, 0, 0⟩, none⟩
theorem rstep16_w : walk Tryd.prog 229 ⟨[yoc_rmay16, yhc_rdiv1024, yhc_rclamp, yoc_rpull], syG, [], [], []⟩ [] .v yoc_rstep16 yoc_rstep16.n 3000 = some rstep16_tree := by kernel_rfl
theorem rstep16_h (sf : Int) (ss : Int) (p : Int) (q : Int) (l : Int) (o : Int) (hc : holds (yoE [sf, ss, p, q, l, o] [] [] []) (.b2 .and (.b2 .and (.b2 .le (.lit (-9223372036854775808)) (.var 0)) (.b2 .le (.var 0) (.lit (9223372036854775807)))) (.b2 .and (.b2 .and (.b2 .le (.lit (-9223372036854775808)) (.var 1)) (.b2 .le (.var 1) (.lit (9223372036854775807)))) (.b2 .and (.b2 .and (.b2 .le (.lit (-9223372036854775808)) (.var 2)) (.b2 .le (.var 2) (.lit (9223372036854775807)))) (.b2 .and (.b2 .and (.b2 .le (.lit (-9223372036854775808)) (.var 3)) (.b2 .le (.var 3) (.lit (9223372036854775807)))) (.b2 .and (.b2 .and (.b2 .le (.lit (-9223372036854775808)) (.var 4)) (.b2 .le (.var 4) (.lit (9223372036854775807)))) (.b2 .and (.b2 .le (.lit (-9223372036854775808)) (.var 5)) (.b2 .le (.var 5) (.lit (9223372036854775807)))))))))) (hty : patsTyp (yoE [sf, ss, p, q, l, o] [] [] []) [(.agg (.cons (.int .i64 (.var 0)) (.cons (.int .i64 (.var 1)) .nil))), (.agg (.cons (.int .i64 (.var 2)) (.cons (.int .i64 (.var 3)) .nil))), (.int .i64 (.var 4)), (.int .i64 (.var 5))]) : rstep16_tree.holds (fun v_ => v_ = denV (yoE [sf, ss, p, q, l, o] [] [] []) b0 (.tup (.cons (.agg (.cons (.int .i64 (.iapp 42 (.cons (.int .i64 (.iapp 35 (.cons (.int .i64 (.var 2)) (.cons (.int .i64 (.var 3)) (.cons (.int .i64 (.var 4)) .nil))))) (.cons (.int .i64 (.iapp 41 (.cons (.int .i64 (.var 2)) (.cons (.int .i64 (.var 3)) (.cons (.int .i64 (.var 4)) (.cons (.int .i64 (.var 1)) (.cons (.int .i64 (.var 5)) .nil))))))) .nil)))) (.cons (.int .i64 (.iapp 42 (.cons (.int .i64 (.iapp 35 (.cons (.int .i64 (.var 2)) (.cons (.int .i64 (.var 3)) (.cons (.int .i64 (.var 4)) .nil))))) (.cons (.int .i64 (.iapp 36 (.cons (.int .i64 (.var 1)) (.cons (.int .i64 (.var 5)) .nil)))) .nil)))) .nil))) (.cons (.int .i64 (.iapp 35 (.cons (.int .i64 (.var 2)) (.cons (.int .i64 (.var 3)) (.cons (.int .i64 (.var 4)) .nil))))) .nil)))) (yoE [sf, ss, p, q, l, o] [] [] []) := by
  simp only [Tree.holds, Sy.holds, AllN, Env.more, yoE, List.cons_append, List.nil_append, List.append_nil, denV, denI, denB, denL, I2.den, VOp.den, List.getD_cons_zero, List.getD_cons_succ, Cst.den, syso, syse, syio, sybo, List.map_nil, List.map_cons, B2.ofInts, B2.denI, B2.denB, if_true, Bool.false_eq_true, if_false, Nat.div_one, Nat.mul_one, Nat.add_zero, holds] at hc
  simp only [patsTyp, patTyp, patTypL, yoE, denV, denL, List.getD_cons_zero, List.getD_cons_succ, and_true, true_and] at hty
  unfold rstep16_tree
  simp only [rstep16_x0, rstep16_x1, rstep16_x2]
  simp only [Tree.holds, Sy.holds, AllN, Env.more, yoE, List.cons_append, List.nil_append, List.append_nil, denV, denI, denB, denL, I2.den, VOp.den, List.getD_cons_zero, List.getD_cons_succ, Cst.den, syso, syse, syio, sybo, yoi_cl, yoi_dv, yoi_sve, yoi_sts, yoi_stf, yoi_ge, yoi_pla, List.map_nil, List.map_cons, B2.ofInts, B2.denI, B2.denB, if_true, Bool.false_eq_true, if_false, Nat.div_one, Nat.mul_one, Nat.add_zero]
  have hsv := sv_spec p q l
  have hso := sv_spec p q 0
  have c1 := cl_spec ss (-1048576) 1048576
  have r1 := stO_rng o
  have r2 := stS_rng ss o
  have e1 : clI (o / 1024) (-1048576) 1048576 = stO o := rfl
  simp only [e1]
  have w1 : IntKind.wrap .i64 (clI ss (-1048576) 1048576 + stO o) = clI ss (-1048576) 1048576 + stO o := by have := wr_i64 (clI ss (-1048576) 1048576 + stO o); omega
  have e2 : clI (clI ss (-1048576) 1048576 + stO o) (-1048576) 1048576 = stS ss o := rfl
  simp only [w1, e2]
  have hpl := pl_or p q (stO o) (stS ss o)
  have wl := wr_i64 (0 - l)
  refine ⟨fun h0 => ?_, fun h0 => ?_⟩
  ·
   first
   | (exfalso; omega)
   | (rw [ge_n (by omega), ge_n (by omega), show svK p q l = 1 by omega]; first | done | rfl)
   | (rcases hpl with ⟨h, e, ea, eb⟩ | ⟨h, e, ea, eb⟩
      · have hz : svK p q l = 0 := by omega
        have e3 : clI ((p * stO o + q * stS ss o) / 1024) (-l) l = stF p q l ss o := rfl
        rw [ge_y hz, ge_y hz, hz, ea, show IntKind.wrap .i64 (0 - l) = -l by omega, e3]
        first | done | rfl
      · exfalso; omega)
   | skip
  ·
   refine ⟨?_, fun h1 => ?_⟩
   ·
    first
    | omega
    | (rw [show IntKind.wrap .i64 (0 - l) = -l by omega]; omega)
    | (have b1 := mul_bd (p := p) (a := stO o) (by omega) (by omega) (by omega) (by omega)
       have b2 := mul_bd (p := q) (a := stS ss o) (by omega) (by omega) (by omega) (by omega)
       omega)
    | skip
   ·
    refine ⟨?_, fun h2 => ?_⟩
    ·
     first
     | omega
     | (rw [show IntKind.wrap .i64 (0 - l) = -l by omega]; omega)
     | (have b1 := mul_bd (p := p) (a := stO o) (by omega) (by omega) (by omega) (by omega)
        have b2 := mul_bd (p := q) (a := stS ss o) (by omega) (by omega) (by omega) (by omega)
        omega)
     | skip
    ·
     try simp only [hw0]
     refine ⟨?_, fun h3 => ?_⟩
     ·
      first
      | omega
      | (rw [show IntKind.wrap .i64 (0 - l) = -l by omega]; omega)
      | (have b1 := mul_bd (p := p) (a := stO o) (by omega) (by omega) (by omega) (by omega)
         have b2 := mul_bd (p := q) (a := stS ss o) (by omega) (by omega) (by omega) (by omega)
         omega)
      | skip
     ·
      refine ⟨?_, fun h4 => ?_⟩
      ·
       first
       | omega
       | (rw [show IntKind.wrap .i64 (0 - l) = -l by omega]; omega)
       | (have b1 := mul_bd (p := p) (a := stO o) (by omega) (by omega) (by omega) (by omega)
          have b2 := mul_bd (p := q) (a := stS ss o) (by omega) (by omega) (by omega) (by omega)
          omega)
       | skip
      ·
       try simp only [hw1]
       try simp only [hw0]
       first
       | (exfalso; omega)
       | (rw [ge_n (by omega), ge_n (by omega), show svK p q l = 1 by omega]; first | done | rfl)
       | (rcases hpl with ⟨h, e, ea, eb⟩ | ⟨h, e, ea, eb⟩
          · have hz : svK p q l = 0 := by omega
            have e3 : clI ((p * stO o + q * stS ss o) / 1024) (-l) l = stF p q l ss o := rfl
            rw [ge_y hz, ge_y hz, hz, ea, show IntKind.wrap .i64 (0 - l) = -l by omega, e3]
            first | done | rfl
          · exfalso; omega)
       | skip
theorem yog_rstep16 : yoc_rstep16.Good Tryd.prog syG (yoE [] [] [] []) := good_of_walk (Γ := ⟨[yoc_rmay16, yhc_rdiv1024, yhc_rclamp, yoc_rpull], syG, [], [], []⟩) (ρ := yoE [] [] [] []) sym rstep16_w rfl (fun _ _ _ _ => (ok_cons (Con.Good.env yog_rmay16 _ _ _ _) (ok_cons (Con.Good.env (Con.Good.up yhg_rdiv1024 youp rfl) _ _ _ _) (ok_cons (Con.Good.env (Con.Good.up yhg_rclamp youp rfl) _ _ _ _) (ok_cons (Con.Good.env yog_rpull _ _ _ _) ok_nil))))) (fun sf ss p q l o hc hty => rstep16_h sf ss p q l o hc hty)
def wSteps16_x0 : Tm := (.vapp 1 (.cons (.int .i64 (.var 2)) (.cons (.int .i64 (.var 3)) (.cons (.int .i64 (.var 5)) (.cons (.int .i64 (.var 6)) .nil)))))
def wSteps16_tree : Tree :=
 (.need (.b2 .and (.b2 .and (.b2 .le (.lit (-9223372036854775808)) (.var 0)) (.b2 .le (.var 0) (.lit (9223372036854775807)))) (.b2 .and (.b2 .and (.b2 .le (.lit (-9223372036854775808)) (.var 1)) (.b2 .le (.var 1) (.lit (9223372036854775807)))) (.b2 .and (.b2 .and (.b2 .le (.lit (-9223372036854775808)) (.var 2)) (.b2 .le (.var 2) (.lit (9223372036854775807)))) (.b2 .and (.b2 .and (.b2 .le (.lit (-9223372036854775808)) (.var 3)) (.b2 .le (.var 3) (.lit (9223372036854775807)))) (.b2 .and (.b2 .and (.b2 .le (.lit (-9223372036854775808)) (.var 4)) (.b2 .le (.var 4) (.lit (9223372036854775807)))) (.b2 .and (.b2 .le (.lit (-9223372036854775808)) (.var 5)) (.b2 .le (.var 5) (.lit (9223372036854775807)))))))))
 (.need (.b2 .and (.b2 .and (.b2 .le (.lit (-9223372036854775808)) (.var 0)) (.b2 .le (.var 0) (.lit (9223372036854775807)))) (.b2 .and (.b2 .and (.b2 .le (.lit (-9223372036854775808)) (.var 1)) (.b2 .le (.var 1) (.lit (9223372036854775807)))) (.b2 .and (.b2 .and (.b2 .le (.lit (-9223372036854775808)) (.var 2)) (.b2 .le (.var 2) (.lit (9223372036854775807)))) (.b2 .and (.b2 .and (.b2 .le (.lit (-9223372036854775808)) (.var 3)) (.b2 .le (.var 3) (.lit (9223372036854775807)))) (.b2 .and (.b2 .and (.b2 .le (.lit (-9223372036854775808)) (.var 4)) (.b2 .le (.var 4) (.lit (9223372036854775807)))) (.b2 .and (.b2 .le (.lit (-9223372036854775808)) (.var 5)) (.b2 .le (.var 5) (.lit (9223372036854775807)))))))))
 (.need (.b2 .and (.b2 .and (.b2 .le (.lit (-9223372036854775808)) (.var 2)) (.b2 .le (.var 2) (.lit (9223372036854775807)))) (.b2 .and (.b2 .and (.b2 .le (.lit (-9223372036854775808)) (.var 3)) (.b2 .le (.var 3) (.lit (9223372036854775807)))) (.b2 .and (.b2 .and (.b2 .le (.lit (-9223372036854775808)) (.var 5)) (.b2 .le (.var 5) (.lit (9223372036854775807)))) (.b2 .and (.b2 .le (.lit (-9223372036854775808)) (.var 6)) (.b2 .le (.var 6) (.lit (9223372036854775807)))))))
 (.need (.b2 .and (.b2 .and (.b2 .le (.lit (-9223372036854775808)) (.var 2)) (.b2 .le (.var 2) (.lit (9223372036854775807)))) (.b2 .and (.b2 .and (.b2 .le (.lit (-9223372036854775808)) (.var 3)) (.b2 .le (.var 3) (.lit (9223372036854775807)))) (.b2 .and (.b2 .and (.b2 .le (.lit (-9223372036854775808)) (.var 5)) (.b2 .le (.var 5) (.lit (9223372036854775807)))) (.b2 .and (.b2 .le (.lit (-9223372036854775808)) (.var 6)) (.b2 .le (.var 6) (.lit (9223372036854775807)))))))
 (.need (.b2 .and (.b2 .and (.b2 .le (.lit (-9223372036854775808)) (.var 5)) (.b2 .le (.var 5) (.lit (9223372036854775807)))) (.b2 .and (.b2 .le (.lit (-9223372036854775808)) (.var 6)) (.b2 .le (.var 6) (.lit (9223372036854775807)))))
 (.need (.b2 .and (.b2 .and (.b2 .le (.lit (-9223372036854775808)) (.var 5)) (.b2 .le (.var 5) (.lit (9223372036854775807)))) (.b2 .and (.b2 .le (.lit (-9223372036854775808)) (.var 6)) (.b2 .le (.var 6) (.lit (9223372036854775807)))))
 (.need (.ofB (.vop .isC (.cons wSteps16_x0 .nil)))
 (.need (.ofB (.vop .isF (.cons (.vop .cre (.cons wSteps16_x0 .nil)) .nil)))
 (.br (.b2 .eq (.ofI (.vop .f2i (.cons (.vop .cre (.cons wSteps16_x0 .nil)) .nil))) (.iapp 43 (.cons (.int .i64 (.var 2)) (.cons (.int .i64 (.var 3)) (.cons (.int .i64 (.var 5)) (.cons (.int .i64 (.var 6)) .nil))))))
 (.need (.ofB (.vop .isC (.cons wSteps16_x0 .nil)))
 (.need (.ofB (.vop .isF (.cons (.vop .cim (.cons wSteps16_x0 .nil)) .nil)))
 (.br (.b2 .eq (.ofI (.vop .f2i (.cons (.vop .cim (.cons wSteps16_x0 .nil)) .nil))) (.iapp 44 (.cons (.int .i64 (.var 2)) (.cons (.int .i64 (.var 3)) (.cons (.int .i64 (.var 5)) (.cons (.int .i64 (.var 6)) .nil))))))
 (.ret (.bool (.tt true)))
 (.ret (.bool (.tt false))))))
 (.ret (.bool (.tt false))))))))))))
abbrev yoc_wSteps16 : Con := ⟨6, [(.agg (.cons (.int .i64 (.var 0)) (.cons (.int .i64 (.var 1)) .nil))), (.agg (.cons (.int .i64 (.var 2)) (.cons (.int .i64 (.var 3)) .nil))), (.agg (.cons (.int .i64 (.var 4)) (.cons (.int .i64 (.var 5)) (.cons (.int .i64 (.var 6)) .nil))))], (.b2 .and (.b2 .and (.b2 .le (.lit (-9223372036854775808)) (.var 0)) (.b2 .le (.var 0) (.lit (9223372036854775807)))) (.b2 .and (.b2 .and (.b2 .le (.lit (-9223372036854775808)) (.var 1)) (.b2 .le (.var 1) (.lit (9223372036854775807)))) (.b2 .and (.b2 .and (.b2 .le (.lit (-9223372036854775808)) (.var 2)) (.b2 .le (.var 2) (.lit (9223372036854775807)))) (.b2 .and (.b2 .and (.b2 .le (.lit (-9223372036854775808)) (.var 3)) (.b2 .le (.var 3) (.lit (9223372036854775807)))) (.b2 .and (.b2 .and (.b2 .le (.lit (-9223372036854775808)) (.var 4)) (.b2 .le (.var 4) (.lit (9223372036854775807)))) (.b2 .and (.b2 .and (.b2 .le (.lit (-9223372036854775808)) (.var 5)) (.b2 .le (.var 5) (.lit (9223372036854775807)))) (.b2 .and (.b2 .le (.lit (-9223372036854775808)) (.var 6)) (.b2 .le (.var 6) (.lit (9223372036854775807)))))))))), (.bool (.tt true)), ⟨7, 0, 0, 0⟩, none⟩
theorem wSteps16_w : walk Tryd.prog 229 ⟨[yoc_stepg, yoc_rstep16, yhc_pull, yoc_rpull, yhc_slew, yoc_rslew, yhc_sck, yoc_rmay16, yoc_num, yoc_sure16], syG, [], [], []⟩ [] .v yoc_wSteps16 yoc_wSteps16.n 3000 = some wSteps16_tree := by kernel_rfl
theorem wSteps16_h (sf : Int) (ss : Int) (p : Int) (q : Int) (o0 : Int) (o1 : Int) (o2 : Int) (hc : holds (yoE [sf, ss, p, q, o0, o1, o2] [] [] []) (.b2 .and (.b2 .and (.b2 .le (.lit (-9223372036854775808)) (.var 0)) (.b2 .le (.var 0) (.lit (9223372036854775807)))) (.b2 .and (.b2 .and (.b2 .le (.lit (-9223372036854775808)) (.var 1)) (.b2 .le (.var 1) (.lit (9223372036854775807)))) (.b2 .and (.b2 .and (.b2 .le (.lit (-9223372036854775808)) (.var 2)) (.b2 .le (.var 2) (.lit (9223372036854775807)))) (.b2 .and (.b2 .and (.b2 .le (.lit (-9223372036854775808)) (.var 3)) (.b2 .le (.var 3) (.lit (9223372036854775807)))) (.b2 .and (.b2 .and (.b2 .le (.lit (-9223372036854775808)) (.var 4)) (.b2 .le (.var 4) (.lit (9223372036854775807)))) (.b2 .and (.b2 .and (.b2 .le (.lit (-9223372036854775808)) (.var 5)) (.b2 .le (.var 5) (.lit (9223372036854775807)))) (.b2 .and (.b2 .le (.lit (-9223372036854775808)) (.var 6)) (.b2 .le (.var 6) (.lit (9223372036854775807))))))))))) (hty : patsTyp (yoE [sf, ss, p, q, o0, o1, o2] [] [] []) [(.agg (.cons (.int .i64 (.var 0)) (.cons (.int .i64 (.var 1)) .nil))), (.agg (.cons (.int .i64 (.var 2)) (.cons (.int .i64 (.var 3)) .nil))), (.agg (.cons (.int .i64 (.var 4)) (.cons (.int .i64 (.var 5)) (.cons (.int .i64 (.var 6)) .nil))))]) : wSteps16_tree.holds (fun v_ => v_ = denV (yoE [sf, ss, p, q, o0, o1, o2] [] [] []) b0 (.bool (.tt true))) (yoE [sf, ss, p, q, o0, o1, o2] [] [] []) := by
  simp only [Tree.holds, Sy.holds, AllN, Env.more, yoE, List.cons_append, List.nil_append, List.append_nil, denV, denI, denB, denL, I2.den, VOp.den, List.getD_cons_zero, List.getD_cons_succ, Cst.den, syso, syse, syio, sybo, List.map_nil, List.map_cons, B2.ofInts, B2.denI, B2.denB, if_true, Bool.false_eq_true, if_false, Nat.div_one, Nat.mul_one, Nat.add_zero, holds] at hc
  simp only [patsTyp, patTyp, patTypL, yoE, denV, denL, List.getD_cons_zero, List.getD_cons_succ, and_true, true_and] at hty
  unfold wSteps16_tree
  simp only [wSteps16_x0]
  simp only [Tree.holds, Sy.holds, AllN, Env.more, yoE, List.cons_append, List.nil_append, List.append_nil, denV, denI, denB, denL, I2.den, VOp.den, List.getD_cons_zero, List.getD_cons_succ, Cst.den, syso, syse, syio, sybo, yoi_pla, yoi_plb, yov_plz, List.map_nil, List.map_cons, B2.ofInts, B2.denI, B2.denB, if_true, Bool.false_eq_true, if_false, Nat.div_one, Nat.mul_one, Nat.add_zero]
  obtain ⟨y1, y2, y3, y4, y5⟩ := pl_parts p q o1 o2
  simp only [y4, y5]
  have hsv := sv_spec p q o0
  refine ⟨?_, fun h0 => ?_⟩
  ·
   first
   | exact True.intro
   | omega
   | exact y1
   | exact y2
   | exact y3
   | skip
  ·
   refine ⟨?_, fun h1 => ?_⟩
   ·
    first
    | exact True.intro
    | omega
    | exact y1
    | exact y2
    | exact y3
    | skip
   ·
    refine ⟨?_, fun h2 => ?_⟩
    ·
     first
     | exact True.intro
     | omega
     | exact y1
     | exact y2
     | exact y3
     | skip
    ·
     refine ⟨?_, fun h3 => ?_⟩
     ·
      first
      | exact True.intro
      | omega
      | exact y1
      | exact y2
      | exact y3
      | skip
     ·
      refine ⟨?_, fun h4 => ?_⟩
      ·
       first
       | exact True.intro
       | omega
       | exact y1
       | exact y2
       | exact y3
       | skip
      ·
       refine ⟨?_, fun h5 => ?_⟩
       ·
        first
        | exact True.intro
        | omega
        | exact y1
        | exact y2
        | exact y3
        | skip
       ·
        refine ⟨?_, fun h6 => ?_⟩
        ·
         first
         | exact True.intro
         | omega
         | exact y1
         | exact y2
         | exact y3
         | skip
        ·
         refine ⟨?_, fun h7 => ?_⟩
         ·
          first
          | exact True.intro
          | omega
          | exact y1
          | exact y2
          | exact y3
          | skip
         ·
          refine ⟨fun h8 => ?_, fun h8 => ?_⟩
          ·
           refine ⟨?_, fun h9 => ?_⟩
           ·
            first
            | exact True.intro
            | omega
            | exact y1
            | exact y2
            | exact y3
            | skip
           ·
            refine ⟨?_, fun h10 => ?_⟩
            ·
             first
             | exact True.intro
             | omega
             | exact y1
             | exact y2
             | exact y3
             | skip
            ·
             refine ⟨fun h11 => ?_, fun h11 => ?_⟩
             ·
              first
              | exact True.intro
              | rfl
              | (exfalso; omega)
              | exact absurd True.intro (by assumption)
              | exact absurd (show True ∧ True from ⟨True.intro, True.intro⟩) (by assumption)
              | exact absurd rfl (by assumption)
              | skip
             ·
              first
              | exact True.intro
              | rfl
              | (exfalso; omega)
              | exact absurd True.intro (by assumption)
              | exact absurd (show True ∧ True from ⟨True.intro, True.intro⟩) (by assumption)
              | exact absurd rfl (by assumption)
              | skip
          ·
           first
           | exact True.intro
           | rfl
           | (exfalso; omega)
           | exact absurd True.intro (by assumption)
           | exact absurd (show True ∧ True from ⟨True.intro, True.intro⟩) (by assumption)
           | exact absurd rfl (by assumption)
           | skip
theorem yog_wSteps16 : yoc_wSteps16.Good Tryd.prog syG (yoE [] [] [] []) := good_of_walk (Γ := ⟨[yoc_stepg, yoc_rstep16, yhc_pull, yoc_rpull, yhc_slew, yoc_rslew, yhc_sck, yoc_rmay16, yoc_num, yoc_sure16], syG, [], [], []⟩) (ρ := yoE [] [] [] []) sym wSteps16_w rfl (fun _ _ _ _ => (ok_cons (Con.Good.env yog_stepg _ _ _ _) (ok_cons (Con.Good.env yog_rstep16 _ _ _ _) (ok_cons (Con.Good.env (Con.Good.up yhg_pull youp rfl) _ _ _ _) (ok_cons (Con.Good.env yog_rpull _ _ _ _) (ok_cons (Con.Good.env (Con.Good.up yhg_slew youp rfl) _ _ _ _) (ok_cons (Con.Good.env yog_rslew _ _ _ _) (ok_cons (Con.Good.env (Con.Good.up yhg_sck youp rfl) _ _ _ _) (ok_cons (Con.Good.env yog_rmay16 _ _ _ _) (ok_cons (Con.Good.env yog_num _ _ _ _) (ok_cons (Con.Good.env yog_sure16 _ _ _ _) ok_nil))))))))))) (fun sf ss p q o0 o1 o2 hc hty => wSteps16_h sf ss p q o0 o1 o2 hc hty)
end Go.Proofs.YtjhjgfnodhbacaaDoor
