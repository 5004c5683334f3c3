/-
  Layer 16 by the second engine: what holds of the servo.
-/
import Derived.Test.YtjhjgfnodhbacaaDoorSychs
import Derived.Test.YtjhjgfnodhbacaaDoorYohs
import Derived.Test.YtjhjgfnodhbacaaDoorE00hs
namespace Go.Proofs.YtjhjgfnodhbacaaDoor
open Go.RowKit Go.Extern.Stop Go.Stop Go.Extern Go.Proofs.YtjhjgfnodhbacaaDoor.Sy
set_option linter.unusedVariables false
set_option linter.unusedSimpArgs false
noncomputable def yqI : Nat → List Value → Int
  | i, l => yoI i l
noncomputable def yqB : Nat → List Value → Bool
  | i, l => yoB i l
noncomputable def yqV : Nat → List Value → Value
  | i, l => yoV i l
noncomputable abbrev yqE (iv : List Int) (bv : List Bool) (vv : List Value) (sv : List ByteArray) : Env := { iv := iv, bv := bv, vv := vv, sv := sv, fi := yqI, fb := yqB, fv := yqV, et := 229 }
set_option maxHeartbeats 8000000 in
theorem yqup : Agree 45 5 2 (yoE [] [] [] []) (yqE [] [] [] []) := ⟨rfl, (by
    intro f hf
    funext l
    show yqI f l = yoI f l
    unfold yqI
    split <;> first | rfl | omega), (by
    intro f hf
    funext l
    show yqB f l = yoB f l
    unfold yqB
    split <;> first | rfl | omega), (by
    intro f hf
    funext l
    show yqV f l = yoV f l
    unfold yqV
    split <;> first | rfl | omega)⟩
theorem yqi_sve (k1 : IntKind) (p : Int) (k2 : IntKind) (q : Int) (k3 : IntKind) (l : Int) : yqI 35 [.int k1 p, .int k2 q, .int k3 l] = svK p q l := rfl
theorem yqi_sts (k1 : IntKind) (s : Int) (k2 : IntKind) (o : Int) : yqI 36 [.int k1 s, .int k2 o] = stS s o := rfl
theorem yqi_sla (k1 : IntKind) (o : Int) (k2 : IntKind) (m : Int) : yqI 38 [.int k1 o, .int k2 m] = slA o m := rfl
theorem yqi_sle (k1 : IntKind) (m : Int) : yqI 39 [.int k1 m] = slE m := rfl
theorem yqi_slr (k1 : IntKind) (o : Int) (k2 : IntKind) (m : Int) : yqI 40 [.int k1 o, .int k2 m] = slR o m := rfl
theorem yqi_stf (k1 : IntKind) (p : Int) (k2 : IntKind) (q : Int) (k3 : IntKind) (l : Int) (k4 : IntKind) (s : Int) (k5 : IntKind) (o : Int) : yqI 41 [.int k1 p, .int k2 q, .int k3 l, .int k4 s, .int k5 o] = stF p q l s o := rfl
theorem yqi_ge (k1 : IntKind) (e : Int) (k2 : IntKind) (x : Int) : yqI 42 [.int k1 e, .int k2 x] = geF e x := rfl
theorem yqb_okr (l : Value) : yqB 4 [l] = okR (rows l) := rfl
def wHolds16_x0 : Tm := (.int .i64 (.iapp 35 (.cons (.int .i64 (.var 0)) (.cons (.int .i64 (.var 1)) (.cons (.int .i64 (.var 2)) .nil)))))
def wHolds16_x1 : Tm := (.int .i64 (.iapp 41 (.cons (.int .i64 (.var 0)) (.cons (.int .i64 (.var 1)) (.cons (.int .i64 (.var 2)) (.cons (.int .i64 (.var 5)) (.cons (.int .i64 (.wrap .i64 (.i2 .mul (.wrap .i64 (.ofI (.vop (.sel 1 0) (.cons (.opq 0) (.cons (.int .i64 (.var 3)) .nil))))) (.lit (1024))))) .nil)))))))
def wHolds16_x2 : Tm := (.int .i64 (.iapp 41 (.cons (.int .i64 (.var 0)) (.cons (.int .i64 (.var 1)) (.cons (.int .i64 (.var 2)) (.cons (.int .i64 (.var 7)) (.cons (.int .i64 (.wrap .i64 (.i2 .sub (.lit (0)) (.wrap .i64 (.i2 .mul (.wrap .i64 (.ofI (.vop (.sel 1 0) (.cons (.opq 0) (.cons (.int .i64 (.var 3)) .nil))))) (.lit (1024))))))) .nil)))))))
def wHolds16_x3 : Tm := (.int .i64 (.iapp 36 (.cons (.int .i64 (.var 5)) (.cons (.int .i64 (.wrap .i64 (.i2 .mul (.wrap .i64 (.ofI (.vop (.sel 1 0) (.cons (.opq 0) (.cons (.int .i64 (.var 3)) .nil))))) (.lit (1024))))) .nil))))
def wHolds16_tree : Tree :=
 (.br (.b2 .lt (.lit (40)) (.ofI (.vop (.len 1) (.cons (.opq 0) .nil))))
 (.ret (.bool (.tt true)))
 (.br (.not (.b2 .eq (.iapp 35 (.cons (.int .i64 (.var 0)) (.cons (.int .i64 (.var 1)) (.cons (.int .i64 (.var 2)) .nil)))) (.lit (0))))
 (.ret (.bool (.tt true)))
 (.loop ⟨7, 0, 0, 0⟩ (.b2 .and (.b2 .le (.lit (0)) (.lit (0))) (.b2 .and (.b2 .le (.lit (0)) (.ofI (.vop (.len 1) (.cons (.opq 0) .nil)))) (.b2 .and (.b2 .eq (.lit (0)) (.lit (0))) (.b2 .and (.b2 .eq (.lit (0)) (.lit (0))) (.b2 .and (.b2 .eq (.lit (0)) (.lit (0))) (.b2 .and (.b2 .le (.lit (-1048576)) (.lit (0))) (.b2 .and (.b2 .le (.lit (0)) (.lit (1048576))) (.b2 .and (.b2 .and (.b2 .le (.lit (-9223372036854775808)) (.lit (0))) (.b2 .le (.lit (0)) (.lit (9223372036854775807)))) (.b2 .and (.b2 .le (.lit (-9223372036854775808)) (.lit (0))) (.b2 .le (.lit (0)) (.lit (9223372036854775807)))))))))))) (.b2 .and (.b2 .le (.lit (0)) (.var 3)) (.b2 .and (.b2 .le (.var 3) (.ofI (.vop (.len 1) (.cons (.opq 0) .nil)))) (.b2 .and (.b2 .eq (.var 7) (.i2 .sub (.lit (0)) (.var 5))) (.b2 .and (.b2 .eq (.var 8) (.lit (0))) (.b2 .and (.b2 .eq (.var 9) (.lit (0))) (.b2 .and (.b2 .le (.lit (-1048576)) (.var 5)) (.b2 .and (.b2 .le (.var 5) (.lit (1048576))) (.b2 .and (.b2 .and (.b2 .le (.lit (-9223372036854775808)) (.var 4)) (.b2 .le (.var 4) (.lit (9223372036854775807)))) (.b2 .and (.b2 .le (.lit (-9223372036854775808)) (.var 6)) (.b2 .le (.var 6) (.lit (9223372036854775807))))))))))))
 (.br (.b2 .lt (.var 3) (.ofI (.vop (.len 1) (.cons (.opq 0) .nil))))
 (.need (.b2 .and (.b2 .le (.lit (0)) (.var 3)) (.b2 .lt (.var 3) (.ofI (.vop (.len 1) (.cons (.opq 0) .nil)))))
 (.need (.b2 .and (.b2 .and (.b2 .le (.lit (-9223372036854775808)) (.var 4)) (.b2 .le (.var 4) (.lit (9223372036854775807)))) (.b2 .and (.b2 .and (.b2 .le (.lit (-9223372036854775808)) (.var 5)) (.b2 .le (.var 5) (.lit (9223372036854775807)))) (.b2 .and (.b2 .and (.b2 .le (.lit (-9223372036854775808)) (.var 0)) (.b2 .le (.var 0) (.lit (9223372036854775807)))) (.b2 .and (.b2 .and (.b2 .le (.lit (-9223372036854775808)) (.var 1)) (.b2 .le (.var 1) (.lit (9223372036854775807)))) (.b2 .and (.b2 .and (.b2 .le (.lit (-9223372036854775808)) (.var 2)) (.b2 .le (.var 2) (.lit (9223372036854775807)))) (.b2 .and (.b2 .le (.lit (-9223372036854775808)) (.wrap .i64 (.i2 .mul (.wrap .i64 (.ofI (.vop (.sel 1 0) (.cons (.opq 0) (.cons (.int .i64 (.var 3)) .nil))))) (.lit (1024))))) (.b2 .le (.wrap .i64 (.i2 .mul (.wrap .i64 (.ofI (.vop (.sel 1 0) (.cons (.opq 0) (.cons (.int .i64 (.var 3)) .nil))))) (.lit (1024)))) (.lit (9223372036854775807)))))))))
 (.need (.b2 .and (.b2 .and (.b2 .le (.lit (-9223372036854775808)) (.var 6)) (.b2 .le (.var 6) (.lit (9223372036854775807)))) (.b2 .and (.b2 .and (.b2 .le (.lit (-9223372036854775808)) (.var 7)) (.b2 .le (.var 7) (.lit (9223372036854775807)))) (.b2 .and (.b2 .and (.b2 .le (.lit (-9223372036854775808)) (.var 0)) (.b2 .le (.var 0) (.lit (9223372036854775807)))) (.b2 .and (.b2 .and (.b2 .le (.lit (-9223372036854775808)) (.var 1)) (.b2 .le (.var 1) (.lit (9223372036854775807)))) (.b2 .and (.b2 .and (.b2 .le (.lit (-9223372036854775808)) (.var 2)) (.b2 .le (.var 2) (.lit (9223372036854775807)))) (.b2 .and (.b2 .le (.lit (-9223372036854775808)) (.wrap .i64 (.i2 .sub (.lit (0)) (.wrap .i64 (.i2 .mul (.wrap .i64 (.ofI (.vop (.sel 1 0) (.cons (.opq 0) (.cons (.int .i64 (.var 3)) .nil))))) (.lit (1024))))))) (.b2 .le (.wrap .i64 (.i2 .sub (.lit (0)) (.wrap .i64 (.i2 .mul (.wrap .i64 (.ofI (.vop (.sel 1 0) (.cons (.opq 0) (.cons (.int .i64 (.var 3)) .nil))))) (.lit (1024)))))) (.lit (9223372036854775807)))))))))
 (.need (.b2 .and (.b2 .and (.b2 .le (.lit (-9223372036854775808)) (.var 8)) (.b2 .le (.var 8) (.lit (9223372036854775807)))) (.b2 .and (.b2 .and (.b2 .le (.lit (-9223372036854775808)) (.var 9)) (.b2 .le (.var 9) (.lit (9223372036854775807)))) (.b2 .and (.b2 .and (.b2 .le (.lit (-9223372036854775808)) (.var 0)) (.b2 .le (.var 0) (.lit (9223372036854775807)))) (.b2 .and (.b2 .and (.b2 .le (.lit (-9223372036854775808)) (.var 1)) (.b2 .le (.var 1) (.lit (9223372036854775807)))) (.b2 .and (.b2 .le (.lit (-9223372036854775808)) (.var 2)) (.b2 .le (.var 2) (.lit (9223372036854775807))))))))
 (.br (.not (.b2 .and (.b2 .eq (.iapp 42 (.cons wHolds16_x0 (.cons (.int .i64 (.iapp 41 (.cons (.int .i64 (.var 0)) (.cons (.int .i64 (.var 1)) (.cons (.int .i64 (.var 2)) (.cons (.int .i64 (.var 9)) (.cons (.int .i64 (.lit (0))) .nil))))))) .nil))) (.var 8)) (.b2 .eq (.iapp 42 (.cons wHolds16_x0 (.cons (.int .i64 (.iapp 36 (.cons (.int .i64 (.var 9)) (.cons (.int .i64 (.lit (0))) .nil)))) .nil))) (.var 9))))
 (.ret (.bool (.tt false)))
 (.br (.not (.b2 .eq (.iapp 42 (.cons wHolds16_x0 (.cons wHolds16_x3 .nil))) (.wrap .i64 (.i2 .sub (.lit (0)) (.iapp 42 (.cons wHolds16_x0 (.cons (.int .i64 (.iapp 36 (.cons (.int .i64 (.var 7)) (.cons (.int .i64 (.wrap .i64 (.i2 .sub (.lit (0)) (.wrap .i64 (.i2 .mul (.wrap .i64 (.ofI (.vop (.sel 1 0) (.cons (.opq 0) (.cons (.int .i64 (.var 3)) .nil))))) (.lit (1024))))))) .nil)))) .nil)))))))
 (.ret (.bool (.tt false)))
 (.br (.b2 .lt (.iapp 42 (.cons wHolds16_x0 (.cons wHolds16_x1 .nil))) (.wrap .i64 (.i2 .sub (.lit (0)) (.var 2))))
 (.ret (.bool (.tt false)))
 (.br (.b2 .lt (.var 2) (.iapp 42 (.cons wHolds16_x0 (.cons wHolds16_x1 .nil))))
 (.ret (.bool (.tt false)))
 (.br (.b2 .lt (.wrap .i64 (.i2 .add (.iapp 42 (.cons wHolds16_x0 (.cons wHolds16_x1 .nil))) (.iapp 42 (.cons wHolds16_x0 (.cons wHolds16_x2 .nil))))) (.lit (-1)))
 (.ret (.bool (.tt false)))
 (.br (.b2 .lt (.lit (0)) (.wrap .i64 (.i2 .add (.iapp 42 (.cons wHolds16_x0 (.cons wHolds16_x1 .nil))) (.iapp 42 (.cons wHolds16_x0 (.cons wHolds16_x2 .nil))))))
 (.ret (.bool (.tt false)))
 (.back (.b2 .and (.b2 .le (.lit (0)) (.wrap .i64 (.i2 .add (.var 3) (.lit (1))))) (.b2 .and (.b2 .le (.wrap .i64 (.i2 .add (.var 3) (.lit (1)))) (.ofI (.vop (.len 1) (.cons (.opq 0) .nil)))) (.b2 .and (.b2 .eq (.iapp 42 (.cons wHolds16_x0 (.cons (.int .i64 (.iapp 36 (.cons (.int .i64 (.var 7)) (.cons (.int .i64 (.wrap .i64 (.i2 .sub (.lit (0)) (.wrap .i64 (.i2 .mul (.wrap .i64 (.ofI (.vop (.sel 1 0) (.cons (.opq 0) (.cons (.int .i64 (.var 3)) .nil))))) (.lit (1024))))))) .nil)))) .nil))) (.i2 .sub (.lit (0)) (.iapp 42 (.cons wHolds16_x0 (.cons wHolds16_x3 .nil))))) (.b2 .and (.b2 .eq (.iapp 42 (.cons wHolds16_x0 (.cons (.int .i64 (.iapp 41 (.cons (.int .i64 (.var 0)) (.cons (.int .i64 (.var 1)) (.cons (.int .i64 (.var 2)) (.cons (.int .i64 (.var 9)) (.cons (.int .i64 (.lit (0))) .nil))))))) .nil))) (.lit (0))) (.b2 .and (.b2 .eq (.iapp 42 (.cons wHolds16_x0 (.cons (.int .i64 (.iapp 36 (.cons (.int .i64 (.var 9)) (.cons (.int .i64 (.lit (0))) .nil)))) .nil))) (.lit (0))) (.b2 .and (.b2 .le (.lit (-1048576)) (.iapp 42 (.cons wHolds16_x0 (.cons wHolds16_x3 .nil)))) (.b2 .and (.b2 .le (.iapp 42 (.cons wHolds16_x0 (.cons wHolds16_x3 .nil))) (.lit (1048576))) (.b2 .and (.b2 .and (.b2 .le (.lit (-9223372036854775808)) (.iapp 42 (.cons wHolds16_x0 (.cons wHolds16_x1 .nil)))) (.b2 .le (.iapp 42 (.cons wHolds16_x0 (.cons wHolds16_x1 .nil))) (.lit (9223372036854775807)))) (.b2 .and (.b2 .le (.lit (-9223372036854775808)) (.iapp 42 (.cons wHolds16_x0 (.cons wHolds16_x2 .nil)))) (.b2 .le (.iapp 42 (.cons wHolds16_x0 (.cons wHolds16_x2 .nil))) (.lit (9223372036854775807)))))))))))) (.i2 .sub (.ofI (.vop (.len 1) (.cons (.opq 0) .nil))) (.wrap .i64 (.i2 .add (.var 3) (.lit (1))))) (.i2 .sub (.ofI (.vop (.len 1) (.cons (.opq 0) .nil))) (.var 3)))))))))))))
 (.ret (.bool (.tt true)))))))
abbrev yqc_wHolds16 : Con := ⟨7, [(.agg (.cons (.int .i64 (.var 0)) (.cons (.int .i64 (.var 1)) .nil))), (.int .i64 (.var 2)), (.hs .no (.cons (.int .i16) .nil) (.opq 0))], (.b2 .and (.b2 .and (.b2 .le (.lit (-9223372036854775808)) (.var 0)) (.b2 .le (.var 0) (.lit (9223372036854775807)))) (.b2 .and (.b2 .and (.b2 .le (.lit (-9223372036854775808)) (.var 1)) (.b2 .le (.var 1) (.lit (9223372036854775807)))) (.b2 .and (.b2 .and (.b2 .le (.lit (-9223372036854775808)) (.var 2)) (.b2 .le (.var 2) (.lit (9223372036854775807)))) (.bapp 4 (.cons (.opq 0) .nil))))), (.bool (.tt true)), ⟨3, 0, 1, 0⟩, none⟩
theorem wHolds16_w : walk Tryd.prog 229 ⟨[yoc_stepg, yhc_sck, yoc_num, yoc_sure16], syG, [], [], []⟩ [⟨0, ⟨7, 0, 0, 0⟩, [(10, (.int .i64 (.var 3))), (6, (.bool (.tt false)))], some [[(.int .i64 (.var 0)), (.int .i64 (.var 1))], [], [(.int .i64 (.var 4)), (.int .i64 (.var 5))], [(.int .i64 (.var 6)), (.int .i64 (.var 7))], [(.int .i64 (.var 8)), (.int .i64 (.var 9))]], (.b2 .and (.b2 .le (.lit (0)) (.var 3)) (.b2 .and (.b2 .le (.var 3) (.ofI (.vop (.len 1) (.cons (.opq 0) .nil)))) (.b2 .and (.b2 .eq (.var 7) (.i2 .sub (.lit (0)) (.var 5))) (.b2 .and (.b2 .eq (.var 8) (.lit (0))) (.b2 .and (.b2 .eq (.var 9) (.lit (0))) (.b2 .and (.b2 .le (.lit (-1048576)) (.var 5)) (.b2 .and (.b2 .le (.var 5) (.lit (1048576))) (.b2 .and (.b2 .and (.b2 .le (.lit (-9223372036854775808)) (.var 4)) (.b2 .le (.var 4) (.lit (9223372036854775807)))) (.b2 .and (.b2 .le (.lit (-9223372036854775808)) (.var 6)) (.b2 .le (.var 6) (.lit (9223372036854775807)))))))))))), (.i2 .sub (.ofI (.vop (.len 1) (.cons (.opq 0) .nil))) (.var 3)), 0, []⟩] .v yqc_wHolds16 yqc_wHolds16.n 3000 = some wHolds16_tree := by kernel_rfl
theorem wHolds16_h (p : Int) (q : Int) (l : Int) (x : Value) (hc : holds (yqE [p, q, l] [] [x] []) (.b2 .and (.b2 .and (.b2 .le (.lit (-9223372036854775808)) (.var 0)) (.b2 .le (.var 0) (.lit (9223372036854775807)))) (.b2 .and (.b2 .and (.b2 .le (.lit (-9223372036854775808)) (.var 1)) (.b2 .le (.var 1) (.lit (9223372036854775807)))) (.b2 .and (.b2 .and (.b2 .le (.lit (-9223372036854775808)) (.var 2)) (.b2 .le (.var 2) (.lit (9223372036854775807)))) (.bapp 4 (.cons (.opq 0) .nil)))))) (hty : patsTyp (yqE [p, q, l] [] [x] []) [(.agg (.cons (.int .i64 (.var 0)) (.cons (.int .i64 (.var 1)) .nil))), (.int .i64 (.var 2)), (.hs .no (.cons (.int .i16) .nil) (.opq 0))]) : wHolds16_tree.holds (fun v_ => v_ = denV (yqE [p, q, l] [] [x] []) b0 (.bool (.tt true))) (yqE [p, q, l] [] [x] []) := by
  simp only [Tree.holds, Sy.holds, AllN, Env.more, yqE, List.cons_append, List.nil_append, List.append_nil, denV, denI, denB, denL, I2.den, VOp.den, List.getD_cons_zero, List.getD_cons_succ, Cst.den, syso, syse, syio, sybo, yqb_okr, List.map_nil, List.map_cons, B2.ofInts, B2.denI, B2.denB, if_true, Bool.false_eq_true, if_false, Nat.div_one, Nat.mul_one, Nat.add_zero, holds] at hc
  simp only [patsTyp, patTyp, patTypL, yqE, denV, denL, List.getD_cons_zero, List.getD_cons_succ, and_true, true_and] at hty
  have hL_x : typ (.sl (.cons (.int .i16) .nil)) x := by first | exact hty | exact hty.1 | exact hty.2 | exact hty.1.1 | exact hty.1.2 | exact hty.2.1 | exact hty.2.2 | exact hty.2.2.1 | exact hty.2.2.2
  have hN_x := typ_len (n := 1) hL_x rfl (by omega)
  simp only [Nat.div_one, Nat.mul_one] at hN_x
  unfold wHolds16_tree
  simp only [wHolds16_x0, wHolds16_x1, wHolds16_x2, wHolds16_x3]
  simp only [Tree.holds, Sy.holds, AllN, Env.more, yqE, List.cons_append, List.nil_append, List.append_nil, denV, denI, denB, denL, I2.den, VOp.den, List.getD_cons_zero, List.getD_cons_succ, Cst.den, syso, syse, syio, sybo, yqi_sve, yqi_sts, yqi_stf, yqi_ge, List.map_nil, List.map_cons, B2.ofInts, B2.denI, B2.denB, if_true, Bool.false_eq_true, if_false, Nat.div_one, Nat.mul_one, Nat.add_zero]
  refine ⟨fun h0 => ?_, fun h0 => ?_⟩
  ·
   first
   | exact True.intro
   | rfl
   | (exfalso; omega)
   | exact absurd True.intro (by assumption)
   | exact absurd (show True ∧ True from ⟨True.intro, True.intro⟩) (by assumption)
   | skip
  ·
   refine ⟨fun h1 => ?_, fun h1 => ?_⟩
   ·
    first
    | exact True.intro
    | rfl
    | (exfalso; omega)
    | exact absurd True.intro (by assumption)
    | exact absurd (show True ∧ True from ⟨True.intro, True.intro⟩) (by assumption)
    | skip
   ·
    refine ⟨?_, ?_⟩
    ·
     simp only [true_and, and_true]; omega
    ·
     intro ji af az bf bs cf cs hi0
     obtain ⟨z0, z1, z2, z3, z4, z5, z6, z7, z8⟩ := hi0
     subst z3 z4
     have z2 : bs = -az := by omega
     subst z2
     have hz : svK p q l = 0 := by (have := sv_spec p q l; omega)
     have hl : 0 ≤ l := by (have := sv_spec p q l; omega)
     obtain ⟨k0, k1⟩ := off_at hL_x hc.2.2.2 (Int.toNat ji)
     generalize Go.RowKit.intOf ((Sy.rows x).getD (Int.toNat ji) Go.undef) = k at *
     have w1 : IntKind.wrap .i64 k = k := by have := wr_i64 k; omega
     have w2 : IntKind.wrap .i64 (k * 1024) = k * 1024 := by have := wr_i64 (k * 1024); omega
     have w3 : IntKind.wrap .i64 (0 - k * 1024) = -(k * 1024) := by have := wr_i64 (0 - k * 1024); omega
     obtain ⟨y1, y2⟩ := st_zero p q l hl
     have f := st_fr (p := p) (q := q) (s := az) hl k0 k1
     have hn := st_neg (s := az) k0 k1
     simp only [w1, w2, w3, ge_y hz, y1, y2, hn, hz, (fun x => ge_y rfl x : ∀ x, geF 0 x = x)]
     have r := stS_rng az (k * 1024)
     have wi := wr_i64 (ji + 1)
     have v1 := wr_i64 (0 - -stS az (k * 1024))
     have v2 := wr_i64 (0 - l)
     have v3 := wr_i64 (stF p q l az (k * 1024) + stF p q l (-az) (-(k * 1024)))
     have hsv := sv_spec p q l
     refine ⟨fun h2 => ?_, fun h2 => ?_⟩
     ·
      refine ⟨?_, fun h3 => ?_⟩
      ·
       first
       | exact True.intro
       | omega
       | skip
      ·
       refine ⟨?_, fun h4 => ?_⟩
       ·
        first
        | exact True.intro
        | omega
        | skip
       ·
        refine ⟨?_, fun h5 => ?_⟩
        ·
         first
         | exact True.intro
         | omega
         | skip
        ·
         refine ⟨?_, fun h6 => ?_⟩
         ·
          first
          | exact True.intro
          | omega
          | skip
         ·
          refine ⟨fun h7 => ?_, fun h7 => ?_⟩
          ·
           first
           | exact True.intro
           | rfl
           | (exfalso; omega)
           | exact absurd True.intro (by assumption)
           | exact absurd (show True ∧ True from ⟨True.intro, True.intro⟩) (by assumption)
           | skip
          ·
           try simp only [hw2]
           try simp only [hw1]
           try simp only [hw0]
           refine ⟨fun h8 => ?_, fun h8 => ?_⟩
           ·
            first
            | exact True.intro
            | rfl
            | (exfalso; omega)
            | exact absurd True.intro (by assumption)
            | exact absurd (show True ∧ True from ⟨True.intro, True.intro⟩) (by assumption)
            | skip
           ·
            try simp only [hw1]
            try simp only [hw0]
            refine ⟨fun h9 => ?_, fun h9 => ?_⟩
            ·
             first
             | exact True.intro
             | rfl
             | (exfalso; omega)
             | exact absurd True.intro (by assumption)
             | exact absurd (show True ∧ True from ⟨True.intro, True.intro⟩) (by assumption)
             | skip
            ·
             try simp only [hw1]
             try simp only [hw0]
             refine ⟨fun h10 => ?_, fun h10 => ?_⟩
             ·
              first
              | exact True.intro
              | rfl
              | (exfalso; omega)
              | exact absurd True.intro (by assumption)
              | exact absurd (show True ∧ True from ⟨True.intro, True.intro⟩) (by assumption)
              | skip
             ·
              try simp only [hw2]
              try simp only [hw1]
              try simp only [hw0]
              refine ⟨fun h11 => ?_, fun h11 => ?_⟩
              ·
               first
               | exact True.intro
               | rfl
               | (exfalso; omega)
               | exact absurd True.intro (by assumption)
               | exact absurd (show True ∧ True from ⟨True.intro, True.intro⟩) (by assumption)
               | skip
              ·
               try simp only [hw2]
               try simp only [hw1]
               try simp only [hw0]
               refine ⟨fun h12 => ?_, fun h12 => ?_⟩
               ·
                first
                | exact True.intro
                | rfl
                | (exfalso; omega)
                | exact absurd True.intro (by assumption)
                | exact absurd (show True ∧ True from ⟨True.intro, True.intro⟩) (by assumption)
                | skip
               ·
                try simp only [hw2]
                try simp only [hw1]
                try simp only [hw0]
                refine ⟨?_, ?_⟩
                ·
                 first
                 | omega
                 | (simp only [true_and, and_true]; omega)
                 | skip
                ·
                 omega
     ·
      first
      | exact True.intro
      | rfl
      | (exfalso; omega)
      | exact absurd True.intro (by assumption)
      | exact absurd (show True ∧ True from ⟨True.intro, True.intro⟩) (by assumption)
      | skip
theorem yqg_wHolds16 : yqc_wHolds16.Good Tryd.prog syG (yqE [] [] [] []) := good_of_walk (Γ := ⟨[yoc_stepg, yhc_sck, yoc_num, yoc_sure16], syG, [], [], []⟩) (ρ := yqE [] [] [] []) sym wHolds16_w rfl (fun _ _ _ _ => (ok_cons (Con.Good.env (Con.Good.up yog_stepg yqup rfl) _ _ _ _) (ok_cons (Con.Good.env (Con.Good.up (Con.Good.up yhg_sck youp rfl) yqup rfl) _ _ _ _) (ok_cons (Con.Good.env (Con.Good.up yog_num yqup rfl) _ _ _ _) (ok_cons (Con.Good.env (Con.Good.up yog_sure16 yqup rfl) _ _ _ _) ok_nil))))) (fun p q l x hc hty => wHolds16_h p q l x hc hty)
def wSlews16_x0 : Tm := (.int .i64 (.wrap .i64 (.i2 .add (.lit (1)) (.wrap .i64 (.i2 .mul (.wrap .i64 (.var 1)) (.lit (65536)))))))
def wSlews16_tree : Tree :=
 (.loop ⟨3, 0, 0, 0⟩ (.b2 .and (.b2 .le (.lit (0)) (.lit (0))) (.b2 .and (.b2 .le (.lit (0)) (.lit (100))) (.b2 .and (.b2 .eq (.i2 .add (.lit (0)) (.wrap .i64 (.var 0))) (.var 0)) (.b2 .or (.b2 .and (.b2 .le (.lit (0)) (.wrap .i64 (.var 0))) (.b2 .le (.wrap .i64 (.var 0)) (.var 0))) (.b2 .and (.b2 .le (.var 0) (.wrap .i64 (.var 0))) (.b2 .le (.wrap .i64 (.var 0)) (.lit (0)))))))) (.b2 .and (.b2 .le (.lit (0)) (.var 4)) (.b2 .and (.b2 .le (.var 4) (.lit (100))) (.b2 .and (.b2 .eq (.i2 .add (.var 3) (.var 2)) (.var 0)) (.b2 .or (.b2 .and (.b2 .le (.lit (0)) (.var 2)) (.b2 .le (.var 2) (.var 0))) (.b2 .and (.b2 .le (.var 0) (.var 2)) (.b2 .le (.var 2) (.lit (0))))))))
 (.br (.b2 .lt (.var 4) (.lit (100)))
 (.br (.not (.b2 .eq (.var 2) (.lit (0))))
 (.need (.b2 .and (.b2 .and (.b2 .le (.lit (-9223372036854775808)) (.var 2)) (.b2 .le (.var 2) (.lit (9223372036854775807)))) (.b2 .and (.b2 .le (.lit (-9223372036854775808)) (.wrap .i64 (.i2 .add (.lit (1)) (.wrap .i64 (.i2 .mul (.wrap .i64 (.var 1)) (.lit (65536))))))) (.b2 .le (.wrap .i64 (.i2 .add (.lit (1)) (.wrap .i64 (.i2 .mul (.wrap .i64 (.var 1)) (.lit (65536)))))) (.lit (9223372036854775807)))))
 (.br (.not (.b2 .eq (.iapp 39 (.cons wSlews16_x0 .nil)) (.lit (0))))
 (.ret (.bool (.tt false)))
 (.br (.b2 .eq (.iapp 38 (.cons (.int .i64 (.var 2)) (.cons wSlews16_x0 .nil))) (.lit (0)))
 (.ret (.bool (.tt false)))
 (.br (.not (.b2 .beq (.b2 .lt (.iapp 38 (.cons (.int .i64 (.var 2)) (.cons wSlews16_x0 .nil))) (.lit (0))) (.b2 .lt (.var 0) (.lit (0)))))
 (.ret (.bool (.tt false)))
 (.br (.b2 .lt (.wrap .i64 (.i2 .add (.lit (1)) (.wrap .i64 (.i2 .mul (.wrap .i64 (.var 1)) (.lit (65536)))))) (.iapp 38 (.cons (.int .i64 (.var 2)) (.cons wSlews16_x0 .nil))))
 (.ret (.bool (.tt false)))
 (.br (.b2 .lt (.wrap .i64 (.i2 .add (.lit (1)) (.wrap .i64 (.i2 .mul (.wrap .i64 (.var 1)) (.lit (65536)))))) (.wrap .i64 (.i2 .sub (.lit (0)) (.iapp 38 (.cons (.int .i64 (.var 2)) (.cons wSlews16_x0 .nil))))))
 (.ret (.bool (.tt false)))
 (.br (.not (.b2 .eq (.wrap .i64 (.i2 .add (.iapp 38 (.cons (.int .i64 (.var 2)) (.cons wSlews16_x0 .nil))) (.iapp 40 (.cons (.int .i64 (.var 2)) (.cons wSlews16_x0 .nil))))) (.var 2)))
 (.ret (.bool (.tt false)))
 (.back (.b2 .and (.b2 .le (.lit (0)) (.wrap .i64 (.i2 .add (.var 4) (.lit (1))))) (.b2 .and (.b2 .le (.wrap .i64 (.i2 .add (.var 4) (.lit (1)))) (.lit (100))) (.b2 .and (.b2 .eq (.i2 .add (.wrap .i64 (.i2 .add (.var 3) (.iapp 38 (.cons (.int .i64 (.var 2)) (.cons wSlews16_x0 .nil))))) (.iapp 40 (.cons (.int .i64 (.var 2)) (.cons wSlews16_x0 .nil)))) (.var 0)) (.b2 .or (.b2 .and (.b2 .le (.lit (0)) (.iapp 40 (.cons (.int .i64 (.var 2)) (.cons wSlews16_x0 .nil)))) (.b2 .le (.iapp 40 (.cons (.int .i64 (.var 2)) (.cons wSlews16_x0 .nil))) (.var 0))) (.b2 .and (.b2 .le (.var 0) (.iapp 40 (.cons (.int .i64 (.var 2)) (.cons wSlews16_x0 .nil)))) (.b2 .le (.iapp 40 (.cons (.int .i64 (.var 2)) (.cons wSlews16_x0 .nil))) (.lit (0)))))))) (.i2 .sub (.lit (100)) (.wrap .i64 (.i2 .add (.var 4) (.lit (1))))) (.i2 .sub (.lit (100)) (.var 4))))))))))
 (.br (.b2 .eq (.var 3) (.wrap .i64 (.var 0)))
 (.ret (.bool (.tt true)))
 (.ret (.bool (.tt false)))))
 (.br (.not (.b2 .eq (.var 2) (.lit (0))))
 (.ret (.bool (.tt true)))
 (.br (.b2 .eq (.var 3) (.wrap .i64 (.var 0)))
 (.ret (.bool (.tt true)))
 (.ret (.bool (.tt false)))))))
abbrev yqc_wSlews16 : Con := ⟨8, [(.int .i32 (.var 0)), (.int .u16 (.var 1))], (.b2 .and (.b2 .le (.lit (-2147483648)) (.var 0)) (.b2 .and (.b2 .le (.var 0) (.lit (2147483647))) (.b2 .and (.b2 .le (.lit (0)) (.var 1)) (.b2 .le (.var 1) (.lit (65535)))))), (.bool (.tt true)), ⟨2, 0, 0, 0⟩, none⟩
theorem wSlews16_w : walk Tryd.prog 229 ⟨[yhc_slew, yoc_num, yoc_sure16], syG, [], [], []⟩ [⟨0, ⟨3, 0, 0, 0⟩, [(5, (.int .i64 (.var 2))), (6, (.int .i64 (.var 3))), (7, (.int .i64 (.var 4))), (4, (.bool (.tt false)))], none, (.b2 .and (.b2 .le (.lit (0)) (.var 4)) (.b2 .and (.b2 .le (.var 4) (.lit (100))) (.b2 .and (.b2 .eq (.i2 .add (.var 3) (.var 2)) (.var 0)) (.b2 .or (.b2 .and (.b2 .le (.lit (0)) (.var 2)) (.b2 .le (.var 2) (.var 0))) (.b2 .and (.b2 .le (.var 0) (.var 2)) (.b2 .le (.var 2) (.lit (0)))))))), (.i2 .sub (.lit (100)) (.var 4)), 0, []⟩] .v yqc_wSlews16 yqc_wSlews16.n 3000 = some wSlews16_tree := by kernel_rfl
set_option maxHeartbeats 4000000 in
theorem wSlews16_h (o : Int) (n : Int) (hc : holds (yqE [o, n] [] [] []) (.b2 .and (.b2 .le (.lit (-2147483648)) (.var 0)) (.b2 .and (.b2 .le (.var 0) (.lit (2147483647))) (.b2 .and (.b2 .le (.lit (0)) (.var 1)) (.b2 .le (.var 1) (.lit (65535))))))) (hty : patsTyp (yqE [o, n] [] [] []) [(.int .i32 (.var 0)), (.int .u16 (.var 1))]) : wSlews16_tree.holds (fun v_ => v_ = denV (yqE [o, n] [] [] []) b0 (.bool (.tt true))) (yqE [o, n] [] [] []) := by
  simp only [Tree.holds, Sy.holds, AllN, Env.more, yqE, List.cons_append, List.nil_append, List.append_nil, denV, denI, denB, denL, I2.den, VOp.den, List.getD_cons_zero, List.getD_cons_succ, Cst.den, syso, syse, syio, sybo, List.map_nil, List.map_cons, B2.ofInts, B2.denI, B2.denB, if_true, Bool.false_eq_true, if_false, Nat.div_one, Nat.mul_one, Nat.add_zero, holds] at hc
  simp only [patsTyp, patTyp, patTypL, yqE, denV, denL, List.getD_cons_zero, List.getD_cons_succ, and_true, true_and] at hty
  unfold wSlews16_tree
  simp only [wSlews16_x0]
  simp only [Tree.holds, Sy.holds, AllN, Env.more, yqE, List.cons_append, List.nil_append, List.append_nil, denV, denI, denB, denL, I2.den, VOp.den, List.getD_cons_zero, List.getD_cons_succ, Cst.den, syso, syse, syio, sybo, yqi_sla, yqi_sle, yqi_slr, List.map_nil, List.map_cons, B2.ofInts, B2.denI, B2.denB, if_true, Bool.false_eq_true, if_false, Nat.div_one, Nat.mul_one, Nat.add_zero]
  have wo : IntKind.wrap .i64 o = o := by have := wr_i64 o; omega
  simp only [wo]
  refine ⟨?_, ?_⟩
  ·
   omega
  ·
   intro jl jt ji hi0
   obtain ⟨z0, z1, z2, z3⟩ := hi0
   have w1 : IntKind.wrap .i64 n = n := by have := wr_i64 n; omega
   have w2 : IntKind.wrap .i64 (n * 65536) = n * 65536 := by have := wr_i64 (n * 65536); omega
   have w3 : IntKind.wrap .i64 (1 + n * 65536) = 1 + n * 65536 := by have := wr_i64 (1 + n * 65536); omega
   simp only [w1, w2, w3]
   have e012 : slE (1 + n * 65536) = 0 ∧ slA jl (1 + n * 65536) = clI jl (-(1 + n * 65536)) (1 + n * 65536) ∧ slR jl (1 + n * 65536) = satE (jl - clI jl (-(1 + n * 65536)) (1 + n * 65536)) := by (rcases sl_spec jl (1 + n * 65536) with ⟨x, _⟩ | ⟨_, x⟩; omega; exact x)
   obtain ⟨e0, e1, e2⟩ := e012
   have hcl := cl_spec jl (-(1 + n * 65536)) (1 + n * 65536)
   have hsa := satE_spec (jl - clI jl (-(1 + n * 65536)) (1 + n * 65536))
   have e3 : satE (jl - clI jl (-(1 + n * 65536)) (1 + n * 65536)) = jl - clI jl (-(1 + n * 65536)) (1 + n * 65536) := by omega
   simp only [e0, e1, e2, e3]
   clear hsa e0 e1 e2 e3
   generalize clI jl (-(1 + n * 65536)) (1 + n * 65536) = t at *
   have v1 : IntKind.wrap .i64 (0 - t) = -t := by have := wr_i64 (0 - t); omega
   have v2 : IntKind.wrap .i64 (t + (jl - t)) = jl := by (rw [show t + (jl - t) = jl by omega]; have := wr_i64 jl; omega)
   have v3 : IntKind.wrap .i64 (jt + t) = jt + t := by have := wr_i64 (jt + t); omega
   simp only [v1, v2, v3]
   have wi := wr_i64 (ji + 1)
   refine ⟨fun h0 => ?_, fun h0 => ?_⟩
   ·
    refine ⟨fun h1 => ?_, fun h1 => ?_⟩
    ·
     refine ⟨?_, fun h2 => ?_⟩
     ·
      first
      | exact True.intro
      | omega
      | skip
     ·
      try simp only [hw3]
      try simp only [hw2]
      try simp only [hw1]
      refine ⟨fun h3 => ?_, fun h3 => ?_⟩
      ·
       first
       | exact True.intro
       | rfl
       | (exfalso; omega)
       | exact absurd True.intro (by assumption)
       | skip
      ·
       try simp only [hw3]
       try simp only [hw2]
       try simp only [hw1]
       refine ⟨fun h4 => ?_, fun h4 => ?_⟩
       ·
        first
        | exact True.intro
        | rfl
        | (exfalso; omega)
        | exact absurd True.intro (by assumption)
        | skip
       ·
        try simp only [hw3]
        try simp only [hw2]
        try simp only [hw1]
        refine ⟨fun h5 => ?_, fun h5 => ?_⟩
        ·
         first
         | exact True.intro
         | rfl
         | (exfalso; omega)
         | exact absurd True.intro (by assumption)
         | skip
        ·
         try simp only [hw3]
         try simp only [hw2]
         try simp only [hw1]
         refine ⟨fun h6 => ?_, fun h6 => ?_⟩
         ·
          first
          | exact True.intro
          | rfl
          | (exfalso; omega)
          | exact absurd True.intro (by assumption)
          | skip
         ·
          try simp only [hw3]
          try simp only [hw2]
          try simp only [hw1]
          refine ⟨fun h7 => ?_, fun h7 => ?_⟩
          ·
           first
           | exact True.intro
           | rfl
           | (exfalso; omega)
           | exact absurd True.intro (by assumption)
           | skip
          ·
           try simp only [hw3]
           try simp only [hw2]
           try simp only [hw1]
           refine ⟨fun h8 => ?_, fun h8 => ?_⟩
           ·
            first
            | exact True.intro
            | rfl
            | (exfalso; omega)
            | exact absurd True.intro (by assumption)
            | skip
           ·
            try simp only [hw3]
            try simp only [hw2]
            try simp only [hw1]
            refine ⟨?_, ?_⟩
            ·
             first
             | omega
             | (simp only [true_and, and_true]; omega)
             | skip
            ·
             omega
    ·
     refine ⟨fun h9 => ?_, fun h9 => ?_⟩
     ·
      first
      | exact True.intro
      | rfl
      | (exfalso; omega)
      | exact absurd True.intro (by assumption)
      | skip
     ·
      first
      | exact True.intro
      | rfl
      | (exfalso; omega)
      | exact absurd True.intro (by assumption)
      | skip
   ·
    refine ⟨fun h10 => ?_, fun h10 => ?_⟩
    ·
     first
     | exact True.intro
     | rfl
     | (exfalso; omega)
     | exact absurd True.intro (by assumption)
     | skip
    ·
     refine ⟨fun h11 => ?_, fun h11 => ?_⟩
     ·
      first
      | exact True.intro
      | rfl
      | (exfalso; omega)
      | exact absurd True.intro (by assumption)
      | skip
     ·
      first
      | exact True.intro
      | rfl
      | (exfalso; omega)
      | exact absurd True.intro (by assumption)
      | skip
theorem yqg_wSlews16 : yqc_wSlews16.Good Tryd.prog syG (yqE [] [] [] []) := good_of_walk (Γ := ⟨[yhc_slew, yoc_num, yoc_sure16], syG, [], [], []⟩) (ρ := yqE [] [] [] []) sym wSlews16_w rfl (fun _ _ _ _ => (ok_cons (Con.Good.env (Con.Good.up (Con.Good.up yhg_slew youp rfl) yqup rfl) _ _ _ _) (ok_cons (Con.Good.env (Con.Good.up yog_num yqup rfl) _ _ _ _) (ok_cons (Con.Good.env (Con.Good.up yog_sure16 yqup rfl) _ _ _ _) ok_nil)))) (fun o n hc hty => wSlews16_h o n hc hty)
end Go.Proofs.YtjhjgfnodhbacaaDoor
