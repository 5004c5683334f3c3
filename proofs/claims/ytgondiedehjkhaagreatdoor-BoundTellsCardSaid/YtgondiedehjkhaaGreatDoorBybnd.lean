/-
 Layer 30 by the second engine: policies that may be; what the law hands over.
-/
import Derived.Test.YtgondiedehjkhaaGreatDoorSycbnd
import Derived.Test.YtgondiedehjkhaaGreatDoorBzbnd
import Derived.Test.YtgondiedehjkhaaGreatDoorE00bnd
import Derived.Test.YtgondiedehjkhaaGreatDoorNumbnd
namespace Go.Proofs.YtgondiedehjkhaaGreatDoor
open Go.RowKit Go.Extern.Stop Go.Stop Go.Extern Go.Proofs.YtgondiedehjkhaaGreatDoor.Sy
set_option linter.unusedVariables false
set_option linter.unusedSimpArgs false
abbrev xrbybndk0_ : Tm := (.b2 .and (.b2 .and (.b2 .le (.lit (-9223372036854775808)) (.var 0)) (.b2 .le (.var 0) (.lit (9223372036854775807)))) (.b2 .and (.b2 .and (.b2 .le (.lit (-9223372036854775808)) (.var 1)) (.b2 .le (.var 1) (.lit (9223372036854775807)))) (.b2 .and (.b2 .le (.lit (-9223372036854775808)) (.var 2)) (.b2 .le (.var 2) (.lit (9223372036854775807))))))
abbrev xrbybndk1_ : Tm := (.ofI (.vop (.len 3) (.cons (.opq 0) .nil)))
abbrev xrbybndk2_ : Tm := (.b2 .and (.b2 .and (.b2 .le (.lit (-9223372036854775808)) (.var 0)) (.b2 .le (.var 0) (.lit (9223372036854775807)))) (.b2 .and (.b2 .and (.b2 .le (.lit (-9223372036854775808)) (.var 1)) (.b2 .le (.var 1) (.lit (9223372036854775807)))) (.b2 .and (.b2 .and (.b2 .le (.lit (-9223372036854775808)) (.var 2)) (.b2 .le (.var 2) (.lit (9223372036854775807)))) (.b2 .and (.b2 .and (.b2 .le (.lit (-9223372036854775808)) (.var 3)) (.b2 .le (.var 3) (.lit (9223372036854775807)))) (.b2 .and (.b2 .and (.b2 .le (.lit (-9223372036854775808)) (.var 4)) (.b2 .le (.var 4) (.lit (9223372036854775807)))) (.b2 .and (.b2 .and (.b2 .le (.lit (-9223372036854775808)) (.var 5)) (.b2 .le (.var 5) (.lit (9223372036854775807)))) (.b2 .and (.b2 .le (.lit (-9223372036854775808)) (.var 6)) (.b2 .le (.var 6) (.lit (9223372036854775807))))))))))
abbrev xrbybndk3_ : Tm := (.agg (.cons (.int .i64 (.var 0)) (.cons (.int .i64 (.var 1)) (.cons (.int .i64 (.var 2)) (.cons (.int .i64 (.var 3)) (.cons (.int .i64 (.var 4)) (.cons (.int .i64 (.var 5)) (.cons (.bool (.bvar 0)) (.cons (.str 0) (.cons (.int .i64 (.var 6)) (.cons (.hs .no (.cons (.int .i64) (.cons (.int .i64) (.cons .str .nil))) (.opq 0)) .nil)))))))))))
abbrev xrbybndk4_ : Tm := (.agg (.cons (.int .i64 (.var 0)) (.cons (.int .i64 (.var 1)) (.cons (.int .i64 (.var 2)) (.cons (.int .i64 (.var 3)) (.cons (.int .u32 (.var 4)) (.cons (.int .i64 (.var 5)) (.cons (.int .u32 (.var 6)) (.cons (.int .i64 (.var 7)) (.cons (.int .i64 (.var 8)) (.cons (.int .i64 (.var 9)) .nil)))))))))))
abbrev xrbybndk5_ : Tm := (.agg (.cons (.int .i64 (.var 0)) (.cons (.int .i64 (.var 1)) (.cons (.int .i64 (.var 2)) (.cons (.int .i64 (.var 3)) (.cons (.int .i64 (.var 4)) (.cons (.int .i64 (.var 5)) (.cons (.bool (.bvar 0)) (.cons (.str 0) (.cons (.int .i64 (.var 6)) (.cons (.hs (.new 211) (.cons (.int .i64) (.cons (.int .i64) (.cons .str .nil))) (.opq 0)) .nil)))))))))))
abbrev xrbybndk6_ : Tm := (.wrap .i64 (.i2 .add (.var 1) (.var 2)))
abbrev xrbybndk7_ : Tm := (.agg (.cons (.int .i64 (.lit (0))) (.cons (.int .i64 (.lit (0))) (.cons (.int .i64 (.lit (0))) (.cons (.int .i64 (.lit (1))) (.cons (.int .i64 (.lit (0))) (.cons (.int .i64 (.lit (1))) (.cons (.bool (.tt false)) (.cons (.cst (.strc [85, 84, 67])) (.cons (.int .i64 (.lit (0))) (.cons (.cst .nilS) .nil)))))))))))
abbrev xrbybndk8_ : Tm := (.wrap .i64 (.i2 .add (.var 1) (.lit (1))))
abbrev xrbybndk9_ : Tm := (.iapp 31 (.cons (.int .i64 (.var 0)) (.cons (.int .i64 (.var 1)) (.cons (.int .i64 (.var 2)) (.cons (.int .i64 (.var 3)) (.cons (.int .i64 (.var 4)) (.cons (.int .i64 (.var 5)) (.cons (.str 0) (.cons (.int .i64 (.var 6)) (.cons (.opq 0) .nil))))))))))
abbrev KR : SK := .cons (.int .i64) (.cons (.int .i64) (.cons .str .nil))
def shN (l : List Value) (n : Nat) : Bool := (List.range n).all fun k => decide ((strOf (l.getD (k * 3 + 2) Go.undef)).size ≤ 200)
theorem shN_succ (l : List Value) (n : Nat) : shN l (n + 1) = (shN l n && decide ((strOf (l.getD (n * 3 + 2) Go.undef)).size ≤ 200)) := by
 unfold shN; rw [List.range_succ, List.all_append]; simp
theorem shN_get {l : List Value} {n k : Nat} (h : shN l n = true) (hk : k < n) : (strOf (l.getD (k * 3 + 2) Go.undef)).size ≤ 200 := by
 have := List.all_eq_true.1 h k (List.mem_range.2 hk)
 simpa using this
def bigB (s : ByteArray) (l : List Value) : Bool := !(shN l (min (l.length / 3) 60)) || decide (60 < l.length / 3) || decide (200 < s.size)
noncomputable def eqV (a b : Value) : Bool := @decide (a = b) (Classical.propDecidable _)
theorem eqV_iff {a b : Value} : eqV a b = true ↔ a = b := @decide_eq_true_iff _ (Classical.propDecidable _)
theorem zrows_tup (a : Array Value) : Sy.rows (.tuple a) = a.toList := rfl
def tkV (l : Value) (n : Nat) : Value := .tuple ((Sy.rows l).take (n * 3)).toArray
theorem typ_all {l : Value} (h : typ (.sl KR) l) {n : Nat} (hn : (Sy.rows l).length = n * 3) : tkV l n = l := by
 unfold tkV
 rw [← hn, List.take_length]
 exact h.1.symm
theorem typ_row {l : Value} (h : typ (.sl KR) l) {k : Nat} (hk : k < (Sy.rows l).length / 3) : (Sy.rows l).getD (k * 3) Go.undef = .int .i64 (Go.RowKit.intOf ((Sy.rows l).getD (k * 3) Go.undef)) ∧ (Sy.rows l).getD (k * 3 + 1) Go.undef = .int .i64 (Go.RowKit.intOf ((Sy.rows l).getD (k * 3 + 1) Go.undef)) ∧ (Sy.rows l).getD (k * 3 + 2) Go.undef = .string (strOf ((Sy.rows l).getD (k * 3 + 2) Go.undef)) := by
 obtain ⟨_, n, h1, h2, h3⟩ := h
 have : n = (Sy.rows l).length / 3 := by rw [h2]; exact (Nat.mul_div_cancel n (by decide)).symm
 obtain ⟨g1, g2, g3, _⟩ := h3 k (by omega)
 exact ⟨g1, g2, g3⟩
theorem take3 {l : List Value} {n : Nat} (h : n * 3 + 2 < l.length) : l.take ((n + 1) * 3) = l.take (n * 3) ++ [l.getD (n * 3) Go.undef, l.getD (n * 3 + 1) Go.undef, l.getD (n * 3 + 2) Go.undef] := by
 have e : ∀ k, k < l.length → l.take (k + 1) = l.take k ++ [l.getD k Go.undef] := fun k hk => by
   rw [List.take_add_one, List.getD_eq_getElem?_getD, List.getElem?_eq_getElem hk]; rfl
 rw [show (n + 1) * 3 = n * 3 + 1 + 1 + 1 by omega, e _ (by omega), e _ (by omega), e _ (by omega)]
 simp only [List.append_assoc, List.cons_append, List.nil_append]
theorem num30_any (n : Int) (w : World) (hg : w.cell? ⟨0, 0, none⟩ = some asHandle) : Calls Tryz.prog 31 #[errVal 111 n] w fun e w' => e = .returned (.int .i64 n) ∧ Below w.heap.size w w' := by
 unfold errVal
 split
 · rename_i h; subst h; exact num30_nil _
 · exact num30_err _ _ hg
def smP (k b a : Int) : Prop := 0 ≤ b ∧ b ≤ 43200 ∧ 0 ≤ a ∧ a ≤ 43200 ∧ (k = 0 ∧ b + a = 0 ∨ k = 1 ∧ 1 ≤ b + a ∨ k = 2 ∧ 3600 ≤ b + a)
instance (k b a : Int) : Decidable (smP k b a) := by unfold smP; infer_instance
def smE (k b a : Int) : Int := if smP k b a then 0 else 1
def e1I (b : Bool) : Int := if b then 0 else 1
def poP (k b a q w c : Int) (s : ByteArray) (f : Int) (l : List Value) : Prop := smP k b a ∧ 1 ≤ q ∧ q ≤ 68719476736 ∧ 0 ≤ w ∧ w ≤ 1099511627776 ∧ 1 ≤ c ∧ c ≤ 1125899906842624 ∧ chkI s f l = 0
instance (k b a q w c : Int) (s : ByteArray) (f : Int) (l : List Value) : Decidable (poP k b a q w c s f l) := by unfold poP; infer_instance
def poE (k b a q w c : Int) (s : ByteArray) (f : Int) (l : List Value) : Int := if poP k b a q w c s f l then 0 else 1
theorem sm_0 {k b a : Int} : smE k b a = 0 ↔ smP k b a := by unfold smE; split <;> simp_all
theorem e1_0 {b : Bool} : e1I b = 0 ↔ b = true := by unfold e1I; split <;> simp_all
theorem zon_chk {s : ByteArray} {f : Int} {l : List Value} : zoneB s f l = true ↔ chkI s f l = 0 := ⟨chk_yes, fun h => by
 by_cases z : zoneB s f l = true
 · exact z
 · rw [chk_no z] at h; exact absurd h (by decide)⟩
theorem po_spec (k b a q w c : Int) (s : ByteArray) (f : Int) (l : List Value) : (poP k b a q w c s f l ∧ poE k b a q w c s f l = 0) ∨ (¬ poP k b a q w c s f l ∧ poE k b a q w c s f l = 1) := by
 unfold poE
 split
 · exact .inl ⟨by assumption, rfl⟩
 · exact .inr ⟨by assumption, rfl⟩
noncomputable def byI : Nat → List Value → Int
 | 29, [.int _ k, .int _ b, .int _ a] => smE k b a
 | 30, [.bool b] => e1I b
 | 31, [.int _ k, .int _ b, .int _ a, .int _ q, .int _ w, .int _ c, .string s, .int _ f, l] => poE k b a q w c s f (rows l)
 | i, l => bzI i l
noncomputable def byB : Nat → List Value → Bool
 | 9, [l, .int _ n] => shN (rows l) n.toNat
 | 10, [.string s, l] => bigB s (rows l)
 | 11, [x, y] => eqV x y
 | 12, [x, y, .int _ n] => eqV x (tkV y n.toNat)
 | 13, [.int _ k, .int _ b, .int _ a] => decide (smP k b a)
 | i, l => bzB i l
noncomputable def byV : Nat → List Value → Value
 | i, l => bzV i l
noncomputable abbrev byE (iv : List Int) (bv : List Bool) (vv : List Value) (sv : List ByteArray) : Env := { iv := iv, bv := bv, vv := vv, sv := sv, fi := byI, fb := byB, fv := byV, et := 111 }
set_option maxHeartbeats 8000000 in
theorem byup : Agree 29 9 0 (bzE [] [] [] []) (byE [] [] [] []) := ⟨rfl, (by
   intro f hf
   funext l
   show byI f l = bzI f l
   unfold byI
   split <;> first | rfl | omega), (by
   intro f hf
   funext l
   show byB f l = bzB f l
   unfold byB
   split <;> first | rfl | omega), (by
   intro f hf
   funext l
   show byV f l = bzV f l
   unfold byV
   split <;> first | rfl | omega)⟩
theorem byi_chk (s : ByteArray) (k1 : IntKind) (f : Int) (l : Value) : byI 28 [.string s, .int k1 f, l] = chkI s f (rows l) := rfl
theorem byi_sme (k1 : IntKind) (k : Int) (k2 : IntKind) (b : Int) (k3 : IntKind) (a : Int) : byI 29 [.int k1 k, .int k2 b, .int k3 a] = smE k b a := rfl
theorem byi_e1 (b : Bool) : byI 30 [.bool b] = e1I b := rfl
theorem byi_poe (k1 : IntKind) (k : Int) (k2 : IntKind) (b : Int) (k3 : IntKind) (a : Int) (k4 : IntKind) (q : Int) (k5 : IntKind) (w : Int) (k6 : IntKind) (c : Int) (s : ByteArray) (k7 : IntKind) (f : Int) (l : Value) : byI 31 [.int k1 k, .int k2 b, .int k3 a, .int k4 q, .int k5 w, .int k6 c, .string s, .int k7 f, l] = poE k b a q w c s f (rows l) := rfl
theorem byb_zon (s : ByteArray) (k1 : IntKind) (f : Int) (l : Value) : byB 5 [.string s, .int k1 f, l] = zoneB s f (rows l) := rfl
theorem byb_shr (l : Value) : byB 6 [l] = shortR (rows l) := rfl
theorem byb_shn (l : Value) (k1 : IntKind) (n : Int) : byB 9 [l, .int k1 n] = shN (rows l) n.toNat := rfl
theorem byb_big (s : ByteArray) (l : Value) : byB 10 [.string s, l] = bigB s (rows l) := rfl
theorem byb_tk (x : Value) (y : Value) (k1 : IntKind) (n : Int) : byB 12 [x, y, .int k1 n] = eqV x (tkV y n.toNat) := rfl
theorem byb_smm (k1 : IntKind) (k : Int) (k2 : IntKind) (b : Int) (k3 : IntKind) (a : Int) : byB 13 [.int k1 k, .int k2 b, .int k3 a] = decide (smP k b a) := rfl
abbrev byc_num : Con := ⟨31, [(.err (.var 0))], (.tt true), (.int .i64 (.var 0)), ⟨1, 0, 0, 0⟩, none⟩
theorem byg_num : byc_num.Good Tryz.prog syG (byE [] [] [] []) := good_flat rfl rfl rfl (by
 intro n hc β ok w hG
 have hc' := hc
 simp only [Tree.holds, Sy.holds, AllN, Env.more, byE, List.cons_append, List.nil_append, List.append_nil, denV, denI, denB, denL, I2.den, VOp.den, List.getD_cons_zero, List.getD_cons_succ, Cst.den, syso, syse, syio, sybo, List.map_nil, List.map_cons, B2.ofInts, B2.denI, B2.denB, if_true, Bool.false_eq_true, if_false, Nat.div_one, Nat.mul_one, Nat.add_zero, holds] at hc
 exact num30_any n w (hG _ (List.mem_singleton.2 rfl)).2.2)
def lbig_tree : Tree :=
 (.loop ⟨1, 0, 0, 0⟩ (.b2 .and (.b2 .le (.lit (0)) (.lit (0))) (.b2 .and (.b2 .le (.lit (0)) xrbybndk1_) (.b2 .and (.b2 .le (.lit (0)) (.lit (60))) (.bapp 9 (.cons (.opq 0) (.cons (.int .i64 (.lit (0))) .nil)))))) (.b2 .and (.b2 .le (.lit (0)) (.var 1)) (.b2 .and (.b2 .le (.var 1) xrbybndk1_) (.b2 .and (.b2 .le (.var 1) (.lit (60))) (.bapp 9 (.cons (.opq 0) (.cons (.int .i64 (.var 1)) .nil))))))
 (.br (.b2 .lt (.var 1) xrbybndk1_)
 (.br (.b2 .lt (.var 1) (.lit (60)))
 (.need (.b2 .and (.b2 .le (.lit (0)) (.var 1)) (.b2 .lt (.var 1) xrbybndk1_))
 (.br (.b2 .lt (.lit (200)) (.blen (.vop (.ssel 3 2) (.cons (.opq 0) (.cons (.int .i64 (.var 1)) .nil)))))
 (.ret (.bool (.tt true)))
 (.back (.b2 .and (.b2 .le (.lit (0)) xrbybndk8_) (.b2 .and (.b2 .le xrbybndk8_ xrbybndk1_) (.b2 .and (.b2 .le xrbybndk8_ (.lit (60))) (.bapp 9 (.cons (.opq 0) (.cons (.int .i64 xrbybndk8_) .nil)))))) (.i2 .sub xrbybndk1_ xrbybndk8_) (.i2 .sub xrbybndk1_ (.var 1)))))
 (.br (.b2 .lt (.lit (60)) xrbybndk1_)
 (.ret (.bool (.tt true)))
 (.ret (.bool (.b2 .lt (.lit (200)) (.blen (.str 0)))))))
 (.br (.b2 .lt (.lit (60)) xrbybndk1_)
 (.ret (.bool (.tt true)))
 (.ret (.bool (.b2 .lt (.lit (200)) (.blen (.str 0))))))))
abbrev byc_lbig : Con := ⟨22, [(.agg (.cons (.str 0) (.cons (.int .i64 (.var 0)) (.cons (.hs .no (.cons (.int .i64) (.cons (.int .i64) (.cons .str .nil))) (.opq 0)) .nil))))], (.tt true), (.bool (.bapp 10 (.cons (.str 0) (.cons (.opq 0) .nil)))), ⟨1, 0, 1, 1⟩, none⟩
theorem lbig_w : walk Tryz.prog 111 ⟨[], syG, [], [], []⟩ [⟨0, ⟨1, 0, 0, 0⟩, [(3, (.int .i64 (.var 1)))], none, (.b2 .and (.b2 .le (.lit (0)) (.var 1)) (.b2 .and (.b2 .le (.var 1) xrbybndk1_) (.b2 .and (.b2 .le (.var 1) (.lit (60))) (.bapp 9 (.cons (.opq 0) (.cons (.int .i64 (.var 1)) .nil)))))), (.i2 .sub xrbybndk1_ (.var 1)), 0, []⟩] .v byc_lbig byc_lbig.n 3000 = some lbig_tree := by kernel_rfl
theorem lbig_h (fst : Int) (l : Value) (nm : ByteArray) : Hyp_ byc_lbig lbig_tree (byE [fst] [] [l] [nm]) := by
 intro hc hty
 simp only [byc_lbig, Sy.holds, byE, denV, denI, denB, denL, I2.den, VOp.den, List.getD_cons_zero, List.getD_cons_succ, Cst.den, syso, syse, syio, sybo, B2.ofInts, B2.denI, B2.denB, if_true, Bool.false_eq_true, if_false, Nat.div_one, Nat.mul_one, Nat.add_zero] at hc
 simp only [byc_lbig, patsTyp, patTyp, patTypL, byE, denV, denL, List.getD_cons_zero, List.getD_cons_succ, and_true, true_and] at hty
 have hL_l : typ (.sl (.cons (.int .i64) (.cons (.int .i64) (.cons .str .nil)))) l := by first | exact hty | exact hty.1 | exact hty.2 | exact hty.1.1 | exact hty.1.2 | exact hty.2.1 | exact hty.2.2 | exact hty.2.2.1 | exact hty.2.2.2
 have hN_l := typ_len (n := 3) hL_l rfl (by omega)
 unfold lbig_tree
 simp only [byc_lbig, Tree.holds, Sy.holds, AllN, Env.more, byE, List.cons_append, List.nil_append, List.append_nil, denV, denI, denB, denL, I2.den, VOp.den, List.getD_cons_zero, List.getD_cons_succ, Cst.den, syso, syse, syio, sybo, byb_shn, byb_big, List.map_nil, List.map_cons, B2.ofInts, B2.denI, B2.denB, if_true, Bool.false_eq_true, if_false, Nat.div_one, Nat.mul_one, Nat.add_zero]
 refine ⟨?_, ?_⟩
 ·
  exact ⟨by omega, by omega, by omega, rfl⟩
 intro i0a hi0
 refine ⟨fun h0 => ?_, fun h0 => ?_⟩
 refine ⟨fun h1 => ?_, fun h1 => ?_⟩
 refine ⟨?_, fun h2 => ?_⟩
 ·
  omega
 refine ⟨fun h3 => ?_, fun h3 => ?_⟩
 refine ?a0; rotate_left
 have wf0 := wr_i64 (i0a + 1)
 refine ⟨?_, ?_⟩
 ·
  obtain ⟨hi1, hi2, hi3, hi4⟩ := hi0
  have e : IntKind.wrap .i64 (i0a + 1) = i0a + 1 := by omega
  rw [e, show (i0a + 1).toNat = i0a.toNat + 1 by omega, shN_succ, hi4]
  exact ⟨by omega, by omega, by omega, by simp only [Bool.true_and, decide_eq_true_eq]; omega⟩
 ·
  omega
 refine ⟨fun h4 => ?_, fun h4 => ?_⟩
 refine ?a1; rotate_left
 refine ?a2; rotate_left
 refine ⟨fun h5 => ?_, fun h5 => ?_⟩
 refine ?a3; rotate_left
 refine ?a4; rotate_left
 case a0 | a1 | a2 | a3 | a4 =>
  obtain ⟨hi1, hi2, hi3, hi4⟩ := hi0
  first
  | (have hm : shN (Sy.rows l) (min ((Sy.rows l).length / 3) 60) = false := Bool.eq_false_iff.2 fun h => by
       have := shN_get h (k := i0a.toNat) (by omega)
       omega
     simp only [bigB, hm, Bool.not_false, Bool.true_or]
     done)
  | (have hm : shN (Sy.rows l) (min ((Sy.rows l).length / 3) 60) = true := by
       rw [show min ((Sy.rows l).length / 3) 60 = i0a.toNat by omega]
       exact hi4
     refine congrArg Value.bool (Bool.eq_iff_iff.2 ?_)
     simp only [bigB, hm, Bool.not_true, Bool.false_or, Bool.or_eq_true, decide_eq_true_eq, true_iff]
     omega)
theorem byg_lbig : byc_lbig.Good Tryz.prog syG (byE [] [] [] []) := good_of_walk (Γ := ⟨[], syG, [], [], []⟩) (ρ := byE [] [] [] []) sym lbig_w rfl (fun _ _ _ _ => ok_nil) lbig_h
def give_tree : Tree :=
 (.loop ⟨1, 0, 1, 0⟩ (.b2 .and (.b2 .le (.lit (0)) (.lit (0))) (.b2 .and (.b2 .le (.lit (0)) xrbybndk1_) (.bapp 12 (.cons (.tup .nil) (.cons (.opq 0) (.cons (.int .i64 (.lit (0))) .nil)))))) (.b2 .and (.b2 .le (.lit (0)) (.var 1)) (.b2 .and (.b2 .le (.var 1) xrbybndk1_) (.bapp 12 (.cons (.opq 1) (.cons (.opq 0) (.cons (.int .i64 (.var 1)) .nil))))))
 (.br (.b2 .lt (.var 1) xrbybndk1_)
 (.need (.b2 .and (.b2 .le (.lit (0)) (.var 1)) (.b2 .lt (.var 1) xrbybndk1_))
 (.need (.b2 .le (.i2 .add (.ofI (.vop (.len 3) (.cons (.opq 1) .nil))) (.lit (1))) (.lit (4398046511104)))
 (.back (.b2 .and (.b2 .le (.lit (0)) xrbybndk8_) (.b2 .and (.b2 .le xrbybndk8_ xrbybndk1_) (.bapp 12 (.cons (.vop .cat (.cons (.opq 1) (.cons (.tup (.cons (.int .i64 (.ofI (.vop (.sel 3 0) (.cons (.opq 0) (.cons (.int .i64 (.var 1)) .nil))))) (.cons (.int .i64 (.ofI (.vop (.sel 3 1) (.cons (.opq 0) (.cons (.int .i64 (.var 1)) .nil))))) (.cons (.vop (.ssel 3 2) (.cons (.opq 0) (.cons (.int .i64 (.var 1)) .nil))) .nil)))) .nil))) (.cons (.opq 0) (.cons (.int .i64 xrbybndk8_) .nil)))))) (.i2 .sub xrbybndk1_ xrbybndk8_) (.i2 .sub xrbybndk1_ (.var 1)))))
 (.ret (.agg (.cons (.str 0) (.cons (.int .i64 (.var 0)) (.cons (.hs (.new 211) (.cons (.int .i64) (.cons (.int .i64) (.cons .str .nil))) (.opq 1)) .nil)))))))
abbrev byc_give : Con := ⟨59, [(.agg (.cons (.str 0) (.cons (.int .i64 (.var 0)) (.cons (.hs .no (.cons (.int .i64) (.cons (.int .i64) (.cons .str .nil))) (.opq 0)) .nil))))], (.b2 .le xrbybndk1_ (.lit (4398046511103))), (.agg (.cons (.str 0) (.cons (.int .i64 (.var 0)) (.cons (.hs (.new 211) (.cons (.int .i64) (.cons (.int .i64) (.cons .str .nil))) (.opq 0)) .nil)))), ⟨1, 0, 1, 1⟩, none⟩
theorem give_w : walk Tryz.prog 111 ⟨[], syG, [], [], []⟩ [⟨0, ⟨1, 0, 1, 0⟩, [(4, (.int .i64 (.var 1)))], some [[(.str 0), (.int .i64 (.var 0)), (.hs .no (.cons (.int .i64) (.cons (.int .i64) (.cons .str .nil))) (.opq 0))], [(.cst (.strc [])), (.int .i64 (.lit (0))), (.cst .nilS)], [(.str 0), (.int .i64 (.var 0)), (.hs (.id 1000 211) (.cons (.int .i64) (.cons (.int .i64) (.cons .str .nil))) (.opq 1))]], (.b2 .and (.b2 .le (.lit (0)) (.var 1)) (.b2 .and (.b2 .le (.var 1) xrbybndk1_) (.bapp 12 (.cons (.opq 1) (.cons (.opq 0) (.cons (.int .i64 (.var 1)) .nil)))))), (.i2 .sub xrbybndk1_ (.var 1)), 1, []⟩] (.agg (.cons .v (.cons .v (.cons (.o 211 (.cons (.int .i64) (.cons (.int .i64) (.cons .str .nil)))) .nil)))) byc_give byc_give.n 3000 = some give_tree := by kernel_rfl
theorem give_h (fst : Int) (l : Value) (nm : ByteArray) : Hyp_ byc_give give_tree (byE [fst] [] [l] [nm]) := by
 intro hc hty
 simp only [byc_give, Sy.holds, byE, denV, denI, denB, denL, I2.den, VOp.den, List.getD_cons_zero, List.getD_cons_succ, Cst.den, syso, syse, syio, sybo, B2.ofInts, B2.denI, B2.denB, if_true, Bool.false_eq_true, if_false, Nat.div_one, Nat.mul_one, Nat.add_zero] at hc
 simp only [byc_give, patsTyp, patTyp, patTypL, byE, denV, denL, List.getD_cons_zero, List.getD_cons_succ, and_true, true_and] at hty
 have hL_l : typ (.sl (.cons (.int .i64) (.cons (.int .i64) (.cons .str .nil)))) l := by first | exact hty | exact hty.1 | exact hty.2 | exact hty.1.1 | exact hty.1.2 | exact hty.2.1 | exact hty.2.2 | exact hty.2.2.1 | exact hty.2.2.2
 have hN_l := typ_len (n := 3) hL_l rfl (by omega)
 unfold give_tree
 simp only [byc_give, Tree.holds, Sy.holds, AllN, Env.more, byE, List.cons_append, List.nil_append, List.append_nil, denV, denI, denB, denL, I2.den, VOp.den, List.getD_cons_zero, List.getD_cons_succ, Cst.den, syso, syse, syio, sybo, byb_tk, List.map_nil, List.map_cons, B2.ofInts, B2.denI, B2.denB, if_true, Bool.false_eq_true, if_false, Nat.div_one, Nat.mul_one, Nat.add_zero]
 refine ⟨?_, ?_⟩
 ·
  exact ⟨by omega, by omega, eqV_iff.2 (by simp [tkV])⟩
 intro i0a i0b hi0
 refine ⟨fun h0 => ?_, fun h0 => ?_⟩
 refine ⟨?_, fun h1 => ?_⟩
 refine ?a0; rotate_left
 refine ⟨?_, fun h2 => ?_⟩
 refine ?a1; rotate_left
 have wf0 := wr_i64 (i0a + 1)
 refine ⟨?_, ?_⟩
 ·
  obtain ⟨hi1, hi2, hi3⟩ := hi0
  have e : IntKind.wrap .i64 (i0a + 1) = i0a + 1 := by omega
  rw [e, show (i0a + 1).toNat = i0a.toNat + 1 by omega]
  refine ⟨by omega, by omega, eqV_iff.2 ?_⟩
  obtain ⟨g1, g2, g3⟩ := typ_row hL_l (k := i0a.toNat) (by omega)
  rw [← g1, ← g2, ← g3, eqV_iff.1 hi3]
  simp only [tkV, zrows_tup]
  rw [take3 (by omega)]
 ·
  omega
 ·
  obtain ⟨hi1, hi2, hi3⟩ := hi0
  rw [eqV_iff.1 hi3, typ_all hL_l (by omega)]
 case a0 | a1 =>
  first
  | omega
  | (have hlen : (Sy.rows i0b).length = i0a.toNat * 3 := by
       rw [eqV_iff.1 hi0.2.2]
       simp only [tkV, zrows_tup, List.length_take]
       omega
     omega)
theorem byg_give : byc_give.Good Tryz.prog syG (byE [] [] [] []) := good_of_walk (Γ := ⟨[], syG, [], [], []⟩) (ρ := byE [] [] [] []) sym give_w rfl (fun _ _ _ _ => ok_nil) give_h
def smay_tree : Tree :=
 (.br (.b2 .lt (.var 1) (.lit (0)))
 (.ret (.bool (.tt false)))
 (.br (.b2 .lt (.lit (43200)) (.var 1))
 (.ret (.bool (.tt false)))
 (.br (.b2 .lt (.var 2) (.lit (0)))
 (.ret (.bool (.tt false)))
 (.br (.b2 .lt (.lit (43200)) (.var 2))
 (.ret (.bool (.tt false)))
 (.br (.b2 .eq (.var 0) (.lit (0)))
 (.br (.b2 .eq xrbybndk6_ (.lit (0)))
 (.ret (.bool (.tt true)))
 (.br (.b2 .eq (.var 0) (.lit (1)))
 (.br (.b2 .le (.lit (1)) xrbybndk6_)
 (.ret (.bool (.tt true)))
 (.br (.b2 .eq (.var 0) (.lit (2)))
 (.ret (.bool (.b2 .le (.lit (3600)) xrbybndk6_)))
 (.ret (.bool (.tt false)))))
 (.br (.b2 .eq (.var 0) (.lit (2)))
 (.ret (.bool (.b2 .le (.lit (3600)) xrbybndk6_)))
 (.ret (.bool (.tt false))))))
 (.br (.b2 .eq (.var 0) (.lit (1)))
 (.br (.b2 .le (.lit (1)) xrbybndk6_)
 (.ret (.bool (.tt true)))
 (.br (.b2 .eq (.var 0) (.lit (2)))
 (.ret (.bool (.b2 .le (.lit (3600)) xrbybndk6_)))
 (.ret (.bool (.tt false)))))
 (.br (.b2 .eq (.var 0) (.lit (2)))
 (.ret (.bool (.b2 .le (.lit (3600)) xrbybndk6_)))
 (.ret (.bool (.tt false))))))))))
abbrev byc_smay : Con := ⟨114, [(.agg (.cons (.int .i64 (.var 0)) (.cons (.int .i64 (.var 1)) (.cons (.int .i64 (.var 2)) .nil))))], xrbybndk0_, (.bool (.bapp 13 (.cons (.int .i64 (.var 0)) (.cons (.int .i64 (.var 1)) (.cons (.int .i64 (.var 2)) .nil))))), ⟨3, 0, 0, 0⟩, none⟩
theorem smay_w : walk Tryz.prog 111 ⟨[], syG, [], [], []⟩ [] .v byc_smay byc_smay.n 3000 = some smay_tree := by kernel_rfl
theorem smay_h (k b a : Int) : Hyp_ byc_smay smay_tree (byE [k, b, a] [] [] []) := by
 intro hc hty
 simp only [byc_smay, Sy.holds, byE, denV, denI, denB, denL, I2.den, VOp.den, List.getD_cons_zero, List.getD_cons_succ, Cst.den, syso, syse, syio, sybo, B2.ofInts, B2.denI, B2.denB, if_true, Bool.false_eq_true, if_false, Nat.div_one, Nat.mul_one, Nat.add_zero] at hc
 simp only [byc_smay, patsTyp, patTyp, patTypL, byE, denV, denL, List.getD_cons_zero, List.getD_cons_succ, and_true, true_and] at hty
 unfold smay_tree
 simp only [byc_smay, Tree.holds, Sy.holds, byE, denV, denI, denB, denL, I2.den, VOp.den, List.getD_cons_zero, List.getD_cons_succ, Cst.den, syso, syse, syio, sybo, byb_smm, B2.ofInts, B2.denI, B2.denB, if_true, Bool.false_eq_true, if_false, Nat.div_one, Nat.mul_one, Nat.add_zero]
 have w1 := wr_i64 (b + a)
 refine ⟨fun h0 => ?_, fun h0 => ?_⟩
 refine ?a0; rotate_left
 refine ⟨fun h1 => ?_, fun h1 => ?_⟩
 refine ?a1; rotate_left
 refine ⟨fun h2 => ?_, fun h2 => ?_⟩
 refine ?a2; rotate_left
 refine ⟨fun h3 => ?_, fun h3 => ?_⟩
 refine ?a3; rotate_left
 refine ⟨fun h4 => ?_, fun h4 => ?_⟩
 refine ⟨fun h5 => ?_, fun h5 => ?_⟩
 refine ?a4; rotate_left
 refine ⟨fun h6 => ?_, fun h6 => ?_⟩
 refine ⟨fun h7 => ?_, fun h7 => ?_⟩
 refine ?a5; rotate_left
 refine ⟨fun h8 => ?_, fun h8 => ?_⟩
 refine ?a6; rotate_left
 refine ?a7; rotate_left
 refine ⟨fun h9 => ?_, fun h9 => ?_⟩
 refine ?a8; rotate_left
 refine ?a9; rotate_left
 refine ⟨fun h10 => ?_, fun h10 => ?_⟩
 refine ⟨fun h11 => ?_, fun h11 => ?_⟩
 refine ?a10; rotate_left
 refine ⟨fun h12 => ?_, fun h12 => ?_⟩
 refine ?a11; rotate_left
 refine ?a12; rotate_left
 refine ⟨fun h13 => ?_, fun h13 => ?_⟩
 refine ?a13; rotate_left
 refine ?a14; rotate_left
 case a0 | a1 | a2 | a3 | a4 | a5 | a6 | a7 | a8 | a9 | a10 | a11 | a12 | a13 | a14 =>
  refine congrArg Value.bool ?_
  first
  | (exfalso; omega)
  | exact (decide_eq_false (by unfold smP; omega)).symm
  | (refine decide_eq_decide.2 ?_; unfold smP; omega)
  | exact (decide_eq_true (by unfold smP; omega)).symm
  | (refine Bool.eq_iff_iff.2 ?_; unfold smP; simp only [decide_eq_true_eq, beq_iff_eq]; omega)
  | skip
theorem byg_smay : byc_smay.Good Tryz.prog syG (byE [] [] [] []) := good_of_walk (Γ := ⟨[], syG, [], [], []⟩) (ρ := byE [] [] [] []) sym smay_w rfl (fun _ _ _ _ => ok_nil) smay_h
def qmay_tree : Tree :=
 (.br (.b2 .le (.lit (1)) (.var 0))
 (.ret (.bool (.b2 .le (.var 0) (.lit (68719476736)))))
 (.ret (.bool (.tt false))))
abbrev byc_qmay : Con := ⟨115, [(.int .i64 (.var 0))], (.tt true), (.bool (.b2 .and (.b2 .le (.lit (1)) (.var 0)) (.b2 .le (.var 0) (.lit (68719476736))))), ⟨1, 0, 0, 0⟩, none⟩
theorem qmay_w : walk Tryz.prog 111 ⟨[], syG, [], [], []⟩ [] .v byc_qmay byc_qmay.n 3000 = some qmay_tree := by kernel_rfl
theorem qmay_h (q : Int) : Hyp_ byc_qmay qmay_tree (byE [q] [] [] []) := by
 intro hc hty
 simp only [byc_qmay, Sy.holds, byE, denV, denI, denB, denL, I2.den, VOp.den, List.getD_cons_zero, List.getD_cons_succ, Cst.den, syso, syse, syio, sybo, B2.ofInts, B2.denI, B2.denB, if_true, Bool.false_eq_true, if_false, Nat.div_one, Nat.mul_one, Nat.add_zero] at hc
 simp only [byc_qmay, patsTyp, patTyp, patTypL, byE, denV, denL, List.getD_cons_zero, List.getD_cons_succ, and_true, true_and] at hty
 unfold qmay_tree
 simp only [byc_qmay, Tree.holds, Sy.holds, byE, denV, denI, denB, denL, I2.den, VOp.den, List.getD_cons_zero, List.getD_cons_succ, Cst.den, syso, syse, syio, sybo, B2.ofInts, B2.denI, B2.denB, if_true, Bool.false_eq_true, if_false, Nat.div_one, Nat.mul_one, Nat.add_zero]
 refine ⟨fun h0 => ?_, fun h0 => ?_⟩
 refine ?a0; rotate_left
 refine ?a1; rotate_left
 case a0 | a1 =>
  all_goals first | omega | rfl | (simp only [Value.tuple.injEq, Value.agg.injEq, Value.int.injEq, Value.bool.injEq, Array.mk.injEq, List.cons.injEq, true_and, and_true]; omega) | (refine congrArg Value.bool (Bool.eq_iff_iff.2 ?_); simp only [beq_iff_eq, decide_eq_true_eq, true_iff, false_iff, Bool.false_eq_true, Bool.not_eq_true', Bool.and_eq_true, Bool.or_eq_true, decide_eq_false_iff_not]; omega)
theorem byg_qmay : byc_qmay.Good Tryz.prog syG (byE [] [] [] []) := good_of_walk (Γ := ⟨[], syG, [], [], []⟩) (ρ := byE [] [] [] []) sym qmay_w rfl (fun _ _ _ _ => ok_nil) qmay_h
def fmay_tree : Tree :=
 (.br (.b2 .le (.lit (0)) (.var 0))
 (.br (.b2 .le (.var 0) (.lit (1099511627776)))
 (.br (.b2 .le (.lit (1)) (.var 1))
 (.ret (.bool (.b2 .le (.var 1) (.lit (1125899906842624)))))
 (.ret (.bool (.tt false))))
 (.ret (.bool (.tt false))))
 (.ret (.bool (.tt false))))
abbrev byc_fmay : Con := ⟨116, [(.agg (.cons (.int .i64 (.var 0)) (.cons (.int .i64 (.var 1)) .nil)))], (.tt true), (.bool (.b2 .and (.b2 .le (.lit (0)) (.var 0)) (.b2 .and (.b2 .le (.var 0) (.lit (1099511627776))) (.b2 .and (.b2 .le (.lit (1)) (.var 1)) (.b2 .le (.var 1) (.lit (1125899906842624))))))), ⟨2, 0, 0, 0⟩, none⟩
theorem fmay_w : walk Tryz.prog 111 ⟨[], syG, [], [], []⟩ [] .v byc_fmay byc_fmay.n 3000 = some fmay_tree := by kernel_rfl
theorem fmay_h (w c : Int) : Hyp_ byc_fmay fmay_tree (byE [w, c] [] [] []) := by
 intro hc hty
 simp only [byc_fmay, Sy.holds, byE, denV, denI, denB, denL, I2.den, VOp.den, List.getD_cons_zero, List.getD_cons_succ, Cst.den, syso, syse, syio, sybo, B2.ofInts, B2.denI, B2.denB, if_true, Bool.false_eq_true, if_false, Nat.div_one, Nat.mul_one, Nat.add_zero] at hc
 simp only [byc_fmay, patsTyp, patTyp, patTypL, byE, denV, denL, List.getD_cons_zero, List.getD_cons_succ, and_true, true_and] at hty
 unfold fmay_tree
 simp only [byc_fmay, Tree.holds, Sy.holds, byE, denV, denI, denB, denL, I2.den, VOp.den, List.getD_cons_zero, List.getD_cons_succ, Cst.den, syso, syse, syio, sybo, B2.ofInts, B2.denI, B2.denB, if_true, Bool.false_eq_true, if_false, Nat.div_one, Nat.mul_one, Nat.add_zero]
 refine ⟨fun h0 => ?_, fun h0 => ?_⟩
 refine ⟨fun h1 => ?_, fun h1 => ?_⟩
 refine ⟨fun h2 => ?_, fun h2 => ?_⟩
 refine ?a0; rotate_left
 refine ?a1; rotate_left
 refine ?a2; rotate_left
 refine ?a3; rotate_left
 case a0 | a1 | a2 | a3 =>
  refine congrArg Value.bool (Bool.eq_iff_iff.2 ?_)
  simp only [decide_eq_true_eq, Bool.and_eq_true, Bool.false_eq_true, false_iff]
  omega
theorem byg_fmay : byc_fmay.Good Tryz.prog syG (byE [] [] [] []) := good_of_walk (Γ := ⟨[], syG, [], [], []⟩) (ρ := byE [] [] [] []) sym fmay_w rfl (fun _ _ _ _ => ok_nil) fmay_h
def pomay_tree : Tree :=
 (.need xrbybndk0_
 (.br (.bapp 13 (.cons (.int .i64 (.var 0)) (.cons (.int .i64 (.var 1)) (.cons (.int .i64 (.var 2)) .nil))))
 (.br (.b2 .and (.b2 .le (.lit (1)) (.var 3)) (.b2 .le (.var 3) (.lit (68719476736))))
 (.br (.b2 .and (.b2 .le (.lit (0)) (.var 4)) (.b2 .and (.b2 .le (.var 4) (.lit (1099511627776))) (.b2 .and (.b2 .le (.lit (1)) (.var 5)) (.b2 .le (.var 5) (.lit (1125899906842624))))))
 (.need (.b2 .and (.b2 .le (.blen (.str 0)) (.lit (200))) (.bapp 6 (.cons (.opq 0) .nil)))
 (.ret (.bool (.bapp 5 (.cons (.str 0) (.cons (.int .i64 (.var 6)) (.cons (.opq 0) .nil)))))))
 (.ret (.bool (.tt false))))
 (.ret (.bool (.tt false))))
 (.ret (.bool (.tt false)))))
abbrev byc_pomay : Con := ⟨64, [xrbybndk3_], (.b2 .and xrbybndk2_ (.b2 .and (.b2 .le (.blen (.str 0)) (.lit (200))) (.bapp 6 (.cons (.opq 0) .nil)))), (.bool (.b2 .eq xrbybndk9_ (.lit (0)))), ⟨7, 1, 1, 1⟩, none⟩
theorem pomay_w : walk Tryz.prog 111 ⟨[byc_smay, byc_qmay, byc_fmay, bzc_rmay], syG, [], [], []⟩ [] .v byc_pomay byc_pomay.n 3000 = some pomay_tree := by kernel_rfl
theorem pomay_h (k b a q w c f : Int) (j : Bool) (l : Value) (s : ByteArray) : Hyp_ byc_pomay pomay_tree (byE [k, b, a, q, w, c, f] [j] [l] [s]) := by
 intro hc hty
 simp only [byc_pomay, Sy.holds, byE, denV, denI, denB, denL, I2.den, VOp.den, List.getD_cons_zero, List.getD_cons_succ, Cst.den, syso, syse, syio, sybo, byb_shr, B2.ofInts, B2.denI, B2.denB, if_true, Bool.false_eq_true, if_false, Nat.div_one, Nat.mul_one, Nat.add_zero] at hc
 simp only [byc_pomay, patsTyp, patTyp, patTypL, byE, denV, denL, List.getD_cons_zero, List.getD_cons_succ, and_true, true_and] at hty
 have hL_l : typ (.sl (.cons (.int .i64) (.cons (.int .i64) (.cons .str .nil)))) l := by first | exact hty | exact hty.1 | exact hty.2 | exact hty.1.1 | exact hty.1.2 | exact hty.2.1 | exact hty.2.2 | exact hty.2.2.1 | exact hty.2.2.2
 have hN_l := typ_len (n := 3) hL_l rfl (by omega)
 unfold pomay_tree
 simp only [byc_pomay, Tree.holds, Sy.holds, byE, denV, denI, denB, denL, I2.den, VOp.den, List.getD_cons_zero, List.getD_cons_succ, Cst.den, syso, syse, syio, sybo, byi_poe, byb_zon, byb_shr, byb_smm, B2.ofInts, B2.denI, B2.denB, if_true, Bool.false_eq_true, if_false, Nat.div_one, Nat.mul_one, Nat.add_zero]
 refine ⟨?_, fun h0 => ?_⟩
 refine ?a0; rotate_left
 refine ⟨fun h1 => ?_, fun h1 => ?_⟩
 refine ⟨fun h2 => ?_, fun h2 => ?_⟩
 refine ⟨fun h3 => ?_, fun h3 => ?_⟩
 refine ⟨?_, fun h4 => ?_⟩
 refine ?a1; rotate_left
 refine ?a2; rotate_left
 refine ?a3; rotate_left
 refine ?a4; rotate_left
 refine ?a5; rotate_left
 case a0 | a1 =>
  first
  | exact ⟨by omega, by omega, by omega⟩
  | exact hc.2
  | omega
  | skip
 case a2 | a3 | a4 | a5 =>
  first
  | (rcases po_spec k b a q w c s f (Sy.rows l) with ⟨p, e⟩ | ⟨p, e⟩ <;> rw [e]
     · first
       | exact absurd (decide_eq_true p.1) (by assumption)
       | (rw [zon_chk.2 p.2.2.2.2.2.2.2]; first | done | rfl)
       | (exfalso; obtain ⟨p1, p2, p3, p4, p5, p6, p7, p8⟩ := p; omega)
     · first
       | rfl
       | (have z : zoneB s f (Sy.rows l) = false := Bool.eq_false_iff.2 fun z => p ⟨of_decide_eq_true (by assumption), by omega, by omega, by omega, by omega, by omega, by omega, zon_chk.1 z⟩
          rw [z]
          rfl))
  | skip
theorem byg_pomay : byc_pomay.Good Tryz.prog syG (byE [] [] [] []) := good_of_walk (Γ := ⟨[byc_smay, byc_qmay, byc_fmay, bzc_rmay], syG, [], [], []⟩) (ρ := byE [] [] [] []) sym pomay_w rfl (fun _ _ _ _ => (ok_cons (Con.Good.env byg_smay _ _ _ _) (ok_cons (Con.Good.env byg_qmay _ _ _ _) (ok_cons (Con.Good.env byg_fmay _ _ _ _) (ok_cons (Con.Good.env (Con.Good.up bzg_rmay byup rfl) _ _ _ _) ok_nil))))) pomay_h
def smck_tree : Tree :=
 (.br (.b2 .lt (.var 1) (.lit (0)))
 (.ret (.iface 111 (.int .i64 (.lit (1)))))
 (.br (.b2 .lt (.lit (43200)) (.var 1))
 (.ret (.iface 111 (.int .i64 (.lit (1)))))
 (.br (.b2 .lt (.var 2) (.lit (0)))
 (.ret (.iface 111 (.int .i64 (.lit (1)))))
 (.br (.b2 .lt (.lit (43200)) (.var 2))
 (.ret (.iface 111 (.int .i64 (.lit (1)))))
 (.br (.b2 .eq (.var 0) (.lit (0)))
 (.br (.not (.b2 .eq xrbybndk6_ (.lit (0))))
 (.ret (.iface 111 (.int .i64 (.lit (1)))))
 (.ret (.cst .nilI)))
 (.br (.b2 .eq (.var 0) (.lit (1)))
 (.br (.not (.b2 .le (.lit (1)) xrbybndk6_))
 (.ret (.iface 111 (.int .i64 (.lit (1)))))
 (.ret (.cst .nilI)))
 (.br (.b2 .eq (.var 0) (.lit (2)))
 (.br (.not (.b2 .le (.lit (3600)) xrbybndk6_))
 (.ret (.iface 111 (.int .i64 (.lit (1)))))
 (.ret (.cst .nilI)))
 (.ret (.iface 111 (.int .i64 (.lit (1))))))))))))
abbrev byc_smck : Con := ⟨104, [(.agg (.cons (.int .i64 (.var 0)) (.cons (.int .i64 (.var 1)) (.cons (.int .i64 (.var 2)) .nil))))], xrbybndk0_, (.err (.iapp 29 (.cons (.int .i64 (.var 0)) (.cons (.int .i64 (.var 1)) (.cons (.int .i64 (.var 2)) .nil))))), ⟨3, 0, 0, 0⟩, none⟩
theorem smck_w : walk Tryz.prog 111 ⟨[], syG, [], [], []⟩ [] .v byc_smck byc_smck.n 3000 = some smck_tree := by kernel_rfl
theorem smck_h (k b a : Int) : Hyp_ byc_smck smck_tree (byE [k, b, a] [] [] []) := by
 intro hc hty
 simp only [byc_smck, Sy.holds, byE, denV, denI, denB, denL, I2.den, VOp.den, List.getD_cons_zero, List.getD_cons_succ, Cst.den, syso, syse, syio, sybo, B2.ofInts, B2.denI, B2.denB, if_true, Bool.false_eq_true, if_false, Nat.div_one, Nat.mul_one, Nat.add_zero] at hc
 simp only [byc_smck, patsTyp, patTyp, patTypL, byE, denV, denL, List.getD_cons_zero, List.getD_cons_succ, and_true, true_and] at hty
 unfold smck_tree
 simp only [byc_smck, Tree.holds, Sy.holds, byE, denV, denI, denB, denL, I2.den, VOp.den, List.getD_cons_zero, List.getD_cons_succ, Cst.den, syso, syse, syio, sybo, byi_sme, B2.ofInts, B2.denI, B2.denB, if_true, Bool.false_eq_true, if_false, Nat.div_one, Nat.mul_one, Nat.add_zero]
 have w1 := wr_i64 (b + a)
 refine ⟨fun h0 => ?_, fun h0 => ?_⟩
 refine ?a0; rotate_left
 refine ⟨fun h1 => ?_, fun h1 => ?_⟩
 refine ?a1; rotate_left
 refine ⟨fun h2 => ?_, fun h2 => ?_⟩
 refine ?a2; rotate_left
 refine ⟨fun h3 => ?_, fun h3 => ?_⟩
 refine ?a3; rotate_left
 refine ⟨fun h4 => ?_, fun h4 => ?_⟩
 refine ⟨fun h5 => ?_, fun h5 => ?_⟩
 refine ?a4; rotate_left
 refine ?a5; rotate_left
 refine ⟨fun h6 => ?_, fun h6 => ?_⟩
 refine ⟨fun h7 => ?_, fun h7 => ?_⟩
 refine ?a6; rotate_left
 refine ?a7; rotate_left
 refine ⟨fun h8 => ?_, fun h8 => ?_⟩
 refine ⟨fun h9 => ?_, fun h9 => ?_⟩
 refine ?a8; rotate_left
 refine ?a9; rotate_left
 refine ?a10; rotate_left
 case a0 | a1 | a2 | a3 | a4 | a5 | a6 | a7 | a8 | a9 | a10 =>
  first
  | (exfalso; omega)
  | (have h : smP k b a := (by unfold smP; omega)
     rw [show smE k b a = 0 from if_pos h]
     first | done | rfl)
  | (have h : ¬ smP k b a := (by unfold smP; omega)
     rw [show smE k b a = 1 from if_neg h]
     first | done | rfl)
  | skip
theorem byg_smck : byc_smck.Good Tryz.prog syG (byE [] [] [] []) := good_of_walk (Γ := ⟨[], syG, [], [], []⟩) (ρ := byE [] [] [] []) sym smck_w rfl (fun _ _ _ _ => ok_nil) smck_h
def qck_tree : Tree :=
 (.br (.b2 .lt (.var 0) (.lit (1)))
 (.ret (.iface 111 (.int .i64 (.lit (1)))))
 (.br (.b2 .lt (.lit (68719476736)) (.var 0))
 (.ret (.iface 111 (.int .i64 (.lit (1)))))
 (.ret (.cst .nilI))))
abbrev byc_qck : Con := ⟨105, [(.int .i64 (.var 0))], (.tt true), (.err (.iapp 30 (.cons (.bool (.b2 .and (.b2 .le (.lit (1)) (.var 0)) (.b2 .le (.var 0) (.lit (68719476736))))) .nil))), ⟨1, 0, 0, 0⟩, none⟩
theorem qck_w : walk Tryz.prog 111 ⟨[], syG, [], [], []⟩ [] .v byc_qck byc_qck.n 3000 = some qck_tree := by kernel_rfl
theorem qck_h (q : Int) : Hyp_ byc_qck qck_tree (byE [q] [] [] []) := by
 intro hc hty
 simp only [byc_qck, Sy.holds, byE, denV, denI, denB, denL, I2.den, VOp.den, List.getD_cons_zero, List.getD_cons_succ, Cst.den, syso, syse, syio, sybo, B2.ofInts, B2.denI, B2.denB, if_true, Bool.false_eq_true, if_false, Nat.div_one, Nat.mul_one, Nat.add_zero] at hc
 simp only [byc_qck, patsTyp, patTyp, patTypL, byE, denV, denL, List.getD_cons_zero, List.getD_cons_succ, and_true, true_and] at hty
 unfold qck_tree
 simp only [byc_qck, Tree.holds, Sy.holds, byE, denV, denI, denB, denL, I2.den, VOp.den, List.getD_cons_zero, List.getD_cons_succ, Cst.den, syso, syse, syio, sybo, byi_e1, B2.ofInts, B2.denI, B2.denB, if_true, Bool.false_eq_true, if_false, Nat.div_one, Nat.mul_one, Nat.add_zero]
 refine ⟨fun h0 => ?_, fun h0 => ?_⟩
 refine ?a0; rotate_left
 refine ⟨fun h1 => ?_, fun h1 => ?_⟩
 refine ?a1; rotate_left
 refine ?a2; rotate_left
 case a0 | a1 | a2 =>
  first
  | (rw [show (decide (1 ≤ q) && decide (q ≤ 68719476736)) = true by (rw [decide_eq_true (show 1 ≤ q by omega), decide_eq_true (show q ≤ 68719476736 by omega)]; rfl)]; first | done | rfl)
  | (rw [show (decide (1 ≤ q) && decide (q ≤ 68719476736)) = false by (refine Bool.eq_false_iff.2 ?_; simp only [ne_eq, Bool.and_eq_true, decide_eq_true_eq]; omega)]; first | done | rfl)
  | skip
theorem byg_qck : byc_qck.Good Tryz.prog syG (byE [] [] [] []) := good_of_walk (Γ := ⟨[], syG, [], [], []⟩) (ρ := byE [] [] [] []) sym qck_w rfl (fun _ _ _ _ => ok_nil) qck_h
def fck_tree : Tree :=
 (.br (.b2 .lt (.var 0) (.lit (0)))
 (.ret (.iface 111 (.int .i64 (.lit (1)))))
 (.br (.b2 .lt (.lit (1099511627776)) (.var 0))
 (.ret (.iface 111 (.int .i64 (.lit (1)))))
 (.br (.b2 .lt (.var 1) (.lit (1)))
 (.ret (.iface 111 (.int .i64 (.lit (1)))))
 (.br (.b2 .lt (.lit (1125899906842624)) (.var 1))
 (.ret (.iface 111 (.int .i64 (.lit (1)))))
 (.ret (.cst .nilI))))))
abbrev byc_fck : Con := ⟨106, [(.agg (.cons (.int .i64 (.var 0)) (.cons (.int .i64 (.var 1)) .nil)))], (.tt true), (.err (.iapp 30 (.cons (.bool (.b2 .and (.b2 .le (.lit (0)) (.var 0)) (.b2 .and (.b2 .le (.var 0) (.lit (1099511627776))) (.b2 .and (.b2 .le (.lit (1)) (.var 1)) (.b2 .le (.var 1) (.lit (1125899906842624))))))) .nil))), ⟨2, 0, 0, 0⟩, none⟩
theorem fck_w : walk Tryz.prog 111 ⟨[], syG, [], [], []⟩ [] .v byc_fck byc_fck.n 3000 = some fck_tree := by kernel_rfl
theorem fck_h (w c : Int) : Hyp_ byc_fck fck_tree (byE [w, c] [] [] []) := by
 intro hc hty
 simp only [byc_fck, Sy.holds, byE, denV, denI, denB, denL, I2.den, VOp.den, List.getD_cons_zero, List.getD_cons_succ, Cst.den, syso, syse, syio, sybo, B2.ofInts, B2.denI, B2.denB, if_true, Bool.false_eq_true, if_false, Nat.div_one, Nat.mul_one, Nat.add_zero] at hc
 simp only [byc_fck, patsTyp, patTyp, patTypL, byE, denV, denL, List.getD_cons_zero, List.getD_cons_succ, and_true, true_and] at hty
 unfold fck_tree
 simp only [byc_fck, Tree.holds, Sy.holds, byE, denV, denI, denB, denL, I2.den, VOp.den, List.getD_cons_zero, List.getD_cons_succ, Cst.den, syso, syse, syio, sybo, byi_e1, B2.ofInts, B2.denI, B2.denB, if_true, Bool.false_eq_true, if_false, Nat.div_one, Nat.mul_one, Nat.add_zero]
 refine ⟨fun h0 => ?_, fun h0 => ?_⟩
 refine ?a0; rotate_left
 refine ⟨fun h1 => ?_, fun h1 => ?_⟩
 refine ?a1; rotate_left
 refine ⟨fun h2 => ?_, fun h2 => ?_⟩
 refine ?a2; rotate_left
 refine ⟨fun h3 => ?_, fun h3 => ?_⟩
 refine ?a3; rotate_left
 refine ?a4; rotate_left
 case a0 | a1 | a2 | a3 | a4 =>
  first
  | (rw [show (decide (0 ≤ w) && (decide (w ≤ 1099511627776) && (decide (1 ≤ c) && decide (c ≤ 1125899906842624)))) = true by (simp only [Bool.and_eq_true, decide_eq_true_eq]; omega)]; first | done | rfl)
  | (rw [show (decide (0 ≤ w) && (decide (w ≤ 1099511627776) && (decide (1 ≤ c) && decide (c ≤ 1125899906842624)))) = false by (refine Bool.eq_false_iff.2 ?_; simp only [ne_eq, Bool.and_eq_true, decide_eq_true_eq]; omega)]; first | done | rfl)
  | skip
theorem byg_fck : byc_fck.Good Tryz.prog syG (byE [] [] [] []) := good_of_walk (Γ := ⟨[], syG, [], [], []⟩) (ρ := byE [] [] [] []) sym fck_w rfl (fun _ _ _ _ => ok_nil) fck_h
def pock_tree : Tree :=
 (.need xrbybndk0_
 (.br (.not (.b2 .eq (.iapp 29 (.cons (.int .i64 (.var 0)) (.cons (.int .i64 (.var 1)) (.cons (.int .i64 (.var 2)) .nil)))) (.lit (0))))
 (.ret (.iface 111 (.int .i64 (.lit (1)))))
 (.br (.not (.b2 .eq (.iapp 30 (.cons (.bool (.b2 .and (.b2 .le (.lit (1)) (.var 3)) (.b2 .le (.var 3) (.lit (68719476736))))) .nil)) (.lit (0))))
 (.ret (.iface 111 (.int .i64 (.lit (1)))))
 (.br (.not (.b2 .eq (.iapp 30 (.cons (.bool (.b2 .and (.b2 .le (.lit (0)) (.var 4)) (.b2 .and (.b2 .le (.var 4) (.lit (1099511627776))) (.b2 .and (.b2 .le (.lit (1)) (.var 5)) (.b2 .le (.var 5) (.lit (1125899906842624))))))) .nil)) (.lit (0))))
 (.ret (.iface 111 (.int .i64 (.lit (1)))))
 (.br (.not (.b2 .eq (.iapp 28 (.cons (.str 0) (.cons (.int .i64 (.var 6)) (.cons (.opq 0) .nil)))) (.lit (0))))
 (.ret (.iface 111 (.int .i64 (.lit (1)))))
 (.ret (.cst .nilI)))))))
abbrev byc_pock : Con := ⟨60, [xrbybndk3_], xrbybndk2_, (.err xrbybndk9_), ⟨7, 1, 1, 1⟩, none⟩
theorem pock_w : walk Tryz.prog 111 ⟨[byc_smck, byc_qck, byc_fck, bzc_zck], syG, [], [], []⟩ [] .v byc_pock byc_pock.n 3000 = some pock_tree := by kernel_rfl
theorem pock_h (k b a q w c f : Int) (j : Bool) (l : Value) (s : ByteArray) : Hyp_ byc_pock pock_tree (byE [k, b, a, q, w, c, f] [j] [l] [s]) := by
 intro hc hty
 simp only [byc_pock, Sy.holds, byE, denV, denI, denB, denL, I2.den, VOp.den, List.getD_cons_zero, List.getD_cons_succ, Cst.den, syso, syse, syio, sybo, B2.ofInts, B2.denI, B2.denB, if_true, Bool.false_eq_true, if_false, Nat.div_one, Nat.mul_one, Nat.add_zero] at hc
 simp only [byc_pock, patsTyp, patTyp, patTypL, byE, denV, denL, List.getD_cons_zero, List.getD_cons_succ, and_true, true_and] at hty
 have hL_l : typ (.sl (.cons (.int .i64) (.cons (.int .i64) (.cons .str .nil)))) l := by first | exact hty | exact hty.1 | exact hty.2 | exact hty.1.1 | exact hty.1.2 | exact hty.2.1 | exact hty.2.2 | exact hty.2.2.1 | exact hty.2.2.2
 have hN_l := typ_len (n := 3) hL_l rfl (by omega)
 unfold pock_tree
 simp only [byc_pock, Tree.holds, Sy.holds, byE, denV, denI, denB, denL, I2.den, VOp.den, List.getD_cons_zero, List.getD_cons_succ, Cst.den, syso, syse, syio, sybo, byi_chk, byi_sme, byi_e1, byi_poe, B2.ofInts, B2.denI, B2.denB, if_true, Bool.false_eq_true, if_false, Nat.div_one, Nat.mul_one, Nat.add_zero]
 refine ⟨?_, fun h0 => ?_⟩
 ·
  first
  | exact ⟨by omega, by omega, by omega⟩
  | omega
  | skip
 refine ⟨fun h1 => ?_, fun h1 => ?_⟩
 refine ?a0; rotate_left
 refine ⟨fun h2 => ?_, fun h2 => ?_⟩
 refine ?a1; rotate_left
 refine ⟨fun h3 => ?_, fun h3 => ?_⟩
 refine ?a2; rotate_left
 refine ⟨fun h4 => ?_, fun h4 => ?_⟩
 refine ?a3; rotate_left
 refine ?a4; rotate_left
 case a0 | a1 | a2 | a3 | a4 =>
  simp only [sm_0, e1_0, Bool.and_eq_true, decide_eq_true_eq, Decidable.not_not] at *
  first
  | (have p : poP k b a q w c s f (Sy.rows l) := ⟨by assumption, by omega, by omega, by omega, by omega, by omega, by omega, by assumption⟩
     rw [show poE k b a q w c s f (Sy.rows l) = 0 from if_pos p]
     first | done | rfl)
  | (have p : ¬ poP k b a q w c s f (Sy.rows l) := (fun p => by
       obtain ⟨p1, p2, p3, p4, p5, p6, p7, p8⟩ := p
       first | contradiction | omega)
     rw [show poE k b a q w c s f (Sy.rows l) = 1 from if_neg p]
     first | done | rfl)
  | skip
theorem byg_pock : byc_pock.Good Tryz.prog syG (byE [] [] [] []) := good_of_walk (Γ := ⟨[byc_smck, byc_qck, byc_fck, bzc_zck], syG, [], [], []⟩) (ρ := byE [] [] [] []) sym pock_w rfl (fun _ _ _ _ => (ok_cons (Con.Good.env byg_smck _ _ _ _) (ok_cons (Con.Good.env byg_qck _ _ _ _) (ok_cons (Con.Good.env byg_fck _ _ _ _) (ok_cons (Con.Good.env (Con.Good.up bzg_zck byup rfl) _ _ _ _) ok_nil))))) pock_h
def usual_tree : Tree :=
 (.ret xrbybndk7_)
abbrev byc_usual : Con := ⟨58, [], (.tt true), xrbybndk7_, ⟨0, 0, 0, 0⟩, none⟩
theorem usual_w : walk Tryz.prog 111 ⟨[], syG, [], [], []⟩ [] .v byc_usual byc_usual.n 3000 = some usual_tree := by kernel_rfl
theorem usual_h : Hyp_ byc_usual usual_tree (byE [] [] [] []) := by
 intro hc hty
 simp only [byc_usual, Sy.holds, byE, denV, denI, denB, denL, I2.den, VOp.den, List.getD_cons_zero, List.getD_cons_succ, Cst.den, syso, syse, syio, sybo, List.map_nil, List.map_cons, B2.ofInts, B2.denI, B2.denB, if_true, Bool.false_eq_true, if_false, Nat.div_one, Nat.mul_one, Nat.add_zero] at hc
 simp only [byc_usual, patsTyp, patTyp, patTypL, byE, denV, denL, List.getD_cons_zero, List.getD_cons_succ, and_true, true_and] at hty
 unfold usual_tree
 simp only [byc_usual, Tree.holds, Sy.holds, byE, denV, denI, denB, denL, I2.den, VOp.den, List.getD_cons_zero, List.getD_cons_succ, Cst.den, syso, syse, syio, sybo, List.map_nil, List.map_cons, B2.ofInts, B2.denI, B2.denB, if_true, Bool.false_eq_true, if_false, Nat.div_one, Nat.mul_one, Nat.add_zero]
 all_goals first | omega | rfl | (simp only [Value.tuple.injEq, Value.agg.injEq, Value.int.injEq, Value.bool.injEq, Array.mk.injEq, List.cons.injEq, true_and, and_true]; omega) | (refine congrArg Value.bool (Bool.eq_iff_iff.2 ?_); simp only [beq_iff_eq, decide_eq_true_eq, true_iff, false_iff, Bool.false_eq_true, Bool.not_eq_true', Bool.and_eq_true, Bool.or_eq_true, decide_eq_false_iff_not]; omega)
theorem byg_usual : byc_usual.Good Tryz.prog syG (byE [] [] [] []) := good_of_walk (Γ := ⟨[], syG, [], [], []⟩) (ρ := byE [] [] [] []) sym usual_w rfl (fun _ _ _ _ => ok_nil) usual_h
def givep_tree : Tree :=
 (.need (.b2 .le xrbybndk1_ (.lit (4398046511103)))
 (.ret xrbybndk5_))
abbrev byc_givep : Con := ⟨25, [xrbybndk3_], (.b2 .le xrbybndk1_ (.lit (4398046511103))), xrbybndk5_, ⟨7, 1, 1, 1⟩, none⟩
theorem givep_w : walk Tryz.prog 111 ⟨[byc_give], syG, [], [], []⟩ [] (.agg (.cons .v (.cons .v (.cons .v (.cons .v (.cons .v (.cons .v (.cons .v (.cons .v (.cons .v (.cons (.o 211 (.cons (.int .i64) (.cons (.int .i64) (.cons .str .nil)))) .nil))))))))))) byc_givep byc_givep.n 3000 = some givep_tree := by kernel_rfl
theorem givep_h (k b a q w c f : Int) (j : Bool) (l : Value) (s : ByteArray) : Hyp_ byc_givep givep_tree (byE [k, b, a, q, w, c, f] [j] [l] [s]) := by
 intro hc hty
 simp only [byc_givep, Sy.holds, byE, denV, denI, denB, denL, I2.den, VOp.den, List.getD_cons_zero, List.getD_cons_succ, Cst.den, syso, syse, syio, sybo, B2.ofInts, B2.denI, B2.denB, if_true, Bool.false_eq_true, if_false, Nat.div_one, Nat.mul_one, Nat.add_zero] at hc
 simp only [byc_givep, patsTyp, patTyp, patTypL, byE, denV, denL, List.getD_cons_zero, List.getD_cons_succ, and_true, true_and] at hty
 have hL_l : typ (.sl (.cons (.int .i64) (.cons (.int .i64) (.cons .str .nil)))) l := by first | exact hty | exact hty.1 | exact hty.2 | exact hty.1.1 | exact hty.1.2 | exact hty.2.1 | exact hty.2.2 | exact hty.2.2.1 | exact hty.2.2.2
 have hN_l := typ_len (n := 3) hL_l rfl (by omega)
 unfold givep_tree
 simp only [byc_givep, Tree.holds, Sy.holds, byE, denV, denI, denB, denL, I2.den, VOp.den, List.getD_cons_zero, List.getD_cons_succ, Cst.den, syso, syse, syio, sybo, B2.ofInts, B2.denI, B2.denB, if_true, Bool.false_eq_true, if_false, Nat.div_one, Nat.mul_one, Nat.add_zero]
 refine ⟨?_, fun h0 => ?_⟩
 ·
  first
  | exact hc
  | omega
  | skip
 ·
  first | exact True.intro | rfl | skip
theorem byg_givep : byc_givep.Good Tryz.prog syG (byE [] [] [] []) := good_of_walk (Γ := ⟨[byc_give], syG, [], [], []⟩) (ρ := byE [] [] [] []) sym givep_w rfl (fun _ _ _ _ => (ok_cons (Con.Good.env byg_give _ _ _ _) ok_nil)) givep_h
def givepg_tree : Tree :=
 (.ret xrbybndk4_)
abbrev byc_givepg : Con := ⟨24, [xrbybndk4_], (.tt true), xrbybndk4_, ⟨10, 0, 0, 0⟩, none⟩
theorem givepg_w : walk Tryz.prog 111 ⟨[], syG, [], [], []⟩ [] .v byc_givepg byc_givepg.n 3000 = some givepg_tree := by kernel_rfl
theorem givepg_h (pe pb pt pr gm gs qm qs pp pc : Int) : Hyp_ byc_givepg givepg_tree (byE [pe, pb, pt, pr, gm, gs, qm, qs, pp, pc] [] [] []) := by
 intro hc hty
 simp only [byc_givepg, Sy.holds, byE, denV, denI, denB, denL, I2.den, VOp.den, List.getD_cons_zero, List.getD_cons_succ, Cst.den, syso, syse, syio, sybo, B2.ofInts, B2.denI, B2.denB, if_true, Bool.false_eq_true, if_false, Nat.div_one, Nat.mul_one, Nat.add_zero] at hc
 simp only [byc_givepg, patsTyp, patTyp, patTypL, byE, denV, denL, List.getD_cons_zero, List.getD_cons_succ, and_true, true_and] at hty
 unfold givepg_tree
 simp only [byc_givepg, Tree.holds, Sy.holds, byE, denV, denI, denB, denL, I2.den, VOp.den, List.getD_cons_zero, List.getD_cons_succ, Cst.den, syso, syse, syio, sybo, B2.ofInts, B2.denI, B2.denB, if_true, Bool.false_eq_true, if_false, Nat.div_one, Nat.mul_one, Nat.add_zero]
 all_goals first | omega | rfl | (simp only [Value.tuple.injEq, Value.agg.injEq, Value.int.injEq, Value.bool.injEq, Array.mk.injEq, List.cons.injEq, true_and, and_true]; omega) | (refine congrArg Value.bool (Bool.eq_iff_iff.2 ?_); simp only [beq_iff_eq, decide_eq_true_eq, true_iff, false_iff, Bool.false_eq_true, Bool.not_eq_true', Bool.and_eq_true, Bool.or_eq_true, decide_eq_false_iff_not]; omega)
theorem byg_givepg : byc_givepg.Good Tryz.prog syG (byE [] [] [] []) := good_of_walk (Γ := ⟨[], syG, [], [], []⟩) (ρ := byE [] [] [] []) sym givepg_w rfl (fun _ _ _ _ => ok_nil) givepg_h
end Go.Proofs.YtgondiedehjkhaaGreatDoor
