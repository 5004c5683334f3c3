/-
 Layer 44: what must come; CallsForms.
-/
import Derived.Test.YtmlidfpjeomcmaaDoorSycclb
import Derived.Test.YtmlidfpjeomcmaaDoorCaclb
namespace Go.Proofs.YtmlidfpjeomcmaaDoor
open Go.RowKit Go.Extern.Stop Go.Stop Go.Extern Go.Proofs.YtmlidfpjeomcmaaDoor.Sy
set_option linter.unusedVariables false
set_option linter.unusedSimpArgs false
def bv44 : Value := .tuple #[.int .u8 63, .int .u8 0, .int .u8 1, .int .u8 97, .int .u8 0, .int .u8 0, .int .u8 0, .int .u8 0, .int .u8 0, .int .u8 0, .int .u8 0, .int .u8 0, .int .u8 0, .int .u8 0]
def tv44 : Value := .tuple #[.int .u8 33, .int .u8 2, .int .u8 1, .int .u8 1, .int .u8 0, .int .u8 0, .int .u8 0, .int .u8 0, .int .u8 0, .int .u8 0, .int .u8 0, .int .u8 0, .int .u8 0, .int .u8 0, .int .u8 0, .int .u8 0, .int .u8 0, .int .u8 0, .int .u8 0, .int .u8 0, .int .u8 0, .int .u8 0, .int .u8 0, .int .u8 0, .int .u8 0, .int .u8 0, .int .u8 0, .int .u8 0, .int .u8 0, .int .u8 0, .int .u8 0, .int .u8 0, .int .u8 0, .int .u8 0, .int .u8 0, .int .u8 0, .int .u8 0, .int .u8 0, .int .u8 0, .int .u8 0, .int .u8 0, .int .u8 0, .int .u8 0, .int .u8 0, .int .u8 0, .int .u8 0, .int .u8 0, .int .u8 0, .int .u8 0, .int .u8 0, .int .u8 0]
theorem s44_e : ceV 0 ⟨#[UInt8.ofNat 97]⟩ (Sy.rows (Value.tuple #[])) 0 = bv44 := by rfl
theorem s44_i : ceI 0 ⟨#[UInt8.ofNat 97]⟩ (Sy.rows (Value.tuple #[])) = 0 := by rfl
theorem s44_t : tlT (Sy.rows (Value.tuple #[.int .i64 258, .int .i64 1, .int .i64 0, .int .i64 0, .int .i64 0, .int .i64 0, .int .i64 0])) = tv44 := by rfl
theorem isB_z : ∀ n, isB (List.replicate n (Value.int .u8 0))
 | 0 => .nil
 | n + 1 => .cons (by decide) (by decide) (isB_z n)
theorem b44 : okR (Sy.rows bv44) = true := okR_isB (.cons (by decide) (by decide) (.cons (by decide) (by decide) (.cons (by decide) (by decide) (.cons (by decide) (by decide) (isB_z 10)))))
theorem t44 : okR (Sy.rows tv44) = true := okR_isB (.cons (by decide) (by decide) (.cons (by decide) (by decide) (.cons (by decide) (by decide) (.cons (by decide) (by decide) (isB_z 47)))))
theorem l44b : (Sy.rows bv44).length = 14 := rfl
theorem l44t : (Sy.rows tv44).length = 51 := rfl
theorem d44 : dcE (byL (Sy.rows bv44)) = 0 := by decide
theorem d44s : dcS (byL (Sy.rows bv44)) = ⟨#[UInt8.ofNat 97]⟩ := by rfl
theorem h44 : heE (Sy.rows tv44) = 0 := by decide
theorem h44c : heC (Sy.rows tv44) = 258 := by decide
theorem h44n : heN (Sy.rows tv44) (Int.toNat 0) = 1 := by decide
theorem d44q : dcE (byL (Sy.rows (Value.tuple #[.int .u8 63]))) = 3 := by decide
theorem q44 : okR (Sy.rows (Value.tuple #[.int .u8 63])) = true := okR_isB (.cons (by decide) (by decide) .nil)
theorem p44 : prI 1 (((Sy.rows (Value.tuple #[Value.int .u8 120])).length : Nat) : Int) = 3 := by decide
theorem s44_s : (({ data := ((Sy.rows bv44).map Sy.byteOf).toArray } : ByteArray) == { data := (List.map UInt8.ofNat [63, 0, 1, 97, 0, 0, 0, 0, 0, 0, 0, 0, 0, 0]).toArray }) = true := by decide
noncomputable def cbI : Nat → List Value → Int
 | i, l => caI i l
noncomputable def cbB : Nat → List Value → Bool
 | i, l => caB i l
noncomputable def cbV : Nat → List Value → Value
 | i, l => caV i l
noncomputable abbrev cbE (iv : List Int) (bv : List Bool) (vv : List Value) (sv : List ByteArray) : Env := { iv := iv, bv := bv, vv := vv, sv := sv, fi := cbI, fb := cbB, fv := cbV, et := 61 }
set_option maxHeartbeats 8000000 in
theorem cbup : Agree 22 5 17 (caE [] [] [] []) (cbE [] [] [] []) := ⟨rfl, (by
   intro f hf
   funext l
   show cbI f l = caI f l
   unfold cbI
   split <;> first | omega | rfl), (by
   intro f hf
   funext l
   show cbB f l = caB f l
   unfold cbB
   split <;> first | omega | rfl), (by
   intro f hf
   funext l
   show cbV f l = caV f l
   unfold cbV
   split <;> first | omega | rfl)⟩
theorem cbi_prc (k1 : IntKind) (k : Int) (k2 : IntKind) (n : Int) : cbI 11 [.int k1 k, .int k2 n] = prI k n := rfl
theorem cbi_cee (k1 : IntKind) (k : Int) (s : ByteArray) (l : Value) : cbI 12 [.int k1 k, .string s, l] = ceI k s (rows l) := rfl
theorem cbi_tle (k1 : IntKind) (c : Int) : cbI 13 [.int k1 c] = if 0 ≤ c ∧ c ≤ 65535 then 0 else 1 := rfl
theorem cbi_dce (c : Value) : cbI 14 [c] = dcE (byL (rows c)) := rfl
theorem cbi_hee (c : Value) : cbI 19 [c] = heE (rows c) := rfl
theorem cbi_hec (c : Value) : cbI 20 [c] = heC (rows c) := rfl
theorem cbi_hen (c : Value) (k1 : IntKind) (j : Int) : cbI 21 [c, .int k1 j] = heN (rows c) j.toNat := rfl
theorem cbb_okr (l : Value) : cbB 0 [l] = okR (rows l) := rfl
theorem cbv_cev (k1 : IntKind) (k : Int) (s : ByteArray) (l : Value) (k2 : IntKind) (n : Int) : cbV 13 [.int k1 k, .string s, l, .int k2 n] = ceV k s (rows l) n := rfl
theorem cbv_tlv (t : Value) : cbV 14 [t] = tlT (rows t) := rfl
theorem cbv_dcs (c : Value) : cbV 15 [c] = .string (dcS (byL (rows c))) := rfl
def sure44_tree : Tree :=
 (.need (.b2 .le (.blen (.cst (.strc [97]))) (.lit (400)))
 (.need (.b2 .and (.bapp 0 (.cons (.vapp 13 (.cons (.int .i64 (.lit (0))) (.cons (.cst (.strc [97])) (.cons (.tup .nil) (.cons (.int .i64 (.lit (0))) .nil))))) .nil)) (.b2 .le (.ofI (.vop (.len 1) (.cons (.vapp 13 (.cons (.int .i64 (.lit (0))) (.cons (.cst (.strc [97])) (.cons (.tup .nil) (.cons (.int .i64 (.lit (0))) .nil))))) .nil))) (.lit (4096))))
 (.need (.b2 .and (.bapp 0 (.cons (.vapp 14 (.cons (.tup (.cons (.int .i64 (.lit (258))) (.cons (.int .i64 (.lit (1))) (.cons (.int .i64 (.lit (0))) (.cons (.int .i64 (.lit (0))) (.cons (.int .i64 (.lit (0))) (.cons (.int .i64 (.lit (0))) (.cons (.int .i64 (.lit (0))) .nil)))))))) .nil)) .nil)) (.b2 .le (.ofI (.vop (.len 1) (.cons (.vapp 14 (.cons (.tup (.cons (.int .i64 (.lit (258))) (.cons (.int .i64 (.lit (1))) (.cons (.int .i64 (.lit (0))) (.cons (.int .i64 (.lit (0))) (.cons (.int .i64 (.lit (0))) (.cons (.int .i64 (.lit (0))) (.cons (.int .i64 (.lit (0))) .nil)))))))) .nil)) .nil))) (.lit (4096))))
 (.need (.b2 .and (.bapp 0 (.cons (.tup (.cons (.int .u8 (.lit (63))) .nil)) .nil)) (.b2 .le (.ofI (.vop (.len 1) (.cons (.tup (.cons (.int .u8 (.lit (63))) .nil)) .nil))) (.lit (4096))))
 (.br (.b2 .eq (.iapp 12 (.cons (.int .i64 (.lit (0))) (.cons (.cst (.strc [97])) (.cons (.tup .nil) .nil)))) (.lit (0)))
 (.br (.b2 .eq (.iapp 14 (.cons (.vapp 13 (.cons (.int .i64 (.lit (0))) (.cons (.cst (.strc [97])) (.cons (.tup .nil) (.cons (.int .i64 (.lit (0))) .nil))))) .nil)) (.lit (0)))
 (.br (.b2 .eq (.iapp 13 (.cons (.int .i64 (.lit (258))) .nil)) (.lit (0)))
 (.br (.b2 .eq (.iapp 19 (.cons (.vapp 14 (.cons (.tup (.cons (.int .i64 (.lit (258))) (.cons (.int .i64 (.lit (1))) (.cons (.int .i64 (.lit (0))) (.cons (.int .i64 (.lit (0))) (.cons (.int .i64 (.lit (0))) (.cons (.int .i64 (.lit (0))) (.cons (.int .i64 (.lit (0))) .nil)))))))) .nil)) .nil)) (.lit (0)))
 (.br (.veq (.vop .b2s (.cons (.vapp 13 (.cons (.int .i64 (.lit (0))) (.cons (.cst (.strc [97])) (.cons (.tup .nil) (.cons (.int .i64 (.lit (0))) .nil))))) .nil)) (.cst (.strc [63, 0, 1, 97, 0, 0, 0, 0, 0, 0, 0, 0, 0, 0])))
 (.br (.veq (.sapp 15 (.cons (.vapp 13 (.cons (.int .i64 (.lit (0))) (.cons (.cst (.strc [97])) (.cons (.tup .nil) (.cons (.int .i64 (.lit (0))) .nil))))) .nil)) (.cst (.strc [97])))
 (.br (.b2 .eq (.ofI (.vop (.len 1) (.cons (.vapp 14 (.cons (.tup (.cons (.int .i64 (.lit (258))) (.cons (.int .i64 (.lit (1))) (.cons (.int .i64 (.lit (0))) (.cons (.int .i64 (.lit (0))) (.cons (.int .i64 (.lit (0))) (.cons (.int .i64 (.lit (0))) (.cons (.int .i64 (.lit (0))) .nil)))))))) .nil)) .nil))) (.lit (51)))
 (.br (.b2 .eq (.iapp 20 (.cons (.vapp 14 (.cons (.tup (.cons (.int .i64 (.lit (258))) (.cons (.int .i64 (.lit (1))) (.cons (.int .i64 (.lit (0))) (.cons (.int .i64 (.lit (0))) (.cons (.int .i64 (.lit (0))) (.cons (.int .i64 (.lit (0))) (.cons (.int .i64 (.lit (0))) .nil)))))))) .nil)) .nil)) (.lit (258)))
 (.br (.b2 .eq (.iapp 21 (.cons (.vapp 14 (.cons (.tup (.cons (.int .i64 (.lit (258))) (.cons (.int .i64 (.lit (1))) (.cons (.int .i64 (.lit (0))) (.cons (.int .i64 (.lit (0))) (.cons (.int .i64 (.lit (0))) (.cons (.int .i64 (.lit (0))) (.cons (.int .i64 (.lit (0))) .nil)))))))) .nil)) (.cons (.int .i64 (.lit (0))) .nil))) (.lit (1)))
 (.br (.b2 .eq (.iapp 14 (.cons (.tup (.cons (.int .u8 (.lit (63))) .nil)) .nil)) (.lit (3)))
 (.need (.b2 .le (.ofI (.vop (.len 1) (.cons (.tup (.cons (.int .u8 (.lit (120))) .nil)) .nil))) (.lit (4096)))
 (.ret (.bool (.b2 .eq (.iapp 11 (.cons (.int .i64 (.lit (1))) (.cons (.int .i64 (.ofI (.vop (.len 1) (.cons (.tup (.cons (.int .u8 (.lit (120))) .nil)) .nil)))) .nil))) (.lit (3))))))
 (.ret (.bool (.tt false))))
 (.ret (.bool (.tt false))))
 (.ret (.bool (.tt false))))
 (.ret (.bool (.tt false))))
 (.ret (.bool (.tt false))))
 (.ret (.bool (.tt false))))
 (.ret (.bool (.tt false))))
 (.ret (.bool (.tt false))))
 (.ret (.bool (.tt false))))
 (.ret (.bool (.tt false))))))))
abbrev cbc_sure44 : Con := ⟨5, [], (.tt true), (.bool (.tt true)), ⟨0, 0, 0, 0⟩, none⟩
theorem sure44_w : walk Tryd.prog 61 ⟨[cac_cenc, cac_cdec, cac_tell, cac_hear, cac_price, cac_num], syG, [], [], []⟩ [] .v cbc_sure44 cbc_sure44.n 3000 = some sure44_tree := by kernel_rfl
theorem sure44_h : Hyp_ cbc_sure44 sure44_tree (cbE [] [] [] []) := by
 intro hc hty
 simp only [cbc_sure44, Sy.holds, cbE, denV, denI, denB, denL, I2.den, VOp.den, List.getD_cons_zero, List.getD_cons_succ, Cst.den, syso, syse, syio, sybo, List.map_nil, List.map_cons, B2.ofInts, B2.denI, B2.denB, if_true, Bool.false_eq_true, if_false, Nat.div_one, Nat.mul_one, Nat.add_zero] at hc
 simp only [cbc_sure44, patsTyp, patTyp, patTypL, cbE, denV, denL, List.getD_cons_zero, List.getD_cons_succ, and_true, true_and] at hty
 unfold sure44_tree
 simp only [cbc_sure44, Tree.holds, Sy.holds, cbE, denV, denI, denB, denL, I2.den, VOp.den, List.getD_cons_zero, List.getD_cons_succ, Cst.den, syso, syse, syio, sybo, cbi_prc, cbi_cee, cbi_tle, cbi_dce, cbi_hee, cbi_hec, cbi_hen, cbb_okr, cbv_cev, cbv_tlv, cbv_dcs, List.map_nil, List.map_cons, B2.ofInts, B2.denI, B2.denB, if_true, Bool.false_eq_true, if_false, Nat.div_one, Nat.mul_one, Nat.add_zero]
 simp only [s44_e, s44_i, s44_t, d44, d44s, h44, h44c, h44n, d44q, p44]
 refine ⟨?_, fun h0 => ?_⟩
 refine ?a0; rotate_left
 refine ⟨?_, fun h1 => ?_⟩
 refine ?a1; rotate_left
 refine ⟨?_, fun h2 => ?_⟩
 refine ?a2; rotate_left
 refine ⟨?_, fun h3 => ?_⟩
 refine ?a3; rotate_left
 refine ⟨fun h4 => ?_, fun h4 => ?_⟩
 refine ⟨fun h5 => ?_, fun h5 => ?_⟩
 refine ⟨fun h6 => ?_, fun h6 => ?_⟩
 refine ⟨fun h7 => ?_, fun h7 => ?_⟩
 refine ⟨fun h8 => ?_, fun h8 => ?_⟩
 refine ⟨fun h9 => ?_, fun h9 => ?_⟩
 refine ⟨fun h10 => ?_, fun h10 => ?_⟩
 refine ⟨fun h11 => ?_, fun h11 => ?_⟩
 refine ⟨fun h12 => ?_, fun h12 => ?_⟩
 refine ⟨fun h13 => ?_, fun h13 => ?_⟩
 refine ⟨?_, fun h14 => ?_⟩
 refine ?a4; rotate_left
 refine ?a5; rotate_left
 refine ?a6; rotate_left
 refine ?a7; rotate_left
 refine ?a8; rotate_left
 refine ?a9; rotate_left
 refine ?a10; rotate_left
 refine ?a11; rotate_left
 refine ?a12; rotate_left
 refine ?a13; rotate_left
 refine ?a14; rotate_left
 refine ?a15; rotate_left
 case a0 | a1 | a2 | a3 | a4 =>
  first
  | exact True.intro
  | omega
  | exact ⟨b44, by rw [l44b]; decide⟩
  | exact ⟨t44, by rw [l44t]; decide⟩
  | exact ⟨q44, by decide⟩
  | exact ⟨by omega, by omega, by decide⟩
  | exact ⟨by omega, by decide⟩
  | decide
 case a5 | a6 | a7 | a8 | a9 | a10 | a11 | a12 | a13 | a14 | a15 =>
  first
  | exact True.intro
  | rfl
  | (exfalso; omega)
  | (exfalso; exact absurd (Sy.bytes_self _) (by assumption))
  | (exfalso; exact absurd s44_s (by assumption))
  | (exfalso; have := l44t; omega)
  | exact absurd True.intro (by assumption)
theorem cbg_sure44 : cbc_sure44.Good Tryd.prog syG (cbE [] [] [] []) := good_of_walk (Γ := ⟨[cac_cenc, cac_cdec, cac_tell, cac_hear, cac_price, cac_num], syG, [], [], []⟩) (ρ := cbE [] [] [] []) sym sure44_w rfl (fun _ _ _ _ => (ok_cons (Con.Good.env (Con.Good.up cag_cenc cbup rfl) _ _ _ _) (ok_cons (Con.Good.env (Con.Good.up cag_cdec cbup rfl) _ _ _ _) (ok_cons (Con.Good.env (Con.Good.up cag_tell cbup rfl) _ _ _ _) (ok_cons (Con.Good.env (Con.Good.up cag_hear cbup rfl) _ _ _ _) (ok_cons (Con.Good.env (Con.Good.up cag_price cbup rfl) _ _ _ _) (ok_cons (Con.Good.env (Con.Good.up cag_num cbup rfl) _ _ _ _) ok_nil))))))) sure44_h
end Go.Proofs.YtmlidfpjeomcmaaDoor
