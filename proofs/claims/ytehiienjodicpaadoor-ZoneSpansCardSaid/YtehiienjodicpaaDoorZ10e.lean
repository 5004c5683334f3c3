/-
  Layer 10 by the second engine: sure, and ZoneTells.
-/
import Derived.Test.YtehiienjodicpaaDoorSyc
import Derived.Test.YtehiienjodicpaaDoorZ10d
namespace Go.Proofs.YtehiienjodicpaaDoor
open Go.RowKit Go.Extern.Stop Go.Stop Go.Extern Go.Proofs.YtehiienjodicpaaDoor.Sy
set_option linter.unusedVariables false
set_option linter.unusedSimpArgs false
abbrev rZ : ByteArray := { data := #[UInt8.ofNat 90] }
abbrev rS : ByteArray := { data := #[UInt8.ofNat 83] }
abbrev rR : List Value := Sy.rows (Value.tuple #[Value.int IntKind.i64 100, Value.int IntKind.i64 3600, Value.string { data := #[UInt8.ofNat 83] }])
theorem chk_iff {s : ByteArray} {f : Int} {l : List Value} : chkI s f l = 0 ↔ zoneB s f l = true := ⟨fun h => chk_good (fun h' => h' h), chk_yes⟩
theorem q10 : chkI rZ 0 rR = 0 ∧ nxtE rZ 0 rR 99 = 0 ∧ atO rZ 0 rR 99 = 0 ∧ atO rZ 0 rR 100 = 3600 ∧ nxtI rZ 0 rR 99 = 100 ∧ nxtE rZ 0 rR 100 = 6 := by decide
theorem q10s : atN rZ 0 rR 99 = rZ ∧ atN rZ 0 rR 100 = rS := by constructor <;> rfl
noncomputable def zeI : Nat → List Value → Int
  | i, l => zdI i l
noncomputable def zeB : Nat → List Value → Bool
  | i, l => zdB i l
noncomputable def zeV : Nat → List Value → Value
  | i, l => zdV i l
noncomputable abbrev zeE (iv : List Int) (bv : List Bool) (vv : List Value) (sv : List ByteArray) : Env := { iv := iv, bv := bv, vv := vv, sv := sv, fi := zeI, fb := zeB, fv := zeV, et := 108 }
theorem zeup : Agree 9 10 2 (zdE [] [] [] []) (zeE [] [] [] []) := ⟨rfl, (by
    intro f hf
    funext l
    show zeI f l = zdI f l
    unfold zeI
    split <;> first | rfl | omega), (by
    intro f hf
    funext l
    show zeB f l = zdB f l
    unfold zeB
    split <;> first | rfl | omega), (by
    intro f hf
    funext l
    show zeV f l = zdV f l
    unfold zeV
    split <;> first | rfl | omega)⟩
theorem zei_ixl (l : Value) : zeI 0 [l] = ixL (intsV l) := rfl
theorem zei_lst (l : Value) (k1 : IntKind) (n : Int) : zeI 1 [l, .int k1 n] = leastR (rows l) n.toNat := rfl
theorem zei_chk (s : ByteArray) (k1 : IntKind) (f : Int) (l : Value) : zeI 2 [.string s, .int k1 f, l] = chkI s f (rows l) := rfl
theorem zei_srch (l : Value) (k1 : IntKind) (d : Int) : zeI 3 [l, .int k1 d] = ((srchN (rows l) d : Nat) : Int) := rfl
theorem zei_ato (s : ByteArray) (k1 : IntKind) (f : Int) (l : Value) (k2 : IntKind) (d : Int) : zeI 4 [.string s, .int k1 f, l, .int k2 d] = atO s f (rows l) d := rfl
theorem zei_nxt (s : ByteArray) (k1 : IntKind) (f : Int) (l : Value) (k2 : IntKind) (d : Int) : zeI 5 [.string s, .int k1 f, l, .int k2 d] = nxtI s f (rows l) d := rfl
theorem zei_nxe (s : ByteArray) (k1 : IntKind) (f : Int) (l : Value) (k2 : IntKind) (d : Int) : zeI 6 [.string s, .int k1 f, l, .int k2 d] = nxtE s f (rows l) d := rfl
theorem zei_cn (l : Value) (k1 : IntKind) (d : Int) (k2 : IntKind) (n : Int) : zeI 7 [l, .int k1 d, .int k2 n] = ((cntN (rows l) d n.toNat : Nat) : Int) := rfl
theorem zei_ro (k1 : IntKind) (f : Int) (l : Value) (k2 : IntKind) (d : Int) (k3 : IntKind) (n : Int) : zeI 8 [.int k1 f, l, .int k2 d, .int k3 n] = roI f (rows l) d n.toNat := rfl
theorem zeb_let (k1 : IntKind) (c : Int) : zeB 0 [.int k1 c] = letC c := rfl
theorem zeb_rok (l : Value) (k1 : IntKind) (n : Int) : zeB 1 [l, .int k1 n] = okR (rows l) n.toNat := rfl
theorem zeb_zon (s : ByteArray) (k1 : IntKind) (f : Int) (l : Value) : zeB 2 [.string s, .int k1 f, l] = zoneB s f (rows l) := rfl
theorem zeb_shr (l : Value) : zeB 3 [l] = shortR (rows l) := rfl
theorem zeb_pre (l : Value) (k1 : IntKind) (n : Int) : zeB 4 [l, .int k1 n] = preL (intsV l) n.toNat := rfl
theorem zeb_nm (s : ByteArray) : zeB 5 [.string s] = nameB s := rfl
theorem zeb_shn (l : Value) (k1 : IntKind) (n : Int) : zeB 6 [l, .int k1 n] = shN (rows l) n.toNat := rfl
theorem zeb_big (s : ByteArray) (l : Value) : zeB 7 [.string s, l] = bigB s (rows l) := rfl
theorem zeb_eqv (x : Value) (y : Value) : zeB 8 [x, y] = eqV x y := rfl
theorem zeb_tk (x : Value) (y : Value) (k1 : IntKind) (n : Int) : zeB 9 [x, y, .int k1 n] = eqV x (tkV y n.toNat) := rfl
theorem zev_atn (s : ByteArray) (k1 : IntKind) (f : Int) (l : Value) (k2 : IntKind) (d : Int) : zeV 0 [.string s, .int k1 f, l, .int k2 d] = .string (atN s f (rows l) d) := rfl
theorem zev_rn (s : ByteArray) (l : Value) (k1 : IntKind) (d : Int) (k2 : IntKind) (n : Int) : zeV 1 [.string s, l, .int k1 d, .int k2 n] = .string (rnS s (rows l) d n.toNat) := rfl
def sure10_tree : Tree :=
 (.br (.b2 .eq (.iapp 2 (.cons (.cst (.strc [90])) (.cons (.int .i64 (.lit (0))) (.cons (.tup (.cons (.int .i64 (.lit (100))) (.cons (.int .i64 (.lit (3600))) (.cons (.cst (.strc [83])) .nil)))) .nil)))) (.lit (0)))
 (.br (.b2 .eq (.iapp 6 (.cons (.cst (.strc [90])) (.cons (.int .i64 (.lit (0))) (.cons (.tup (.cons (.int .i64 (.lit (100))) (.cons (.int .i64 (.lit (3600))) (.cons (.cst (.strc [83])) .nil)))) (.cons (.int .i64 (.lit (99))) .nil))))) (.lit (0)))
 (.br (.b2 .eq (.iapp 4 (.cons (.cst (.strc [90])) (.cons (.int .i64 (.lit (0))) (.cons (.tup (.cons (.int .i64 (.lit (100))) (.cons (.int .i64 (.lit (3600))) (.cons (.cst (.strc [83])) .nil)))) (.cons (.int .i64 (.lit (99))) .nil))))) (.lit (0)))
 (.br (.veq (.sapp 0 (.cons (.cst (.strc [90])) (.cons (.int .i64 (.lit (0))) (.cons (.tup (.cons (.int .i64 (.lit (100))) (.cons (.int .i64 (.lit (3600))) (.cons (.cst (.strc [83])) .nil)))) (.cons (.int .i64 (.lit (99))) .nil))))) (.cst (.strc [90])))
 (.br (.b2 .eq (.iapp 4 (.cons (.cst (.strc [90])) (.cons (.int .i64 (.lit (0))) (.cons (.tup (.cons (.int .i64 (.lit (100))) (.cons (.int .i64 (.lit (3600))) (.cons (.cst (.strc [83])) .nil)))) (.cons (.int .i64 (.lit (100))) .nil))))) (.lit (3600)))
 (.br (.veq (.sapp 0 (.cons (.cst (.strc [90])) (.cons (.int .i64 (.lit (0))) (.cons (.tup (.cons (.int .i64 (.lit (100))) (.cons (.int .i64 (.lit (3600))) (.cons (.cst (.strc [83])) .nil)))) (.cons (.int .i64 (.lit (100))) .nil))))) (.cst (.strc [83])))
 (.br (.b2 .eq (.iapp 5 (.cons (.cst (.strc [90])) (.cons (.int .i64 (.lit (0))) (.cons (.tup (.cons (.int .i64 (.lit (100))) (.cons (.int .i64 (.lit (3600))) (.cons (.cst (.strc [83])) .nil)))) (.cons (.int .i64 (.lit (99))) .nil))))) (.lit (100)))
 (.ret (.bool (.b2 .eq (.iapp 6 (.cons (.cst (.strc [90])) (.cons (.int .i64 (.lit (0))) (.cons (.tup (.cons (.int .i64 (.lit (100))) (.cons (.int .i64 (.lit (3600))) (.cons (.cst (.strc [83])) .nil)))) (.cons (.int .i64 (.lit (100))) .nil))))) (.lit (6)))))
 (.ret (.bool (.tt false))))
 (.ret (.bool (.tt false))))
 (.ret (.bool (.tt false))))
 (.ret (.bool (.tt false))))
 (.ret (.bool (.tt false))))
 (.ret (.bool (.tt false))))
 (.ret (.bool (.tt false))))
abbrev zec_sure10 : Con := ⟨34, [], (.tt true), (.bool (.tt true)), ⟨0, 0, 0, 0⟩, none⟩
theorem sure10_w : walk Tryd.prog 108 ⟨[zbc_zat, zbc_znx, zdc_num], syG⟩ [] .v zec_sure10 zec_sure10.n 3000 = some sure10_tree := by kernel_rfl
theorem sure10_h  (hc : holds (zeE [] [] [] []) (.tt true)) (hty : patsTyp (zeE [] [] [] []) []) : sure10_tree.holds (fun d => d = denV (zeE [] [] [] []) b0 (.bool (.tt true))) (zeE [] [] [] []) := by
  simp only [Tree.holds, Sy.holds, AllN, Env.more, zeE, List.cons_append, List.nil_append, List.append_nil, denV, denI, denB, denL, I2.den, VOp.den, List.getD_cons_zero, List.getD_cons_succ, Cst.den, syso, syse, syio, sybo, zei_ixl, zei_lst, zei_chk, zei_srch, zei_ato, zei_nxt, zei_nxe, zei_cn, zei_ro, zeb_let, zeb_rok, zeb_zon, zeb_shr, zeb_pre, zeb_nm, zeb_shn, zeb_big, zeb_eqv, zeb_tk, zev_atn, zev_rn, List.map_nil, List.map_cons, B2.ofInts, B2.denI, B2.denB, if_true, Bool.false_eq_true, if_false, Nat.div_one, Nat.mul_one, Nat.add_zero, holds] at hc
  simp only [patsTyp, patTyp, patTypL, zeE, denV, denL, List.getD_cons_zero, List.getD_cons_succ, and_true, true_and] at hty
  unfold sure10_tree
  simp only [Tree.holds, Sy.holds, AllN, Env.more, zeE, List.cons_append, List.nil_append, List.append_nil, denV, denI, denB, denL, I2.den, VOp.den, List.getD_cons_zero, List.getD_cons_succ, Cst.den, syso, syse, syio, sybo, zei_ixl, zei_lst, zei_chk, zei_srch, zei_ato, zei_nxt, zei_nxe, zei_cn, zei_ro, zeb_let, zeb_rok, zeb_zon, zeb_shr, zeb_pre, zeb_nm, zeb_shn, zeb_big, zeb_eqv, zeb_tk, zev_atn, zev_rn, List.map_nil, List.map_cons, B2.ofInts, B2.denI, B2.denB, if_true, Bool.false_eq_true, if_false, Nat.div_one, Nat.mul_one, Nat.add_zero]
  obtain ⟨q1, q2, q3, q4, q5, q6⟩ := q10
  have q7 := ba_beq.2 q10s.1
  have q8 := ba_beq.2 q10s.2
  refine ⟨fun h0 => ?_, fun h0 => ?_⟩
  ·
    refine ⟨fun h1 => ?_, fun h1 => ?_⟩
    ·
      refine ⟨fun h2 => ?_, fun h2 => ?_⟩
      ·
        refine ⟨fun h3 => ?_, fun h3 => ?_⟩
        ·
          refine ⟨fun h4 => ?_, fun h4 => ?_⟩
          ·
            refine ⟨fun h5 => ?_, fun h5 => ?_⟩
            ·
              refine ⟨fun h6 => ?_, fun h6 => ?_⟩
              ·
                first | exact absurd q1 h0 | exact absurd q2 h1 | exact absurd q3 h2 | exact absurd q7 h3 | exact absurd q4 h4 | exact absurd q8 h5 | exact absurd q5 h6 | (rw [q6]; rfl)
              ·
                first | exact absurd q1 h0 | exact absurd q2 h1 | exact absurd q3 h2 | exact absurd q7 h3 | exact absurd q4 h4 | exact absurd q8 h5 | exact absurd q5 h6 | (rw [q6]; rfl)
            ·
              first | exact absurd q1 h0 | exact absurd q2 h1 | exact absurd q3 h2 | exact absurd q7 h3 | exact absurd q4 h4 | exact absurd q8 h5 | exact absurd q5 h6 | (rw [q6]; rfl)
          ·
            first | exact absurd q1 h0 | exact absurd q2 h1 | exact absurd q3 h2 | exact absurd q7 h3 | exact absurd q4 h4 | exact absurd q8 h5 | exact absurd q5 h6 | (rw [q6]; rfl)
        ·
          first | exact absurd q1 h0 | exact absurd q2 h1 | exact absurd q3 h2 | exact absurd q7 h3 | exact absurd q4 h4 | exact absurd q8 h5 | exact absurd q5 h6 | (rw [q6]; rfl)
      ·
        first | exact absurd q1 h0 | exact absurd q2 h1 | exact absurd q3 h2 | exact absurd q7 h3 | exact absurd q4 h4 | exact absurd q8 h5 | exact absurd q5 h6 | (rw [q6]; rfl)
    ·
      first | exact absurd q1 h0 | exact absurd q2 h1 | exact absurd q3 h2 | exact absurd q7 h3 | exact absurd q4 h4 | exact absurd q8 h5 | exact absurd q5 h6 | (rw [q6]; rfl)
  ·
    first | exact absurd q1 h0 | exact absurd q2 h1 | exact absurd q3 h2 | exact absurd q7 h3 | exact absurd q4 h4 | exact absurd q8 h5 | exact absurd q5 h6 | (rw [q6]; rfl)
theorem zeg_sure10 : zec_sure10.Good Tryd.prog syG (zeE [] [] [] []) := good_of_walk (Γ := ⟨[zbc_zat, zbc_znx, zdc_num], syG⟩) (ρ := zeE [] [] [] []) sym sure10_w rfl (fun _ _ _ _ => (ok_cons (Con.Good.env (Con.Good.up (Con.Good.up (Con.Good.up zbg_zat zc_up rfl) zdup rfl) zeup rfl) _ _ _ _) (ok_cons (Con.Good.env (Con.Good.up (Con.Good.up (Con.Good.up zbg_znx zc_up rfl) zdup rfl) zeup rfl) _ _ _ _) (ok_cons (Con.Good.env (Con.Good.up zdg_num zeup rfl) _ _ _ _) ok_nil)))) (fun hc hty => sure10_h  hc hty)
def wTells_tree : Tree :=
 (.br (.bapp 7 (.cons (.str 0) (.cons (.opq 0) .nil)))
 (.ret (.bool (.tt true)))
 (.need (.b2 .le (.ofI (.vop (.len 3) (.cons (.opq 0) .nil))) (.lit (4398046511103)))
 (.need (.b2 .and (.b2 .le (.blen (.str 0)) (.lit (200))) (.bapp 3 (.cons (.opq 0) .nil)))
 (.br (.not (.b2 .beq (.b2 .eq (.iapp 2 (.cons (.str 0) (.cons (.int .i64 (.var 0)) (.cons (.opq 0) .nil)))) (.lit (0))) (.bapp 2 (.cons (.str 0) (.cons (.int .i64 (.var 0)) (.cons (.opq 0) .nil))))))
 (.ret (.bool (.tt false)))
 (.need (.b2 .and (.veq (.str 0) (.str 0)) (.bapp 8 (.cons (.opq 0) (.cons (.opq 0) .nil))))
 (.need (.b2 .and (.b2 .le (.blen (.str 0)) (.lit (200))) (.bapp 3 (.cons (.opq 0) .nil)))
 (.br (.not (.bapp 2 (.cons (.str 0) (.cons (.int .i64 (.var 0)) (.cons (.opq 0) .nil)))))
 (.br (.b2 .eq (.iapp 2 (.cons (.str 0) (.cons (.int .i64 (.var 0)) (.cons (.opq 0) .nil)))) (.lit (1)))
 (.br (.b2 .eq (.iapp 6 (.cons (.str 0) (.cons (.int .i64 (.var 0)) (.cons (.opq 0) (.cons (.int .i64 (.var 1)) .nil))))) (.lit (1)))
 (.br (.b2 .eq (.iapp 4 (.cons (.str 0) (.cons (.int .i64 (.var 0)) (.cons (.opq 0) (.cons (.int .i64 (.var 1)) .nil))))) (.lit (0)))
 (.br (.veq (.sapp 0 (.cons (.str 0) (.cons (.int .i64 (.var 0)) (.cons (.opq 0) (.cons (.int .i64 (.var 1)) .nil))))) (.cst (.strc [])))
 (.br (.b2 .eq (.iapp 5 (.cons (.str 0) (.cons (.int .i64 (.var 0)) (.cons (.opq 0) (.cons (.int .i64 (.var 1)) .nil))))) (.lit (0)))
 (.ret (.bool (.tt true)))
 (.ret (.bool (.tt false))))
 (.ret (.bool (.tt false))))
 (.ret (.bool (.tt false))))
 (.ret (.bool (.tt false))))
 (.ret (.bool (.tt false))))
 (.need (.bapp 2 (.cons (.str 0) (.cons (.int .i64 (.var 0)) (.cons (.opq 0) .nil))))
 (.need (.bapp 2 (.cons (.str 0) (.cons (.int .i64 (.var 0)) (.cons (.opq 0) .nil))))
 (.br (.b2 .eq (.iapp 2 (.cons (.str 0) (.cons (.int .i64 (.var 0)) (.cons (.opq 0) .nil)))) (.lit (0)))
 (.ret (.bool (.tt true)))
 (.ret (.bool (.tt false)))))))))))))
abbrev zec_wTells : Con := ⟨8, [(.agg (.cons (.str 0) (.cons (.int .i64 (.var 0)) (.cons (.hs .no (.cons (.int .i64) (.cons (.int .i64) (.cons .str .nil))) (.opq 0)) .nil)))), (.int .i64 (.var 1))], (.tt true), (.bool (.tt true)), ⟨2, 0, 1, 1⟩, none⟩
theorem wTells_w : walk Tryd.prog 108 ⟨[zc_c_lbig, zec_sure10, zdc_give, zbc_zat, zbc_znx, zc_zck, zc_rmay, zdc_isz, zc_c_rat, zc_c_rnx, zdc_num], syG⟩ [] .v zec_wTells zec_wTells.n 3000 = some wTells_tree := by kernel_rfl
theorem wTells_h (fst : Int) (sec : Int) (l : Value) (nm : ByteArray) (hc : holds (zeE [fst, sec] [] [l] [nm]) (.tt true)) (hty : patsTyp (zeE [fst, sec] [] [l] [nm]) [(.agg (.cons (.str 0) (.cons (.int .i64 (.var 0)) (.cons (.hs .no (.cons (.int .i64) (.cons (.int .i64) (.cons .str .nil))) (.opq 0)) .nil)))), (.int .i64 (.var 1))]) : wTells_tree.holds (fun d => d = denV (zeE [fst, sec] [] [l] [nm]) b0 (.bool (.tt true))) (zeE [fst, sec] [] [l] [nm]) := by
  simp only [Tree.holds, Sy.holds, AllN, Env.more, zeE, List.cons_append, List.nil_append, List.append_nil, denV, denI, denB, denL, I2.den, VOp.den, List.getD_cons_zero, List.getD_cons_succ, Cst.den, syso, syse, syio, sybo, zei_ixl, zei_lst, zei_chk, zei_srch, zei_ato, zei_nxt, zei_nxe, zei_cn, zei_ro, zeb_let, zeb_rok, zeb_zon, zeb_shr, zeb_pre, zeb_nm, zeb_shn, zeb_big, zeb_eqv, zeb_tk, zev_atn, zev_rn, List.map_nil, List.map_cons, B2.ofInts, B2.denI, B2.denB, if_true, Bool.false_eq_true, if_false, Nat.div_one, Nat.mul_one, Nat.add_zero, holds] at hc
  simp only [patsTyp, patTyp, patTypL, zeE, denV, denL, List.getD_cons_zero, List.getD_cons_succ, and_true, true_and] at hty
  have hL_l : typ (.sl (.cons (.int .i64) (.cons (.int .i64) (.cons .str .nil)))) l := by first | exact hty | exact hty.1 | exact hty.2 | exact hty.1.1 | exact hty.1.2 | exact hty.2.1 | exact hty.2.2 | exact hty.2.2.1 | exact hty.2.2.2
  have hN_l := typ_len (n := 3) hL_l rfl (by omega)
  unfold wTells_tree
  simp only [Tree.holds, Sy.holds, AllN, Env.more, zeE, List.cons_append, List.nil_append, List.append_nil, denV, denI, denB, denL, I2.den, VOp.den, List.getD_cons_zero, List.getD_cons_succ, Cst.den, syso, syse, syio, sybo, zei_ixl, zei_lst, zei_chk, zei_srch, zei_ato, zei_nxt, zei_nxe, zei_cn, zei_ro, zeb_let, zeb_rok, zeb_zon, zeb_shr, zeb_pre, zeb_nm, zeb_shn, zeb_big, zeb_eqv, zeb_tk, zev_atn, zev_rn, List.map_nil, List.map_cons, B2.ofInts, B2.denI, B2.denB, if_true, Bool.false_eq_true, if_false, Nat.div_one, Nat.mul_one, Nat.add_zero]
  refine ⟨fun h0 => ?_, fun h0 => ?_⟩
  ·
    first
    | trivial
    | rfl
    | exact absurd chk_iff h3
    | exact absurd (chk_yes h12) h14
    | (have hz : zoneB nm fst (Sy.rows l) = false := Bool.eq_false_iff.2 h6
       have z1 : chkI nm fst (Sy.rows l) = 1 := chk_no h6
       have z2 : nxtE nm fst (Sy.rows l) sec = 1 := by simp [nxtE, hz]
       have z3 : atO nm fst (Sy.rows l) sec = 0 := by simp [atO, hz]
       have z4 : atN nm fst (Sy.rows l) sec = { data := #[] } := by simp [atN, hz]
       have z5 : nxtI nm fst (Sy.rows l) sec = 0 := by simp [nxtI, hz]
       first
       | exact absurd z1 h7
       | exact absurd z2 h8
       | exact absurd z3 h9
       | exact absurd (ba_beq.2 z4) h10
       | exact absurd z5 h11)
  ·
    refine ⟨?_, fun h1 => ?_⟩
    ·
      first
      | trivial
      | exact ⟨ba_beq.2 rfl, eqV_iff.2 rfl⟩
      | (have hb := big_no (Bool.eq_false_iff.2 h0)
         first
         | omega
         | exact ⟨by omega, hb.2.2⟩)
      | assumption
      | exact Decidable.of_not_not h6
    ·
      refine ⟨?_, fun h2 => ?_⟩
      ·
        first
        | trivial
        | exact ⟨ba_beq.2 rfl, eqV_iff.2 rfl⟩
        | (have hb := big_no (Bool.eq_false_iff.2 h0)
           first
           | omega
           | exact ⟨by omega, hb.2.2⟩)
        | assumption
        | exact Decidable.of_not_not h6
      ·
        refine ⟨fun h3 => ?_, fun h3 => ?_⟩
        ·
          first
          | trivial
          | rfl
          | exact absurd chk_iff h3
          | exact absurd (chk_yes h12) h14
          | (have hz : zoneB nm fst (Sy.rows l) = false := Bool.eq_false_iff.2 h6
             have z1 : chkI nm fst (Sy.rows l) = 1 := chk_no h6
             have z2 : nxtE nm fst (Sy.rows l) sec = 1 := by simp [nxtE, hz]
             have z3 : atO nm fst (Sy.rows l) sec = 0 := by simp [atO, hz]
             have z4 : atN nm fst (Sy.rows l) sec = { data := #[] } := by simp [atN, hz]
             have z5 : nxtI nm fst (Sy.rows l) sec = 0 := by simp [nxtI, hz]
             first
             | exact absurd z1 h7
             | exact absurd z2 h8
             | exact absurd z3 h9
             | exact absurd (ba_beq.2 z4) h10
             | exact absurd z5 h11)
        ·
          refine ⟨?_, fun h4 => ?_⟩
          ·
            first
            | trivial
            | exact ⟨ba_beq.2 rfl, eqV_iff.2 rfl⟩
            | (have hb := big_no (Bool.eq_false_iff.2 h0)
               first
               | omega
               | exact ⟨by omega, hb.2.2⟩)
            | assumption
            | exact Decidable.of_not_not h6
          ·
            refine ⟨?_, fun h5 => ?_⟩
            ·
              first
              | trivial
              | exact ⟨ba_beq.2 rfl, eqV_iff.2 rfl⟩
              | (have hb := big_no (Bool.eq_false_iff.2 h0)
                 first
                 | omega
                 | exact ⟨by omega, hb.2.2⟩)
              | assumption
              | exact Decidable.of_not_not h6
            ·
              refine ⟨fun h6 => ?_, fun h6 => ?_⟩
              ·
                refine ⟨fun h7 => ?_, fun h7 => ?_⟩
                ·
                  refine ⟨fun h8 => ?_, fun h8 => ?_⟩
                  ·
                    refine ⟨fun h9 => ?_, fun h9 => ?_⟩
                    ·
                      refine ⟨fun h10 => ?_, fun h10 => ?_⟩
                      ·
                        refine ⟨fun h11 => ?_, fun h11 => ?_⟩
                        ·
                          first
                          | trivial
                          | rfl
                          | exact absurd chk_iff h3
                          | exact absurd (chk_yes h12) h14
                          | (have hz : zoneB nm fst (Sy.rows l) = false := Bool.eq_false_iff.2 h6
                             have z1 : chkI nm fst (Sy.rows l) = 1 := chk_no h6
                             have z2 : nxtE nm fst (Sy.rows l) sec = 1 := by simp [nxtE, hz]
                             have z3 : atO nm fst (Sy.rows l) sec = 0 := by simp [atO, hz]
                             have z4 : atN nm fst (Sy.rows l) sec = { data := #[] } := by simp [atN, hz]
                             have z5 : nxtI nm fst (Sy.rows l) sec = 0 := by simp [nxtI, hz]
                             first
                             | exact absurd z1 h7
                             | exact absurd z2 h8
                             | exact absurd z3 h9
                             | exact absurd (ba_beq.2 z4) h10
                             | exact absurd z5 h11)
                        ·
                          first
                          | trivial
                          | rfl
                          | exact absurd chk_iff h3
                          | exact absurd (chk_yes h12) h14
                          | (have hz : zoneB nm fst (Sy.rows l) = false := Bool.eq_false_iff.2 h6
                             have z1 : chkI nm fst (Sy.rows l) = 1 := chk_no h6
                             have z2 : nxtE nm fst (Sy.rows l) sec = 1 := by simp [nxtE, hz]
                             have z3 : atO nm fst (Sy.rows l) sec = 0 := by simp [atO, hz]
                             have z4 : atN nm fst (Sy.rows l) sec = { data := #[] } := by simp [atN, hz]
                             have z5 : nxtI nm fst (Sy.rows l) sec = 0 := by simp [nxtI, hz]
                             first
                             | exact absurd z1 h7
                             | exact absurd z2 h8
                             | exact absurd z3 h9
                             | exact absurd (ba_beq.2 z4) h10
                             | exact absurd z5 h11)
                      ·
                        first
                        | trivial
                        | rfl
                        | exact absurd chk_iff h3
                        | exact absurd (chk_yes h12) h14
                        | (have hz : zoneB nm fst (Sy.rows l) = false := Bool.eq_false_iff.2 h6
                           have z1 : chkI nm fst (Sy.rows l) = 1 := chk_no h6
                           have z2 : nxtE nm fst (Sy.rows l) sec = 1 := by simp [nxtE, hz]
                           have z3 : atO nm fst (Sy.rows l) sec = 0 := by simp [atO, hz]
                           have z4 : atN nm fst (Sy.rows l) sec = { data := #[] } := by simp [atN, hz]
                           have z5 : nxtI nm fst (Sy.rows l) sec = 0 := by simp [nxtI, hz]
                           first
                           | exact absurd z1 h7
                           | exact absurd z2 h8
                           | exact absurd z3 h9
                           | exact absurd (ba_beq.2 z4) h10
                           | exact absurd z5 h11)
                    ·
                      first
                      | trivial
                      | rfl
                      | exact absurd chk_iff h3
                      | exact absurd (chk_yes h12) h14
                      | (have hz : zoneB nm fst (Sy.rows l) = false := Bool.eq_false_iff.2 h6
                         have z1 : chkI nm fst (Sy.rows l) = 1 := chk_no h6
                         have z2 : nxtE nm fst (Sy.rows l) sec = 1 := by simp [nxtE, hz]
                         have z3 : atO nm fst (Sy.rows l) sec = 0 := by simp [atO, hz]
                         have z4 : atN nm fst (Sy.rows l) sec = { data := #[] } := by simp [atN, hz]
                         have z5 : nxtI nm fst (Sy.rows l) sec = 0 := by simp [nxtI, hz]
                         first
                         | exact absurd z1 h7
                         | exact absurd z2 h8
                         | exact absurd z3 h9
                         | exact absurd (ba_beq.2 z4) h10
                         | exact absurd z5 h11)
                  ·
                    first
                    | trivial
                    | rfl
                    | exact absurd chk_iff h3
                    | exact absurd (chk_yes h12) h14
                    | (have hz : zoneB nm fst (Sy.rows l) = false := Bool.eq_false_iff.2 h6
                       have z1 : chkI nm fst (Sy.rows l) = 1 := chk_no h6
                       have z2 : nxtE nm fst (Sy.rows l) sec = 1 := by simp [nxtE, hz]
                       have z3 : atO nm fst (Sy.rows l) sec = 0 := by simp [atO, hz]
                       have z4 : atN nm fst (Sy.rows l) sec = { data := #[] } := by simp [atN, hz]
                       have z5 : nxtI nm fst (Sy.rows l) sec = 0 := by simp [nxtI, hz]
                       first
                       | exact absurd z1 h7
                       | exact absurd z2 h8
                       | exact absurd z3 h9
                       | exact absurd (ba_beq.2 z4) h10
                       | exact absurd z5 h11)
                ·
                  first
                  | trivial
                  | rfl
                  | exact absurd chk_iff h3
                  | exact absurd (chk_yes h12) h14
                  | (have hz : zoneB nm fst (Sy.rows l) = false := Bool.eq_false_iff.2 h6
                     have z1 : chkI nm fst (Sy.rows l) = 1 := chk_no h6
                     have z2 : nxtE nm fst (Sy.rows l) sec = 1 := by simp [nxtE, hz]
                     have z3 : atO nm fst (Sy.rows l) sec = 0 := by simp [atO, hz]
                     have z4 : atN nm fst (Sy.rows l) sec = { data := #[] } := by simp [atN, hz]
                     have z5 : nxtI nm fst (Sy.rows l) sec = 0 := by simp [nxtI, hz]
                     first
                     | exact absurd z1 h7
                     | exact absurd z2 h8
                     | exact absurd z3 h9
                     | exact absurd (ba_beq.2 z4) h10
                     | exact absurd z5 h11)
              ·
                refine ⟨?_, fun h12 => ?_⟩
                ·
                  first
                  | trivial
                  | exact ⟨ba_beq.2 rfl, eqV_iff.2 rfl⟩
                  | (have hb := big_no (Bool.eq_false_iff.2 h0)
                     first
                     | omega
                     | exact ⟨by omega, hb.2.2⟩)
                  | assumption
                  | exact Decidable.of_not_not h6
                ·
                  refine ⟨?_, fun h13 => ?_⟩
                  ·
                    first
                    | trivial
                    | exact ⟨ba_beq.2 rfl, eqV_iff.2 rfl⟩
                    | (have hb := big_no (Bool.eq_false_iff.2 h0)
                       first
                       | omega
                       | exact ⟨by omega, hb.2.2⟩)
                    | assumption
                    | exact Decidable.of_not_not h6
                  ·
                    refine ⟨fun h14 => ?_, fun h14 => ?_⟩
                    ·
                      first
                      | trivial
                      | rfl
                      | exact absurd chk_iff h3
                      | exact absurd (chk_yes h12) h14
                      | (have hz : zoneB nm fst (Sy.rows l) = false := Bool.eq_false_iff.2 h6
                         have z1 : chkI nm fst (Sy.rows l) = 1 := chk_no h6
                         have z2 : nxtE nm fst (Sy.rows l) sec = 1 := by simp [nxtE, hz]
                         have z3 : atO nm fst (Sy.rows l) sec = 0 := by simp [atO, hz]
                         have z4 : atN nm fst (Sy.rows l) sec = { data := #[] } := by simp [atN, hz]
                         have z5 : nxtI nm fst (Sy.rows l) sec = 0 := by simp [nxtI, hz]
                         first
                         | exact absurd z1 h7
                         | exact absurd z2 h8
                         | exact absurd z3 h9
                         | exact absurd (ba_beq.2 z4) h10
                         | exact absurd z5 h11)
                    ·
                      first
                      | trivial
                      | rfl
                      | exact absurd chk_iff h3
                      | exact absurd (chk_yes h12) h14
                      | (have hz : zoneB nm fst (Sy.rows l) = false := Bool.eq_false_iff.2 h6
                         have z1 : chkI nm fst (Sy.rows l) = 1 := chk_no h6
                         have z2 : nxtE nm fst (Sy.rows l) sec = 1 := by simp [nxtE, hz]
                         have z3 : atO nm fst (Sy.rows l) sec = 0 := by simp [atO, hz]
                         have z4 : atN nm fst (Sy.rows l) sec = { data := #[] } := by simp [atN, hz]
                         have z5 : nxtI nm fst (Sy.rows l) sec = 0 := by simp [nxtI, hz]
                         first
                         | exact absurd z1 h7
                         | exact absurd z2 h8
                         | exact absurd z3 h9
                         | exact absurd (ba_beq.2 z4) h10
                         | exact absurd z5 h11)
theorem zeg_wTells : zec_wTells.Good Tryd.prog syG (zeE [] [] [] []) := good_of_walk (Γ := ⟨[zc_c_lbig, zec_sure10, zdc_give, zbc_zat, zbc_znx, zc_zck, zc_rmay, zdc_isz, zc_c_rat, zc_c_rnx, zdc_num], syG⟩) (ρ := zeE [] [] [] []) sym wTells_w rfl (fun _ _ _ _ => (ok_cons (Con.Good.env (Con.Good.up (Con.Good.up zc_g_lbig zdup rfl) zeup rfl) _ _ _ _) (ok_cons (Con.Good.env zeg_sure10 _ _ _ _) (ok_cons (Con.Good.env (Con.Good.up zdg_give zeup rfl) _ _ _ _) (ok_cons (Con.Good.env (Con.Good.up (Con.Good.up (Con.Good.up zbg_zat zc_up rfl) zdup rfl) zeup rfl) _ _ _ _) (ok_cons (Con.Good.env (Con.Good.up (Con.Good.up (Con.Good.up zbg_znx zc_up rfl) zdup rfl) zeup rfl) _ _ _ _) (ok_cons (Con.Good.env (Con.Good.up (Con.Good.up (Con.Good.up (Con.Good.up zg_zck zbup rfl) zc_up rfl) zdup rfl) zeup rfl) _ _ _ _) (ok_cons (Con.Good.env (Con.Good.up (Con.Good.up (Con.Good.up (Con.Good.up zg_rmay zbup rfl) zc_up rfl) zdup rfl) zeup rfl) _ _ _ _) (ok_cons (Con.Good.env (Con.Good.up zdg_isz zeup rfl) _ _ _ _) (ok_cons (Con.Good.env (Con.Good.up (Con.Good.up zc_g_rat zdup rfl) zeup rfl) _ _ _ _) (ok_cons (Con.Good.env (Con.Good.up (Con.Good.up zc_g_rnx zdup rfl) zeup rfl) _ _ _ _) (ok_cons (Con.Good.env (Con.Good.up zdg_num zeup rfl) _ _ _ _) ok_nil)))))))))))) (fun fst sec l nm hc hty => wTells_h fst sec l nm hc hty)
end Go.Proofs.YtehiienjodicpaaDoor
