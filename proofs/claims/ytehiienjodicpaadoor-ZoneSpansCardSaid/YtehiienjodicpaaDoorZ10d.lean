/-
  Layer 10 by the second engine: what the laws hand over.
-/
import Derived.Test.YtehiienjodicpaaDoorSyc
import Derived.Test.YtehiienjodicpaaDoorZ10c
namespace Go.Proofs.YtehiienjodicpaaDoor
open Go.RowKit Go.Extern.Stop Go.Stop Go.Extern Go.Proofs.YtehiienjodicpaaDoor.Sy
set_option linter.unusedVariables false
set_option linter.unusedSimpArgs false
noncomputable def eqV (a b : Value) : Bool := @decide (a = b) (Classical.propDecidable _)
theorem eqV_iff {a b : Value} : eqV a b = true ↔ a = b := @decide_eq_true_iff _ (Classical.propDecidable _)
theorem rows_tup (a : Array Value) : Sy.rows (.tuple a) = a.toList := rfl
def tkV (l : Value) (n : Nat) : Value := .tuple ((Sy.rows l).take (n * 3)).toArray
theorem typ_all {l : Value} (h : typ (.sl KR) l) {n : Nat} (hn : (Sy.rows l).length = n * 3) : tkV l n = l := by
  unfold tkV
  rw [← hn, List.take_length]
  exact h.1.symm
theorem typ_row {l : Value} (h : typ (.sl KR) l) {k : Nat} (hk : k < (Sy.rows l).length / 3) : (Sy.rows l).getD (k * 3) Go.undef = .int .i64 (Go.RowKit.intOf ((Sy.rows l).getD (k * 3) Go.undef)) ∧ (Sy.rows l).getD (k * 3 + 1) Go.undef = .int .i64 (Go.RowKit.intOf ((Sy.rows l).getD (k * 3 + 1) Go.undef)) ∧ (Sy.rows l).getD (k * 3 + 2) Go.undef = .string (strOf ((Sy.rows l).getD (k * 3 + 2) Go.undef)) := by
  obtain ⟨_, n, h1, h2, h3⟩ := h
  have : n = (Sy.rows l).length / 3 := by rw [h2]; exact (Nat.mul_div_cancel n (by decide)).symm
  obtain ⟨g1, g2, g3, _⟩ := h3 k (by omega)
  exact ⟨g1, g2, g3⟩
theorem take3 {l : List Value} {n : Nat} (h : n * 3 + 2 < l.length) : l.take ((n + 1) * 3) = l.take (n * 3) ++ [l.getD (n * 3) Go.undef, l.getD (n * 3 + 1) Go.undef, l.getD (n * 3 + 2) Go.undef] := by
  have e : ∀ k, k < l.length → l.take (k + 1) = l.take k ++ [l.getD k Go.undef] := fun k hk => by
    rw [List.take_add_one, List.getD_eq_getElem?_getD, List.getElem?_eq_getElem hk]; rfl
  rw [show (n + 1) * 3 = n * 3 + 1 + 1 + 1 by omega, e _ (by omega), e _ (by omega), e _ (by omega)]
  simp only [List.append_assoc, List.cons_append, List.nil_append]
theorem num10_any (n : Int) (w : World) (hg : w.cell? ⟨0, 0, none⟩ = some asHandle) : Calls Tryd.prog 41 #[errVal 108 n] w fun e w' => e = .returned (.int .i64 n) ∧ Below w.heap.size w w' := by
  unfold errVal
  split
  · rename_i h; subst h; exact num10_nil _
  · exact num10_err _ _ hg
noncomputable def zdI : Nat → List Value → Int
  | i, l => zc_I i l
noncomputable def zdB : Nat → List Value → Bool
  | 8, [x, y] => eqV x y
  | 9, [x, y, .int _ n] => eqV x (tkV y n.toNat)
  | i, l => zc_B i l
noncomputable def zdV : Nat → List Value → Value
  | i, l => zc_V i l
noncomputable abbrev zdE (iv : List Int) (bv : List Bool) (vv : List Value) (sv : List ByteArray) : Env := { iv := iv, bv := bv, vv := vv, sv := sv, fi := zdI, fb := zdB, fv := zdV, et := 108 }
theorem zdup : Agree 9 8 2 (zc_E [] [] [] []) (zdE [] [] [] []) := ⟨rfl, (by
    intro f hf
    funext l
    show zdI f l = zc_I f l
    unfold zdI
    split <;> first | rfl | omega), (by
    intro f hf
    funext l
    show zdB f l = zc_B f l
    unfold zdB
    split <;> first | rfl | omega), (by
    intro f hf
    funext l
    show zdV f l = zc_V f l
    unfold zdV
    split <;> first | rfl | omega)⟩
theorem zdi_ixl (l : Value) : zdI 0 [l] = ixL (intsV l) := rfl
theorem zdi_lst (l : Value) (k1 : IntKind) (n : Int) : zdI 1 [l, .int k1 n] = leastR (rows l) n.toNat := rfl
theorem zdi_chk (s : ByteArray) (k1 : IntKind) (f : Int) (l : Value) : zdI 2 [.string s, .int k1 f, l] = chkI s f (rows l) := rfl
theorem zdi_srch (l : Value) (k1 : IntKind) (d : Int) : zdI 3 [l, .int k1 d] = ((srchN (rows l) d : Nat) : Int) := rfl
theorem zdi_ato (s : ByteArray) (k1 : IntKind) (f : Int) (l : Value) (k2 : IntKind) (d : Int) : zdI 4 [.string s, .int k1 f, l, .int k2 d] = atO s f (rows l) d := rfl
theorem zdi_nxt (s : ByteArray) (k1 : IntKind) (f : Int) (l : Value) (k2 : IntKind) (d : Int) : zdI 5 [.string s, .int k1 f, l, .int k2 d] = nxtI s f (rows l) d := rfl
theorem zdi_nxe (s : ByteArray) (k1 : IntKind) (f : Int) (l : Value) (k2 : IntKind) (d : Int) : zdI 6 [.string s, .int k1 f, l, .int k2 d] = nxtE s f (rows l) d := rfl
theorem zdi_cn (l : Value) (k1 : IntKind) (d : Int) (k2 : IntKind) (n : Int) : zdI 7 [l, .int k1 d, .int k2 n] = ((cntN (rows l) d n.toNat : Nat) : Int) := rfl
theorem zdi_ro (k1 : IntKind) (f : Int) (l : Value) (k2 : IntKind) (d : Int) (k3 : IntKind) (n : Int) : zdI 8 [.int k1 f, l, .int k2 d, .int k3 n] = roI f (rows l) d n.toNat := rfl
theorem zdb_let (k1 : IntKind) (c : Int) : zdB 0 [.int k1 c] = letC c := rfl
theorem zdb_rok (l : Value) (k1 : IntKind) (n : Int) : zdB 1 [l, .int k1 n] = okR (rows l) n.toNat := rfl
theorem zdb_zon (s : ByteArray) (k1 : IntKind) (f : Int) (l : Value) : zdB 2 [.string s, .int k1 f, l] = zoneB s f (rows l) := rfl
theorem zdb_shr (l : Value) : zdB 3 [l] = shortR (rows l) := rfl
theorem zdb_pre (l : Value) (k1 : IntKind) (n : Int) : zdB 4 [l, .int k1 n] = preL (intsV l) n.toNat := rfl
theorem zdb_nm (s : ByteArray) : zdB 5 [.string s] = nameB s := rfl
theorem zdb_shn (l : Value) (k1 : IntKind) (n : Int) : zdB 6 [l, .int k1 n] = shN (rows l) n.toNat := rfl
theorem zdb_big (s : ByteArray) (l : Value) : zdB 7 [.string s, l] = bigB s (rows l) := rfl
theorem zdb_eqv (x : Value) (y : Value) : zdB 8 [x, y] = eqV x y := rfl
theorem zdb_tk (x : Value) (y : Value) (k1 : IntKind) (n : Int) : zdB 9 [x, y, .int k1 n] = eqV x (tkV y n.toNat) := rfl
theorem zdv_atn (s : ByteArray) (k1 : IntKind) (f : Int) (l : Value) (k2 : IntKind) (d : Int) : zdV 0 [.string s, .int k1 f, l, .int k2 d] = .string (atN s f (rows l) d) := rfl
theorem zdv_rn (s : ByteArray) (l : Value) (k1 : IntKind) (d : Int) (k2 : IntKind) (n : Int) : zdV 1 [.string s, l, .int k1 d, .int k2 n] = .string (rnS s (rows l) d n.toNat) := rfl
abbrev zdc_num : Con := ⟨41, [(.err (.var 0))], (.tt true), (.int .i64 (.var 0)), ⟨1, 0, 0, 0⟩, none⟩
theorem zdg_num : zdc_num.Good Tryd.prog syG (zdE [] [] [] []) := good_flat rfl rfl rfl (by
  intro n hc β ok w hG
  have hc' := hc
  simp only [Tree.holds, Sy.holds, AllN, Env.more, zdE, List.cons_append, List.nil_append, List.append_nil, denV, denI, denB, denL, I2.den, VOp.den, List.getD_cons_zero, List.getD_cons_succ, Cst.den, syso, syse, syio, sybo, zdi_ixl, zdi_lst, zdi_chk, zdi_srch, zdi_ato, zdi_nxt, zdi_nxe, zdi_cn, zdi_ro, zdb_let, zdb_rok, zdb_zon, zdb_shr, zdb_pre, zdb_nm, zdb_shn, zdb_big, zdb_eqv, zdb_tk, zdv_atn, zdv_rn, List.map_nil, List.map_cons, B2.ofInts, B2.denI, B2.denB, if_true, Bool.false_eq_true, if_false, Nat.div_one, Nat.mul_one, Nat.add_zero, holds] at hc
  exact num10_any n w (hG _ (List.mem_singleton.2 rfl)).2.2)
def give_tree : Tree :=
 (.loop ⟨1, 0, 1, 0⟩ (.b2 .and (.b2 .le (.lit (0)) (.lit (0))) (.b2 .and (.b2 .le (.lit (0)) (.ofI (.vop (.len 3) (.cons (.opq 0) .nil)))) (.bapp 9 (.cons (.tup .nil) (.cons (.opq 0) (.cons (.int .i64 (.lit (0))) .nil)))))) (.b2 .and (.b2 .le (.lit (0)) (.var 1)) (.b2 .and (.b2 .le (.var 1) (.ofI (.vop (.len 3) (.cons (.opq 0) .nil)))) (.bapp 9 (.cons (.opq 1) (.cons (.opq 0) (.cons (.int .i64 (.var 1)) .nil))))))
 (.br (.b2 .lt (.var 1) (.ofI (.vop (.len 3) (.cons (.opq 0) .nil))))
 (.need (.b2 .and (.b2 .le (.lit (0)) (.var 1)) (.b2 .lt (.var 1) (.ofI (.vop (.len 3) (.cons (.opq 0) .nil)))))
 (.need (.b2 .le (.i2 .add (.ofI (.vop (.len 3) (.cons (.opq 1) .nil))) (.lit (1))) (.lit (4398046511104)))
 (.back (.b2 .and (.b2 .le (.lit (0)) (.wrap .i64 (.i2 .add (.var 1) (.lit (1))))) (.b2 .and (.b2 .le (.wrap .i64 (.i2 .add (.var 1) (.lit (1)))) (.ofI (.vop (.len 3) (.cons (.opq 0) .nil)))) (.bapp 9 (.cons (.vop .cat (.cons (.opq 1) (.cons (.tup (.cons (.int .i64 (.ofI (.vop (.sel 3 0) (.cons (.opq 0) (.cons (.int .i64 (.var 1)) .nil))))) (.cons (.int .i64 (.ofI (.vop (.sel 3 1) (.cons (.opq 0) (.cons (.int .i64 (.var 1)) .nil))))) (.cons (.vop (.ssel 3 2) (.cons (.opq 0) (.cons (.int .i64 (.var 1)) .nil))) .nil)))) .nil))) (.cons (.opq 0) (.cons (.int .i64 (.wrap .i64 (.i2 .add (.var 1) (.lit (1))))) .nil)))))) (.i2 .sub (.ofI (.vop (.len 3) (.cons (.opq 0) .nil))) (.wrap .i64 (.i2 .add (.var 1) (.lit (1))))) (.i2 .sub (.ofI (.vop (.len 3) (.cons (.opq 0) .nil))) (.var 1)))))
 (.ret (.agg (.cons (.str 0) (.cons (.int .i64 (.var 0)) (.cons (.hs (.new 86) (.cons (.int .i64) (.cons (.int .i64) (.cons .str .nil))) (.opq 1)) .nil)))))))
abbrev zdc_give : Con := ⟨35, [(.agg (.cons (.str 0) (.cons (.int .i64 (.var 0)) (.cons (.hs .no (.cons (.int .i64) (.cons (.int .i64) (.cons .str .nil))) (.opq 0)) .nil))))], (.b2 .le (.ofI (.vop (.len 3) (.cons (.opq 0) .nil))) (.lit (4398046511103))), (.agg (.cons (.str 0) (.cons (.int .i64 (.var 0)) (.cons (.hs (.new 86) (.cons (.int .i64) (.cons (.int .i64) (.cons .str .nil))) (.opq 0)) .nil)))), ⟨1, 0, 1, 1⟩, none⟩
theorem give_w : walk Tryd.prog 108 ⟨[], syG⟩ [⟨0, ⟨1, 0, 1, 0⟩, [(4, (.int .i64 (.var 1)))], some [[(.str 0), (.int .i64 (.var 0)), (.hs .no (.cons (.int .i64) (.cons (.int .i64) (.cons .str .nil))) (.opq 0))], [(.cst (.strc [])), (.int .i64 (.lit (0))), (.cst .nilS)], [(.str 0), (.int .i64 (.var 0)), (.hs (.id 1000 86) (.cons (.int .i64) (.cons (.int .i64) (.cons .str .nil))) (.opq 1))]], (.b2 .and (.b2 .le (.lit (0)) (.var 1)) (.b2 .and (.b2 .le (.var 1) (.ofI (.vop (.len 3) (.cons (.opq 0) .nil)))) (.bapp 9 (.cons (.opq 1) (.cons (.opq 0) (.cons (.int .i64 (.var 1)) .nil)))))), (.i2 .sub (.ofI (.vop (.len 3) (.cons (.opq 0) .nil))) (.var 1)), 1, []⟩] (.agg (.cons .v (.cons .v (.cons (.o 86 (.cons (.int .i64) (.cons (.int .i64) (.cons .str .nil)))) .nil)))) zdc_give zdc_give.n 3000 = some give_tree := by kernel_rfl
theorem give_h (fst : Int) (l : Value) (nm : ByteArray) (hc : holds (zdE [fst] [] [l] [nm]) (.b2 .le (.ofI (.vop (.len 3) (.cons (.opq 0) .nil))) (.lit (4398046511103)))) (hty : patsTyp (zdE [fst] [] [l] [nm]) [(.agg (.cons (.str 0) (.cons (.int .i64 (.var 0)) (.cons (.hs .no (.cons (.int .i64) (.cons (.int .i64) (.cons .str .nil))) (.opq 0)) .nil))))]) : give_tree.holds (fun d => d = denV (zdE [fst] [] [l] [nm]) b0 (.agg (.cons (.str 0) (.cons (.int .i64 (.var 0)) (.cons (.hs (.new 86) (.cons (.int .i64) (.cons (.int .i64) (.cons .str .nil))) (.opq 0)) .nil))))) (zdE [fst] [] [l] [nm]) := by
  simp only [Tree.holds, Sy.holds, AllN, Env.more, zdE, List.cons_append, List.nil_append, List.append_nil, denV, denI, denB, denL, I2.den, VOp.den, List.getD_cons_zero, List.getD_cons_succ, Cst.den, syso, syse, syio, sybo, zdi_ixl, zdi_lst, zdi_chk, zdi_srch, zdi_ato, zdi_nxt, zdi_nxe, zdi_cn, zdi_ro, zdb_let, zdb_rok, zdb_zon, zdb_shr, zdb_pre, zdb_nm, zdb_shn, zdb_big, zdb_eqv, zdb_tk, zdv_atn, zdv_rn, List.map_nil, List.map_cons, B2.ofInts, B2.denI, B2.denB, if_true, Bool.false_eq_true, if_false, Nat.div_one, Nat.mul_one, Nat.add_zero, holds] at hc
  simp only [patsTyp, patTyp, patTypL, zdE, denV, denL, List.getD_cons_zero, List.getD_cons_succ, and_true, true_and] at hty
  have hL_l : typ (.sl (.cons (.int .i64) (.cons (.int .i64) (.cons .str .nil)))) l := by first | exact hty | exact hty.1 | exact hty.2 | exact hty.1.1 | exact hty.1.2 | exact hty.2.1 | exact hty.2.2 | exact hty.2.2.1 | exact hty.2.2.2
  have hN_l := typ_len (n := 3) hL_l rfl (by omega)
  unfold give_tree
  simp only [Tree.holds, Sy.holds, AllN, Env.more, zdE, List.cons_append, List.nil_append, List.append_nil, denV, denI, denB, denL, I2.den, VOp.den, List.getD_cons_zero, List.getD_cons_succ, Cst.den, syso, syse, syio, sybo, zdi_ixl, zdi_lst, zdi_chk, zdi_srch, zdi_ato, zdi_nxt, zdi_nxe, zdi_cn, zdi_ro, zdb_let, zdb_rok, zdb_zon, zdb_shr, zdb_pre, zdb_nm, zdb_shn, zdb_big, zdb_eqv, zdb_tk, zdv_atn, zdv_rn, List.map_nil, List.map_cons, B2.ofInts, B2.denI, B2.denB, if_true, Bool.false_eq_true, if_false, Nat.div_one, Nat.mul_one, Nat.add_zero]
  refine ⟨?_, ?_⟩
  ·
    exact ⟨by omega, by omega, eqV_iff.2 (by simp [tkV])⟩
  ·
    intro i0a i0b hi0
    refine ⟨fun h0 => ?_, fun h0 => ?_⟩
    ·
      refine ⟨?_, fun h1 => ?_⟩
      ·
        first
        | omega
        | (have hlen : (Sy.rows i0b).length = i0a.toNat * 3 := by
             rw [eqV_iff.1 hi0.2.2]
             simp only [tkV, rows_tup, List.length_take]
             omega
           omega)
      ·
        refine ⟨?_, fun h2 => ?_⟩
        ·
          first
          | omega
          | (have hlen : (Sy.rows i0b).length = i0a.toNat * 3 := by
               rw [eqV_iff.1 hi0.2.2]
               simp only [tkV, rows_tup, List.length_take]
               omega
             omega)
        ·
          have wf0 := wr_i64 (i0a + 1)
          refine ⟨?_, ?_⟩
          ·
            obtain ⟨hi1, hi2, hi3⟩ := hi0
            have e : IntKind.wrap .i64 (i0a + 1) = i0a + 1 := by omega
            rw [e, show (i0a + 1).toNat = i0a.toNat + 1 by omega]
            refine ⟨by omega, by omega, eqV_iff.2 ?_⟩
            obtain ⟨g1, g2, g3⟩ := typ_row hL_l (k := i0a.toNat) (by omega)
            rw [← g1, ← g2, ← g3, eqV_iff.1 hi3]
            simp only [tkV, rows_tup]
            rw [take3 (by omega)]
          ·
            omega
    ·
      obtain ⟨hi1, hi2, hi3⟩ := hi0
      rw [eqV_iff.1 hi3, typ_all hL_l (by omega)]
theorem zdg_give : zdc_give.Good Tryd.prog syG (zdE [] [] [] []) := good_of_walk (Γ := ⟨[], syG⟩) (ρ := zdE [] [] [] []) sym give_w rfl (fun _ _ _ _ => ok_nil) (fun fst l nm hc hty => give_h fst l nm hc hty)
def isz_tree : Tree :=
 (.br (.not (.veq (.str 0) (.str 1)))
 (.ret (.bool (.tt false)))
 (.br (.not (.b2 .eq (.var 0) (.var 1)))
 (.ret (.bool (.tt false)))
 (.br (.not (.b2 .eq (.ofI (.vop (.len 3) (.cons (.opq 0) .nil))) (.ofI (.vop (.len 3) (.cons (.opq 1) .nil)))))
 (.ret (.bool (.tt false)))
 (.loop ⟨1, 0, 0, 0⟩ (.b2 .and (.b2 .le (.lit (0)) (.lit (0))) (.b2 .le (.lit (0)) (.ofI (.vop (.len 3) (.cons (.opq 0) .nil))))) (.b2 .and (.b2 .le (.lit (0)) (.var 2)) (.b2 .le (.var 2) (.ofI (.vop (.len 3) (.cons (.opq 0) .nil)))))
 (.br (.b2 .lt (.var 2) (.ofI (.vop (.len 3) (.cons (.opq 0) .nil))))
 (.need (.b2 .and (.b2 .le (.lit (0)) (.var 2)) (.b2 .lt (.var 2) (.ofI (.vop (.len 3) (.cons (.opq 0) .nil)))))
 (.need (.b2 .and (.b2 .le (.lit (0)) (.var 2)) (.b2 .lt (.var 2) (.ofI (.vop (.len 3) (.cons (.opq 1) .nil)))))
 (.br (.not (.b2 .and (.b2 .eq (.ofI (.vop (.sel 3 0) (.cons (.opq 0) (.cons (.int .i64 (.var 2)) .nil)))) (.ofI (.vop (.sel 3 0) (.cons (.opq 1) (.cons (.int .i64 (.var 2)) .nil))))) (.b2 .and (.b2 .eq (.ofI (.vop (.sel 3 1) (.cons (.opq 0) (.cons (.int .i64 (.var 2)) .nil)))) (.ofI (.vop (.sel 3 1) (.cons (.opq 1) (.cons (.int .i64 (.var 2)) .nil))))) (.veq (.vop (.ssel 3 2) (.cons (.opq 0) (.cons (.int .i64 (.var 2)) .nil))) (.vop (.ssel 3 2) (.cons (.opq 1) (.cons (.int .i64 (.var 2)) .nil)))))))
 (.ret (.bool (.tt false)))
 (.back (.b2 .and (.b2 .le (.lit (0)) (.wrap .i64 (.i2 .add (.var 2) (.lit (1))))) (.b2 .le (.wrap .i64 (.i2 .add (.var 2) (.lit (1)))) (.ofI (.vop (.len 3) (.cons (.opq 0) .nil))))) (.i2 .sub (.ofI (.vop (.len 3) (.cons (.opq 0) .nil))) (.wrap .i64 (.i2 .add (.var 2) (.lit (1))))) (.i2 .sub (.ofI (.vop (.len 3) (.cons (.opq 0) .nil))) (.var 2))))))
 (.ret (.bool (.tt true))))))))
abbrev zdc_isz : Con := ⟨40, [(.agg (.cons (.str 0) (.cons (.int .i64 (.var 0)) (.cons (.hs .no (.cons (.int .i64) (.cons (.int .i64) (.cons .str .nil))) (.opq 0)) .nil)))), (.agg (.cons (.str 1) (.cons (.int .i64 (.var 1)) (.cons (.hs .no (.cons (.int .i64) (.cons (.int .i64) (.cons .str .nil))) (.opq 1)) .nil))))], (.b2 .and (.veq (.str 0) (.str 1)) (.b2 .and (.b2 .eq (.var 0) (.var 1)) (.bapp 8 (.cons (.opq 0) (.cons (.opq 1) .nil))))), (.bool (.tt true)), ⟨2, 0, 2, 2⟩, none⟩
theorem isz_w : walk Tryd.prog 108 ⟨[], syG⟩ [⟨0, ⟨1, 0, 0, 0⟩, [(5, (.int .i64 (.var 2)))], none, (.b2 .and (.b2 .le (.lit (0)) (.var 2)) (.b2 .le (.var 2) (.ofI (.vop (.len 3) (.cons (.opq 0) .nil))))), (.i2 .sub (.ofI (.vop (.len 3) (.cons (.opq 0) .nil))) (.var 2)), 0, []⟩] .v zdc_isz zdc_isz.n 3000 = some isz_tree := by kernel_rfl
theorem isz_h (fst : Int) (fst2 : Int) (l : Value) (l2 : Value) (nm : ByteArray) (nm2 : ByteArray) (hc : holds (zdE [fst, fst2] [] [l, l2] [nm, nm2]) (.b2 .and (.veq (.str 0) (.str 1)) (.b2 .and (.b2 .eq (.var 0) (.var 1)) (.bapp 8 (.cons (.opq 0) (.cons (.opq 1) .nil)))))) (hty : patsTyp (zdE [fst, fst2] [] [l, l2] [nm, nm2]) [(.agg (.cons (.str 0) (.cons (.int .i64 (.var 0)) (.cons (.hs .no (.cons (.int .i64) (.cons (.int .i64) (.cons .str .nil))) (.opq 0)) .nil)))), (.agg (.cons (.str 1) (.cons (.int .i64 (.var 1)) (.cons (.hs .no (.cons (.int .i64) (.cons (.int .i64) (.cons .str .nil))) (.opq 1)) .nil))))]) : isz_tree.holds (fun d => d = denV (zdE [fst, fst2] [] [l, l2] [nm, nm2]) b0 (.bool (.tt true))) (zdE [fst, fst2] [] [l, l2] [nm, nm2]) := by
  simp only [Tree.holds, Sy.holds, AllN, Env.more, zdE, List.cons_append, List.nil_append, List.append_nil, denV, denI, denB, denL, I2.den, VOp.den, List.getD_cons_zero, List.getD_cons_succ, Cst.den, syso, syse, syio, sybo, zdi_ixl, zdi_lst, zdi_chk, zdi_srch, zdi_ato, zdi_nxt, zdi_nxe, zdi_cn, zdi_ro, zdb_let, zdb_rok, zdb_zon, zdb_shr, zdb_pre, zdb_nm, zdb_shn, zdb_big, zdb_eqv, zdb_tk, zdv_atn, zdv_rn, List.map_nil, List.map_cons, B2.ofInts, B2.denI, B2.denB, if_true, Bool.false_eq_true, if_false, Nat.div_one, Nat.mul_one, Nat.add_zero, holds] at hc
  simp only [patsTyp, patTyp, patTypL, zdE, denV, denL, List.getD_cons_zero, List.getD_cons_succ, and_true, true_and] at hty
  have hL_l : typ (.sl (.cons (.int .i64) (.cons (.int .i64) (.cons .str .nil)))) l := by first | exact hty | exact hty.1 | exact hty.2 | exact hty.1.1 | exact hty.1.2 | exact hty.2.1 | exact hty.2.2 | exact hty.2.2.1 | exact hty.2.2.2
  have hN_l := typ_len (n := 3) hL_l rfl (by omega)
  have hL_l2 : typ (.sl (.cons (.int .i64) (.cons (.int .i64) (.cons .str .nil)))) l2 := by first | exact hty | exact hty.1 | exact hty.2 | exact hty.1.1 | exact hty.1.2 | exact hty.2.1 | exact hty.2.2 | exact hty.2.2.1 | exact hty.2.2.2
  have hN_l2 := typ_len (n := 3) hL_l2 rfl (by omega)
  unfold isz_tree
  simp only [Tree.holds, Sy.holds, AllN, Env.more, zdE, List.cons_append, List.nil_append, List.append_nil, denV, denI, denB, denL, I2.den, VOp.den, List.getD_cons_zero, List.getD_cons_succ, Cst.den, syso, syse, syio, sybo, zdi_ixl, zdi_lst, zdi_chk, zdi_srch, zdi_ato, zdi_nxt, zdi_nxe, zdi_cn, zdi_ro, zdb_let, zdb_rok, zdb_zon, zdb_shr, zdb_pre, zdb_nm, zdb_shn, zdb_big, zdb_eqv, zdb_tk, zdv_atn, zdv_rn, List.map_nil, List.map_cons, B2.ofInts, B2.denI, B2.denB, if_true, Bool.false_eq_true, if_false, Nat.div_one, Nat.mul_one, Nat.add_zero]
  obtain ⟨hc1, hc2, hc3⟩ := hc
  rw [ba_beq] at hc1
  rw [eqV_iff] at hc3
  subst hc1 hc2 hc3
  refine ⟨fun h0 => ?_, fun h0 => ?_⟩
  ·
    first
    | rfl
    | trivial
    | (exfalso
       simp only [not_true_eq_false, true_and, and_true, ba_beq] at *
       done)
  ·
    refine ⟨fun h1 => ?_, fun h1 => ?_⟩
    ·
      first
      | rfl
      | trivial
      | (exfalso
         simp only [not_true_eq_false, true_and, and_true, ba_beq] at *
         done)
    ·
      refine ⟨fun h2 => ?_, fun h2 => ?_⟩
      ·
        first
        | rfl
        | trivial
        | (exfalso
           simp only [not_true_eq_false, true_and, and_true, ba_beq] at *
           done)
      ·
        refine ⟨?_, ?_⟩
        ·
          exact ⟨by omega, by omega⟩
        ·
          intro i0a hi0
          refine ⟨fun h3 => ?_, fun h3 => ?_⟩
          ·
            refine ⟨?_, fun h4 => ?_⟩
            ·
              omega
            ·
              refine ⟨?_, fun h5 => ?_⟩
              ·
                omega
              ·
                refine ⟨fun h6 => ?_, fun h6 => ?_⟩
                ·
                  first
                  | rfl
                  | trivial
                  | (exfalso
                     simp only [not_true_eq_false, true_and, and_true, ba_beq] at *
                     done)
                ·
                  have wf0 := wr_i64 (i0a + 1)
                  refine ⟨?_, ?_⟩
                  ·
                    have e : IntKind.wrap .i64 (i0a + 1) = i0a + 1 := by omega
                    rw [e]
                    exact ⟨by omega, by omega⟩
                  ·
                    omega
          ·
            first
            | rfl
            | trivial
            | (exfalso
               simp only [not_true_eq_false, true_and, and_true, ba_beq] at *
               done)
theorem zdg_isz : zdc_isz.Good Tryd.prog syG (zdE [] [] [] []) := good_of_walk (Γ := ⟨[], syG⟩) (ρ := zdE [] [] [] []) sym isz_w rfl (fun _ _ _ _ => ok_nil) (fun fst fst2 l l2 nm nm2 hc hty => isz_h fst fst2 l l2 nm nm2 hc hty)
end Go.Proofs.YtehiienjodicpaaDoor
