/-
  Layer 10 behind the blobs: what the laws hand over.
-/
import Derived.Test.YtbgmbbkmadkhgaaDoorSycqb
import Derived.Test.YtbgmbbkmadkhgaaDoorZzcqb
import Derived.Test.YtbgmbbkmadkhgaaDoorNumqb
namespace Go.Proofs.YtbgmbbkmadkhgaaDoor
open Go.RowKit Go.Extern.Stop Go.Stop Go.Extern Go.Proofs.YtbgmbbkmadkhgaaDoor.Sy
set_option linter.unusedVariables false
set_option linter.unusedSimpArgs false
noncomputable def eqV (a b : Value) : Bool := @decide (a = b) (Classical.propDecidable _)
theorem eqV_iff {a b : Value} : eqV a b = true ↔ a = b := @decide_eq_true_iff _ (Classical.propDecidable _)
theorem zrows_tup (a : Array Value) : Sy.rows (.tuple a) = a.toList := rfl
def tkV (l : Value) (n : Nat) : Value := .tuple ((Sy.rows l).take (n * 3)).toArray
theorem typ_all {l : Value} (h : typ (.sl KR) l) {n : Nat} (hn : (Sy.rows l).length = n * 3) : tkV l n = l := by
  unfold tkV
  rw [← hn, List.take_length]
  exact h.1.symm
theorem typ_row {l : Value} (h : typ (.sl KR) l) {k : Nat} (hk : k < (Sy.rows l).length / 3) : (Sy.rows l).getD (k * 3) Go.undef = .int .i64 (Go.RowKit.intOf ((Sy.rows l).getD (k * 3) Go.undef)) ∧ (Sy.rows l).getD (k * 3 + 1) Go.undef = .int .i64 (Go.RowKit.intOf ((Sy.rows l).getD (k * 3 + 1) Go.undef)) ∧ (Sy.rows l).getD (k * 3 + 2) Go.undef = .string (strOf ((Sy.rows l).getD (k * 3 + 2) Go.undef)) := by
  obtain ⟨_, n, h1, h2, h3⟩ := h
  have : n = (Sy.rows l).length / 3 := by rw [h2]; exact (Nat.mul_div_cancel n (by decide)).symm
  obtain ⟨g1, g2, g3, _⟩ := h3 k (by omega)
  exact ⟨g1, g2, g3⟩
theorem take3 {l : List Value} {n : Nat} (h : n * 3 + 2 < l.length) : l.take ((n + 1) * 3) = l.take (n * 3) ++ [l.getD (n * 3) Go.undef, l.getD (n * 3 + 1) Go.undef, l.getD (n * 3 + 2) Go.undef] := by
  have e : ∀ k, k < l.length → l.take (k + 1) = l.take k ++ [l.getD k Go.undef] := fun k hk => by
    rw [List.take_add_one, List.getD_eq_getElem?_getD, List.getElem?_eq_getElem hk]; rfl
  rw [show (n + 1) * 3 = n * 3 + 1 + 1 + 1 by omega, e _ (by omega), e _ (by omega), e _ (by omega)]
  simp only [List.append_assoc, List.cons_append, List.nil_append]
theorem num10_any (n : Int) (w : World) (hg : w.cell? ⟨0, 0, none⟩ = some asHandle) : Calls Tryd.prog 47 #[errVal 203 n] w fun e w' => e = .returned (.int .i64 n) ∧ Below w.heap.size w w' := by
  unfold errVal
  split
  · rename_i h; subst h; exact num10_nil _
  · exact num10_err _ _ hg
noncomputable def zzdI : Nat → List Value → Int
  | i, l => zzcI i l
noncomputable def zzdB : Nat → List Value → Bool
  | 12, [x, y] => eqV x y
  | 13, [x, y, .int _ n] => eqV x (tkV y n.toNat)
  | i, l => zzcB i l
noncomputable def zzdV : Nat → List Value → Value
  | i, l => zzcV i l
noncomputable abbrev zzdE (iv : List Int) (bv : List Bool) (vv : List Value) (sv : List ByteArray) : Env := { iv := iv, bv := bv, vv := vv, sv := sv, fi := zzdI, fb := zzdB, fv := zzdV, et := 203 }
set_option maxHeartbeats 8000000 in
theorem zzdup : Agree 19 12 14 (zzcE [] [] [] []) (zzdE [] [] [] []) := ⟨rfl, (by
    intro f hf
    funext l
    show zzdI f l = zzcI f l
    unfold zzdI
    split <;> first | rfl | omega), (by
    intro f hf
    funext l
    show zzdB f l = zzcB f l
    unfold zzdB
    split <;> first | rfl | omega), (by
    intro f hf
    funext l
    show zzdV f l = zzcV f l
    unfold zzdV
    split <;> first | rfl | omega)⟩
theorem zzdb_eqv (x : Value) (y : Value) : zzdB 12 [x, y] = eqV x y := rfl
theorem zzdb_tk (x : Value) (y : Value) (k1 : IntKind) (n : Int) : zzdB 13 [x, y, .int k1 n] = eqV x (tkV y n.toNat) := rfl
abbrev zzdc_num : Con := ⟨47, [(.err v0_)], (.tt true), z0_, ⟨1, 0, 0, 0⟩, none⟩
theorem zzdg_num : zzdc_num.Good Tryd.prog syG (zzdE [] [] [] []) := good_flat rfl rfl rfl (by
  intro n hc β ok w hG
  have hc' := hc
  simp only [Tree.holds, Sy.holds, AllN, Env.more, zzdE, List.cons_append, List.nil_append, List.append_nil, denV, denI, denB, denL, I2.den, VOp.den, List.getD_cons_zero, List.getD_cons_succ, Cst.den, syso, syse, syio, sybo, List.map_nil, List.map_cons, B2.ofInts, B2.denI, B2.denB, if_true, Bool.false_eq_true, if_false, Nat.div_one, Nat.mul_one, Nat.add_zero, holds] at hc
  exact num10_any n w (hG _ (List.mem_singleton.2 rfl)).2.2)
def give_tree : Tree :=
 (.loop ⟨1, 0, 1, 0⟩ (an_ (le_ (.lit 0) (.lit 0)) (an_ (le_ (.lit 0) (.ofI (.vop (.len 3) (.cons o0_ .nil)))) (.bapp 13 (.cons (.tup .nil) (.cons o0_ (.cons (.int .i64 (.lit 0)) .nil)))))) (an_ (le_ (.lit 0) v1_) (an_ (le_ v1_ (.ofI (.vop (.len 3) (.cons o0_ .nil)))) (.bapp 13 (.cons o1_ (.cons o0_ (.cons z1_ .nil))))))
 (.br (lt_ v1_ (.ofI (.vop (.len 3) (.cons o0_ .nil))))
 (.need (an_ (le_ (.lit 0) v1_) (lt_ v1_ (.ofI (.vop (.len 3) (.cons o0_ .nil)))))
 (.need (le_ (ad_ (.ofI (.vop (.len 3) (.cons o1_ .nil))) (.lit 1)) (.lit 4398046511104))
 (.back (an_ (le_ (.lit 0) (wr_ (ad_ v1_ (.lit 1)))) (an_ (le_ (wr_ (ad_ v1_ (.lit 1))) (.ofI (.vop (.len 3) (.cons o0_ .nil)))) (.bapp 13 (.cons (.vop .cat (.cons o1_ (.cons (.tup (.cons (.int .i64 (.ofI (.vop (.sel 3 0) (.cons o0_ (.cons z1_ .nil))))) (.cons (.int .i64 (.ofI (.vop (.sel 3 1) (.cons o0_ (.cons z1_ .nil))))) (.cons (.vop (.ssel 3 2) (.cons o0_ (.cons z1_ .nil))) .nil)))) .nil))) (.cons o0_ (.cons (.int .i64 (wr_ (ad_ v1_ (.lit 1)))) .nil)))))) (sb_ (.ofI (.vop (.len 3) (.cons o0_ .nil))) (wr_ (ad_ v1_ (.lit 1)))) (sb_ (.ofI (.vop (.len 3) (.cons o0_ .nil))) v1_))))
 (.ret (.agg (.cons (.str 0) (.cons z0_ (.cons (.hs (.new 223) (.cons (.int .i64) (.cons (.int .i64) (.cons .str .nil))) o1_) .nil)))))))
abbrev zzdc_give : Con := ⟨43, [(.agg (.cons (.str 0) (.cons z0_ (.cons (.hs .no (.cons (.int .i64) (.cons (.int .i64) (.cons .str .nil))) o0_) .nil))))], (le_ (.ofI (.vop (.len 3) (.cons o0_ .nil))) (.lit 4398046511103)), (.agg (.cons (.str 0) (.cons z0_ (.cons (.hs (.new 223) (.cons (.int .i64) (.cons (.int .i64) (.cons .str .nil))) o0_) .nil)))), ⟨1, 0, 1, 1⟩, none⟩
theorem give_w : walk Tryd.prog 203 ⟨[], syG, [], [], []⟩ [⟨0, ⟨1, 0, 1, 0⟩, [(4, z1_)], some [[(.str 0), z0_, (.hs .no (.cons (.int .i64) (.cons (.int .i64) (.cons .str .nil))) o0_)], [(.cst (.strc [])), (.int .i64 (.lit 0)), (.cst .nilS)], [(.str 0), z0_, (.hs (.id 1000 223) (.cons (.int .i64) (.cons (.int .i64) (.cons .str .nil))) o1_)]], (an_ (le_ (.lit 0) v1_) (an_ (le_ v1_ (.ofI (.vop (.len 3) (.cons o0_ .nil)))) (.bapp 13 (.cons o1_ (.cons o0_ (.cons z1_ .nil)))))), (sb_ (.ofI (.vop (.len 3) (.cons o0_ .nil))) v1_), 1, []⟩] (.agg (.cons .v (.cons .v (.cons (.o 223 (.cons (.int .i64) (.cons (.int .i64) (.cons .str .nil)))) .nil)))) zzdc_give zzdc_give.n 3000 = some give_tree := by kernel_rfl
theorem give_h (fst : Int) (l : Value) (nm : ByteArray) (hc : holds (zzdE [fst] [] [l] [nm]) (le_ (.ofI (.vop (.len 3) (.cons o0_ .nil))) (.lit 4398046511103))) (hty : patsTyp (zzdE [fst] [] [l] [nm]) [(.agg (.cons (.str 0) (.cons z0_ (.cons (.hs .no (.cons (.int .i64) (.cons (.int .i64) (.cons .str .nil))) o0_) .nil))))]) : give_tree.holds (fun v_ => v_ = denV (zzdE [fst] [] [l] [nm]) b0 (.agg (.cons (.str 0) (.cons z0_ (.cons (.hs (.new 223) (.cons (.int .i64) (.cons (.int .i64) (.cons .str .nil))) o0_) .nil))))) (zzdE [fst] [] [l] [nm]) := by
  simp only [Tree.holds, Sy.holds, AllN, Env.more, zzdE, List.cons_append, List.nil_append, List.append_nil, denV, denI, denB, denL, I2.den, VOp.den, List.getD_cons_zero, List.getD_cons_succ, Cst.den, syso, syse, syio, sybo, List.map_nil, List.map_cons, B2.ofInts, B2.denI, B2.denB, if_true, Bool.false_eq_true, if_false, Nat.div_one, Nat.mul_one, Nat.add_zero, holds] at hc
  simp only [patsTyp, patTyp, patTypL, zzdE, denV, denL, List.getD_cons_zero, List.getD_cons_succ, and_true, true_and] at hty
  have hL_l : typ (.sl (.cons (.int .i64) (.cons (.int .i64) (.cons .str .nil)))) l := by first | exact hty | exact hty.1 | exact hty.2 | exact hty.1.1 | exact hty.1.2 | exact hty.2.1 | exact hty.2.2 | exact hty.2.2.1 | exact hty.2.2.2
  have hN_l := typ_len (n := 3) hL_l rfl (by omega)
  unfold give_tree
  simp only [Tree.holds, Sy.holds, AllN, Env.more, zzdE, List.cons_append, List.nil_append, List.append_nil, denV, denI, denB, denL, I2.den, VOp.den, List.getD_cons_zero, List.getD_cons_succ, Cst.den, syso, syse, syio, sybo, zzdb_tk, List.map_nil, List.map_cons, B2.ofInts, B2.denI, B2.denB, if_true, Bool.false_eq_true, if_false, Nat.div_one, Nat.mul_one, Nat.add_zero]
  refine ⟨?_, ?_⟩
  ·
   exact ⟨by omega, by omega, eqV_iff.2 (by simp [tkV])⟩
  ·
   intro i0a i0b hi0
   refine ⟨fun h0 => ?_, fun h0 => ?_⟩
   ·
    refine ⟨?_, fun h1 => ?_⟩
    ·
     first
     | omega
     | (have hlen : (Sy.rows i0b).length = i0a.toNat * 3 := by
          rw [eqV_iff.1 hi0.2.2]
          simp only [tkV, zrows_tup, List.length_take]
          omega
        omega)
    ·
     refine ⟨?_, fun h2 => ?_⟩
     ·
      first
      | omega
      | (have hlen : (Sy.rows i0b).length = i0a.toNat * 3 := by
           rw [eqV_iff.1 hi0.2.2]
           simp only [tkV, zrows_tup, List.length_take]
           omega
         omega)
     ·
      have wf0 := wr_i64 (i0a + 1)
      refine ⟨?_, ?_⟩
      ·
       obtain ⟨hi1, hi2, hi3⟩ := hi0
       have e : IntKind.wrap .i64 (i0a + 1) = i0a + 1 := by omega
       rw [e, show (i0a + 1).toNat = i0a.toNat + 1 by omega]
       refine ⟨by omega, by omega, eqV_iff.2 ?_⟩
       obtain ⟨g1, g2, g3⟩ := typ_row hL_l (k := i0a.toNat) (by omega)
       rw [← g1, ← g2, ← g3, eqV_iff.1 hi3]
       simp only [tkV, zrows_tup]
       rw [take3 (by omega)]
      ·
       omega
   ·
    obtain ⟨hi1, hi2, hi3⟩ := hi0
    rw [eqV_iff.1 hi3, typ_all hL_l (by omega)]
theorem zzdg_give : zzdc_give.Good Tryd.prog syG (zzdE [] [] [] []) := good_of_walk (Γ := ⟨[], syG, [], [], []⟩) (ρ := zzdE [] [] [] []) sym give_w rfl (fun _ _ _ _ => ok_nil) (fun fst l nm hc hty => give_h fst l nm hc hty)
def isz_tree : Tree :=
 (.br (.not (.veq (.str 0) (.str 1)))
 (.ret (.bool (.tt false)))
 (.br (.not (eq_ v0_ v1_))
 (.ret (.bool (.tt false)))
 (.br (.not (eq_ (.ofI (.vop (.len 3) (.cons o0_ .nil))) (.ofI (.vop (.len 3) (.cons o1_ .nil)))))
 (.ret (.bool (.tt false)))
 (.loop ⟨1, 0, 0, 0⟩ (an_ (le_ (.lit 0) (.lit 0)) (le_ (.lit 0) (.ofI (.vop (.len 3) (.cons o0_ .nil))))) (an_ (le_ (.lit 0) v2_) (le_ v2_ (.ofI (.vop (.len 3) (.cons o0_ .nil)))))
 (.br (lt_ v2_ (.ofI (.vop (.len 3) (.cons o0_ .nil))))
 (.need (an_ (le_ (.lit 0) v2_) (lt_ v2_ (.ofI (.vop (.len 3) (.cons o0_ .nil)))))
 (.need (an_ (le_ (.lit 0) v2_) (lt_ v2_ (.ofI (.vop (.len 3) (.cons o1_ .nil)))))
 (.br (.not (an_ (eq_ (.ofI (.vop (.sel 3 0) (.cons o0_ (.cons z2_ .nil)))) (.ofI (.vop (.sel 3 0) (.cons o1_ (.cons z2_ .nil))))) (an_ (eq_ (.ofI (.vop (.sel 3 1) (.cons o0_ (.cons z2_ .nil)))) (.ofI (.vop (.sel 3 1) (.cons o1_ (.cons z2_ .nil))))) (.veq (.vop (.ssel 3 2) (.cons o0_ (.cons z2_ .nil))) (.vop (.ssel 3 2) (.cons o1_ (.cons z2_ .nil)))))))
 (.ret (.bool (.tt false)))
 (.back (an_ (le_ (.lit 0) (wr_ (ad_ v2_ (.lit 1)))) (le_ (wr_ (ad_ v2_ (.lit 1))) (.ofI (.vop (.len 3) (.cons o0_ .nil))))) (sb_ (.ofI (.vop (.len 3) (.cons o0_ .nil))) (wr_ (ad_ v2_ (.lit 1)))) (sb_ (.ofI (.vop (.len 3) (.cons o0_ .nil))) v2_)))))
 (.ret (.bool (.tt true))))))))
abbrev zzdc_isz : Con := ⟨48, [(.agg (.cons (.str 0) (.cons z0_ (.cons (.hs .no (.cons (.int .i64) (.cons (.int .i64) (.cons .str .nil))) o0_) .nil)))), (.agg (.cons (.str 1) (.cons z1_ (.cons (.hs .no (.cons (.int .i64) (.cons (.int .i64) (.cons .str .nil))) o1_) .nil))))], (an_ (.veq (.str 0) (.str 1)) (an_ (eq_ v0_ v1_) (.bapp 12 (.cons o0_ (.cons o1_ .nil))))), (.bool (.tt true)), ⟨2, 0, 2, 2⟩, none⟩
theorem isz_w : walk Tryd.prog 203 ⟨[], syG, [], [], []⟩ [⟨0, ⟨1, 0, 0, 0⟩, [(5, z2_)], none, (an_ (le_ (.lit 0) v2_) (le_ v2_ (.ofI (.vop (.len 3) (.cons o0_ .nil))))), (sb_ (.ofI (.vop (.len 3) (.cons o0_ .nil))) v2_), 0, []⟩] .v zzdc_isz zzdc_isz.n 3000 = some isz_tree := by kernel_rfl
theorem isz_h (fst : Int) (fst2 : Int) (l : Value) (l2 : Value) (nm : ByteArray) (nm2 : ByteArray) (hc : holds (zzdE [fst, fst2] [] [l, l2] [nm, nm2]) (an_ (.veq (.str 0) (.str 1)) (an_ (eq_ v0_ v1_) (.bapp 12 (.cons o0_ (.cons o1_ .nil)))))) (hty : patsTyp (zzdE [fst, fst2] [] [l, l2] [nm, nm2]) [(.agg (.cons (.str 0) (.cons z0_ (.cons (.hs .no (.cons (.int .i64) (.cons (.int .i64) (.cons .str .nil))) o0_) .nil)))), (.agg (.cons (.str 1) (.cons z1_ (.cons (.hs .no (.cons (.int .i64) (.cons (.int .i64) (.cons .str .nil))) o1_) .nil))))]) : isz_tree.holds (fun v_ => v_ = denV (zzdE [fst, fst2] [] [l, l2] [nm, nm2]) b0 (.bool (.tt true))) (zzdE [fst, fst2] [] [l, l2] [nm, nm2]) := by
  simp only [Tree.holds, Sy.holds, AllN, Env.more, zzdE, List.cons_append, List.nil_append, List.append_nil, denV, denI, denB, denL, I2.den, VOp.den, List.getD_cons_zero, List.getD_cons_succ, Cst.den, syso, syse, syio, sybo, zzdb_eqv, List.map_nil, List.map_cons, B2.ofInts, B2.denI, B2.denB, if_true, Bool.false_eq_true, if_false, Nat.div_one, Nat.mul_one, Nat.add_zero, holds] at hc
  simp only [patsTyp, patTyp, patTypL, zzdE, denV, denL, List.getD_cons_zero, List.getD_cons_succ, and_true, true_and] at hty
  have hL_l : typ (.sl (.cons (.int .i64) (.cons (.int .i64) (.cons .str .nil)))) l := by first | exact hty | exact hty.1 | exact hty.2 | exact hty.1.1 | exact hty.1.2 | exact hty.2.1 | exact hty.2.2 | exact hty.2.2.1 | exact hty.2.2.2
  have hN_l := typ_len (n := 3) hL_l rfl (by omega)
  have hL_l2 : typ (.sl (.cons (.int .i64) (.cons (.int .i64) (.cons .str .nil)))) l2 := by first | exact hty | exact hty.1 | exact hty.2 | exact hty.1.1 | exact hty.1.2 | exact hty.2.1 | exact hty.2.2 | exact hty.2.2.1 | exact hty.2.2.2
  have hN_l2 := typ_len (n := 3) hL_l2 rfl (by omega)
  unfold isz_tree
  simp only [Tree.holds, Sy.holds, AllN, Env.more, zzdE, List.cons_append, List.nil_append, List.append_nil, denV, denI, denB, denL, I2.den, VOp.den, List.getD_cons_zero, List.getD_cons_succ, Cst.den, syso, syse, syio, sybo, List.map_nil, List.map_cons, B2.ofInts, B2.denI, B2.denB, if_true, Bool.false_eq_true, if_false, Nat.div_one, Nat.mul_one, Nat.add_zero]
  obtain ⟨hc1, hc2, hc3⟩ := hc
  rw [ba_beq] at hc1
  rw [eqV_iff] at hc3
  subst hc1 hc2 hc3
  refine ⟨fun h0 => ?_, fun h0 => ?_⟩
  ·
   first
   | rfl
   | trivial
   | (exfalso
      simp only [not_true_eq_false, true_and, and_true, ba_beq] at *
      done)
  ·
   refine ⟨fun h1 => ?_, fun h1 => ?_⟩
   ·
    first
    | rfl
    | trivial
    | (exfalso
       simp only [not_true_eq_false, true_and, and_true, ba_beq] at *
       done)
   ·
    refine ⟨fun h2 => ?_, fun h2 => ?_⟩
    ·
     first
     | rfl
     | trivial
     | (exfalso
        simp only [not_true_eq_false, true_and, and_true, ba_beq] at *
        done)
    ·
     refine ⟨?_, ?_⟩
     ·
      exact ⟨by omega, by omega⟩
     ·
      intro i0a hi0
      refine ⟨fun h3 => ?_, fun h3 => ?_⟩
      ·
       refine ⟨?_, fun h4 => ?_⟩
       ·
        omega
       ·
        refine ⟨?_, fun h5 => ?_⟩
        ·
         omega
        ·
         refine ⟨fun h6 => ?_, fun h6 => ?_⟩
         ·
          first
          | rfl
          | trivial
          | (exfalso
             simp only [not_true_eq_false, true_and, and_true, ba_beq] at *
             done)
         ·
          have wf0 := wr_i64 (i0a + 1)
          refine ⟨?_, ?_⟩
          ·
           have e : IntKind.wrap .i64 (i0a + 1) = i0a + 1 := by omega
           rw [e]
           exact ⟨by omega, by omega⟩
          ·
           omega
      ·
       first
       | rfl
       | trivial
       | (exfalso
          simp only [not_true_eq_false, true_and, and_true, ba_beq] at *
          done)
theorem zzdg_isz : zzdc_isz.Good Tryd.prog syG (zzdE [] [] [] []) := good_of_walk (Γ := ⟨[], syG, [], [], []⟩) (ρ := zzdE [] [] [] []) sym isz_w rfl (fun _ _ _ _ => ok_nil) (fun fst fst2 l l2 nm nm2 hc hty => isz_h fst fst2 l l2 nm nm2 hc hty)
end Go.Proofs.YtbgmbbkmadkhgaaDoor
