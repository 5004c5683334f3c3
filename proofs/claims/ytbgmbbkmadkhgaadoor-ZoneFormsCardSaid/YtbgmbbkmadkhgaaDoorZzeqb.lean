/-
  Layer 10 behind the blobs: sure.
-/
import Derived.Test.YtbgmbbkmadkhgaaDoorSycqb
import Derived.Test.YtbgmbbkmadkhgaaDoorZzdqb
namespace Go.Proofs.YtbgmbbkmadkhgaaDoor
open Go.RowKit Go.Extern.Stop Go.Stop Go.Extern Go.Proofs.YtbgmbbkmadkhgaaDoor.Sy
set_option linter.unusedVariables false
set_option linter.unusedSimpArgs false
abbrev rZ : ByteArray := { data := #[UInt8.ofNat 90] }
abbrev rS : ByteArray := { data := #[UInt8.ofNat 83] }
abbrev rR : List Value := Sy.rows (Value.tuple #[Value.int IntKind.i64 100, Value.int IntKind.i64 3600, Value.string { data := #[UInt8.ofNat 83] }])
theorem q10 : chkI rZ 0 rR = 0 ∧ nxtE rZ 0 rR 99 = 0 ∧ atO rZ 0 rR 99 = 0 ∧ atO rZ 0 rR 100 = 3600 ∧ nxtI rZ 0 rR 99 = 100 ∧ nxtE rZ 0 rR 100 = 6 := by decide
theorem q10s : atN rZ 0 rR 99 = rZ ∧ atN rZ 0 rR 100 = rS := by constructor <;> rfl
noncomputable def zzeI : Nat → List Value → Int
  | i, l => zzdI i l
noncomputable def zzeB : Nat → List Value → Bool
  | i, l => zzdB i l
noncomputable def zzeV : Nat → List Value → Value
  | i, l => zzdV i l
noncomputable abbrev zzeE (iv : List Int) (bv : List Bool) (vv : List Value) (sv : List ByteArray) : Env := { iv := iv, bv := bv, vv := vv, sv := sv, fi := zzeI, fb := zzeB, fv := zzeV, et := 203 }
set_option maxHeartbeats 8000000 in
theorem zzeup : Agree 19 14 14 (zzdE [] [] [] []) (zzeE [] [] [] []) := ⟨rfl, (by
    intro f hf
    funext l
    show zzeI f l = zzdI f l
    unfold zzeI
    split <;> first | rfl | omega), (by
    intro f hf
    funext l
    show zzeB f l = zzdB f l
    unfold zzeB
    split <;> first | rfl | omega), (by
    intro f hf
    funext l
    show zzeV f l = zzdV f l
    unfold zzeV
    split <;> first | rfl | omega)⟩
theorem zzei_chk (s : ByteArray) (k1 : IntKind) (f : Int) (l : Value) : zzeI 12 [.string s, .int k1 f, l] = chkI s f (rows l) := rfl
theorem zzei_ato (s : ByteArray) (k1 : IntKind) (f : Int) (l : Value) (k2 : IntKind) (d : Int) : zzeI 14 [.string s, .int k1 f, l, .int k2 d] = atO s f (rows l) d := rfl
theorem zzei_nxt (s : ByteArray) (k1 : IntKind) (f : Int) (l : Value) (k2 : IntKind) (d : Int) : zzeI 15 [.string s, .int k1 f, l, .int k2 d] = nxtI s f (rows l) d := rfl
theorem zzei_nxe (s : ByteArray) (k1 : IntKind) (f : Int) (l : Value) (k2 : IntKind) (d : Int) : zzeI 16 [.string s, .int k1 f, l, .int k2 d] = nxtE s f (rows l) d := rfl
theorem zzev_atn (s : ByteArray) (k1 : IntKind) (f : Int) (l : Value) (k2 : IntKind) (d : Int) : zzeV 12 [.string s, .int k1 f, l, .int k2 d] = .string (atN s f (rows l) d) := rfl
def sure10_tree : Tree :=
 (.br (eq_ (.iapp 12 (.cons (.cst (.strc [90])) (.cons (.int .i64 (.lit 0)) (.cons (.tup (.cons (.int .i64 (.lit 100)) (.cons (.int .i64 (.lit 3600)) (.cons (.cst (.strc [83])) .nil)))) .nil)))) (.lit 0))
 (.br (eq_ (.iapp 16 (.cons (.cst (.strc [90])) (.cons (.int .i64 (.lit 0)) (.cons (.tup (.cons (.int .i64 (.lit 100)) (.cons (.int .i64 (.lit 3600)) (.cons (.cst (.strc [83])) .nil)))) (.cons (.int .i64 (.lit 99)) .nil))))) (.lit 0))
 (.br (eq_ (.iapp 14 (.cons (.cst (.strc [90])) (.cons (.int .i64 (.lit 0)) (.cons (.tup (.cons (.int .i64 (.lit 100)) (.cons (.int .i64 (.lit 3600)) (.cons (.cst (.strc [83])) .nil)))) (.cons (.int .i64 (.lit 99)) .nil))))) (.lit 0))
 (.br (.veq (.sapp 12 (.cons (.cst (.strc [90])) (.cons (.int .i64 (.lit 0)) (.cons (.tup (.cons (.int .i64 (.lit 100)) (.cons (.int .i64 (.lit 3600)) (.cons (.cst (.strc [83])) .nil)))) (.cons (.int .i64 (.lit 99)) .nil))))) (.cst (.strc [90])))
 (.br (eq_ (.iapp 14 (.cons (.cst (.strc [90])) (.cons (.int .i64 (.lit 0)) (.cons (.tup (.cons (.int .i64 (.lit 100)) (.cons (.int .i64 (.lit 3600)) (.cons (.cst (.strc [83])) .nil)))) (.cons (.int .i64 (.lit 100)) .nil))))) (.lit 3600))
 (.br (.veq (.sapp 12 (.cons (.cst (.strc [90])) (.cons (.int .i64 (.lit 0)) (.cons (.tup (.cons (.int .i64 (.lit 100)) (.cons (.int .i64 (.lit 3600)) (.cons (.cst (.strc [83])) .nil)))) (.cons (.int .i64 (.lit 100)) .nil))))) (.cst (.strc [83])))
 (.br (eq_ (.iapp 15 (.cons (.cst (.strc [90])) (.cons (.int .i64 (.lit 0)) (.cons (.tup (.cons (.int .i64 (.lit 100)) (.cons (.int .i64 (.lit 3600)) (.cons (.cst (.strc [83])) .nil)))) (.cons (.int .i64 (.lit 99)) .nil))))) (.lit 100))
 (.ret (.bool (eq_ (.iapp 16 (.cons (.cst (.strc [90])) (.cons (.int .i64 (.lit 0)) (.cons (.tup (.cons (.int .i64 (.lit 100)) (.cons (.int .i64 (.lit 3600)) (.cons (.cst (.strc [83])) .nil)))) (.cons (.int .i64 (.lit 100)) .nil))))) (.lit 6))))
 (.ret (.bool (.tt false))))
 (.ret (.bool (.tt false))))
 (.ret (.bool (.tt false))))
 (.ret (.bool (.tt false))))
 (.ret (.bool (.tt false))))
 (.ret (.bool (.tt false))))
 (.ret (.bool (.tt false))))
abbrev zzec_sure10 : Con := ⟨41, [], (.tt true), (.bool (.tt true)), ⟨0, 0, 0, 0⟩, none⟩
theorem sure10_w : walk Tryd.prog 203 ⟨[zzbc_zat, zzbc_znx, zzdc_num], syG, [], [], []⟩ [] .v zzec_sure10 zzec_sure10.n 3000 = some sure10_tree := by kernel_rfl
theorem sure10_h  (hc : holds (zzeE [] [] [] []) (.tt true)) (hty : patsTyp (zzeE [] [] [] []) []) : sure10_tree.holds (fun v_ => v_ = denV (zzeE [] [] [] []) b0 (.bool (.tt true))) (zzeE [] [] [] []) := by
  simp only [Tree.holds, Sy.holds, AllN, Env.more, zzeE, List.cons_append, List.nil_append, List.append_nil, denV, denI, denB, denL, I2.den, VOp.den, List.getD_cons_zero, List.getD_cons_succ, Cst.den, syso, syse, syio, sybo, List.map_nil, List.map_cons, B2.ofInts, B2.denI, B2.denB, if_true, Bool.false_eq_true, if_false, Nat.div_one, Nat.mul_one, Nat.add_zero, holds] at hc
  simp only [patsTyp, patTyp, patTypL, zzeE, denV, denL, List.getD_cons_zero, List.getD_cons_succ, and_true, true_and] at hty
  unfold sure10_tree
  simp only [Tree.holds, Sy.holds, AllN, Env.more, zzeE, List.cons_append, List.nil_append, List.append_nil, denV, denI, denB, denL, I2.den, VOp.den, List.getD_cons_zero, List.getD_cons_succ, Cst.den, syso, syse, syio, sybo, zzei_chk, zzei_ato, zzei_nxt, zzei_nxe, zzev_atn, List.map_nil, List.map_cons, B2.ofInts, B2.denI, B2.denB, if_true, Bool.false_eq_true, if_false, Nat.div_one, Nat.mul_one, Nat.add_zero]
  obtain ⟨q1, q2, q3, q4, q5, q6⟩ := q10
  have q7 := ba_beq.2 q10s.1
  have q8 := ba_beq.2 q10s.2
  refine ⟨fun h0 => ?_, fun h0 => ?_⟩
  ·
   refine ⟨fun h1 => ?_, fun h1 => ?_⟩
   ·
    refine ⟨fun h2 => ?_, fun h2 => ?_⟩
    ·
     refine ⟨fun h3 => ?_, fun h3 => ?_⟩
     ·
      refine ⟨fun h4 => ?_, fun h4 => ?_⟩
      ·
       refine ⟨fun h5 => ?_, fun h5 => ?_⟩
       ·
        refine ⟨fun h6 => ?_, fun h6 => ?_⟩
        ·
         first | exact absurd q1 h0 | exact absurd q2 h1 | exact absurd q3 h2 | exact absurd q7 h3 | exact absurd q4 h4 | exact absurd q8 h5 | exact absurd q5 h6 | (rw [q6]; rfl)
        ·
         first | exact absurd q1 h0 | exact absurd q2 h1 | exact absurd q3 h2 | exact absurd q7 h3 | exact absurd q4 h4 | exact absurd q8 h5 | exact absurd q5 h6 | (rw [q6]; rfl)
       ·
        first | exact absurd q1 h0 | exact absurd q2 h1 | exact absurd q3 h2 | exact absurd q7 h3 | exact absurd q4 h4 | exact absurd q8 h5 | exact absurd q5 h6 | (rw [q6]; rfl)
      ·
       first | exact absurd q1 h0 | exact absurd q2 h1 | exact absurd q3 h2 | exact absurd q7 h3 | exact absurd q4 h4 | exact absurd q8 h5 | exact absurd q5 h6 | (rw [q6]; rfl)
     ·
      first | exact absurd q1 h0 | exact absurd q2 h1 | exact absurd q3 h2 | exact absurd q7 h3 | exact absurd q4 h4 | exact absurd q8 h5 | exact absurd q5 h6 | (rw [q6]; rfl)
    ·
     first | exact absurd q1 h0 | exact absurd q2 h1 | exact absurd q3 h2 | exact absurd q7 h3 | exact absurd q4 h4 | exact absurd q8 h5 | exact absurd q5 h6 | (rw [q6]; rfl)
   ·
    first | exact absurd q1 h0 | exact absurd q2 h1 | exact absurd q3 h2 | exact absurd q7 h3 | exact absurd q4 h4 | exact absurd q8 h5 | exact absurd q5 h6 | (rw [q6]; rfl)
  ·
   first | exact absurd q1 h0 | exact absurd q2 h1 | exact absurd q3 h2 | exact absurd q7 h3 | exact absurd q4 h4 | exact absurd q8 h5 | exact absurd q5 h6 | (rw [q6]; rfl)
theorem zzeg_sure10 : zzec_sure10.Good Tryd.prog syG (zzeE [] [] [] []) := good_of_walk (Γ := ⟨[zzbc_zat, zzbc_znx, zzdc_num], syG, [], [], []⟩) (ρ := zzeE [] [] [] []) sym sure10_w rfl (fun _ _ _ _ => (ok_cons (Con.Good.env (Con.Good.up (Con.Good.up (Con.Good.up zzbg_zat zzcup rfl) zzdup rfl) zzeup rfl) _ _ _ _) (ok_cons (Con.Good.env (Con.Good.up (Con.Good.up (Con.Good.up zzbg_znx zzcup rfl) zzdup rfl) zzeup rfl) _ _ _ _) (ok_cons (Con.Good.env (Con.Good.up zzdg_num zzeup rfl) _ _ _ _) ok_nil)))) (fun hc hty => sure10_h  hc hty)
end Go.Proofs.YtbgmbbkmadkhgaaDoor
