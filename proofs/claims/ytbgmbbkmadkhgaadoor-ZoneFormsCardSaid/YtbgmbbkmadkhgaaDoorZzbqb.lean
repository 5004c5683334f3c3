/-
  Layer 10 behind the blobs: At and Next.
-/
import Derived.Test.YtbgmbbkmadkhgaaDoorSycqb
import Derived.Test.YtbgmbbkmadkhgaaDoorZtqb
import Derived.Test.YtbgmbbkmadkhgaaDoorZzsqb
namespace Go.Proofs.YtbgmbbkmadkhgaaDoor
open Go.RowKit Go.Extern.Stop Go.Stop Go.Extern Go.Proofs.YtbgmbbkmadkhgaaDoor.Sy
set_option linter.unusedVariables false
set_option linter.unusedSimpArgs false
def atO (s : ByteArray) (f : Int) (l : List Value) (d : Int) : Int := if zoneB s f l then (if srchN l d = 0 then f else Go.RowKit.intOf (l.getD ((srchN l d - 1) * 3 + 1) Go.undef)) else 0
def atN (s : ByteArray) (f : Int) (l : List Value) (d : Int) : ByteArray := if zoneB s f l then (if srchN l d = 0 then s else strOf (l.getD ((srchN l d - 1) * 3 + 2) Go.undef)) else ⟨#[]⟩
def nxtI (s : ByteArray) (f : Int) (l : List Value) (d : Int) : Int := if zoneB s f l then (if srchN l d = l.length / 3 then 0 else Go.RowKit.intOf (l.getD (srchN l d * 3) Go.undef)) else 0
def nxtE (s : ByteArray) (f : Int) (l : List Value) (d : Int) : Int := if zoneB s f l then (if srchN l d = l.length / 3 then 6 else 0) else 1
theorem chk_good {s : ByteArray} {f : Int} {l : List Value} (h : ¬ ¬ chkI s f l = 0) : zoneB s f l = true := by
  cases hz : zoneB s f l with
  | true => rfl
  | false => simp [chkI, hz] at h
theorem chk_bad {s : ByteArray} {f : Int} {l : List Value} (h : ¬ chkI s f l = 0) : zoneB s f l = false := by
  cases hz : zoneB s f l with
  | false => rfl
  | true => simp [chkI, hz] at h
theorem srch_le (l : List Value) (d : Int) : srchN l d ≤ l.length / 3 := by
  unfold srchN
  exact Nat.le_trans List.countP_le_length (by simp)
noncomputable def zzbI : Nat → List Value → Int
  | 13, [l, .int _ d] => ((srchN (rows l) d : Nat) : Int)
  | 14, [.string s, .int _ f, l, .int _ d] => atO s f (rows l) d
  | 15, [.string s, .int _ f, l, .int _ d] => nxtI s f (rows l) d
  | 16, [.string s, .int _ f, l, .int _ d] => nxtE s f (rows l) d
  | i, l => ztI i l
noncomputable def zzbB : Nat → List Value → Bool
  | i, l => ztB i l
noncomputable def zzbV : Nat → List Value → Value
  | 12, [.string s, .int _ f, l, .int _ d] => .string (atN s f (rows l) d)
  | i, l => ztV i l
noncomputable abbrev zzbE (iv : List Int) (bv : List Bool) (vv : List Value) (sv : List ByteArray) : Env := { iv := iv, bv := bv, vv := vv, sv := sv, fi := zzbI, fb := zzbB, fv := zzbV, et := 203 }
set_option maxHeartbeats 8000000 in
theorem zzbup : Agree 13 10 12 (ztE [] [] [] []) (zzbE [] [] [] []) := ⟨rfl, (by
    intro f hf
    funext l
    show zzbI f l = ztI f l
    unfold zzbI
    split <;> first | rfl | omega), (by
    intro f hf
    funext l
    show zzbB f l = ztB f l
    unfold zzbB
    split <;> first | rfl | omega), (by
    intro f hf
    funext l
    show zzbV f l = ztV f l
    unfold zzbV
    split <;> first | rfl | omega)⟩
theorem zzbi_chk (s : ByteArray) (k1 : IntKind) (f : Int) (l : Value) : zzbI 12 [.string s, .int k1 f, l] = chkI s f (rows l) := rfl
theorem zzbi_srch (l : Value) (k1 : IntKind) (d : Int) : zzbI 13 [l, .int k1 d] = ((srchN (rows l) d : Nat) : Int) := rfl
theorem zzbi_ato (s : ByteArray) (k1 : IntKind) (f : Int) (l : Value) (k2 : IntKind) (d : Int) : zzbI 14 [.string s, .int k1 f, l, .int k2 d] = atO s f (rows l) d := rfl
theorem zzbi_nxt (s : ByteArray) (k1 : IntKind) (f : Int) (l : Value) (k2 : IntKind) (d : Int) : zzbI 15 [.string s, .int k1 f, l, .int k2 d] = nxtI s f (rows l) d := rfl
theorem zzbi_nxe (s : ByteArray) (k1 : IntKind) (f : Int) (l : Value) (k2 : IntKind) (d : Int) : zzbI 16 [.string s, .int k1 f, l, .int k2 d] = nxtE s f (rows l) d := rfl
theorem zzbb_rok (l : Value) (k1 : IntKind) (n : Int) : zzbB 4 [l, .int k1 n] = zkR (rows l) n.toNat := rfl
theorem zzbv_atn (s : ByteArray) (k1 : IntKind) (f : Int) (l : Value) (k2 : IntKind) (d : Int) : zzbV 12 [.string s, .int k1 f, l, .int k2 d] = .string (atN s f (rows l) d) := rfl
abbrev zzbc_behind : Con := ⟨205, [(.agg (.cons (.str 0) (.cons z0_ (.cons (.hs .no (.cons (.int .i64) (.cons (.int .i64) (.cons .str .nil))) o0_) .nil)))), z1_], (.bapp 4 (.cons o0_ (.cons (.int .i64 (.ofI (.vop (.len 3) (.cons o0_ .nil)))) .nil))), (.int .i64 (.iapp 13 (.cons o0_ (.cons z1_ .nil)))), ⟨2, 0, 1, 1⟩, none⟩
theorem zzbg_behind : zzbc_behind.Good Tryd.prog syG (zzbE [] [] [] []) := by
  refine good_below rfl rfl ?_
  intro fst sec l nm hc β ok w xs hx
  cases xs with
  | nil => exact hx.elim
  | cons a xs =>
  cases xs with
  | nil => exact hx.2.elim
  | cons s xs =>
  cases xs with
  | cons _ _ => exact hx.2.2.elim
  | nil =>
  obtain ⟨⟨vs, rfl, hv⟩, hs, _⟩ := hx
  cases vs with
  | nil => exact hv.elim
  | cons x0 vs =>
  cases vs with
  | nil => exact hv.2.elim
  | cons x1 vs =>
  cases vs with
  | nil => exact hv.2.2.elim
  | cons x2 vs =>
  obtain ⟨h0, h1, h2, h3⟩ := hv
  obtain rfl : vs = [] := h3
  obtain rfl : x0 = .string nm := h0
  obtain rfl : x1 = .int .i64 fst := h1
  obtain rfl : s = .int .i64 sec := hs
  exact behind_c w ok nm fst sec x2 l h2.1 hc
def zat_tree : Tree :=
 (.br (.not (eq_ (.iapp 12 (.cons (.str 0) (.cons z0_ (.cons o0_ .nil)))) (.lit 0)))
 (.ret (.tup (.cons (.int .i64 (.lit 0)) (.cons (.cst (.strc [])) (.cons (.err (.iapp 12 (.cons (.str 0) (.cons z0_ (.cons o0_ .nil))))) .nil)))))
 (.need (.bapp 4 (.cons o0_ (.cons (.int .i64 (.ofI (.vop (.len 3) (.cons o0_ .nil)))) .nil)))
 (.br (eq_ (.iapp 13 (.cons o0_ (.cons z1_ .nil))) (.lit 0))
 (.ret (.tup (.cons z0_ (.cons (.str 0) (.cons (.cst .nilI) .nil)))))
 (.need (an_ (le_ (.lit 0) (wr_ (sb_ (.iapp 13 (.cons o0_ (.cons z1_ .nil))) (.lit 1)))) (lt_ (wr_ (sb_ (.iapp 13 (.cons o0_ (.cons z1_ .nil))) (.lit 1))) (.ofI (.vop (.len 3) (.cons o0_ .nil)))))
 (.need (an_ (le_ (.lit 0) (wr_ (sb_ (.iapp 13 (.cons o0_ (.cons z1_ .nil))) (.lit 1)))) (lt_ (wr_ (sb_ (.iapp 13 (.cons o0_ (.cons z1_ .nil))) (.lit 1))) (.ofI (.vop (.len 3) (.cons o0_ .nil)))))
 (.ret (.tup (.cons (.int .i64 (.ofI (.vop (.sel 3 1) (.cons o0_ (.cons (.int .i64 (wr_ (sb_ (.iapp 13 (.cons o0_ (.cons z1_ .nil))) (.lit 1)))) .nil))))) (.cons (.vop (.ssel 3 2) (.cons o0_ (.cons (.int .i64 (wr_ (sb_ (.iapp 13 (.cons o0_ (.cons z1_ .nil))) (.lit 1)))) .nil))) (.cons (.cst .nilI) .nil))))))))))
abbrev zzbc_zat : Con := ⟨130, [(.agg (.cons (.str 0) (.cons z0_ (.cons (.hs .no (.cons (.int .i64) (.cons (.int .i64) (.cons .str .nil))) o0_) .nil)))), z1_], (.tt true), (.tup (.cons (.int .i64 (.iapp 14 (.cons (.str 0) (.cons z0_ (.cons o0_ (.cons z1_ .nil)))))) (.cons (.sapp 12 (.cons (.str 0) (.cons z0_ (.cons o0_ (.cons z1_ .nil))))) (.cons (.err (.iapp 12 (.cons (.str 0) (.cons z0_ (.cons o0_ .nil))))) .nil)))), ⟨2, 0, 1, 1⟩, none⟩
theorem zat_w : walk Tryd.prog 203 ⟨[zzc_zck, zzbc_behind], syG, [], [], []⟩ [] .v zzbc_zat zzbc_zat.n 3000 = some zat_tree := by kernel_rfl
theorem zat_h (fst : Int) (sec : Int) (l : Value) (nm : ByteArray) (hc : holds (zzbE [fst, sec] [] [l] [nm]) (.tt true)) (hty : patsTyp (zzbE [fst, sec] [] [l] [nm]) [(.agg (.cons (.str 0) (.cons z0_ (.cons (.hs .no (.cons (.int .i64) (.cons (.int .i64) (.cons .str .nil))) o0_) .nil)))), z1_]) : zat_tree.holds (fun v_ => v_ = denV (zzbE [fst, sec] [] [l] [nm]) b0 (.tup (.cons (.int .i64 (.iapp 14 (.cons (.str 0) (.cons z0_ (.cons o0_ (.cons z1_ .nil)))))) (.cons (.sapp 12 (.cons (.str 0) (.cons z0_ (.cons o0_ (.cons z1_ .nil))))) (.cons (.err (.iapp 12 (.cons (.str 0) (.cons z0_ (.cons o0_ .nil))))) .nil))))) (zzbE [fst, sec] [] [l] [nm]) := by
  simp only [Tree.holds, Sy.holds, AllN, Env.more, zzbE, List.cons_append, List.nil_append, List.append_nil, denV, denI, denB, denL, I2.den, VOp.den, List.getD_cons_zero, List.getD_cons_succ, Cst.den, syso, syse, syio, sybo, List.map_nil, List.map_cons, B2.ofInts, B2.denI, B2.denB, if_true, Bool.false_eq_true, if_false, Nat.div_one, Nat.mul_one, Nat.add_zero, holds] at hc
  simp only [patsTyp, patTyp, patTypL, zzbE, denV, denL, List.getD_cons_zero, List.getD_cons_succ, and_true, true_and] at hty
  have hL_l : typ (.sl (.cons (.int .i64) (.cons (.int .i64) (.cons .str .nil)))) l := by first | exact hty | exact hty.1 | exact hty.2 | exact hty.1.1 | exact hty.1.2 | exact hty.2.1 | exact hty.2.2 | exact hty.2.2.1 | exact hty.2.2.2
  have hN_l := typ_len (n := 3) hL_l rfl (by omega)
  unfold zat_tree
  simp only [Tree.holds, Sy.holds, AllN, Env.more, zzbE, List.cons_append, List.nil_append, List.append_nil, denV, denI, denB, denL, I2.den, VOp.den, List.getD_cons_zero, List.getD_cons_succ, Cst.den, syso, syse, syio, sybo, zzbi_chk, zzbi_srch, zzbi_ato, zzbb_rok, zzbv_atn, List.map_nil, List.map_cons, B2.ofInts, B2.denI, B2.denB, if_true, Bool.false_eq_true, if_false, Nat.div_one, Nat.mul_one, Nat.add_zero]
  refine ⟨fun h0 => ?_, fun h0 => ?_⟩
  ·
   have hle := srch_le (Sy.rows l) sec
   first
   | (have hz := chk_bad h0
      simp only [atO, atN, hz, Bool.false_eq_true, if_false]
      done)
   | (have hz := chk_good h0
      have hk := chk_yes hz
      have e0 : srchN (Sy.rows l) sec = 0 := by omega
      simp only [atO, atN, hz, if_true, e0, hk]
      rfl)
   | (have hz := chk_good h0
      have hk := chk_yes hz
      have e0 : ¬ srchN (Sy.rows l) sec = 0 := by omega
      have e : IntKind.wrap .i64 ((srchN (Sy.rows l) sec : Int) - 1) = (srchN (Sy.rows l) sec : Int) - 1 := by omega
      have e2 : ((srchN (Sy.rows l) sec : Int) - 1).toNat = srchN (Sy.rows l) sec - 1 := by omega
      simp only [atO, atN, hz, if_true, if_neg e0, hk, e, e2]
      rfl)
  ·
   refine ⟨?_, fun h1 => ?_⟩
   ·
    have hle := srch_le (Sy.rows l) sec
    first
    | omega
    | exact ((zone_iff _ _ _).1 (chk_good h0)).2.2.2
   ·
    refine ⟨fun h2 => ?_, fun h2 => ?_⟩
    ·
     have hle := srch_le (Sy.rows l) sec
     first
     | (have hz := chk_bad h0
        simp only [atO, atN, hz, Bool.false_eq_true, if_false]
        done)
     | (have hz := chk_good h0
        have hk := chk_yes hz
        have e0 : srchN (Sy.rows l) sec = 0 := by omega
        simp only [atO, atN, hz, if_true, e0, hk]
        rfl)
     | (have hz := chk_good h0
        have hk := chk_yes hz
        have e0 : ¬ srchN (Sy.rows l) sec = 0 := by omega
        have e : IntKind.wrap .i64 ((srchN (Sy.rows l) sec : Int) - 1) = (srchN (Sy.rows l) sec : Int) - 1 := by omega
        have e2 : ((srchN (Sy.rows l) sec : Int) - 1).toNat = srchN (Sy.rows l) sec - 1 := by omega
        simp only [atO, atN, hz, if_true, if_neg e0, hk, e, e2]
        rfl)
    ·
     have wf0 := wr_i64 ((((srchN (rows l) sec : Nat) : Int)) - 1)
     refine ⟨?_, fun h3 => ?_⟩
     ·
      have hle := srch_le (Sy.rows l) sec
      first
      | omega
      | exact ((zone_iff _ _ _).1 (chk_good h0)).2.2.2
     ·
      refine ⟨?_, fun h4 => ?_⟩
      ·
       have hle := srch_le (Sy.rows l) sec
       first
       | omega
       | exact ((zone_iff _ _ _).1 (chk_good h0)).2.2.2
      ·
       try simp only [hw0]
       have hle := srch_le (Sy.rows l) sec
       first
       | (have hz := chk_bad h0
          simp only [atO, atN, hz, Bool.false_eq_true, if_false]
          done)
       | (have hz := chk_good h0
          have hk := chk_yes hz
          have e0 : srchN (Sy.rows l) sec = 0 := by omega
          simp only [atO, atN, hz, if_true, e0, hk]
          rfl)
       | (have hz := chk_good h0
          have hk := chk_yes hz
          have e0 : ¬ srchN (Sy.rows l) sec = 0 := by omega
          have e : IntKind.wrap .i64 ((srchN (Sy.rows l) sec : Int) - 1) = (srchN (Sy.rows l) sec : Int) - 1 := by omega
          have e2 : ((srchN (Sy.rows l) sec : Int) - 1).toNat = srchN (Sy.rows l) sec - 1 := by omega
          simp only [atO, atN, hz, if_true, if_neg e0, hk, e, e2]
          rfl)
theorem zzbg_zat : zzbc_zat.Good Tryd.prog syG (zzbE [] [] [] []) := good_of_walk (Γ := ⟨[zzc_zck, zzbc_behind], syG, [], [], []⟩) (ρ := zzbE [] [] [] []) sym zat_w rfl (fun _ _ _ _ => (ok_cons (Con.Good.env (Con.Good.up (Con.Good.up zzg_zck ztup rfl) zzbup rfl) _ _ _ _) (ok_cons (Con.Good.env zzbg_behind _ _ _ _) ok_nil))) (fun fst sec l nm hc hty => zat_h fst sec l nm hc hty)
def znx_tree : Tree :=
 (.br (.not (eq_ (.iapp 12 (.cons (.str 0) (.cons z0_ (.cons o0_ .nil)))) (.lit 0)))
 (.ret (.tup (.cons (.int .i64 (.lit 0)) (.cons (.err (.iapp 12 (.cons (.str 0) (.cons z0_ (.cons o0_ .nil))))) .nil))))
 (.need (.bapp 4 (.cons o0_ (.cons (.int .i64 (.ofI (.vop (.len 3) (.cons o0_ .nil)))) .nil)))
 (.br (eq_ (.iapp 13 (.cons o0_ (.cons z1_ .nil))) (.ofI (.vop (.len 3) (.cons o0_ .nil))))
 (.ret (.tup (.cons (.int .i64 (.lit 0)) (.cons (.iface 203 (.int .i64 (.lit 6))) .nil))))
 (.need (an_ (le_ (.lit 0) (.iapp 13 (.cons o0_ (.cons z1_ .nil)))) (lt_ (.iapp 13 (.cons o0_ (.cons z1_ .nil))) (.ofI (.vop (.len 3) (.cons o0_ .nil)))))
 (.ret (.tup (.cons (.int .i64 (.ofI (.vop (.sel 3 0) (.cons o0_ (.cons (.int .i64 (.iapp 13 (.cons o0_ (.cons z1_ .nil)))) .nil))))) (.cons (.cst .nilI) .nil))))))))
abbrev zzbc_znx : Con := ⟨131, [(.agg (.cons (.str 0) (.cons z0_ (.cons (.hs .no (.cons (.int .i64) (.cons (.int .i64) (.cons .str .nil))) o0_) .nil)))), z1_], (.tt true), (.tup (.cons (.int .i64 (.iapp 15 (.cons (.str 0) (.cons z0_ (.cons o0_ (.cons z1_ .nil)))))) (.cons (.err (.iapp 16 (.cons (.str 0) (.cons z0_ (.cons o0_ (.cons z1_ .nil)))))) .nil))), ⟨2, 0, 1, 1⟩, none⟩
theorem znx_w : walk Tryd.prog 203 ⟨[zzc_zck, zzbc_behind], syG, [], [], []⟩ [] .v zzbc_znx zzbc_znx.n 3000 = some znx_tree := by kernel_rfl
theorem znx_h (fst : Int) (sec : Int) (l : Value) (nm : ByteArray) (hc : holds (zzbE [fst, sec] [] [l] [nm]) (.tt true)) (hty : patsTyp (zzbE [fst, sec] [] [l] [nm]) [(.agg (.cons (.str 0) (.cons z0_ (.cons (.hs .no (.cons (.int .i64) (.cons (.int .i64) (.cons .str .nil))) o0_) .nil)))), z1_]) : znx_tree.holds (fun v_ => v_ = denV (zzbE [fst, sec] [] [l] [nm]) b0 (.tup (.cons (.int .i64 (.iapp 15 (.cons (.str 0) (.cons z0_ (.cons o0_ (.cons z1_ .nil)))))) (.cons (.err (.iapp 16 (.cons (.str 0) (.cons z0_ (.cons o0_ (.cons z1_ .nil)))))) .nil)))) (zzbE [fst, sec] [] [l] [nm]) := by
  simp only [Tree.holds, Sy.holds, AllN, Env.more, zzbE, List.cons_append, List.nil_append, List.append_nil, denV, denI, denB, denL, I2.den, VOp.den, List.getD_cons_zero, List.getD_cons_succ, Cst.den, syso, syse, syio, sybo, List.map_nil, List.map_cons, B2.ofInts, B2.denI, B2.denB, if_true, Bool.false_eq_true, if_false, Nat.div_one, Nat.mul_one, Nat.add_zero, holds] at hc
  simp only [patsTyp, patTyp, patTypL, zzbE, denV, denL, List.getD_cons_zero, List.getD_cons_succ, and_true, true_and] at hty
  have hL_l : typ (.sl (.cons (.int .i64) (.cons (.int .i64) (.cons .str .nil)))) l := by first | exact hty | exact hty.1 | exact hty.2 | exact hty.1.1 | exact hty.1.2 | exact hty.2.1 | exact hty.2.2 | exact hty.2.2.1 | exact hty.2.2.2
  have hN_l := typ_len (n := 3) hL_l rfl (by omega)
  unfold znx_tree
  simp only [Tree.holds, Sy.holds, AllN, Env.more, zzbE, List.cons_append, List.nil_append, List.append_nil, denV, denI, denB, denL, I2.den, VOp.den, List.getD_cons_zero, List.getD_cons_succ, Cst.den, syso, syse, syio, sybo, zzbi_chk, zzbi_srch, zzbi_nxt, zzbi_nxe, zzbb_rok, List.map_nil, List.map_cons, B2.ofInts, B2.denI, B2.denB, if_true, Bool.false_eq_true, if_false, Nat.div_one, Nat.mul_one, Nat.add_zero]
  refine ⟨fun h0 => ?_, fun h0 => ?_⟩
  ·
   have hle := srch_le (Sy.rows l) sec
   first
   | (have hz := chk_bad h0
      simp only [nxtI, nxtE, chkI, hz, Bool.false_eq_true, if_false]
      done)
   | (have hz := chk_good h0
      have e0 : srchN (Sy.rows l) sec = (Sy.rows l).length / 3 := by omega
      simp only [nxtI, nxtE, hz, if_true, e0]
      rfl)
   | (have hz := chk_good h0
      have e0 : ¬ srchN (Sy.rows l) sec = (Sy.rows l).length / 3 := by omega
      simp only [nxtI, nxtE, hz, if_true, if_neg e0, Int.toNat_natCast]
      rfl)
  ·
   refine ⟨?_, fun h1 => ?_⟩
   ·
    have hle := srch_le (Sy.rows l) sec
    first
    | omega
    | exact ((zone_iff _ _ _).1 (chk_good h0)).2.2.2
   ·
    refine ⟨fun h2 => ?_, fun h2 => ?_⟩
    ·
     have hle := srch_le (Sy.rows l) sec
     first
     | (have hz := chk_bad h0
        simp only [nxtI, nxtE, chkI, hz, Bool.false_eq_true, if_false]
        done)
     | (have hz := chk_good h0
        have e0 : srchN (Sy.rows l) sec = (Sy.rows l).length / 3 := by omega
        simp only [nxtI, nxtE, hz, if_true, e0]
        rfl)
     | (have hz := chk_good h0
        have e0 : ¬ srchN (Sy.rows l) sec = (Sy.rows l).length / 3 := by omega
        simp only [nxtI, nxtE, hz, if_true, if_neg e0, Int.toNat_natCast]
        rfl)
    ·
     refine ⟨?_, fun h3 => ?_⟩
     ·
      have hle := srch_le (Sy.rows l) sec
      first
      | omega
      | exact ((zone_iff _ _ _).1 (chk_good h0)).2.2.2
     ·
      have hle := srch_le (Sy.rows l) sec
      first
      | (have hz := chk_bad h0
         simp only [nxtI, nxtE, chkI, hz, Bool.false_eq_true, if_false]
         done)
      | (have hz := chk_good h0
         have e0 : srchN (Sy.rows l) sec = (Sy.rows l).length / 3 := by omega
         simp only [nxtI, nxtE, hz, if_true, e0]
         rfl)
      | (have hz := chk_good h0
         have e0 : ¬ srchN (Sy.rows l) sec = (Sy.rows l).length / 3 := by omega
         simp only [nxtI, nxtE, hz, if_true, if_neg e0, Int.toNat_natCast]
         rfl)
theorem zzbg_znx : zzbc_znx.Good Tryd.prog syG (zzbE [] [] [] []) := good_of_walk (Γ := ⟨[zzc_zck, zzbc_behind], syG, [], [], []⟩) (ρ := zzbE [] [] [] []) sym znx_w rfl (fun _ _ _ _ => (ok_cons (Con.Good.env (Con.Good.up (Con.Good.up zzg_zck ztup rfl) zzbup rfl) _ _ _ _) (ok_cons (Con.Good.env zzbg_behind _ _ _ _) ok_nil))) (fun fst sec l nm hc hty => znx_h fst sec l nm hc hty)
end Go.Proofs.YtbgmbbkmadkhgaaDoor
