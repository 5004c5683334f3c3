/-
  Layer 10 by the second engine: At and Next, by the program and by the reference.
-/
import Derived.Test.YtehiienjodicpaaDoorSyc
import Derived.Test.YtehiienjodicpaaDoorZ10
import Derived.Test.YtehiienjodicpaaDoorZ10s
namespace Go.Proofs.YtehiienjodicpaaDoor
open Go.RowKit Go.Extern.Stop Go.Stop Go.Extern Go.Proofs.YtehiienjodicpaaDoor.Sy
set_option linter.unusedVariables false
set_option linter.unusedSimpArgs false
def atO (s : ByteArray) (f : Int) (l : List Value) (d : Int) : Int := if zoneB s f l then (if srchN l d = 0 then f else Go.RowKit.intOf (l.getD ((srchN l d - 1) * 3 + 1) Go.undef)) else 0
def atN (s : ByteArray) (f : Int) (l : List Value) (d : Int) : ByteArray := if zoneB s f l then (if srchN l d = 0 then s else strOf (l.getD ((srchN l d - 1) * 3 + 2) Go.undef)) else ⟨#[]⟩
def nxtI (s : ByteArray) (f : Int) (l : List Value) (d : Int) : Int := if zoneB s f l then (if srchN l d = l.length / 3 then 0 else Go.RowKit.intOf (l.getD (srchN l d * 3) Go.undef)) else 0
def nxtE (s : ByteArray) (f : Int) (l : List Value) (d : Int) : Int := if zoneB s f l then (if srchN l d = l.length / 3 then 6 else 0) else 1
theorem chk_good {s : ByteArray} {f : Int} {l : List Value} (h : ¬ ¬ chkI s f l = 0) : zoneB s f l = true := by
  cases hz : zoneB s f l with
  | true => rfl
  | false => simp [chkI, hz] at h
theorem chk_bad {s : ByteArray} {f : Int} {l : List Value} (h : ¬ chkI s f l = 0) : zoneB s f l = false := by
  cases hz : zoneB s f l with
  | false => rfl
  | true => simp [chkI, hz] at h
theorem srch_le (l : List Value) (d : Int) : srchN l d ≤ l.length / 3 := by
  unfold srchN
  exact Nat.le_trans List.countP_le_length (by simp)
def zbI : Nat → List Value → Int
  | 3, [l, .int _ d] => ((srchN (rows l) d : Nat) : Int)
  | 4, [.string s, .int _ f, l, .int _ d] => atO s f (rows l) d
  | 5, [.string s, .int _ f, l, .int _ d] => nxtI s f (rows l) d
  | 6, [.string s, .int _ f, l, .int _ d] => nxtE s f (rows l) d
  | i, l => zI i l
def zbB : Nat → List Value → Bool
  | i, l => zB i l
def zbV : Nat → List Value → Value
  | 0, [.string s, .int _ f, l, .int _ d] => .string (atN s f (rows l) d)
  | i, l => zV i l
abbrev zbE (iv : List Int) (bv : List Bool) (vv : List Value) (sv : List ByteArray) : Env := { iv := iv, bv := bv, vv := vv, sv := sv, fi := zbI, fb := zbB, fv := zbV, et := 108 }
theorem zbup : Agree 3 6 0 (zE [] [] [] []) (zbE [] [] [] []) := ⟨rfl, (by
    intro f hf
    funext l
    show zbI f l = zI f l
    unfold zbI
    split <;> first | rfl | omega), (by
    intro f hf
    funext l
    show zbB f l = zB f l
    unfold zbB
    split <;> first | rfl | omega), (by
    intro f hf
    funext l
    show zbV f l = zV f l
    unfold zbV
    split <;> first | rfl | omega)⟩
theorem zbi_ixl (l : Value) : zbI 0 [l] = ixL (intsV l) := rfl
theorem zbi_lst (l : Value) (k1 : IntKind) (n : Int) : zbI 1 [l, .int k1 n] = leastR (rows l) n.toNat := rfl
theorem zbi_chk (s : ByteArray) (k1 : IntKind) (f : Int) (l : Value) : zbI 2 [.string s, .int k1 f, l] = chkI s f (rows l) := rfl
theorem zbi_srch (l : Value) (k1 : IntKind) (d : Int) : zbI 3 [l, .int k1 d] = ((srchN (rows l) d : Nat) : Int) := rfl
theorem zbi_ato (s : ByteArray) (k1 : IntKind) (f : Int) (l : Value) (k2 : IntKind) (d : Int) : zbI 4 [.string s, .int k1 f, l, .int k2 d] = atO s f (rows l) d := rfl
theorem zbi_nxt (s : ByteArray) (k1 : IntKind) (f : Int) (l : Value) (k2 : IntKind) (d : Int) : zbI 5 [.string s, .int k1 f, l, .int k2 d] = nxtI s f (rows l) d := rfl
theorem zbi_nxe (s : ByteArray) (k1 : IntKind) (f : Int) (l : Value) (k2 : IntKind) (d : Int) : zbI 6 [.string s, .int k1 f, l, .int k2 d] = nxtE s f (rows l) d := rfl
theorem zbb_let (k1 : IntKind) (c : Int) : zbB 0 [.int k1 c] = letC c := rfl
theorem zbb_rok (l : Value) (k1 : IntKind) (n : Int) : zbB 1 [l, .int k1 n] = okR (rows l) n.toNat := rfl
theorem zbb_zon (s : ByteArray) (k1 : IntKind) (f : Int) (l : Value) : zbB 2 [.string s, .int k1 f, l] = zoneB s f (rows l) := rfl
theorem zbb_shr (l : Value) : zbB 3 [l] = shortR (rows l) := rfl
theorem zbb_pre (l : Value) (k1 : IntKind) (n : Int) : zbB 4 [l, .int k1 n] = preL (intsV l) n.toNat := rfl
theorem zbb_nm (s : ByteArray) : zbB 5 [.string s] = nameB s := rfl
theorem zbv_atn (s : ByteArray) (k1 : IntKind) (f : Int) (l : Value) (k2 : IntKind) (d : Int) : zbV 0 [.string s, .int k1 f, l, .int k2 d] = .string (atN s f (rows l) d) := rfl
abbrev zbc_behind : Con := ⟨77, [(.agg (.cons (.str 0) (.cons (.int .i64 (.var 0)) (.cons (.hs .no (.cons (.int .i64) (.cons (.int .i64) (.cons .str .nil))) (.opq 0)) .nil)))), (.int .i64 (.var 1))], (.bapp 1 (.cons (.opq 0) (.cons (.int .i64 (.ofI (.vop (.len 3) (.cons (.opq 0) .nil)))) .nil))), (.int .i64 (.iapp 3 (.cons (.opq 0) (.cons (.int .i64 (.var 1)) .nil)))), ⟨2, 0, 1, 1⟩, none⟩
theorem zbg_behind : zbc_behind.Good Tryd.prog syG (zbE [] [] [] []) := by
  refine good_below rfl rfl ?_
  intro fst sec l nm hc β ok w xs hx
  cases xs with
  | nil => exact hx.elim
  | cons a xs =>
  cases xs with
  | nil => exact hx.2.elim
  | cons s xs =>
  cases xs with
  | cons _ _ => exact hx.2.2.elim
  | nil =>
  obtain ⟨⟨vs, rfl, hv⟩, hs, _⟩ := hx
  cases vs with
  | nil => exact hv.elim
  | cons x0 vs =>
  cases vs with
  | nil => exact hv.2.elim
  | cons x1 vs =>
  cases vs with
  | nil => exact hv.2.2.elim
  | cons x2 vs =>
  obtain ⟨h0, h1, h2, h3⟩ := hv
  obtain rfl : vs = [] := h3
  obtain rfl : x0 = .string nm := h0
  obtain rfl : x1 = .int .i64 fst := h1
  obtain rfl : s = .int .i64 sec := hs
  exact behind_c w ok nm fst sec x2 l h2.1 hc
def zat_tree : Tree :=
 (.br (.not (.b2 .eq (.iapp 2 (.cons (.str 0) (.cons (.int .i64 (.var 0)) (.cons (.opq 0) .nil)))) (.lit (0))))
 (.ret (.tup (.cons (.int .i64 (.lit (0))) (.cons (.cst (.strc [])) (.cons (.err (.iapp 2 (.cons (.str 0) (.cons (.int .i64 (.var 0)) (.cons (.opq 0) .nil))))) .nil)))))
 (.need (.bapp 1 (.cons (.opq 0) (.cons (.int .i64 (.ofI (.vop (.len 3) (.cons (.opq 0) .nil)))) .nil)))
 (.br (.b2 .eq (.iapp 3 (.cons (.opq 0) (.cons (.int .i64 (.var 1)) .nil))) (.lit (0)))
 (.ret (.tup (.cons (.int .i64 (.var 0)) (.cons (.str 0) (.cons (.cst .nilI) .nil)))))
 (.need (.b2 .and (.b2 .le (.lit (0)) (.wrap .i64 (.i2 .sub (.iapp 3 (.cons (.opq 0) (.cons (.int .i64 (.var 1)) .nil))) (.lit (1))))) (.b2 .lt (.wrap .i64 (.i2 .sub (.iapp 3 (.cons (.opq 0) (.cons (.int .i64 (.var 1)) .nil))) (.lit (1)))) (.ofI (.vop (.len 3) (.cons (.opq 0) .nil)))))
 (.need (.b2 .and (.b2 .le (.lit (0)) (.wrap .i64 (.i2 .sub (.iapp 3 (.cons (.opq 0) (.cons (.int .i64 (.var 1)) .nil))) (.lit (1))))) (.b2 .lt (.wrap .i64 (.i2 .sub (.iapp 3 (.cons (.opq 0) (.cons (.int .i64 (.var 1)) .nil))) (.lit (1)))) (.ofI (.vop (.len 3) (.cons (.opq 0) .nil)))))
 (.ret (.tup (.cons (.int .i64 (.ofI (.vop (.sel 3 1) (.cons (.opq 0) (.cons (.int .i64 (.wrap .i64 (.i2 .sub (.iapp 3 (.cons (.opq 0) (.cons (.int .i64 (.var 1)) .nil))) (.lit (1))))) .nil))))) (.cons (.vop (.ssel 3 2) (.cons (.opq 0) (.cons (.int .i64 (.wrap .i64 (.i2 .sub (.iapp 3 (.cons (.opq 0) (.cons (.int .i64 (.var 1)) .nil))) (.lit (1))))) .nil))) (.cons (.cst .nilI) .nil))))))))))
abbrev zbc_zat : Con := ⟨36, [(.agg (.cons (.str 0) (.cons (.int .i64 (.var 0)) (.cons (.hs .no (.cons (.int .i64) (.cons (.int .i64) (.cons .str .nil))) (.opq 0)) .nil)))), (.int .i64 (.var 1))], (.tt true), (.tup (.cons (.int .i64 (.iapp 4 (.cons (.str 0) (.cons (.int .i64 (.var 0)) (.cons (.opq 0) (.cons (.int .i64 (.var 1)) .nil)))))) (.cons (.sapp 0 (.cons (.str 0) (.cons (.int .i64 (.var 0)) (.cons (.opq 0) (.cons (.int .i64 (.var 1)) .nil))))) (.cons (.err (.iapp 2 (.cons (.str 0) (.cons (.int .i64 (.var 0)) (.cons (.opq 0) .nil))))) .nil)))), ⟨2, 0, 1, 1⟩, none⟩
theorem zat_w : walk Tryd.prog 108 ⟨[zc_zck, zbc_behind], syG⟩ [] .v zbc_zat zbc_zat.n 3000 = some zat_tree := by kernel_rfl
theorem zat_h (fst : Int) (sec : Int) (l : Value) (nm : ByteArray) (hc : holds (zbE [fst, sec] [] [l] [nm]) (.tt true)) (hty : patsTyp (zbE [fst, sec] [] [l] [nm]) [(.agg (.cons (.str 0) (.cons (.int .i64 (.var 0)) (.cons (.hs .no (.cons (.int .i64) (.cons (.int .i64) (.cons .str .nil))) (.opq 0)) .nil)))), (.int .i64 (.var 1))]) : zat_tree.holds (fun d => d = denV (zbE [fst, sec] [] [l] [nm]) b0 (.tup (.cons (.int .i64 (.iapp 4 (.cons (.str 0) (.cons (.int .i64 (.var 0)) (.cons (.opq 0) (.cons (.int .i64 (.var 1)) .nil)))))) (.cons (.sapp 0 (.cons (.str 0) (.cons (.int .i64 (.var 0)) (.cons (.opq 0) (.cons (.int .i64 (.var 1)) .nil))))) (.cons (.err (.iapp 2 (.cons (.str 0) (.cons (.int .i64 (.var 0)) (.cons (.opq 0) .nil))))) .nil))))) (zbE [fst, sec] [] [l] [nm]) := by
  simp only [Tree.holds, Sy.holds, AllN, Env.more, zbE, List.cons_append, List.nil_append, List.append_nil, denV, denI, denB, denL, I2.den, VOp.den, List.getD_cons_zero, List.getD_cons_succ, Cst.den, syso, syse, syio, sybo, zbi_ixl, zbi_lst, zbi_chk, zbi_srch, zbi_ato, zbi_nxt, zbi_nxe, zbb_let, zbb_rok, zbb_zon, zbb_shr, zbb_pre, zbb_nm, zbv_atn, List.map_nil, List.map_cons, B2.ofInts, B2.denI, B2.denB, if_true, Bool.false_eq_true, if_false, Nat.div_one, Nat.mul_one, Nat.add_zero, holds] at hc
  simp only [patsTyp, patTyp, patTypL, zbE, denV, denL, List.getD_cons_zero, List.getD_cons_succ, and_true, true_and] at hty
  have hL_l : typ (.sl (.cons (.int .i64) (.cons (.int .i64) (.cons .str .nil)))) l := by first | exact hty | exact hty.1 | exact hty.2 | exact hty.1.1 | exact hty.1.2 | exact hty.2.1 | exact hty.2.2 | exact hty.2.2.1 | exact hty.2.2.2
  have hN_l := typ_len (n := 3) hL_l rfl (by omega)
  unfold zat_tree
  simp only [Tree.holds, Sy.holds, AllN, Env.more, zbE, List.cons_append, List.nil_append, List.append_nil, denV, denI, denB, denL, I2.den, VOp.den, List.getD_cons_zero, List.getD_cons_succ, Cst.den, syso, syse, syio, sybo, zbi_ixl, zbi_lst, zbi_chk, zbi_srch, zbi_ato, zbi_nxt, zbi_nxe, zbb_let, zbb_rok, zbb_zon, zbb_shr, zbb_pre, zbb_nm, zbv_atn, List.map_nil, List.map_cons, B2.ofInts, B2.denI, B2.denB, if_true, Bool.false_eq_true, if_false, Nat.div_one, Nat.mul_one, Nat.add_zero]
  refine ⟨fun h0 => ?_, fun h0 => ?_⟩
  ·
    have hle := srch_le (Sy.rows l) sec
    first
    | (have hz := chk_bad h0
       simp only [atO, atN, hz, Bool.false_eq_true, if_false]
       done)
    | (have hz := chk_good h0
       have hk := chk_yes hz
       have e0 : srchN (Sy.rows l) sec = 0 := by omega
       simp only [atO, atN, hz, if_true, e0, hk]
       rfl)
    | (have hz := chk_good h0
       have hk := chk_yes hz
       have e0 : ¬ srchN (Sy.rows l) sec = 0 := by omega
       have e : IntKind.wrap .i64 ((srchN (Sy.rows l) sec : Int) - 1) = (srchN (Sy.rows l) sec : Int) - 1 := by omega
       have e2 : ((srchN (Sy.rows l) sec : Int) - 1).toNat = srchN (Sy.rows l) sec - 1 := by omega
       simp only [atO, atN, hz, if_true, if_neg e0, hk, e, e2]
       rfl)
  ·
    refine ⟨?_, fun h1 => ?_⟩
    ·
      have hle := srch_le (Sy.rows l) sec
      first
      | omega
      | exact ((zone_iff _ _ _).1 (chk_good h0)).2.2.2
    ·
      refine ⟨fun h2 => ?_, fun h2 => ?_⟩
      ·
        have hle := srch_le (Sy.rows l) sec
        first
        | (have hz := chk_bad h0
           simp only [atO, atN, hz, Bool.false_eq_true, if_false]
           done)
        | (have hz := chk_good h0
           have hk := chk_yes hz
           have e0 : srchN (Sy.rows l) sec = 0 := by omega
           simp only [atO, atN, hz, if_true, e0, hk]
           rfl)
        | (have hz := chk_good h0
           have hk := chk_yes hz
           have e0 : ¬ srchN (Sy.rows l) sec = 0 := by omega
           have e : IntKind.wrap .i64 ((srchN (Sy.rows l) sec : Int) - 1) = (srchN (Sy.rows l) sec : Int) - 1 := by omega
           have e2 : ((srchN (Sy.rows l) sec : Int) - 1).toNat = srchN (Sy.rows l) sec - 1 := by omega
           simp only [atO, atN, hz, if_true, if_neg e0, hk, e, e2]
           rfl)
      ·
        have wf0 := wr_i64 ((((srchN (rows l) sec : Nat) : Int)) - 1)
        refine ⟨?_, fun h3 => ?_⟩
        ·
          have hle := srch_le (Sy.rows l) sec
          first
          | omega
          | exact ((zone_iff _ _ _).1 (chk_good h0)).2.2.2
        ·
          refine ⟨?_, fun h4 => ?_⟩
          ·
            have hle := srch_le (Sy.rows l) sec
            first
            | omega
            | exact ((zone_iff _ _ _).1 (chk_good h0)).2.2.2
          ·
            try simp only [hw0]
            have hle := srch_le (Sy.rows l) sec
            first
            | (have hz := chk_bad h0
               simp only [atO, atN, hz, Bool.false_eq_true, if_false]
               done)
            | (have hz := chk_good h0
               have hk := chk_yes hz
               have e0 : srchN (Sy.rows l) sec = 0 := by omega
               simp only [atO, atN, hz, if_true, e0, hk]
               rfl)
            | (have hz := chk_good h0
               have hk := chk_yes hz
               have e0 : ¬ srchN (Sy.rows l) sec = 0 := by omega
               have e : IntKind.wrap .i64 ((srchN (Sy.rows l) sec : Int) - 1) = (srchN (Sy.rows l) sec : Int) - 1 := by omega
               have e2 : ((srchN (Sy.rows l) sec : Int) - 1).toNat = srchN (Sy.rows l) sec - 1 := by omega
               simp only [atO, atN, hz, if_true, if_neg e0, hk, e, e2]
               rfl)
theorem zbg_zat : zbc_zat.Good Tryd.prog syG (zbE [] [] [] []) := good_of_walk (Γ := ⟨[zc_zck, zbc_behind], syG⟩) (ρ := zbE [] [] [] []) sym zat_w rfl (fun _ _ _ _ => (ok_cons (Con.Good.env (Con.Good.up zg_zck zbup rfl) _ _ _ _) (ok_cons (Con.Good.env zbg_behind _ _ _ _) ok_nil))) (fun fst sec l nm hc hty => zat_h fst sec l nm hc hty)
def znx_tree : Tree :=
 (.br (.not (.b2 .eq (.iapp 2 (.cons (.str 0) (.cons (.int .i64 (.var 0)) (.cons (.opq 0) .nil)))) (.lit (0))))
 (.ret (.tup (.cons (.int .i64 (.lit (0))) (.cons (.err (.iapp 2 (.cons (.str 0) (.cons (.int .i64 (.var 0)) (.cons (.opq 0) .nil))))) .nil))))
 (.need (.bapp 1 (.cons (.opq 0) (.cons (.int .i64 (.ofI (.vop (.len 3) (.cons (.opq 0) .nil)))) .nil)))
 (.br (.b2 .eq (.iapp 3 (.cons (.opq 0) (.cons (.int .i64 (.var 1)) .nil))) (.ofI (.vop (.len 3) (.cons (.opq 0) .nil))))
 (.ret (.tup (.cons (.int .i64 (.lit (0))) (.cons (.iface 108 (.int .i64 (.lit (6)))) .nil))))
 (.need (.b2 .and (.b2 .le (.lit (0)) (.iapp 3 (.cons (.opq 0) (.cons (.int .i64 (.var 1)) .nil)))) (.b2 .lt (.iapp 3 (.cons (.opq 0) (.cons (.int .i64 (.var 1)) .nil))) (.ofI (.vop (.len 3) (.cons (.opq 0) .nil)))))
 (.ret (.tup (.cons (.int .i64 (.ofI (.vop (.sel 3 0) (.cons (.opq 0) (.cons (.int .i64 (.iapp 3 (.cons (.opq 0) (.cons (.int .i64 (.var 1)) .nil)))) .nil))))) (.cons (.cst .nilI) .nil))))))))
abbrev zbc_znx : Con := ⟨37, [(.agg (.cons (.str 0) (.cons (.int .i64 (.var 0)) (.cons (.hs .no (.cons (.int .i64) (.cons (.int .i64) (.cons .str .nil))) (.opq 0)) .nil)))), (.int .i64 (.var 1))], (.tt true), (.tup (.cons (.int .i64 (.iapp 5 (.cons (.str 0) (.cons (.int .i64 (.var 0)) (.cons (.opq 0) (.cons (.int .i64 (.var 1)) .nil)))))) (.cons (.err (.iapp 6 (.cons (.str 0) (.cons (.int .i64 (.var 0)) (.cons (.opq 0) (.cons (.int .i64 (.var 1)) .nil)))))) .nil))), ⟨2, 0, 1, 1⟩, none⟩
theorem znx_w : walk Tryd.prog 108 ⟨[zc_zck, zbc_behind], syG⟩ [] .v zbc_znx zbc_znx.n 3000 = some znx_tree := by kernel_rfl
theorem znx_h (fst : Int) (sec : Int) (l : Value) (nm : ByteArray) (hc : holds (zbE [fst, sec] [] [l] [nm]) (.tt true)) (hty : patsTyp (zbE [fst, sec] [] [l] [nm]) [(.agg (.cons (.str 0) (.cons (.int .i64 (.var 0)) (.cons (.hs .no (.cons (.int .i64) (.cons (.int .i64) (.cons .str .nil))) (.opq 0)) .nil)))), (.int .i64 (.var 1))]) : znx_tree.holds (fun d => d = denV (zbE [fst, sec] [] [l] [nm]) b0 (.tup (.cons (.int .i64 (.iapp 5 (.cons (.str 0) (.cons (.int .i64 (.var 0)) (.cons (.opq 0) (.cons (.int .i64 (.var 1)) .nil)))))) (.cons (.err (.iapp 6 (.cons (.str 0) (.cons (.int .i64 (.var 0)) (.cons (.opq 0) (.cons (.int .i64 (.var 1)) .nil)))))) .nil)))) (zbE [fst, sec] [] [l] [nm]) := by
  simp only [Tree.holds, Sy.holds, AllN, Env.more, zbE, List.cons_append, List.nil_append, List.append_nil, denV, denI, denB, denL, I2.den, VOp.den, List.getD_cons_zero, List.getD_cons_succ, Cst.den, syso, syse, syio, sybo, zbi_ixl, zbi_lst, zbi_chk, zbi_srch, zbi_ato, zbi_nxt, zbi_nxe, zbb_let, zbb_rok, zbb_zon, zbb_shr, zbb_pre, zbb_nm, zbv_atn, List.map_nil, List.map_cons, B2.ofInts, B2.denI, B2.denB, if_true, Bool.false_eq_true, if_false, Nat.div_one, Nat.mul_one, Nat.add_zero, holds] at hc
  simp only [patsTyp, patTyp, patTypL, zbE, denV, denL, List.getD_cons_zero, List.getD_cons_succ, and_true, true_and] at hty
  have hL_l : typ (.sl (.cons (.int .i64) (.cons (.int .i64) (.cons .str .nil)))) l := by first | exact hty | exact hty.1 | exact hty.2 | exact hty.1.1 | exact hty.1.2 | exact hty.2.1 | exact hty.2.2 | exact hty.2.2.1 | exact hty.2.2.2
  have hN_l := typ_len (n := 3) hL_l rfl (by omega)
  unfold znx_tree
  simp only [Tree.holds, Sy.holds, AllN, Env.more, zbE, List.cons_append, List.nil_append, List.append_nil, denV, denI, denB, denL, I2.den, VOp.den, List.getD_cons_zero, List.getD_cons_succ, Cst.den, syso, syse, syio, sybo, zbi_ixl, zbi_lst, zbi_chk, zbi_srch, zbi_ato, zbi_nxt, zbi_nxe, zbb_let, zbb_rok, zbb_zon, zbb_shr, zbb_pre, zbb_nm, zbv_atn, List.map_nil, List.map_cons, B2.ofInts, B2.denI, B2.denB, if_true, Bool.false_eq_true, if_false, Nat.div_one, Nat.mul_one, Nat.add_zero]
  refine ⟨fun h0 => ?_, fun h0 => ?_⟩
  ·
    have hle := srch_le (Sy.rows l) sec
    first
    | (have hz := chk_bad h0
       simp only [nxtI, nxtE, chkI, hz, Bool.false_eq_true, if_false]
       done)
    | (have hz := chk_good h0
       have e0 : srchN (Sy.rows l) sec = (Sy.rows l).length / 3 := by omega
       simp only [nxtI, nxtE, hz, if_true, e0]
       rfl)
    | (have hz := chk_good h0
       have e0 : ¬ srchN (Sy.rows l) sec = (Sy.rows l).length / 3 := by omega
       simp only [nxtI, nxtE, hz, if_true, if_neg e0, Int.toNat_natCast]
       rfl)
  ·
    refine ⟨?_, fun h1 => ?_⟩
    ·
      have hle := srch_le (Sy.rows l) sec
      first
      | omega
      | exact ((zone_iff _ _ _).1 (chk_good h0)).2.2.2
    ·
      refine ⟨fun h2 => ?_, fun h2 => ?_⟩
      ·
        have hle := srch_le (Sy.rows l) sec
        first
        | (have hz := chk_bad h0
           simp only [nxtI, nxtE, chkI, hz, Bool.false_eq_true, if_false]
           done)
        | (have hz := chk_good h0
           have e0 : srchN (Sy.rows l) sec = (Sy.rows l).length / 3 := by omega
           simp only [nxtI, nxtE, hz, if_true, e0]
           rfl)
        | (have hz := chk_good h0
           have e0 : ¬ srchN (Sy.rows l) sec = (Sy.rows l).length / 3 := by omega
           simp only [nxtI, nxtE, hz, if_true, if_neg e0, Int.toNat_natCast]
           rfl)
      ·
        refine ⟨?_, fun h3 => ?_⟩
        ·
          have hle := srch_le (Sy.rows l) sec
          first
          | omega
          | exact ((zone_iff _ _ _).1 (chk_good h0)).2.2.2
        ·
          have hle := srch_le (Sy.rows l) sec
          first
          | (have hz := chk_bad h0
             simp only [nxtI, nxtE, chkI, hz, Bool.false_eq_true, if_false]
             done)
          | (have hz := chk_good h0
             have e0 : srchN (Sy.rows l) sec = (Sy.rows l).length / 3 := by omega
             simp only [nxtI, nxtE, hz, if_true, e0]
             rfl)
          | (have hz := chk_good h0
             have e0 : ¬ srchN (Sy.rows l) sec = (Sy.rows l).length / 3 := by omega
             simp only [nxtI, nxtE, hz, if_true, if_neg e0, Int.toNat_natCast]
             rfl)
theorem zbg_znx : zbc_znx.Good Tryd.prog syG (zbE [] [] [] []) := good_of_walk (Γ := ⟨[zc_zck, zbc_behind], syG⟩) (ρ := zbE [] [] [] []) sym znx_w rfl (fun _ _ _ _ => (ok_cons (Con.Good.env (Con.Good.up zg_zck zbup rfl) _ _ _ _) (ok_cons (Con.Good.env zbg_behind _ _ _ _) ok_nil))) (fun fst sec l nm hc hty => znx_h fst sec l nm hc hty)
end Go.Proofs.YtehiienjodicpaaDoor
