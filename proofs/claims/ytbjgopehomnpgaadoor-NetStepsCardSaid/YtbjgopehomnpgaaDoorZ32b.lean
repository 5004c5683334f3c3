/-
  Layer 32 by the second engine: NetSteps.
-/
import Derived.Test.YtbjgopehomnpgaaDoorSyc
import Derived.Test.YtbjgopehomnpgaaDoorZ32
namespace Go.Proofs.YtbjgopehomnpgaaDoor
open Go.RowKit Go.Extern.Stop Go.Stop Go.Extern Go.Proofs.YtbjgopehomnpgaaDoor.Sy
set_option linter.unusedVariables false
set_option linter.unusedSimpArgs false
def toW (l : List Value) (h : Int) : Value := if mayB l then toV l h (l.length / 2) else .tuple #[]
theorem tk_spec (l : List Value) (i : Int) : (tkE l i = 1 ∧ mayB l = false) ∨ (tkE l i = 6 ∧ mayB l = true ∧ (i < 0 ∨ (l.length / 2 : Nat) ≤ i)) ∨ (tkE l i = 0 ∧ mayB l = true ∧ 0 ≤ i ∧ i < (l.length / 2 : Nat) ∧ l.length / 2 ≤ 32) := by
  have hm := may_iff l
  unfold tkE
  cases h : mayB l with
  | false => left; simp
  | true =>
    have h2 := (hm.1 h).2
    by_cases c : i < 0 ∨ (l.length / 2 : Nat) ≤ i
    · right; left; rw [if_neg (by simp), if_pos c]; exact ⟨rfl, rfl, c⟩
    · right; right; rw [if_neg (by simp), if_neg c]; exact ⟨rfl, rfl, by omega, by omega, h2⟩
theorem ck_may (l : List Value) : (ckI l = 0 ↔ mayB l = true) := by
  unfold ckI
  cases mayB l <;> simp
theorem toL_succ (l : List Value) (h : Int) (n : Nat) : toL l h (n + 1) = toL l h n ++ if toAt l n = h then [n] else [] := by
  unfold toL
  rw [List.range_succ, List.filter_append]
  by_cases c : toAt l n = h <;> simp [c]
theorem toV_succ (l : List Value) (h : Int) (n : Nat) : toV l h (n + 1) = .tuple ((toL l h n).map (fun j => Value.int .i64 (j : Nat)) ++ if toAt l n = h then [Value.int .i64 n] else []).toArray := by
  unfold toV
  rw [toL_succ, List.map_append]
  by_cases c : toAt l n = h <;> simp [c]
theorem toL_le (l : List Value) (h : Int) : ∀ n, (toL l h n).length ≤ n
  | 0 => by simp [toL]
  | n + 1 => by
    rw [toL_succ, List.length_append]
    have := toL_le l h n
    split <;> simp <;> omega
theorem toL_mono (l : List Value) (h : Int) {m : Nat} : ∀ n, n ≤ m → ∃ r, toL l h m = toL l h n ++ r := by
  induction m with
  | zero =>
    intro n hn
    have e : n = 0 := Nat.le_zero.1 hn
    subst e
    exact ⟨[], (List.append_nil _).symm⟩
  | succ m ih =>
    intro n hn
    by_cases c : n = m + 1
    · subst c; exact ⟨[], (List.append_nil _).symm⟩
    · obtain ⟨r, hr⟩ := ih n (by omega)
      exact ⟨_, by rw [toL_succ, hr, List.append_assoc]⟩
theorem to_at {l : List Value} {h : Int} {s n : Nat} (hs : s < n) (hh : toAt l s = h) : (toL l h s).length < (toL l h n).length ∧ (rows (toV l h n)).getD (toL l h s).length Go.undef = .int .i64 s ∧ (toL l h (s + 1)).length = (toL l h s).length + 1 := by
  obtain ⟨r, hr⟩ := toL_mono l h (m := n) (s + 1) (by omega)
  rw [toL_succ, if_pos hh] at hr
  refine ⟨by rw [hr]; simp, ?_, by rw [toL_succ, if_pos hh]; simp⟩
  unfold toV
  rw [rows_tup, hr]
  simp
theorem to_no {l : List Value} {h : Int} {s : Nat} (hh : ¬ toAt l s = h) : (toL l h (s + 1)).length = (toL l h s).length := by
  rw [toL_succ, if_neg hh]; simp
theorem toV_len0 (l : List Value) (h : Int) (n : Nat) : (Sy.rows (toV l h n)).length = (toL l h n).length := by simp [toV, rows_tup]
theorem end_hit {l : List Value} {t a b : Int} (hm : mayB l = true) (ha : a = ((toL l t b.toNat).length : Int)) (h0 : 0 ≤ b) (hb : b < ((l.length / 2 : Nat) : Int)) (hh : Go.RowKit.intOf (l.getD (b.toNat * 2) Go.undef) = t) :
    0 ≤ a ∧ a < ((Sy.rows (toW l t)).length : Int) ∧ Go.RowKit.intOf ((Sy.rows (toW l t)).getD a.toNat Go.undef) = b ∧ ((toL l t (b + 1).toNat).length : Int) = a + 1 := by
  have hw : toW l t = toV l t (l.length / 2) := by simp only [toW, hm, if_true]
  have q := to_at (l := l) (h := t) (s := b.toNat) (n := l.length / 2) (by omega) hh
  rw [hw, toV_len0, show a.toNat = (toL l t b.toNat).length by omega, q.2.1, show (b + 1).toNat = b.toNat + 1 by omega, q.2.2]
  simp only [Go.RowKit.intOf]
  omega
theorem end_miss {l : List Value} {t a b : Int} (ha : a = ((toL l t b.toNat).length : Int)) (h0 : 0 ≤ b) (hh : ¬ Go.RowKit.intOf (l.getD (b.toNat * 2) Go.undef) = t) : a = ((toL l t (b + 1).toNat).length : Int) := by
  rw [show (b + 1).toNat = b.toNat + 1 by omega, to_no (l := l) (h := t) (s := b.toNat) hh]
  exact ha
theorem end_all {l : List Value} {t a b : Int} (ha : a = ((toL l t b.toNat).length : Int)) (h0 : 0 ≤ b) (hb : (mayB l = true ∧ b = ((l.length / 2 : Nat) : Int)) ∨ (mayB l = false ∧ b = 0)) : a = ((Sy.rows (toW l t)).length : Int) := by
  rcases hb with ⟨hm, hb⟩ | ⟨hm, hb⟩
  · have hw : toW l t = toV l t (l.length / 2) := by simp only [toW, hm, if_true]
    rw [hw, toV_len0, ha, show b.toNat = l.length / 2 by omega]
  · have hw : toW l t = .tuple #[] := by simp [toW, hm]
    rw [hw, ha, hb]
    simp [toL, rows_tup]
theorem toV_len (l : List Value) (h : Int) (n : Nat) : (Sy.rows (toV l h n)).length = (toL l h n).length := by simp [toV, rows_tup]
noncomputable def nbI : Nat → List Value → Int
  | 6, [l, .int _ h, .int _ n] => ((toL (rows l) h n.toNat).length : Int)
  | i, l => nI i l
noncomputable def nbB : Nat → List Value → Bool
  | 7, [x, l, .int _ h, .int _ n] => eqV x (toV (rows l) h n.toNat)
  | i, l => nB i l
noncomputable def nbV : Nat → List Value → Value
  | 5, [l, .int _ h] => toW (rows l) h
  | i, l => nV i l
noncomputable abbrev nbE (iv : List Int) (bv : List Bool) (vv : List Value) (sv : List ByteArray) : Env := { iv := iv, bv := bv, vv := vv, sv := sv, fi := nbI, fb := nbB, fv := nbV, et := 182 }
theorem nbup : Agree 6 7 5 (nE [] [] [] []) (nbE [] [] [] []) := ⟨rfl, (by
    intro f hf
    funext l
    show nbI f l = nI f l
    unfold nbI
    split <;> first | rfl | omega), (by
    intro f hf
    funext l
    show nbB f l = nB f l
    unfold nbB
    split <;> first | rfl | omega), (by
    intro f hf
    funext l
    show nbV f l = nV f l
    unfold nbV
    split <;> first | rfl | omega)⟩
theorem nbi_fst (l : Value) : nbI 0 [l] = fstI (rows l) := rfl
theorem nbi_ck (l : Value) : nbI 1 [l] = ckI (rows l) := rfl
theorem nbi_se (l : Value) (k1 : IntKind) (t : Int) (b : Value) : nbI 2 [l, .int k1 t, b] = sndE (rows l) t b := rfl
theorem nbi_te (l : Value) (k1 : IntKind) (i : Int) : nbI 3 [l, .int k1 i] = tkE (rows l) i := rfl
theorem nbi_tt (l : Value) (k1 : IntKind) (i : Int) : nbI 4 [l, .int k1 i] = tkT (rows l) i := rfl
theorem nbi_de (l : Value) (k1 : IntKind) (i : Int) : nbI 5 [l, .int k1 i] = dbE (rows l) i := rfl
theorem nbi_cnt (l : Value) (k1 : IntKind) (h : Int) (k2 : IntKind) (n : Int) : nbI 6 [l, .int k1 h, .int k2 n] = ((toL (rows l) h n.toNat).length : Int) := rfl
theorem nbb_one (k1 : IntKind) (t : Int) (b : Value) : nbB 0 [.int k1 t, b] = oneB t b := rfl
theorem nbb_may (l : Value) : nbB 1 [l] = mayB (rows l) := rfl
theorem nbb_eqv (x : Value) (y : Value) : nbB 2 [x, y] = eqV x y := rfl
theorem nbb_tk (x : Value) (y : Value) (k1 : IntKind) (n : Int) : nbB 3 [x, y, .int k1 n] = eqV x (tkk y n.toNat) := rfl
theorem nbb_ctk (x : Value) (z : Value) (y : Value) (k1 : IntKind) (n : Int) : nbB 4 [x, z, y, .int k1 n] = eqV x (ctkk z y n.toNat) := rfl
theorem nbb_ow (x : Value) (a : Value) (b : Value) (k1 : IntKind) (k : Int) (k2 : IntKind) (n : Int) : nbB 5 [x, a, b, .int k1 k, .int k2 n] = eqV x (accV (rows a) (rows b) k n.toNat) := rfl
theorem nbb_okn (l : Value) (k1 : IntKind) (n : Int) : nbB 6 [l, .int k1 n] = okN (rows l) n.toNat := rfl
theorem nbb_tok (x : Value) (l : Value) (k1 : IntKind) (h : Int) (k2 : IntKind) (n : Int) : nbB 7 [x, l, .int k1 h, .int k2 n] = eqV x (toV (rows l) h n.toNat) := rfl
theorem nbv_sv (l : Value) (k1 : IntKind) (t : Int) (b : Value) : nbV 0 [l, .int k1 t, b] = sndV (rows l) t b := rfl
theorem nbv_tv (l : Value) (k1 : IntKind) (i : Int) : nbV 1 [l, .int k1 i] = tkV (rows l) i := rfl
theorem nbv_tb (l : Value) (k1 : IntKind) (i : Int) : nbV 2 [l, .int k1 i] = tkB (rows l) i := rfl
theorem nbv_dv (l : Value) (k1 : IntKind) (i : Int) : nbV 3 [l, .int k1 i] = dbV (rows l) i := rfl
theorem nbv_to (l : Value) (k1 : IntKind) (h : Int) (k2 : IntKind) (n : Int) : nbV 4 [l, .int k1 h, .int k2 n] = toV (rows l) h n.toNat := rfl
theorem nbv_tw (l : Value) (k1 : IntKind) (h : Int) : nbV 5 [l, .int k1 h] = toW (rows l) h := rfl
def find_tree : Tree :=
 (.br (.not (.b2 .eq (.iapp 1 (.cons (.opq 0) .nil)) (.lit (0))))
 (.ret (.err (.iapp 1 (.cons (.opq 0) .nil))))
 (.br (.b2 .lt (.var 0) (.lit (0)))
 (.ret (.iface 182 (.int .i64 (.lit (6)))))
 (.br (.b2 .le (.ofI (.vop (.len 2) (.cons (.opq 0) .nil))) (.var 0))
 (.ret (.iface 182 (.int .i64 (.lit (6)))))
 (.ret (.cst .nilI)))))
abbrev nbc_find : Con := ⟨181, [(.agg (.cons (.hs .no (.cons (.int .i64) (.cons (.sl (.cons (.int .u8) .nil)) .nil)) (.opq 0)) .nil)), (.int .i64 (.var 0))], (.tt true), (.err (.iapp 3 (.cons (.opq 0) (.cons (.int .i64 (.var 0)) .nil)))), ⟨1, 0, 1, 0⟩, none⟩
theorem find_w : walk Tryd.prog 182 ⟨[nc_check], syG, [], [], []⟩ [] .v nbc_find nbc_find.n 3000 = some find_tree := by kernel_rfl
theorem find_h (i : Int) (l : Value) (hc : holds (nbE [i] [] [l] []) (.tt true)) (hty : patsTyp (nbE [i] [] [l] []) [(.agg (.cons (.hs .no (.cons (.int .i64) (.cons (.sl (.cons (.int .u8) .nil)) .nil)) (.opq 0)) .nil)), (.int .i64 (.var 0))]) : find_tree.holds (fun v_ => v_ = denV (nbE [i] [] [l] []) b0 (.err (.iapp 3 (.cons (.opq 0) (.cons (.int .i64 (.var 0)) .nil))))) (nbE [i] [] [l] []) := by
  simp only [Tree.holds, Sy.holds, AllN, Env.more, nbE, List.cons_append, List.nil_append, List.append_nil, denV, denI, denB, denL, I2.den, VOp.den, List.getD_cons_zero, List.getD_cons_succ, Cst.den, syso, syse, syio, sybo, nbi_fst, nbi_ck, nbi_se, nbi_te, nbi_tt, nbi_de, nbi_cnt, nbb_one, nbb_may, nbb_eqv, nbb_tk, nbb_ctk, nbb_ow, nbb_okn, nbb_tok, nbv_sv, nbv_tv, nbv_tb, nbv_dv, nbv_to, nbv_tw, List.map_nil, List.map_cons, B2.ofInts, B2.denI, B2.denB, if_true, Bool.false_eq_true, if_false, Nat.div_one, Nat.mul_one, Nat.add_zero, holds] at hc
  simp only [patsTyp, patTyp, patTypL, nbE, denV, denL, List.getD_cons_zero, List.getD_cons_succ, and_true, true_and] at hty
  have hL_l : typ (.sl (.cons (.int .i64) (.cons (.sl (.cons (.int .u8) .nil)) .nil))) l := by first | exact hty | exact hty.1 | exact hty.2 | exact hty.1.1 | exact hty.1.2 | exact hty.2.1 | exact hty.2.2 | exact hty.2.2.1 | exact hty.2.2.2
  have hN_l := typ_len (n := 2) hL_l rfl (by omega)
  unfold find_tree
  simp only [Tree.holds, Sy.holds, AllN, Env.more, nbE, List.cons_append, List.nil_append, List.append_nil, denV, denI, denB, denL, I2.den, VOp.den, List.getD_cons_zero, List.getD_cons_succ, Cst.den, syso, syse, syio, sybo, nbi_fst, nbi_ck, nbi_se, nbi_te, nbi_tt, nbi_de, nbi_cnt, nbb_one, nbb_may, nbb_eqv, nbb_tk, nbb_ctk, nbb_ow, nbb_okn, nbb_tok, nbv_sv, nbv_tv, nbv_tb, nbv_dv, nbv_to, nbv_tw, List.map_nil, List.map_cons, B2.ofInts, B2.denI, B2.denB, if_true, Bool.false_eq_true, if_false, Nat.div_one, Nat.mul_one, Nat.add_zero]
  refine ⟨fun h0 => ?_, fun h0 => ?_⟩
  ·
   first
   | rfl
   | grind [tkE, tkV, tkT, tkB, ckI, sndE, sndV, dbE, dbV, errVal, rows_tup]
  ·
   refine ⟨fun h1 => ?_, fun h1 => ?_⟩
   ·
    first
    | rfl
    | grind [tkE, tkV, tkT, tkB, ckI, sndE, sndV, dbE, dbV, errVal, rows_tup]
   ·
    refine ⟨fun h2 => ?_, fun h2 => ?_⟩
    ·
     first
     | rfl
     | grind [tkE, tkV, tkT, tkB, ckI, sndE, sndV, dbE, dbV, errVal, rows_tup]
    ·
     first
     | rfl
     | grind [tkE, tkV, tkT, tkB, ckI, sndE, sndV, dbE, dbV, errVal, rows_tup]
theorem nbg_find : nbc_find.Good Tryd.prog syG (nbE [] [] [] []) := good_of_walk (Γ := ⟨[nc_check], syG, [], [], []⟩) (ρ := nbE [] [] [] []) sym find_w rfl (fun _ _ _ _ => (ok_cons (Con.Good.env (Con.Good.up ng_check nbup rfl) _ _ _ _) ok_nil)) (fun i l hc hty => find_h i l hc hty)
def send_tree : Tree :=
 (.br (.not (.b2 .eq (.iapp 1 (.cons (.opq 0) .nil)) (.lit (0))))
 (.ret (.tup (.cons (.agg (.cons (.hs .no (.cons (.int .i64) (.cons (.sl (.cons (.int .u8) .nil)) .nil)) (.tup .nil)) .nil)) (.cons (.iface 182 (.int .i64 (.lit (1)))) .nil))))
 (.br (.not (.bapp 0 (.cons (.int .i64 (.var 0)) (.cons (.opq 1) .nil))))
 (.ret (.tup (.cons (.agg (.cons (.hs .no (.cons (.int .i64) (.cons (.sl (.cons (.int .u8) .nil)) .nil)) (.tup .nil)) .nil)) (.cons (.iface 182 (.int .i64 (.lit (1)))) .nil))))
 (.br (.b2 .eq (.ofI (.vop (.len 2) (.cons (.opq 0) .nil))) (.lit (32)))
 (.ret (.tup (.cons (.agg (.cons (.hs .no (.cons (.int .i64) (.cons (.sl (.cons (.int .u8) .nil)) .nil)) (.tup .nil)) .nil)) (.cons (.iface 182 (.int .i64 (.lit (7)))) .nil))))
 (.need (.b2 .le (.i2 .add (.ofI (.vop (.len 2) (.cons (.opq 0) .nil))) (.ofI (.vop (.len 2) (.cons (.tup (.cons (.int .i64 (.var 0)) (.cons (.hs .no (.cons (.int .u8) .nil) (.opq 1)) .nil))) .nil)))) (.lit (4398046511103)))
 (.ret (.tup (.cons (.agg (.cons (.hs .no (.cons (.int .i64) (.cons (.sl (.cons (.int .u8) .nil)) .nil)) (.vop .cat (.cons (.opq 0) (.cons (.tup (.cons (.int .i64 (.var 0)) (.cons (.hs .no (.cons (.int .u8) .nil) (.opq 1)) .nil))) .nil)))) .nil)) (.cons (.cst .nilI) .nil))))))))
abbrev nbc_send : Con := ⟨99, [(.agg (.cons (.hs .no (.cons (.int .i64) (.cons (.sl (.cons (.int .u8) .nil)) .nil)) (.opq 0)) .nil)), (.agg (.cons (.int .i64 (.var 0)) (.cons (.hs .no (.cons (.int .u8) .nil) (.opq 1)) .nil)))], (.tt true), (.tup (.cons (.agg (.cons (.hs .no (.cons (.int .i64) (.cons (.sl (.cons (.int .u8) .nil)) .nil)) (.vapp 0 (.cons (.opq 0) (.cons (.int .i64 (.var 0)) (.cons (.opq 1) .nil))))) .nil)) (.cons (.err (.iapp 2 (.cons (.opq 0) (.cons (.int .i64 (.var 0)) (.cons (.opq 1) .nil))))) .nil))), ⟨1, 0, 2, 0⟩, none⟩
theorem send_w : walk Tryd.prog 182 ⟨[nc_check, nc_isw, nc_own], syG, [], [], []⟩ [] (.tup (.cons (.agg (.cons (.s (.cons (.int .i64) (.cons (.sl (.cons (.int .u8) .nil)) .nil))) .nil)) (.cons .v .nil))) nbc_send nbc_send.n 3000 = some send_tree := by kernel_rfl
theorem send_h (t : Int) (l : Value) (b : Value) (hc : holds (nbE [t] [] [l, b] []) (.tt true)) (hty : patsTyp (nbE [t] [] [l, b] []) [(.agg (.cons (.hs .no (.cons (.int .i64) (.cons (.sl (.cons (.int .u8) .nil)) .nil)) (.opq 0)) .nil)), (.agg (.cons (.int .i64 (.var 0)) (.cons (.hs .no (.cons (.int .u8) .nil) (.opq 1)) .nil)))]) : send_tree.holds (fun v_ => v_ = denV (nbE [t] [] [l, b] []) b0 (.tup (.cons (.agg (.cons (.hs .no (.cons (.int .i64) (.cons (.sl (.cons (.int .u8) .nil)) .nil)) (.vapp 0 (.cons (.opq 0) (.cons (.int .i64 (.var 0)) (.cons (.opq 1) .nil))))) .nil)) (.cons (.err (.iapp 2 (.cons (.opq 0) (.cons (.int .i64 (.var 0)) (.cons (.opq 1) .nil))))) .nil)))) (nbE [t] [] [l, b] []) := by
  simp only [Tree.holds, Sy.holds, AllN, Env.more, nbE, List.cons_append, List.nil_append, List.append_nil, denV, denI, denB, denL, I2.den, VOp.den, List.getD_cons_zero, List.getD_cons_succ, Cst.den, syso, syse, syio, sybo, nbi_fst, nbi_ck, nbi_se, nbi_te, nbi_tt, nbi_de, nbi_cnt, nbb_one, nbb_may, nbb_eqv, nbb_tk, nbb_ctk, nbb_ow, nbb_okn, nbb_tok, nbv_sv, nbv_tv, nbv_tb, nbv_dv, nbv_to, nbv_tw, List.map_nil, List.map_cons, B2.ofInts, B2.denI, B2.denB, if_true, Bool.false_eq_true, if_false, Nat.div_one, Nat.mul_one, Nat.add_zero, holds] at hc
  simp only [patsTyp, patTyp, patTypL, nbE, denV, denL, List.getD_cons_zero, List.getD_cons_succ, and_true, true_and] at hty
  have hL_l : typ (.sl (.cons (.int .i64) (.cons (.sl (.cons (.int .u8) .nil)) .nil))) l := by first | exact hty | exact hty.1 | exact hty.2 | exact hty.1.1 | exact hty.1.2 | exact hty.2.1 | exact hty.2.2 | exact hty.2.2.1 | exact hty.2.2.2
  have hN_l := typ_len (n := 2) hL_l rfl (by omega)
  have hL_b : typ (.sl (.cons (.int .u8) .nil)) b := by first | exact hty | exact hty.1 | exact hty.2 | exact hty.1.1 | exact hty.1.2 | exact hty.2.1 | exact hty.2.2 | exact hty.2.2.1 | exact hty.2.2.2
  have hN_b := typ_len (n := 1) hL_b rfl (by omega)
  simp only [Nat.div_one, Nat.mul_one] at hN_b
  unfold send_tree
  simp only [Tree.holds, Sy.holds, AllN, Env.more, nbE, List.cons_append, List.nil_append, List.append_nil, denV, denI, denB, denL, I2.den, VOp.den, List.getD_cons_zero, List.getD_cons_succ, Cst.den, syso, syse, syio, sybo, nbi_fst, nbi_ck, nbi_se, nbi_te, nbi_tt, nbi_de, nbi_cnt, nbb_one, nbb_may, nbb_eqv, nbb_tk, nbb_ctk, nbb_ow, nbb_okn, nbb_tok, nbv_sv, nbv_tv, nbv_tb, nbv_dv, nbv_to, nbv_tw, List.map_nil, List.map_cons, B2.ofInts, B2.denI, B2.denB, if_true, Bool.false_eq_true, if_false, Nat.div_one, Nat.mul_one, Nat.add_zero]
  refine ⟨fun h0 => ?_, fun h0 => ?_⟩
  ·
   first
   | rfl
   | grind [tkE, tkV, tkT, tkB, ckI, sndE, sndV, dbE, dbV, errVal, rows_tup]
  ·
   refine ⟨fun h1 => ?_, fun h1 => ?_⟩
   ·
    first
    | rfl
    | grind [tkE, tkV, tkT, tkB, ckI, sndE, sndV, dbE, dbV, errVal, rows_tup]
   ·
    refine ⟨fun h2 => ?_, fun h2 => ?_⟩
    ·
     first
     | rfl
     | grind [tkE, tkV, tkT, tkB, ckI, sndE, sndV, dbE, dbV, errVal, rows_tup]
    ·
     refine ⟨?_, fun h3 => ?_⟩
     ·
      have hm := may_iff (Sy.rows l)
      first
      | exact True.intro
      | omega
      | exact eqV_iff.2 rfl
      | (have h1' : mayB (Sy.rows l) = true := by grind [ckI, tkE]
         have h2' := (hm.1 h1').2
         first
         | omega
         | (simp only [rows_tup, List.length_drop, List.length_take, List.size_toArray, List.length_cons, List.length_nil]
            omega))
     ·
      first
      | rfl
      | grind [tkE, tkV, tkT, tkB, ckI, sndE, sndV, dbE, dbV, errVal, rows_tup]
theorem nbg_send : nbc_send.Good Tryd.prog syG (nbE [] [] [] []) := good_of_walk (Γ := ⟨[nc_check, nc_isw, nc_own], syG, [], [], []⟩) (ρ := nbE [] [] [] []) sym send_w rfl (fun _ _ _ _ => (ok_cons (Con.Good.env (Con.Good.up ng_check nbup rfl) _ _ _ _) (ok_cons (Con.Good.env (Con.Good.up ng_isw nbup rfl) _ _ _ _) (ok_cons (Con.Good.env (Con.Good.up ng_own nbup rfl) _ _ _ _) ok_nil)))) (fun t l b hc hty => send_h t l b hc hty)
def lose_tree : Tree :=
 (.br (.not (.b2 .eq (.iapp 3 (.cons (.opq 0) (.cons (.int .i64 (.var 0)) .nil))) (.lit (0))))
 (.ret (.tup (.cons (.agg (.cons (.hs .no (.cons (.int .i64) (.cons (.sl (.cons (.int .u8) .nil)) .nil)) (.tup .nil)) .nil)) (.cons (.err (.iapp 3 (.cons (.opq 0) (.cons (.int .i64 (.var 0)) .nil)))) .nil))))
 (.need (.b2 .and (.b2 .le (.lit (0)) (.var 0)) (.b2 .le (.var 0) (.ofI (.vop (.len 2) (.cons (.opq 0) .nil)))))
 (.need (.b2 .and (.b2 .le (.lit (0)) (.wrap .i64 (.i2 .add (.var 0) (.lit (1))))) (.b2 .le (.wrap .i64 (.i2 .add (.var 0) (.lit (1)))) (.ofI (.vop (.len 2) (.cons (.opq 0) .nil)))))
 (.need (.b2 .le (.i2 .add (.ofI (.vop (.len 2) (.cons (.vop (.sub 2) (.cons (.opq 0) (.cons (.int .i64 (.lit (0))) (.cons (.int .i64 (.var 0)) .nil)))) .nil))) (.ofI (.vop (.len 2) (.cons (.vop (.sub 2) (.cons (.opq 0) (.cons (.int .i64 (.wrap .i64 (.i2 .add (.var 0) (.lit (1))))) (.cons (.int .i64 (.ofI (.vop (.len 2) (.cons (.opq 0) .nil)))) .nil)))) .nil)))) (.lit (4398046511103)))
 (.ret (.tup (.cons (.agg (.cons (.hs .no (.cons (.int .i64) (.cons (.sl (.cons (.int .u8) .nil)) .nil)) (.vop .cat (.cons (.vop (.sub 2) (.cons (.opq 0) (.cons (.int .i64 (.lit (0))) (.cons (.int .i64 (.var 0)) .nil)))) (.cons (.vop (.sub 2) (.cons (.opq 0) (.cons (.int .i64 (.wrap .i64 (.i2 .add (.var 0) (.lit (1))))) (.cons (.int .i64 (.ofI (.vop (.len 2) (.cons (.opq 0) .nil)))) .nil)))) .nil)))) .nil)) (.cons (.cst .nilI) .nil))))))))
abbrev nbc_lose : Con := ⟨103, [(.agg (.cons (.hs .no (.cons (.int .i64) (.cons (.sl (.cons (.int .u8) .nil)) .nil)) (.opq 0)) .nil)), (.int .i64 (.var 0))], (.tt true), (.tup (.cons (.agg (.cons (.hs .no (.cons (.int .i64) (.cons (.sl (.cons (.int .u8) .nil)) .nil)) (.vapp 1 (.cons (.opq 0) (.cons (.int .i64 (.var 0)) .nil)))) .nil)) (.cons (.err (.iapp 3 (.cons (.opq 0) (.cons (.int .i64 (.var 0)) .nil)))) .nil))), ⟨1, 0, 1, 0⟩, none⟩
theorem lose_w : walk Tryd.prog 182 ⟨[nbc_find, nc_own], syG, [], [], []⟩ [] (.tup (.cons (.agg (.cons (.s (.cons (.int .i64) (.cons (.sl (.cons (.int .u8) .nil)) .nil))) .nil)) (.cons .v .nil))) nbc_lose nbc_lose.n 3000 = some lose_tree := by kernel_rfl
theorem lose_h (i : Int) (l : Value) (hc : holds (nbE [i] [] [l] []) (.tt true)) (hty : patsTyp (nbE [i] [] [l] []) [(.agg (.cons (.hs .no (.cons (.int .i64) (.cons (.sl (.cons (.int .u8) .nil)) .nil)) (.opq 0)) .nil)), (.int .i64 (.var 0))]) : lose_tree.holds (fun v_ => v_ = denV (nbE [i] [] [l] []) b0 (.tup (.cons (.agg (.cons (.hs .no (.cons (.int .i64) (.cons (.sl (.cons (.int .u8) .nil)) .nil)) (.vapp 1 (.cons (.opq 0) (.cons (.int .i64 (.var 0)) .nil)))) .nil)) (.cons (.err (.iapp 3 (.cons (.opq 0) (.cons (.int .i64 (.var 0)) .nil)))) .nil)))) (nbE [i] [] [l] []) := by
  simp only [Tree.holds, Sy.holds, AllN, Env.more, nbE, List.cons_append, List.nil_append, List.append_nil, denV, denI, denB, denL, I2.den, VOp.den, List.getD_cons_zero, List.getD_cons_succ, Cst.den, syso, syse, syio, sybo, nbi_fst, nbi_ck, nbi_se, nbi_te, nbi_tt, nbi_de, nbi_cnt, nbb_one, nbb_may, nbb_eqv, nbb_tk, nbb_ctk, nbb_ow, nbb_okn, nbb_tok, nbv_sv, nbv_tv, nbv_tb, nbv_dv, nbv_to, nbv_tw, List.map_nil, List.map_cons, B2.ofInts, B2.denI, B2.denB, if_true, Bool.false_eq_true, if_false, Nat.div_one, Nat.mul_one, Nat.add_zero, holds] at hc
  simp only [patsTyp, patTyp, patTypL, nbE, denV, denL, List.getD_cons_zero, List.getD_cons_succ, and_true, true_and] at hty
  have hL_l : typ (.sl (.cons (.int .i64) (.cons (.sl (.cons (.int .u8) .nil)) .nil))) l := by first | exact hty | exact hty.1 | exact hty.2 | exact hty.1.1 | exact hty.1.2 | exact hty.2.1 | exact hty.2.2 | exact hty.2.2.1 | exact hty.2.2.2
  have hN_l := typ_len (n := 2) hL_l rfl (by omega)
  unfold lose_tree
  simp only [Tree.holds, Sy.holds, AllN, Env.more, nbE, List.cons_append, List.nil_append, List.append_nil, denV, denI, denB, denL, I2.den, VOp.den, List.getD_cons_zero, List.getD_cons_succ, Cst.den, syso, syse, syio, sybo, nbi_fst, nbi_ck, nbi_se, nbi_te, nbi_tt, nbi_de, nbi_cnt, nbb_one, nbb_may, nbb_eqv, nbb_tk, nbb_ctk, nbb_ow, nbb_okn, nbb_tok, nbv_sv, nbv_tv, nbv_tb, nbv_dv, nbv_to, nbv_tw, List.map_nil, List.map_cons, B2.ofInts, B2.denI, B2.denB, if_true, Bool.false_eq_true, if_false, Nat.div_one, Nat.mul_one, Nat.add_zero]
  refine ⟨fun h0 => ?_, fun h0 => ?_⟩
  ·
   have ht := tk_spec (Sy.rows l) i
   first
   | rfl
   | grind [tkV, tkT, tkB, tkE, toAt, bAt, errVal, rows_tup]
   | (have e : IntKind.wrap .i64 (i + 1) = i + 1 := by omega
      have hE : tkE (Sy.rows l) i = 0 := by grind [tkE]
      have e2 : ((↑((Sy.rows l).length / 2) : Int)).toNat * 2 = (Sy.rows l).length := by omega
      simp only [tkV, tkT, tkB, hE, if_true, rows_tup, e, e2, List.take_length, show (i + 1).toNat = i.toNat + 1 by omega, Int.toNat_zero, Nat.zero_mul, List.drop_zero]
      rfl)
  ·
   refine ⟨?_, fun h1 => ?_⟩
   ·
    have ht := tk_spec (Sy.rows l) i
    first
    | exact True.intro
    | omega
    | (simp only [rows_tup, List.length_drop, List.length_take, List.size_toArray, List.length_cons, List.length_nil]
       omega)
    | (have tr := (typ_rowL hL_l (k := i.toNat) (by omega)).2
       obtain ⟨_, n, h1', h2', _⟩ := tr
       rw [h2']
       simp only [SK.wd]
       omega)
   ·
    have wf0 := wr_i64 (i + 1)
    refine ⟨?_, fun h2 => ?_⟩
    ·
     have ht := tk_spec (Sy.rows l) i
     first
     | exact True.intro
     | omega
     | (simp only [rows_tup, List.length_drop, List.length_take, List.size_toArray, List.length_cons, List.length_nil]
        omega)
     | (have tr := (typ_rowL hL_l (k := i.toNat) (by omega)).2
        obtain ⟨_, n, h1', h2', _⟩ := tr
        rw [h2']
        simp only [SK.wd]
        omega)
    ·
     try simp only [hw0]
     refine ⟨?_, fun h3 => ?_⟩
     ·
      have ht := tk_spec (Sy.rows l) i
      first
      | exact True.intro
      | omega
      | (simp only [rows_tup, List.length_drop, List.length_take, List.size_toArray, List.length_cons, List.length_nil]
         omega)
      | (have tr := (typ_rowL hL_l (k := i.toNat) (by omega)).2
         obtain ⟨_, n, h1', h2', _⟩ := tr
         rw [h2']
         simp only [SK.wd]
         omega)
     ·
      try simp only [hw0]
      have ht := tk_spec (Sy.rows l) i
      first
      | rfl
      | grind [tkV, tkT, tkB, tkE, toAt, bAt, errVal, rows_tup]
      | (have e : IntKind.wrap .i64 (i + 1) = i + 1 := by omega
         have hE : tkE (Sy.rows l) i = 0 := by grind [tkE]
         have e2 : ((↑((Sy.rows l).length / 2) : Int)).toNat * 2 = (Sy.rows l).length := by omega
         simp only [tkV, tkT, tkB, hE, if_true, rows_tup, e, e2, List.take_length, show (i + 1).toNat = i.toNat + 1 by omega, Int.toNat_zero, Nat.zero_mul, List.drop_zero]
         rfl)
theorem nbg_lose : nbc_lose.Good Tryd.prog syG (nbE [] [] [] []) := good_of_walk (Γ := ⟨[nbc_find, nc_own], syG, [], [], []⟩) (ρ := nbE [] [] [] []) sym lose_w rfl (fun _ _ _ _ => (ok_cons (Con.Good.env nbg_find _ _ _ _) (ok_cons (Con.Good.env (Con.Good.up ng_own nbup rfl) _ _ _ _) ok_nil))) (fun i l hc hty => lose_h i l hc hty)
def take_tree : Tree :=
 (.br (.not (.b2 .eq (.iapp 3 (.cons (.opq 0) (.cons (.int .i64 (.var 0)) .nil))) (.lit (0))))
 (.ret (.tup (.cons (.agg (.cons (.hs .no (.cons (.int .i64) (.cons (.sl (.cons (.int .u8) .nil)) .nil)) (.tup .nil)) .nil)) (.cons (.agg (.cons (.int .i64 (.lit (0))) (.cons (.hs .no (.cons (.int .u8) .nil) (.tup .nil)) .nil))) (.cons (.err (.iapp 3 (.cons (.opq 0) (.cons (.int .i64 (.var 0)) .nil)))) .nil)))))
 (.need (.b2 .and (.b2 .le (.lit (0)) (.var 0)) (.b2 .lt (.var 0) (.ofI (.vop (.len 2) (.cons (.opq 0) .nil)))))
 (.need (.b2 .le (.ofI (.vop (.len 1) (.cons (.vop (.sel 2 1) (.cons (.opq 0) (.cons (.int .i64 (.var 0)) .nil))) .nil))) (.lit (140737488355328)))
 (.ret (.tup (.cons (.agg (.cons (.hs .no (.cons (.int .i64) (.cons (.sl (.cons (.int .u8) .nil)) .nil)) (.vapp 1 (.cons (.opq 0) (.cons (.int .i64 (.var 0)) .nil)))) .nil)) (.cons (.agg (.cons (.int .i64 (.ofI (.vop (.sel 2 0) (.cons (.opq 0) (.cons (.int .i64 (.var 0)) .nil))))) (.cons (.hs .no (.cons (.int .u8) .nil) (.vop (.sel 2 1) (.cons (.opq 0) (.cons (.int .i64 (.var 0)) .nil)))) .nil))) (.cons (.cst .nilI) .nil))))))))
abbrev nbc_take : Con := ⟨101, [(.agg (.cons (.hs .no (.cons (.int .i64) (.cons (.sl (.cons (.int .u8) .nil)) .nil)) (.opq 0)) .nil)), (.int .i64 (.var 0))], (.tt true), (.tup (.cons (.agg (.cons (.hs .no (.cons (.int .i64) (.cons (.sl (.cons (.int .u8) .nil)) .nil)) (.vapp 1 (.cons (.opq 0) (.cons (.int .i64 (.var 0)) .nil)))) .nil)) (.cons (.agg (.cons (.int .i64 (.iapp 4 (.cons (.opq 0) (.cons (.int .i64 (.var 0)) .nil)))) (.cons (.hs .no (.cons (.int .u8) .nil) (.vapp 2 (.cons (.opq 0) (.cons (.int .i64 (.var 0)) .nil)))) .nil))) (.cons (.err (.iapp 3 (.cons (.opq 0) (.cons (.int .i64 (.var 0)) .nil)))) .nil)))), ⟨1, 0, 1, 0⟩, none⟩
theorem take_w : walk Tryd.prog 182 ⟨[nbc_lose, nc_clone], syG, [], [], []⟩ [] (.tup (.cons (.agg (.cons (.s (.cons (.int .i64) (.cons (.sl (.cons (.int .u8) .nil)) .nil))) .nil)) (.cons (.agg (.cons .v (.cons (.s (.cons (.int .u8) .nil)) .nil))) (.cons .v .nil)))) nbc_take nbc_take.n 3000 = some take_tree := by kernel_rfl
theorem take_h (i : Int) (l : Value) (hc : holds (nbE [i] [] [l] []) (.tt true)) (hty : patsTyp (nbE [i] [] [l] []) [(.agg (.cons (.hs .no (.cons (.int .i64) (.cons (.sl (.cons (.int .u8) .nil)) .nil)) (.opq 0)) .nil)), (.int .i64 (.var 0))]) : take_tree.holds (fun v_ => v_ = denV (nbE [i] [] [l] []) b0 (.tup (.cons (.agg (.cons (.hs .no (.cons (.int .i64) (.cons (.sl (.cons (.int .u8) .nil)) .nil)) (.vapp 1 (.cons (.opq 0) (.cons (.int .i64 (.var 0)) .nil)))) .nil)) (.cons (.agg (.cons (.int .i64 (.iapp 4 (.cons (.opq 0) (.cons (.int .i64 (.var 0)) .nil)))) (.cons (.hs .no (.cons (.int .u8) .nil) (.vapp 2 (.cons (.opq 0) (.cons (.int .i64 (.var 0)) .nil)))) .nil))) (.cons (.err (.iapp 3 (.cons (.opq 0) (.cons (.int .i64 (.var 0)) .nil)))) .nil))))) (nbE [i] [] [l] []) := by
  simp only [Tree.holds, Sy.holds, AllN, Env.more, nbE, List.cons_append, List.nil_append, List.append_nil, denV, denI, denB, denL, I2.den, VOp.den, List.getD_cons_zero, List.getD_cons_succ, Cst.den, syso, syse, syio, sybo, nbi_fst, nbi_ck, nbi_se, nbi_te, nbi_tt, nbi_de, nbi_cnt, nbb_one, nbb_may, nbb_eqv, nbb_tk, nbb_ctk, nbb_ow, nbb_okn, nbb_tok, nbv_sv, nbv_tv, nbv_tb, nbv_dv, nbv_to, nbv_tw, List.map_nil, List.map_cons, B2.ofInts, B2.denI, B2.denB, if_true, Bool.false_eq_true, if_false, Nat.div_one, Nat.mul_one, Nat.add_zero, holds] at hc
  simp only [patsTyp, patTyp, patTypL, nbE, denV, denL, List.getD_cons_zero, List.getD_cons_succ, and_true, true_and] at hty
  have hL_l : typ (.sl (.cons (.int .i64) (.cons (.sl (.cons (.int .u8) .nil)) .nil))) l := by first | exact hty | exact hty.1 | exact hty.2 | exact hty.1.1 | exact hty.1.2 | exact hty.2.1 | exact hty.2.2 | exact hty.2.2.1 | exact hty.2.2.2
  have hN_l := typ_len (n := 2) hL_l rfl (by omega)
  unfold take_tree
  simp only [Tree.holds, Sy.holds, AllN, Env.more, nbE, List.cons_append, List.nil_append, List.append_nil, denV, denI, denB, denL, I2.den, VOp.den, List.getD_cons_zero, List.getD_cons_succ, Cst.den, syso, syse, syio, sybo, nbi_fst, nbi_ck, nbi_se, nbi_te, nbi_tt, nbi_de, nbi_cnt, nbb_one, nbb_may, nbb_eqv, nbb_tk, nbb_ctk, nbb_ow, nbb_okn, nbb_tok, nbv_sv, nbv_tv, nbv_tb, nbv_dv, nbv_to, nbv_tw, List.map_nil, List.map_cons, B2.ofInts, B2.denI, B2.denB, if_true, Bool.false_eq_true, if_false, Nat.div_one, Nat.mul_one, Nat.add_zero]
  refine ⟨fun h0 => ?_, fun h0 => ?_⟩
  ·
   have ht := tk_spec (Sy.rows l) i
   first
   | rfl
   | grind [tkV, tkT, tkB, tkE, toAt, bAt, errVal, rows_tup]
   | (have e : IntKind.wrap .i64 (i + 1) = i + 1 := by omega
      have hE : tkE (Sy.rows l) i = 0 := by grind [tkE]
      have e2 : ((↑((Sy.rows l).length / 2) : Int)).toNat * 2 = (Sy.rows l).length := by omega
      simp only [tkV, tkT, tkB, hE, if_true, rows_tup, e, e2, List.take_length, show (i + 1).toNat = i.toNat + 1 by omega, Int.toNat_zero, Nat.zero_mul, List.drop_zero]
      rfl)
  ·
   refine ⟨?_, fun h1 => ?_⟩
   ·
    have ht := tk_spec (Sy.rows l) i
    first
    | exact True.intro
    | omega
    | (simp only [rows_tup, List.length_drop, List.length_take, List.size_toArray, List.length_cons, List.length_nil]
       omega)
    | (have tr := (typ_rowL hL_l (k := i.toNat) (by omega)).2
       obtain ⟨_, n, h1', h2', _⟩ := tr
       rw [h2']
       simp only [SK.wd]
       omega)
   ·
    refine ⟨?_, fun h2 => ?_⟩
    ·
     have ht := tk_spec (Sy.rows l) i
     first
     | exact True.intro
     | omega
     | (simp only [rows_tup, List.length_drop, List.length_take, List.size_toArray, List.length_cons, List.length_nil]
        omega)
     | (have tr := (typ_rowL hL_l (k := i.toNat) (by omega)).2
        obtain ⟨_, n, h1', h2', _⟩ := tr
        rw [h2']
        simp only [SK.wd]
        omega)
    ·
     have ht := tk_spec (Sy.rows l) i
     first
     | rfl
     | grind [tkV, tkT, tkB, tkE, toAt, bAt, errVal, rows_tup]
     | (have e : IntKind.wrap .i64 (i + 1) = i + 1 := by omega
        have hE : tkE (Sy.rows l) i = 0 := by grind [tkE]
        have e2 : ((↑((Sy.rows l).length / 2) : Int)).toNat * 2 = (Sy.rows l).length := by omega
        simp only [tkV, tkT, tkB, hE, if_true, rows_tup, e, e2, List.take_length, show (i + 1).toNat = i.toNat + 1 by omega, Int.toNat_zero, Nat.zero_mul, List.drop_zero]
        rfl)
theorem nbg_take : nbc_take.Good Tryd.prog syG (nbE [] [] [] []) := good_of_walk (Γ := ⟨[nbc_lose, nc_clone], syG, [], [], []⟩) (ρ := nbE [] [] [] []) sym take_w rfl (fun _ _ _ _ => (ok_cons (Con.Good.env nbg_lose _ _ _ _) (ok_cons (Con.Good.env (Con.Good.up ng_clone nbup rfl) _ _ _ _) ok_nil))) (fun i l hc hty => take_h i l hc hty)
def double_tree : Tree :=
 (.br (.not (.b2 .eq (.iapp 3 (.cons (.opq 0) (.cons (.int .i64 (.var 0)) .nil))) (.lit (0))))
 (.ret (.tup (.cons (.agg (.cons (.hs .no (.cons (.int .i64) (.cons (.sl (.cons (.int .u8) .nil)) .nil)) (.tup .nil)) .nil)) (.cons (.err (.iapp 3 (.cons (.opq 0) (.cons (.int .i64 (.var 0)) .nil)))) .nil))))
 (.need (.b2 .and (.b2 .le (.lit (0)) (.var 0)) (.b2 .lt (.var 0) (.ofI (.vop (.len 2) (.cons (.opq 0) .nil)))))
 (.ret (.tup (.cons (.agg (.cons (.hs .no (.cons (.int .i64) (.cons (.sl (.cons (.int .u8) .nil)) .nil)) (.vapp 0 (.cons (.opq 0) (.cons (.int .i64 (.ofI (.vop (.sel 2 0) (.cons (.opq 0) (.cons (.int .i64 (.var 0)) .nil))))) (.cons (.vop (.sel 2 1) (.cons (.opq 0) (.cons (.int .i64 (.var 0)) .nil))) .nil))))) .nil)) (.cons (.err (.iapp 2 (.cons (.opq 0) (.cons (.int .i64 (.ofI (.vop (.sel 2 0) (.cons (.opq 0) (.cons (.int .i64 (.var 0)) .nil))))) (.cons (.vop (.sel 2 1) (.cons (.opq 0) (.cons (.int .i64 (.var 0)) .nil))) .nil))))) .nil))))))
abbrev nbc_double : Con := ⟨104, [(.agg (.cons (.hs .no (.cons (.int .i64) (.cons (.sl (.cons (.int .u8) .nil)) .nil)) (.opq 0)) .nil)), (.int .i64 (.var 0))], (.tt true), (.tup (.cons (.agg (.cons (.hs .no (.cons (.int .i64) (.cons (.sl (.cons (.int .u8) .nil)) .nil)) (.vapp 3 (.cons (.opq 0) (.cons (.int .i64 (.var 0)) .nil)))) .nil)) (.cons (.err (.iapp 5 (.cons (.opq 0) (.cons (.int .i64 (.var 0)) .nil)))) .nil))), ⟨1, 0, 1, 0⟩, none⟩
theorem double_w : walk Tryd.prog 182 ⟨[nbc_find, nbc_send], syG, [], [], []⟩ [] (.tup (.cons (.agg (.cons (.s (.cons (.int .i64) (.cons (.sl (.cons (.int .u8) .nil)) .nil))) .nil)) (.cons .v .nil))) nbc_double nbc_double.n 3000 = some double_tree := by kernel_rfl
theorem double_h (i : Int) (l : Value) (hc : holds (nbE [i] [] [l] []) (.tt true)) (hty : patsTyp (nbE [i] [] [l] []) [(.agg (.cons (.hs .no (.cons (.int .i64) (.cons (.sl (.cons (.int .u8) .nil)) .nil)) (.opq 0)) .nil)), (.int .i64 (.var 0))]) : double_tree.holds (fun v_ => v_ = denV (nbE [i] [] [l] []) b0 (.tup (.cons (.agg (.cons (.hs .no (.cons (.int .i64) (.cons (.sl (.cons (.int .u8) .nil)) .nil)) (.vapp 3 (.cons (.opq 0) (.cons (.int .i64 (.var 0)) .nil)))) .nil)) (.cons (.err (.iapp 5 (.cons (.opq 0) (.cons (.int .i64 (.var 0)) .nil)))) .nil)))) (nbE [i] [] [l] []) := by
  simp only [Tree.holds, Sy.holds, AllN, Env.more, nbE, List.cons_append, List.nil_append, List.append_nil, denV, denI, denB, denL, I2.den, VOp.den, List.getD_cons_zero, List.getD_cons_succ, Cst.den, syso, syse, syio, sybo, nbi_fst, nbi_ck, nbi_se, nbi_te, nbi_tt, nbi_de, nbi_cnt, nbb_one, nbb_may, nbb_eqv, nbb_tk, nbb_ctk, nbb_ow, nbb_okn, nbb_tok, nbv_sv, nbv_tv, nbv_tb, nbv_dv, nbv_to, nbv_tw, List.map_nil, List.map_cons, B2.ofInts, B2.denI, B2.denB, if_true, Bool.false_eq_true, if_false, Nat.div_one, Nat.mul_one, Nat.add_zero, holds] at hc
  simp only [patsTyp, patTyp, patTypL, nbE, denV, denL, List.getD_cons_zero, List.getD_cons_succ, and_true, true_and] at hty
  have hL_l : typ (.sl (.cons (.int .i64) (.cons (.sl (.cons (.int .u8) .nil)) .nil))) l := by first | exact hty | exact hty.1 | exact hty.2 | exact hty.1.1 | exact hty.1.2 | exact hty.2.1 | exact hty.2.2 | exact hty.2.2.1 | exact hty.2.2.2
  have hN_l := typ_len (n := 2) hL_l rfl (by omega)
  unfold double_tree
  simp only [Tree.holds, Sy.holds, AllN, Env.more, nbE, List.cons_append, List.nil_append, List.append_nil, denV, denI, denB, denL, I2.den, VOp.den, List.getD_cons_zero, List.getD_cons_succ, Cst.den, syso, syse, syio, sybo, nbi_fst, nbi_ck, nbi_se, nbi_te, nbi_tt, nbi_de, nbi_cnt, nbb_one, nbb_may, nbb_eqv, nbb_tk, nbb_ctk, nbb_ow, nbb_okn, nbb_tok, nbv_sv, nbv_tv, nbv_tb, nbv_dv, nbv_to, nbv_tw, List.map_nil, List.map_cons, B2.ofInts, B2.denI, B2.denB, if_true, Bool.false_eq_true, if_false, Nat.div_one, Nat.mul_one, Nat.add_zero]
  refine ⟨fun h0 => ?_, fun h0 => ?_⟩
  ·
   first
   | rfl
   | grind [dbV, dbE, tkE, tkT, tkB, toAt, bAt, sndE, sndV, errVal, rows_tup]
  ·
   refine ⟨?_, fun h1 => ?_⟩
   ·
    have ht := tk_spec (Sy.rows l) i
    first
    | exact True.intro
    | omega
    | (simp only [rows_tup, List.length_drop, List.length_take, List.size_toArray, List.length_cons, List.length_nil]
       omega)
    | (have tr := (typ_rowL hL_l (k := i.toNat) (by omega)).2
       obtain ⟨_, n, h1', h2', _⟩ := tr
       rw [h2']
       simp only [SK.wd]
       omega)
   ·
    first
    | rfl
    | grind [dbV, dbE, tkE, tkT, tkB, toAt, bAt, sndE, sndV, errVal, rows_tup]
theorem nbg_double : nbc_double.Good Tryd.prog syG (nbE [] [] [] []) := good_of_walk (Γ := ⟨[nbc_find, nbc_send], syG, [], [], []⟩) (ρ := nbE [] [] [] []) sym double_w rfl (fun _ _ _ _ => (ok_cons (Con.Good.env nbg_find _ _ _ _) (ok_cons (Con.Good.env nbg_send _ _ _ _) ok_nil))) (fun i l hc hty => double_h i l hc hty)
def rdouble_tree : Tree :=
 (.br (.not (.b2 .eq (.iapp 3 (.cons (.opq 0) (.cons (.int .i64 (.var 0)) .nil))) (.lit (0))))
 (.ret (.tup (.cons (.hs .no (.cons (.int .i64) (.cons (.sl (.cons (.int .u8) .nil)) .nil)) (.tup .nil)) (.cons (.int .i64 (.iapp 3 (.cons (.opq 0) (.cons (.int .i64 (.var 0)) .nil)))) .nil))))
 (.ret (.tup (.cons (.hs .no (.cons (.int .i64) (.cons (.sl (.cons (.int .u8) .nil)) .nil)) (.vapp 0 (.cons (.opq 0) (.cons (.int .i64 (.iapp 4 (.cons (.opq 0) (.cons (.int .i64 (.var 0)) .nil)))) (.cons (.vapp 2 (.cons (.opq 0) (.cons (.int .i64 (.var 0)) .nil))) .nil))))) (.cons (.int .i64 (.iapp 2 (.cons (.opq 0) (.cons (.int .i64 (.iapp 4 (.cons (.opq 0) (.cons (.int .i64 (.var 0)) .nil)))) (.cons (.vapp 2 (.cons (.opq 0) (.cons (.int .i64 (.var 0)) .nil))) .nil))))) .nil)))))
abbrev nbc_rdouble : Con := ⟨105, [(.hs .no (.cons (.int .i64) (.cons (.sl (.cons (.int .u8) .nil)) .nil)) (.opq 0)), (.int .i64 (.var 0))], (.tt true), (.tup (.cons (.hs .no (.cons (.int .i64) (.cons (.sl (.cons (.int .u8) .nil)) .nil)) (.vapp 3 (.cons (.opq 0) (.cons (.int .i64 (.var 0)) .nil)))) (.cons (.int .i64 (.iapp 5 (.cons (.opq 0) (.cons (.int .i64 (.var 0)) .nil)))) .nil))), ⟨1, 0, 1, 0⟩, none⟩
theorem rdouble_w : walk Tryd.prog 182 ⟨[nc_rtake, nc_rsend], syG, [], [], []⟩ [] (.tup (.cons (.s (.cons (.int .i64) (.cons (.sl (.cons (.int .u8) .nil)) .nil))) (.cons .v .nil))) nbc_rdouble nbc_rdouble.n 3000 = some rdouble_tree := by kernel_rfl
theorem rdouble_h (i : Int) (l : Value) (hc : holds (nbE [i] [] [l] []) (.tt true)) (hty : patsTyp (nbE [i] [] [l] []) [(.hs .no (.cons (.int .i64) (.cons (.sl (.cons (.int .u8) .nil)) .nil)) (.opq 0)), (.int .i64 (.var 0))]) : rdouble_tree.holds (fun v_ => v_ = denV (nbE [i] [] [l] []) b0 (.tup (.cons (.hs .no (.cons (.int .i64) (.cons (.sl (.cons (.int .u8) .nil)) .nil)) (.vapp 3 (.cons (.opq 0) (.cons (.int .i64 (.var 0)) .nil)))) (.cons (.int .i64 (.iapp 5 (.cons (.opq 0) (.cons (.int .i64 (.var 0)) .nil)))) .nil)))) (nbE [i] [] [l] []) := by
  simp only [Tree.holds, Sy.holds, AllN, Env.more, nbE, List.cons_append, List.nil_append, List.append_nil, denV, denI, denB, denL, I2.den, VOp.den, List.getD_cons_zero, List.getD_cons_succ, Cst.den, syso, syse, syio, sybo, nbi_fst, nbi_ck, nbi_se, nbi_te, nbi_tt, nbi_de, nbi_cnt, nbb_one, nbb_may, nbb_eqv, nbb_tk, nbb_ctk, nbb_ow, nbb_okn, nbb_tok, nbv_sv, nbv_tv, nbv_tb, nbv_dv, nbv_to, nbv_tw, List.map_nil, List.map_cons, B2.ofInts, B2.denI, B2.denB, if_true, Bool.false_eq_true, if_false, Nat.div_one, Nat.mul_one, Nat.add_zero, holds] at hc
  simp only [patsTyp, patTyp, patTypL, nbE, denV, denL, List.getD_cons_zero, List.getD_cons_succ, and_true, true_and] at hty
  have hL_l : typ (.sl (.cons (.int .i64) (.cons (.sl (.cons (.int .u8) .nil)) .nil))) l := by first | exact hty | exact hty.1 | exact hty.2 | exact hty.1.1 | exact hty.1.2 | exact hty.2.1 | exact hty.2.2 | exact hty.2.2.1 | exact hty.2.2.2
  have hN_l := typ_len (n := 2) hL_l rfl (by omega)
  unfold rdouble_tree
  simp only [Tree.holds, Sy.holds, AllN, Env.more, nbE, List.cons_append, List.nil_append, List.append_nil, denV, denI, denB, denL, I2.den, VOp.den, List.getD_cons_zero, List.getD_cons_succ, Cst.den, syso, syse, syio, sybo, nbi_fst, nbi_ck, nbi_se, nbi_te, nbi_tt, nbi_de, nbi_cnt, nbb_one, nbb_may, nbb_eqv, nbb_tk, nbb_ctk, nbb_ow, nbb_okn, nbb_tok, nbv_sv, nbv_tv, nbv_tb, nbv_dv, nbv_to, nbv_tw, List.map_nil, List.map_cons, B2.ofInts, B2.denI, B2.denB, if_true, Bool.false_eq_true, if_false, Nat.div_one, Nat.mul_one, Nat.add_zero]
  refine ⟨fun h0 => ?_, fun h0 => ?_⟩
  ·
   first
   | rfl
   | grind [dbV, dbE, tkE, tkT, tkB, toAt, bAt, sndE, sndV, errVal, rows_tup]
  ·
   first
   | rfl
   | grind [dbV, dbE, tkE, tkT, tkB, toAt, bAt, sndE, sndV, errVal, rows_tup]
theorem nbg_rdouble : nbc_rdouble.Good Tryd.prog syG (nbE [] [] [] []) := good_of_walk (Γ := ⟨[nc_rtake, nc_rsend], syG, [], [], []⟩) (ρ := nbE [] [] [] []) sym rdouble_w rfl (fun _ _ _ _ => (ok_cons (Con.Good.env (Con.Good.up ng_rtake nbup rfl) _ _ _ _) (ok_cons (Con.Good.env (Con.Good.up ng_rsend nbup rfl) _ _ _ _) ok_nil))) (fun i l hc hty => rdouble_h i l hc hty)
def to_tree : Tree :=
 (.br (.not (.b2 .eq (.iapp 1 (.cons (.opq 0) .nil)) (.lit (0))))
 (.ret (.hs .no (.cons (.int .i64) .nil) (.tup .nil)))
 (.loop ⟨1, 0, 1, 0⟩ (.b2 .and (.b2 .le (.lit (0)) (.lit (0))) (.b2 .and (.b2 .le (.lit (0)) (.ofI (.vop (.len 2) (.cons (.opq 0) .nil)))) (.bapp 7 (.cons (.tup .nil) (.cons (.opq 0) (.cons (.int .i64 (.var 0)) (.cons (.int .i64 (.lit (0))) .nil))))))) (.b2 .and (.b2 .le (.lit (0)) (.var 1)) (.b2 .and (.b2 .le (.var 1) (.ofI (.vop (.len 2) (.cons (.opq 0) .nil)))) (.bapp 7 (.cons (.opq 1) (.cons (.opq 0) (.cons (.int .i64 (.var 0)) (.cons (.int .i64 (.var 1)) .nil)))))))
 (.br (.b2 .lt (.var 1) (.ofI (.vop (.len 2) (.cons (.opq 0) .nil))))
 (.need (.b2 .and (.b2 .le (.lit (0)) (.var 1)) (.b2 .lt (.var 1) (.ofI (.vop (.len 2) (.cons (.opq 0) .nil)))))
 (.br (.b2 .eq (.ofI (.vop (.sel 2 0) (.cons (.opq 0) (.cons (.int .i64 (.var 1)) .nil)))) (.var 0))
 (.need (.b2 .le (.i2 .add (.ofI (.vop (.len 1) (.cons (.opq 1) .nil))) (.lit (1))) (.lit (17592186044416)))
 (.back (.b2 .and (.b2 .le (.lit (0)) (.wrap .i64 (.i2 .add (.var 1) (.lit (1))))) (.b2 .and (.b2 .le (.wrap .i64 (.i2 .add (.var 1) (.lit (1)))) (.ofI (.vop (.len 2) (.cons (.opq 0) .nil)))) (.bapp 7 (.cons (.vop .cat (.cons (.opq 1) (.cons (.tup (.cons (.int .i64 (.var 1)) .nil)) .nil))) (.cons (.opq 0) (.cons (.int .i64 (.var 0)) (.cons (.int .i64 (.wrap .i64 (.i2 .add (.var 1) (.lit (1))))) .nil))))))) (.i2 .sub (.ofI (.vop (.len 2) (.cons (.opq 0) .nil))) (.wrap .i64 (.i2 .add (.var 1) (.lit (1))))) (.i2 .sub (.ofI (.vop (.len 2) (.cons (.opq 0) .nil))) (.var 1))))
 (.back (.b2 .and (.b2 .le (.lit (0)) (.wrap .i64 (.i2 .add (.var 1) (.lit (1))))) (.b2 .and (.b2 .le (.wrap .i64 (.i2 .add (.var 1) (.lit (1)))) (.ofI (.vop (.len 2) (.cons (.opq 0) .nil)))) (.bapp 7 (.cons (.opq 1) (.cons (.opq 0) (.cons (.int .i64 (.var 0)) (.cons (.int .i64 (.wrap .i64 (.i2 .add (.var 1) (.lit (1))))) .nil))))))) (.i2 .sub (.ofI (.vop (.len 2) (.cons (.opq 0) .nil))) (.wrap .i64 (.i2 .add (.var 1) (.lit (1))))) (.i2 .sub (.ofI (.vop (.len 2) (.cons (.opq 0) .nil))) (.var 1)))))
 (.ret (.hs .no (.cons (.int .i64) .nil) (.opq 1))))))
abbrev nbc_to : Con := ⟨110, [(.agg (.cons (.hs .no (.cons (.int .i64) (.cons (.sl (.cons (.int .u8) .nil)) .nil)) (.opq 0)) .nil)), (.int .i64 (.var 0))], (.tt true), (.hs .no (.cons (.int .i64) .nil) (.vapp 5 (.cons (.opq 0) (.cons (.int .i64 (.var 0)) .nil)))), ⟨1, 0, 1, 0⟩, none⟩
theorem to_w : walk Tryd.prog 182 ⟨[nc_check], syG, [], [], []⟩ [⟨0, ⟨1, 0, 1, 0⟩, [(14, (.int .i64 (.var 1))), (5, (.hs (.id 1000 3) (.cons (.int .i64) .nil) (.opq 1)))], none, (.b2 .and (.b2 .le (.lit (0)) (.var 1)) (.b2 .and (.b2 .le (.var 1) (.ofI (.vop (.len 2) (.cons (.opq 0) .nil)))) (.bapp 7 (.cons (.opq 1) (.cons (.opq 0) (.cons (.int .i64 (.var 0)) (.cons (.int .i64 (.var 1)) .nil))))))), (.i2 .sub (.ofI (.vop (.len 2) (.cons (.opq 0) .nil))) (.var 1)), 1, []⟩] (.s (.cons (.int .i64) .nil)) nbc_to nbc_to.n 3000 = some to_tree := by kernel_rfl
theorem to_h (h : Int) (l : Value) (hc : holds (nbE [h] [] [l] []) (.tt true)) (hty : patsTyp (nbE [h] [] [l] []) [(.agg (.cons (.hs .no (.cons (.int .i64) (.cons (.sl (.cons (.int .u8) .nil)) .nil)) (.opq 0)) .nil)), (.int .i64 (.var 0))]) : to_tree.holds (fun v_ => v_ = denV (nbE [h] [] [l] []) b0 (.hs .no (.cons (.int .i64) .nil) (.vapp 5 (.cons (.opq 0) (.cons (.int .i64 (.var 0)) .nil))))) (nbE [h] [] [l] []) := by
  simp only [Tree.holds, Sy.holds, AllN, Env.more, nbE, List.cons_append, List.nil_append, List.append_nil, denV, denI, denB, denL, I2.den, VOp.den, List.getD_cons_zero, List.getD_cons_succ, Cst.den, syso, syse, syio, sybo, nbi_fst, nbi_ck, nbi_se, nbi_te, nbi_tt, nbi_de, nbi_cnt, nbb_one, nbb_may, nbb_eqv, nbb_tk, nbb_ctk, nbb_ow, nbb_okn, nbb_tok, nbv_sv, nbv_tv, nbv_tb, nbv_dv, nbv_to, nbv_tw, List.map_nil, List.map_cons, B2.ofInts, B2.denI, B2.denB, if_true, Bool.false_eq_true, if_false, Nat.div_one, Nat.mul_one, Nat.add_zero, holds] at hc
  simp only [patsTyp, patTyp, patTypL, nbE, denV, denL, List.getD_cons_zero, List.getD_cons_succ, and_true, true_and] at hty
  have hL_l : typ (.sl (.cons (.int .i64) (.cons (.sl (.cons (.int .u8) .nil)) .nil))) l := by first | exact hty | exact hty.1 | exact hty.2 | exact hty.1.1 | exact hty.1.2 | exact hty.2.1 | exact hty.2.2 | exact hty.2.2.1 | exact hty.2.2.2
  have hN_l := typ_len (n := 2) hL_l rfl (by omega)
  unfold to_tree
  simp only [Tree.holds, Sy.holds, AllN, Env.more, nbE, List.cons_append, List.nil_append, List.append_nil, denV, denI, denB, denL, I2.den, VOp.den, List.getD_cons_zero, List.getD_cons_succ, Cst.den, syso, syse, syio, sybo, nbi_fst, nbi_ck, nbi_se, nbi_te, nbi_tt, nbi_de, nbi_cnt, nbb_one, nbb_may, nbb_eqv, nbb_tk, nbb_ctk, nbb_ow, nbb_okn, nbb_tok, nbv_sv, nbv_tv, nbv_tb, nbv_dv, nbv_to, nbv_tw, List.map_nil, List.map_cons, B2.ofInts, B2.denI, B2.denB, if_true, Bool.false_eq_true, if_false, Nat.div_one, Nat.mul_one, Nat.add_zero]
  refine ⟨fun h0 => ?_, fun h0 => ?_⟩
  ·
   first
   | (have hm : mayB (Sy.rows l) = true := by grind [ckI]
      obtain ⟨g1, g2, g3⟩ := hi0
      rw [eqV_iff.1 g3, show i0a.toNat = (Sy.rows l).length / 2 by omega]
      simp only [toW, hm, if_true])
   | (have hm : mayB (Sy.rows l) = false := by grind [ckI]
      simp only [toW, hm]
      rfl)
  ·
   refine ⟨?_, ?_⟩
   ·
    exact ⟨by omega, by omega, eqV_iff.2 rfl⟩
   ·
    intro i0a i0b hi0
    refine ⟨fun h1 => ?_, fun h1 => ?_⟩
    ·
     refine ⟨?_, fun h2 => ?_⟩
     ·
      first
      | omega
      | (have e := eqV_iff.1 hi0.2.2
         have hlen : (Sy.rows i0b).length ≤ i0a.toNat := by rw [e, toV_len]; exact toL_le _ _ _
         have hm := (may_iff (Sy.rows l)).1 (by grind [ckI])
         omega)
     ·
      refine ⟨fun h3 => ?_, fun h3 => ?_⟩
      ·
       refine ⟨?_, fun h4 => ?_⟩
       ·
        first
        | omega
        | (have e := eqV_iff.1 hi0.2.2
           have hlen : (Sy.rows i0b).length ≤ i0a.toNat := by rw [e, toV_len]; exact toL_le _ _ _
           have hm := (may_iff (Sy.rows l)).1 (by grind [ckI])
           omega)
       ·
        have wf0 := wr_i64 (i0a + 1)
        refine ⟨?_, ?_⟩
        ·
         have e : IntKind.wrap .i64 (i0a + 1) = i0a + 1 := by omega
         rw [e]
         obtain ⟨g1, g2, g3⟩ := hi0
         refine ⟨by omega, by omega, eqV_iff.2 ?_⟩
         rw [eqV_iff.1 g3, show (i0a + 1).toNat = i0a.toNat + 1 by omega, toV_succ]
         first
         | (rw [if_pos (show toAt (Sy.rows l) i0a.toNat = h by exact h3)]
            simp only [toV, rows_tup, show ((i0a.toNat : Nat) : Int) = i0a by omega])
         | (rw [if_neg (show ¬ toAt (Sy.rows l) i0a.toNat = h by exact h3)]
            simp only [toV, List.append_nil])
        ·
         omega
      ·
       have wf1 := wr_i64 (i0a + 1)
       refine ⟨?_, ?_⟩
       ·
        have e : IntKind.wrap .i64 (i0a + 1) = i0a + 1 := by omega
        rw [e]
        obtain ⟨g1, g2, g3⟩ := hi0
        refine ⟨by omega, by omega, eqV_iff.2 ?_⟩
        rw [eqV_iff.1 g3, show (i0a + 1).toNat = i0a.toNat + 1 by omega, toV_succ]
        first
        | (rw [if_pos (show toAt (Sy.rows l) i0a.toNat = h by exact h3)]
           simp only [toV, rows_tup, show ((i0a.toNat : Nat) : Int) = i0a by omega])
        | (rw [if_neg (show ¬ toAt (Sy.rows l) i0a.toNat = h by exact h3)]
           simp only [toV, List.append_nil])
       ·
        omega
    ·
     first
     | (have hm : mayB (Sy.rows l) = true := by grind [ckI]
        obtain ⟨g1, g2, g3⟩ := hi0
        rw [eqV_iff.1 g3, show i0a.toNat = (Sy.rows l).length / 2 by omega]
        simp only [toW, hm, if_true])
     | (have hm : mayB (Sy.rows l) = false := by grind [ckI]
        simp only [toW, hm]
        rfl)
theorem nbg_to : nbc_to.Good Tryd.prog syG (nbE [] [] [] []) := good_of_walk (Γ := ⟨[nc_check], syG, [], [], []⟩) (ρ := nbE [] [] [] []) sym to_w rfl (fun _ _ _ _ => (ok_cons (Con.Good.env (Con.Good.up ng_check nbup rfl) _ _ _ _) ok_nil)) (fun h l hc hty => to_h h l hc hty)
def sure_tree : Tree :=
 (.br (.b2 .eq (.iapp 2 (.cons (.tup .nil) (.cons (.int .i64 (.lit (1))) (.cons (.tup (.cons (.int .u8 (.lit (120))) .nil)) .nil)))) (.lit (0)))
 (.br (.b2 .eq (.iapp 5 (.cons (.vapp 0 (.cons (.tup .nil) (.cons (.int .i64 (.lit (1))) (.cons (.tup (.cons (.int .u8 (.lit (120))) .nil)) .nil)))) (.cons (.int .i64 (.lit (0))) .nil))) (.lit (0)))
 (.br (.b2 .eq (.iapp 3 (.cons (.vapp 3 (.cons (.vapp 0 (.cons (.tup .nil) (.cons (.int .i64 (.lit (1))) (.cons (.tup (.cons (.int .u8 (.lit (120))) .nil)) .nil)))) (.cons (.int .i64 (.lit (0))) .nil))) (.cons (.int .i64 (.lit (0))) .nil))) (.lit (0)))
 (.br (.b2 .eq (.ofI (.vop (.len 2) (.cons (.vapp 3 (.cons (.vapp 0 (.cons (.tup .nil) (.cons (.int .i64 (.lit (1))) (.cons (.tup (.cons (.int .u8 (.lit (120))) .nil)) .nil)))) (.cons (.int .i64 (.lit (0))) .nil))) .nil))) (.lit (2)))
 (.br (.b2 .eq (.ofI (.vop (.len 2) (.cons (.vapp 1 (.cons (.vapp 3 (.cons (.vapp 0 (.cons (.tup .nil) (.cons (.int .i64 (.lit (1))) (.cons (.tup (.cons (.int .u8 (.lit (120))) .nil)) .nil)))) (.cons (.int .i64 (.lit (0))) .nil))) (.cons (.int .i64 (.lit (0))) .nil))) .nil))) (.lit (1)))
 (.br (.veq (.vop .b2s (.cons (.vapp 2 (.cons (.vapp 3 (.cons (.vapp 0 (.cons (.tup .nil) (.cons (.int .i64 (.lit (1))) (.cons (.tup (.cons (.int .u8 (.lit (120))) .nil)) .nil)))) (.cons (.int .i64 (.lit (0))) .nil))) (.cons (.int .i64 (.lit (0))) .nil))) .nil)) (.cst (.strc [120])))
 (.br (.b2 .eq (.iapp 3 (.cons (.vapp 1 (.cons (.vapp 3 (.cons (.vapp 0 (.cons (.tup .nil) (.cons (.int .i64 (.lit (1))) (.cons (.tup (.cons (.int .u8 (.lit (120))) .nil)) .nil)))) (.cons (.int .i64 (.lit (0))) .nil))) (.cons (.int .i64 (.lit (0))) .nil))) (.cons (.int .i64 (.lit (1))) .nil))) (.lit (6)))
 (.ret (.bool (.b2 .eq (.ofI (.vop (.len 1) (.cons (.vapp 5 (.cons (.vapp 3 (.cons (.vapp 0 (.cons (.tup .nil) (.cons (.int .i64 (.lit (1))) (.cons (.tup (.cons (.int .u8 (.lit (120))) .nil)) .nil)))) (.cons (.int .i64 (.lit (0))) .nil))) (.cons (.int .i64 (.lit (1))) .nil))) .nil))) (.lit (2)))))
 (.ret (.bool (.tt false))))
 (.ret (.bool (.tt false))))
 (.ret (.bool (.tt false))))
 (.ret (.bool (.tt false))))
 (.ret (.bool (.tt false))))
 (.ret (.bool (.tt false))))
 (.ret (.bool (.tt false))))
abbrev nbc_sure : Con := ⟨97, [], (.tt true), (.bool (.tt true)), ⟨0, 0, 0, 0⟩, none⟩
theorem sure_w : walk Tryd.prog 182 ⟨[nbc_send, nbc_double, nbc_take, nbc_lose, nbc_to, nc_num], syG, [], [], []⟩ [] .v nbc_sure nbc_sure.n 3000 = some sure_tree := by kernel_rfl
theorem sure_h  (hc : holds (nbE [] [] [] []) (.tt true)) (hty : patsTyp (nbE [] [] [] []) []) : sure_tree.holds (fun v_ => v_ = denV (nbE [] [] [] []) b0 (.bool (.tt true))) (nbE [] [] [] []) := by
  simp only [Tree.holds, Sy.holds, AllN, Env.more, nbE, List.cons_append, List.nil_append, List.append_nil, denV, denI, denB, denL, I2.den, VOp.den, List.getD_cons_zero, List.getD_cons_succ, Cst.den, syso, syse, syio, sybo, nbi_fst, nbi_ck, nbi_se, nbi_te, nbi_tt, nbi_de, nbi_cnt, nbb_one, nbb_may, nbb_eqv, nbb_tk, nbb_ctk, nbb_ow, nbb_okn, nbb_tok, nbv_sv, nbv_tv, nbv_tb, nbv_dv, nbv_to, nbv_tw, List.map_nil, List.map_cons, B2.ofInts, B2.denI, B2.denB, if_true, Bool.false_eq_true, if_false, Nat.div_one, Nat.mul_one, Nat.add_zero, holds] at hc
  simp only [patsTyp, patTyp, patTypL, nbE, denV, denL, List.getD_cons_zero, List.getD_cons_succ, and_true, true_and] at hty
  unfold sure_tree
  simp only [Tree.holds, Sy.holds, AllN, Env.more, nbE, List.cons_append, List.nil_append, List.append_nil, denV, denI, denB, denL, I2.den, VOp.den, List.getD_cons_zero, List.getD_cons_succ, Cst.den, syso, syse, syio, sybo, nbi_fst, nbi_ck, nbi_se, nbi_te, nbi_tt, nbi_de, nbi_cnt, nbb_one, nbb_may, nbb_eqv, nbb_tk, nbb_ctk, nbb_ow, nbb_okn, nbb_tok, nbv_sv, nbv_tv, nbv_tb, nbv_dv, nbv_to, nbv_tw, List.map_nil, List.map_cons, B2.ofInts, B2.denI, B2.denB, if_true, Bool.false_eq_true, if_false, Nat.div_one, Nat.mul_one, Nat.add_zero]
  refine ⟨fun h0 => ?_, fun h0 => ?_⟩
  ·
   refine ⟨fun h1 => ?_, fun h1 => ?_⟩
   ·
    refine ⟨fun h2 => ?_, fun h2 => ?_⟩
    ·
     refine ⟨fun h3 => ?_, fun h3 => ?_⟩
     ·
      refine ⟨fun h4 => ?_, fun h4 => ?_⟩
      ·
       refine ⟨fun h5 => ?_, fun h5 => ?_⟩
       ·
        refine ⟨fun h6 => ?_, fun h6 => ?_⟩
        ·
         first
         | rfl
         | exact congrArg Value.bool (by decide)
         | exact absurd (by decide) h0
         | exact absurd (by decide) h1
         | exact absurd (by decide) h2
         | exact absurd (by decide) h3
         | exact absurd (by decide) h4
         | exact absurd (by decide) h5
         | exact absurd (by decide) h6
         | exact absurd (by decide) h7
         | exact absurd (by decide) h8
         | exact absurd (by decide) h9
         | exact absurd (by decide) h10
         | exact absurd (by decide) h11
        ·
         first
         | rfl
         | exact congrArg Value.bool (by decide)
         | exact absurd (by decide) h0
         | exact absurd (by decide) h1
         | exact absurd (by decide) h2
         | exact absurd (by decide) h3
         | exact absurd (by decide) h4
         | exact absurd (by decide) h5
         | exact absurd (by decide) h6
         | exact absurd (by decide) h7
         | exact absurd (by decide) h8
         | exact absurd (by decide) h9
         | exact absurd (by decide) h10
         | exact absurd (by decide) h11
       ·
        first
        | rfl
        | exact congrArg Value.bool (by decide)
        | exact absurd (by decide) h0
        | exact absurd (by decide) h1
        | exact absurd (by decide) h2
        | exact absurd (by decide) h3
        | exact absurd (by decide) h4
        | exact absurd (by decide) h5
        | exact absurd (by decide) h6
        | exact absurd (by decide) h7
        | exact absurd (by decide) h8
        | exact absurd (by decide) h9
        | exact absurd (by decide) h10
        | exact absurd (by decide) h11
      ·
       first
       | rfl
       | exact congrArg Value.bool (by decide)
       | exact absurd (by decide) h0
       | exact absurd (by decide) h1
       | exact absurd (by decide) h2
       | exact absurd (by decide) h3
       | exact absurd (by decide) h4
       | exact absurd (by decide) h5
       | exact absurd (by decide) h6
       | exact absurd (by decide) h7
       | exact absurd (by decide) h8
       | exact absurd (by decide) h9
       | exact absurd (by decide) h10
       | exact absurd (by decide) h11
     ·
      first
      | rfl
      | exact congrArg Value.bool (by decide)
      | exact absurd (by decide) h0
      | exact absurd (by decide) h1
      | exact absurd (by decide) h2
      | exact absurd (by decide) h3
      | exact absurd (by decide) h4
      | exact absurd (by decide) h5
      | exact absurd (by decide) h6
      | exact absurd (by decide) h7
      | exact absurd (by decide) h8
      | exact absurd (by decide) h9
      | exact absurd (by decide) h10
      | exact absurd (by decide) h11
    ·
     first
     | rfl
     | exact congrArg Value.bool (by decide)
     | exact absurd (by decide) h0
     | exact absurd (by decide) h1
     | exact absurd (by decide) h2
     | exact absurd (by decide) h3
     | exact absurd (by decide) h4
     | exact absurd (by decide) h5
     | exact absurd (by decide) h6
     | exact absurd (by decide) h7
     | exact absurd (by decide) h8
     | exact absurd (by decide) h9
     | exact absurd (by decide) h10
     | exact absurd (by decide) h11
   ·
    first
    | rfl
    | exact congrArg Value.bool (by decide)
    | exact absurd (by decide) h0
    | exact absurd (by decide) h1
    | exact absurd (by decide) h2
    | exact absurd (by decide) h3
    | exact absurd (by decide) h4
    | exact absurd (by decide) h5
    | exact absurd (by decide) h6
    | exact absurd (by decide) h7
    | exact absurd (by decide) h8
    | exact absurd (by decide) h9
    | exact absurd (by decide) h10
    | exact absurd (by decide) h11
  ·
   first
   | rfl
   | exact congrArg Value.bool (by decide)
   | exact absurd (by decide) h0
   | exact absurd (by decide) h1
   | exact absurd (by decide) h2
   | exact absurd (by decide) h3
   | exact absurd (by decide) h4
   | exact absurd (by decide) h5
   | exact absurd (by decide) h6
   | exact absurd (by decide) h7
   | exact absurd (by decide) h8
   | exact absurd (by decide) h9
   | exact absurd (by decide) h10
   | exact absurd (by decide) h11
theorem nbg_sure : nbc_sure.Good Tryd.prog syG (nbE [] [] [] []) := good_of_walk (Γ := ⟨[nbc_send, nbc_double, nbc_take, nbc_lose, nbc_to, nc_num], syG, [], [], []⟩) (ρ := nbE [] [] [] []) sym sure_w rfl (fun _ _ _ _ => (ok_cons (Con.Good.env nbg_send _ _ _ _) (ok_cons (Con.Good.env nbg_double _ _ _ _) (ok_cons (Con.Good.env nbg_take _ _ _ _) (ok_cons (Con.Good.env nbg_lose _ _ _ _) (ok_cons (Con.Good.env nbg_to _ _ _ _) (ok_cons (Con.Good.env (Con.Good.up ng_num nbup rfl) _ _ _ _) ok_nil))))))) (fun hc hty => sure_h  hc hty)
def wSteps_tree : Tree :=
 (.loop ⟨2, 0, 0, 0⟩ (.b2 .and (.b2 .le (.lit (0)) (.lit (0))) (.b2 .and (.b2 .le (.lit (0)) (.lit (0))) (.b2 .and (.b2 .le (.lit (0)) (.lit (0))) (.b2 .and (.b2 .le (.lit (0)) (.ofI (.vop (.len 2) (.cons (.opq 0) .nil)))) (.b2 .le (.lit (0)) (.lit (60))))))) (.b2 .and (.b2 .le (.lit (0)) (.var 2)) (.b2 .and (.b2 .le (.var 2) (.i2 .mul (.lit (5000)) (.var 3))) (.b2 .and (.b2 .le (.lit (0)) (.var 3)) (.b2 .and (.b2 .le (.var 3) (.ofI (.vop (.len 2) (.cons (.opq 0) .nil)))) (.b2 .le (.var 3) (.lit (60)))))))
 (.br (.b2 .lt (.var 3) (.ofI (.vop (.len 2) (.cons (.opq 0) .nil))))
 (.br (.b2 .lt (.var 3) (.lit (60)))
 (.need (.b2 .and (.b2 .le (.lit (0)) (.var 3)) (.b2 .lt (.var 3) (.ofI (.vop (.len 2) (.cons (.opq 0) .nil)))))
 (.back (.b2 .and (.b2 .le (.lit (0)) (.wrap .i64 (.i2 .add (.var 2) (.i2 .min (.ofI (.vop (.len 1) (.cons (.vop (.sel 2 1) (.cons (.opq 0) (.cons (.int .i64 (.var 3)) .nil))) .nil))) (.lit (5000)))))) (.b2 .and (.b2 .le (.wrap .i64 (.i2 .add (.var 2) (.i2 .min (.ofI (.vop (.len 1) (.cons (.vop (.sel 2 1) (.cons (.opq 0) (.cons (.int .i64 (.var 3)) .nil))) .nil))) (.lit (5000))))) (.i2 .mul (.lit (5000)) (.wrap .i64 (.i2 .add (.var 3) (.lit (1)))))) (.b2 .and (.b2 .le (.lit (0)) (.wrap .i64 (.i2 .add (.var 3) (.lit (1))))) (.b2 .and (.b2 .le (.wrap .i64 (.i2 .add (.var 3) (.lit (1)))) (.ofI (.vop (.len 2) (.cons (.opq 0) .nil)))) (.b2 .le (.wrap .i64 (.i2 .add (.var 3) (.lit (1)))) (.lit (60))))))) (.i2 .sub (.ofI (.vop (.len 2) (.cons (.opq 0) .nil))) (.wrap .i64 (.i2 .add (.var 3) (.lit (1))))) (.i2 .sub (.ofI (.vop (.len 2) (.cons (.opq 0) .nil))) (.var 3))))
 (.br (.b2 .lt (.lit (60)) (.ofI (.vop (.len 2) (.cons (.opq 0) .nil))))
 (.ret (.bool (.tt true)))
 (.br (.b2 .lt (.lit (6000)) (.var 2))
 (.ret (.bool (.tt true)))
 (.br (.b2 .lt (.lit (3000)) (.ofI (.vop (.len 1) (.cons (.opq 1) .nil))))
 (.ret (.bool (.tt true)))
 (.need (.b2 .le (.ofI (.vop (.len 2) (.cons (.opq 0) .nil))) (.lit (4398046511103)))
 (.need (.bapp 2 (.cons (.vapp 0 (.cons (.opq 0) (.cons (.int .i64 (.var 0)) (.cons (.opq 1) .nil)))) (.cons (.vapp 0 (.cons (.opq 0) (.cons (.int .i64 (.var 0)) (.cons (.opq 1) .nil)))) .nil)))
 (.need (.bapp 2 (.cons (.vapp 1 (.cons (.opq 0) (.cons (.int .i64 (.var 1)) .nil))) (.cons (.vapp 1 (.cons (.opq 0) (.cons (.int .i64 (.var 1)) .nil))) .nil)))
 (.need (.bapp 2 (.cons (.vapp 1 (.cons (.opq 0) (.cons (.int .i64 (.var 1)) .nil))) (.cons (.vapp 1 (.cons (.opq 0) (.cons (.int .i64 (.var 1)) .nil))) .nil)))
 (.need (.bapp 2 (.cons (.vapp 3 (.cons (.opq 0) (.cons (.int .i64 (.var 1)) .nil))) (.cons (.vapp 3 (.cons (.opq 0) (.cons (.int .i64 (.var 1)) .nil))) .nil)))
 (.need (.bapp 2 (.cons (.opq 0) (.cons (.opq 0) .nil)))
 (.br (.not (.b2 .beq (.b2 .eq (.iapp 1 (.cons (.opq 0) .nil)) (.lit (0))) (.bapp 1 (.cons (.opq 0) .nil))))
 (.ret (.bool (.tt false)))
 (.loop ⟨2, 0, 0, 0⟩ (.b2 .and (.b2 .le (.lit (0)) (.lit (0))) (.b2 .and (.b2 .le (.lit (0)) (.ofI (.vop (.len 2) (.cons (.opq 0) .nil)))) (.b2 .and (.b2 .eq (.lit (0)) (.iapp 6 (.cons (.opq 0) (.cons (.int .i64 (.var 0)) (.cons (.int .i64 (.lit (0))) .nil))))) (.b2 .or (.bapp 1 (.cons (.opq 0) .nil)) (.b2 .eq (.lit (0)) (.lit (0))))))) (.b2 .and (.b2 .le (.lit (0)) (.var 5)) (.b2 .and (.b2 .le (.var 5) (.ofI (.vop (.len 2) (.cons (.opq 0) .nil)))) (.b2 .and (.b2 .eq (.var 4) (.iapp 6 (.cons (.opq 0) (.cons (.int .i64 (.var 0)) (.cons (.int .i64 (.var 5)) .nil))))) (.b2 .or (.bapp 1 (.cons (.opq 0) .nil)) (.b2 .eq (.var 5) (.lit (0)))))))
 (.br (.b2 .lt (.var 5) (.ofI (.vop (.len 2) (.cons (.opq 0) .nil))))
 (.br (.bapp 1 (.cons (.opq 0) .nil))
 (.need (.b2 .and (.b2 .le (.lit (0)) (.var 5)) (.b2 .lt (.var 5) (.ofI (.vop (.len 2) (.cons (.opq 0) .nil)))))
 (.br (.b2 .eq (.ofI (.vop (.sel 2 0) (.cons (.opq 0) (.cons (.int .i64 (.var 5)) .nil)))) (.var 0))
 (.br (.b2 .le (.ofI (.vop (.len 1) (.cons (.vapp 5 (.cons (.opq 0) (.cons (.int .i64 (.var 0)) .nil))) .nil))) (.var 4))
 (.ret (.bool (.tt false)))
 (.need (.b2 .and (.b2 .le (.lit (0)) (.var 4)) (.b2 .lt (.var 4) (.ofI (.vop (.len 1) (.cons (.vapp 5 (.cons (.opq 0) (.cons (.int .i64 (.var 0)) .nil))) .nil)))))
 (.br (.not (.b2 .eq (.ofI (.vop (.sel 1 0) (.cons (.vapp 5 (.cons (.opq 0) (.cons (.int .i64 (.var 0)) .nil))) (.cons (.int .i64 (.var 4)) .nil)))) (.var 5)))
 (.ret (.bool (.tt false)))
 (.back (.b2 .and (.b2 .le (.lit (0)) (.wrap .i64 (.i2 .add (.var 5) (.lit (1))))) (.b2 .and (.b2 .le (.wrap .i64 (.i2 .add (.var 5) (.lit (1)))) (.ofI (.vop (.len 2) (.cons (.opq 0) .nil)))) (.b2 .and (.b2 .eq (.wrap .i64 (.i2 .add (.var 4) (.lit (1)))) (.iapp 6 (.cons (.opq 0) (.cons (.int .i64 (.var 0)) (.cons (.int .i64 (.wrap .i64 (.i2 .add (.var 5) (.lit (1))))) .nil))))) (.b2 .or (.bapp 1 (.cons (.opq 0) .nil)) (.b2 .eq (.wrap .i64 (.i2 .add (.var 5) (.lit (1)))) (.lit (0))))))) (.i2 .sub (.ofI (.vop (.len 2) (.cons (.opq 0) .nil))) (.wrap .i64 (.i2 .add (.var 5) (.lit (1))))) (.i2 .sub (.ofI (.vop (.len 2) (.cons (.opq 0) .nil))) (.var 5))))))
 (.back (.b2 .and (.b2 .le (.lit (0)) (.wrap .i64 (.i2 .add (.var 5) (.lit (1))))) (.b2 .and (.b2 .le (.wrap .i64 (.i2 .add (.var 5) (.lit (1)))) (.ofI (.vop (.len 2) (.cons (.opq 0) .nil)))) (.b2 .and (.b2 .eq (.var 4) (.iapp 6 (.cons (.opq 0) (.cons (.int .i64 (.var 0)) (.cons (.int .i64 (.wrap .i64 (.i2 .add (.var 5) (.lit (1))))) .nil))))) (.b2 .or (.bapp 1 (.cons (.opq 0) .nil)) (.b2 .eq (.wrap .i64 (.i2 .add (.var 5) (.lit (1)))) (.lit (0))))))) (.i2 .sub (.ofI (.vop (.len 2) (.cons (.opq 0) .nil))) (.wrap .i64 (.i2 .add (.var 5) (.lit (1))))) (.i2 .sub (.ofI (.vop (.len 2) (.cons (.opq 0) .nil))) (.var 5)))))
 (.br (.b2 .eq (.var 4) (.ofI (.vop (.len 1) (.cons (.vapp 5 (.cons (.opq 0) (.cons (.int .i64 (.var 0)) .nil))) .nil))))
 (.ret (.bool (.tt true)))
 (.ret (.bool (.tt false)))))
 (.br (.b2 .eq (.var 4) (.ofI (.vop (.len 1) (.cons (.vapp 5 (.cons (.opq 0) (.cons (.int .i64 (.var 0)) .nil))) .nil))))
 (.ret (.bool (.tt true)))
 (.ret (.bool (.tt false)))))))))))))))))
 (.br (.b2 .lt (.lit (60)) (.ofI (.vop (.len 2) (.cons (.opq 0) .nil))))
 (.ret (.bool (.tt true)))
 (.br (.b2 .lt (.lit (6000)) (.var 2))
 (.ret (.bool (.tt true)))
 (.br (.b2 .lt (.lit (3000)) (.ofI (.vop (.len 1) (.cons (.opq 1) .nil))))
 (.ret (.bool (.tt true)))
 (.need (.b2 .le (.ofI (.vop (.len 2) (.cons (.opq 0) .nil))) (.lit (4398046511103)))
 (.need (.bapp 2 (.cons (.vapp 0 (.cons (.opq 0) (.cons (.int .i64 (.var 0)) (.cons (.opq 1) .nil)))) (.cons (.vapp 0 (.cons (.opq 0) (.cons (.int .i64 (.var 0)) (.cons (.opq 1) .nil)))) .nil)))
 (.need (.bapp 2 (.cons (.vapp 1 (.cons (.opq 0) (.cons (.int .i64 (.var 1)) .nil))) (.cons (.vapp 1 (.cons (.opq 0) (.cons (.int .i64 (.var 1)) .nil))) .nil)))
 (.need (.bapp 2 (.cons (.vapp 1 (.cons (.opq 0) (.cons (.int .i64 (.var 1)) .nil))) (.cons (.vapp 1 (.cons (.opq 0) (.cons (.int .i64 (.var 1)) .nil))) .nil)))
 (.need (.bapp 2 (.cons (.vapp 3 (.cons (.opq 0) (.cons (.int .i64 (.var 1)) .nil))) (.cons (.vapp 3 (.cons (.opq 0) (.cons (.int .i64 (.var 1)) .nil))) .nil)))
 (.need (.bapp 2 (.cons (.opq 0) (.cons (.opq 0) .nil)))
 (.br (.not (.b2 .beq (.b2 .eq (.iapp 1 (.cons (.opq 0) .nil)) (.lit (0))) (.bapp 1 (.cons (.opq 0) .nil))))
 (.ret (.bool (.tt false)))
 (.loop ⟨2, 0, 0, 0⟩ (.b2 .and (.b2 .le (.lit (0)) (.lit (0))) (.b2 .and (.b2 .le (.lit (0)) (.ofI (.vop (.len 2) (.cons (.opq 0) .nil)))) (.b2 .and (.b2 .eq (.lit (0)) (.iapp 6 (.cons (.opq 0) (.cons (.int .i64 (.var 0)) (.cons (.int .i64 (.lit (0))) .nil))))) (.b2 .or (.bapp 1 (.cons (.opq 0) .nil)) (.b2 .eq (.lit (0)) (.lit (0))))))) (.b2 .and (.b2 .le (.lit (0)) (.var 5)) (.b2 .and (.b2 .le (.var 5) (.ofI (.vop (.len 2) (.cons (.opq 0) .nil)))) (.b2 .and (.b2 .eq (.var 4) (.iapp 6 (.cons (.opq 0) (.cons (.int .i64 (.var 0)) (.cons (.int .i64 (.var 5)) .nil))))) (.b2 .or (.bapp 1 (.cons (.opq 0) .nil)) (.b2 .eq (.var 5) (.lit (0)))))))
 (.br (.b2 .lt (.var 5) (.ofI (.vop (.len 2) (.cons (.opq 0) .nil))))
 (.br (.bapp 1 (.cons (.opq 0) .nil))
 (.need (.b2 .and (.b2 .le (.lit (0)) (.var 5)) (.b2 .lt (.var 5) (.ofI (.vop (.len 2) (.cons (.opq 0) .nil)))))
 (.br (.b2 .eq (.ofI (.vop (.sel 2 0) (.cons (.opq 0) (.cons (.int .i64 (.var 5)) .nil)))) (.var 0))
 (.br (.b2 .le (.ofI (.vop (.len 1) (.cons (.vapp 5 (.cons (.opq 0) (.cons (.int .i64 (.var 0)) .nil))) .nil))) (.var 4))
 (.ret (.bool (.tt false)))
 (.need (.b2 .and (.b2 .le (.lit (0)) (.var 4)) (.b2 .lt (.var 4) (.ofI (.vop (.len 1) (.cons (.vapp 5 (.cons (.opq 0) (.cons (.int .i64 (.var 0)) .nil))) .nil)))))
 (.br (.not (.b2 .eq (.ofI (.vop (.sel 1 0) (.cons (.vapp 5 (.cons (.opq 0) (.cons (.int .i64 (.var 0)) .nil))) (.cons (.int .i64 (.var 4)) .nil)))) (.var 5)))
 (.ret (.bool (.tt false)))
 (.back (.b2 .and (.b2 .le (.lit (0)) (.wrap .i64 (.i2 .add (.var 5) (.lit (1))))) (.b2 .and (.b2 .le (.wrap .i64 (.i2 .add (.var 5) (.lit (1)))) (.ofI (.vop (.len 2) (.cons (.opq 0) .nil)))) (.b2 .and (.b2 .eq (.wrap .i64 (.i2 .add (.var 4) (.lit (1)))) (.iapp 6 (.cons (.opq 0) (.cons (.int .i64 (.var 0)) (.cons (.int .i64 (.wrap .i64 (.i2 .add (.var 5) (.lit (1))))) .nil))))) (.b2 .or (.bapp 1 (.cons (.opq 0) .nil)) (.b2 .eq (.wrap .i64 (.i2 .add (.var 5) (.lit (1)))) (.lit (0))))))) (.i2 .sub (.ofI (.vop (.len 2) (.cons (.opq 0) .nil))) (.wrap .i64 (.i2 .add (.var 5) (.lit (1))))) (.i2 .sub (.ofI (.vop (.len 2) (.cons (.opq 0) .nil))) (.var 5))))))
 (.back (.b2 .and (.b2 .le (.lit (0)) (.wrap .i64 (.i2 .add (.var 5) (.lit (1))))) (.b2 .and (.b2 .le (.wrap .i64 (.i2 .add (.var 5) (.lit (1)))) (.ofI (.vop (.len 2) (.cons (.opq 0) .nil)))) (.b2 .and (.b2 .eq (.var 4) (.iapp 6 (.cons (.opq 0) (.cons (.int .i64 (.var 0)) (.cons (.int .i64 (.wrap .i64 (.i2 .add (.var 5) (.lit (1))))) .nil))))) (.b2 .or (.bapp 1 (.cons (.opq 0) .nil)) (.b2 .eq (.wrap .i64 (.i2 .add (.var 5) (.lit (1)))) (.lit (0))))))) (.i2 .sub (.ofI (.vop (.len 2) (.cons (.opq 0) .nil))) (.wrap .i64 (.i2 .add (.var 5) (.lit (1))))) (.i2 .sub (.ofI (.vop (.len 2) (.cons (.opq 0) .nil))) (.var 5)))))
 (.br (.b2 .eq (.var 4) (.ofI (.vop (.len 1) (.cons (.vapp 5 (.cons (.opq 0) (.cons (.int .i64 (.var 0)) .nil))) .nil))))
 (.ret (.bool (.tt true)))
 (.ret (.bool (.tt false)))))
 (.br (.b2 .eq (.var 4) (.ofI (.vop (.len 1) (.cons (.vapp 5 (.cons (.opq 0) (.cons (.int .i64 (.var 0)) .nil))) .nil))))
 (.ret (.bool (.tt true)))
 (.ret (.bool (.tt false))))))))))))))))))
abbrev nbc_wSteps : Con := ⟨17, [(.hs .no (.cons (.int .i64) (.cons (.sl (.cons (.int .u8) .nil)) .nil)) (.opq 0)), (.agg (.cons (.int .i64 (.var 0)) (.cons (.hs .no (.cons (.int .u8) .nil) (.opq 1)) .nil))), (.int .i64 (.var 1))], (.tt true), (.bool (.tt true)), ⟨2, 0, 2, 0⟩, none⟩
theorem wSteps_w : walk Tryd.prog 182 ⟨[nbc_sure, nc_give, nbc_send, nc_rsend, nbc_take, nc_rtake, nbc_lose, nbc_double, nbc_rdouble, nc_isnet, nc_num, nc_check, nc_rmay, nbc_to], syG, [], [], []⟩ [⟨0, ⟨2, 0, 0, 0⟩, [(7, (.int .i64 (.var 2))), (8, (.int .i64 (.var 3)))], none, (.b2 .and (.b2 .le (.lit (0)) (.var 2)) (.b2 .and (.b2 .le (.var 2) (.i2 .mul (.lit (5000)) (.var 3))) (.b2 .and (.b2 .le (.lit (0)) (.var 3)) (.b2 .and (.b2 .le (.var 3) (.ofI (.vop (.len 2) (.cons (.opq 0) .nil)))) (.b2 .le (.var 3) (.lit (60))))))), (.i2 .sub (.ofI (.vop (.len 2) (.cons (.opq 0) .nil))) (.var 3)), 0, []⟩, ⟨2, ⟨2, 0, 0, 0⟩, [(27, (.int .i64 (.var 4))), (28, (.int .i64 (.var 5)))], none, (.b2 .and (.b2 .le (.lit (0)) (.var 5)) (.b2 .and (.b2 .le (.var 5) (.ofI (.vop (.len 2) (.cons (.opq 0) .nil)))) (.b2 .and (.b2 .eq (.var 4) (.iapp 6 (.cons (.opq 0) (.cons (.int .i64 (.var 0)) (.cons (.int .i64 (.var 5)) .nil))))) (.b2 .or (.bapp 1 (.cons (.opq 0) .nil)) (.b2 .eq (.var 5) (.lit (0))))))), (.i2 .sub (.ofI (.vop (.len 2) (.cons (.opq 0) .nil))) (.var 5)), 0, []⟩] .v nbc_wSteps nbc_wSteps.n 3000 = some wSteps_tree := by kernel_rfl
theorem wSteps_h (t : Int) (i : Int) (l : Value) (b : Value) (hc : holds (nbE [t, i] [] [l, b] []) (.tt true)) (hty : patsTyp (nbE [t, i] [] [l, b] []) [(.hs .no (.cons (.int .i64) (.cons (.sl (.cons (.int .u8) .nil)) .nil)) (.opq 0)), (.agg (.cons (.int .i64 (.var 0)) (.cons (.hs .no (.cons (.int .u8) .nil) (.opq 1)) .nil))), (.int .i64 (.var 1))]) : wSteps_tree.holds (fun v_ => v_ = denV (nbE [t, i] [] [l, b] []) b0 (.bool (.tt true))) (nbE [t, i] [] [l, b] []) := by
  simp only [Tree.holds, Sy.holds, AllN, Env.more, nbE, List.cons_append, List.nil_append, List.append_nil, denV, denI, denB, denL, I2.den, VOp.den, List.getD_cons_zero, List.getD_cons_succ, Cst.den, syso, syse, syio, sybo, nbi_fst, nbi_ck, nbi_se, nbi_te, nbi_tt, nbi_de, nbi_cnt, nbb_one, nbb_may, nbb_eqv, nbb_tk, nbb_ctk, nbb_ow, nbb_okn, nbb_tok, nbv_sv, nbv_tv, nbv_tb, nbv_dv, nbv_to, nbv_tw, List.map_nil, List.map_cons, B2.ofInts, B2.denI, B2.denB, if_true, Bool.false_eq_true, if_false, Nat.div_one, Nat.mul_one, Nat.add_zero, holds] at hc
  simp only [patsTyp, patTyp, patTypL, nbE, denV, denL, List.getD_cons_zero, List.getD_cons_succ, and_true, true_and] at hty
  have hL_l : typ (.sl (.cons (.int .i64) (.cons (.sl (.cons (.int .u8) .nil)) .nil))) l := by first | exact hty | exact hty.1 | exact hty.2 | exact hty.1.1 | exact hty.1.2 | exact hty.2.1 | exact hty.2.2 | exact hty.2.2.1 | exact hty.2.2.2
  have hN_l := typ_len (n := 2) hL_l rfl (by omega)
  have hL_b : typ (.sl (.cons (.int .u8) .nil)) b := by first | exact hty | exact hty.1 | exact hty.2 | exact hty.1.1 | exact hty.1.2 | exact hty.2.1 | exact hty.2.2 | exact hty.2.2.1 | exact hty.2.2.2
  have hN_b := typ_len (n := 1) hL_b rfl (by omega)
  simp only [Nat.div_one, Nat.mul_one] at hN_b
  unfold wSteps_tree
  simp only [Tree.holds, Sy.holds, AllN, Env.more, nbE, List.cons_append, List.nil_append, List.append_nil, denV, denI, denB, denL, I2.den, VOp.den, List.getD_cons_zero, List.getD_cons_succ, Cst.den, syso, syse, syio, sybo, nbi_fst, nbi_ck, nbi_se, nbi_te, nbi_tt, nbi_de, nbi_cnt, nbb_one, nbb_may, nbb_eqv, nbb_tk, nbb_ctk, nbb_ow, nbb_okn, nbb_tok, nbv_sv, nbv_tv, nbv_tb, nbv_dv, nbv_to, nbv_tw, List.map_nil, List.map_cons, B2.ofInts, B2.denI, B2.denB, if_true, Bool.false_eq_true, if_false, Nat.div_one, Nat.mul_one, Nat.add_zero]
  refine ⟨?_, ?_⟩
  ·
   first
   | exact ⟨by omega, by omega, by omega, by omega, by omega⟩
   | exact ⟨by omega, by omega, by simp [toL], by simp⟩
  ·
   intro i0a i0b hi0
   refine ⟨fun h0 => ?_, fun h0 => ?_⟩
   ·
    refine ⟨fun h1 => ?_, fun h1 => ?_⟩
    ·
     refine ⟨?_, fun h2 => ?_⟩
     ·
      first
      | exact True.intro
      | omega
      | exact eqV_iff.2 rfl
     ·
      have wf0 := wr_i64 (i0a + (if 5000 < ((((rows ((rows l).getD (Int.toNat i0b * 2 + 1) Go.undef)).length : Nat)) : Int) then 5000 else ((((rows ((rows l).getD (Int.toNat i0b * 2 + 1) Go.undef)).length : Nat)) : Int)))
      have wf1 := wr_i64 (i0b + 1)
      refine ⟨?_, ?_⟩
      ·
       obtain ⟨g1, g2, g3, g4, g5⟩ := hi0
       have e : IntKind.wrap .i64 (i0b + 1) = i0b + 1 := by omega
       rw [e]
       have hx : ∃ m, (if 5000 < ((Sy.rows ((Sy.rows l).getD (i0b.toNat * 2 + 1) Go.undef)).length : Int) then 5000 else ((Sy.rows ((Sy.rows l).getD (i0b.toNat * 2 + 1) Go.undef)).length : Int)) = m ∧ 0 ≤ m ∧ m ≤ 5000 := ⟨_, rfl, by split <;> omega, by split <;> omega⟩
       obtain ⟨z, hz, hz0, hz1⟩ := hx
       rw [hz]
       have w := wr_i64 (i0a + z)
       exact ⟨by omega, by omega, by omega, by omega, by omega⟩
      ·
       omega
    ·
     refine ⟨fun h3 => ?_, fun h3 => ?_⟩
     ·
      first
      | exact True.intro
      | rfl
      | (exfalso
         have hck := ck_may (Sy.rows l)
         simp only [hck, not_true_eq_false, not_false_eq_true] at *
         done)
     ·
      refine ⟨fun h4 => ?_, fun h4 => ?_⟩
      ·
       first
       | exact True.intro
       | rfl
       | (exfalso
          have hck := ck_may (Sy.rows l)
          simp only [hck, not_true_eq_false, not_false_eq_true] at *
          done)
      ·
       refine ⟨fun h5 => ?_, fun h5 => ?_⟩
       ·
        first
        | exact True.intro
        | rfl
        | (exfalso
           have hck := ck_may (Sy.rows l)
           simp only [hck, not_true_eq_false, not_false_eq_true] at *
           done)
       ·
        refine ⟨?_, fun h6 => ?_⟩
        ·
         first
         | exact True.intro
         | omega
         | exact eqV_iff.2 rfl
        ·
         refine ⟨?_, fun h7 => ?_⟩
         ·
          first
          | exact True.intro
          | omega
          | exact eqV_iff.2 rfl
         ·
          refine ⟨?_, fun h8 => ?_⟩
          ·
           first
           | exact True.intro
           | omega
           | exact eqV_iff.2 rfl
          ·
           refine ⟨?_, fun h9 => ?_⟩
           ·
            first
            | exact True.intro
            | omega
            | exact eqV_iff.2 rfl
           ·
            refine ⟨?_, fun h10 => ?_⟩
            ·
             first
             | exact True.intro
             | omega
             | exact eqV_iff.2 rfl
            ·
             refine ⟨?_, fun h11 => ?_⟩
             ·
              first
              | exact True.intro
              | omega
              | exact eqV_iff.2 rfl
             ·
              refine ⟨fun h12 => ?_, fun h12 => ?_⟩
              ·
               first
               | exact True.intro
               | rfl
               | (exfalso
                  have hck := ck_may (Sy.rows l)
                  simp only [hck, not_true_eq_false, not_false_eq_true] at *
                  done)
              ·
               refine ⟨?_, ?_⟩
               ·
                first
                | exact ⟨by omega, by omega, by omega, by omega, by omega⟩
                | exact ⟨by omega, by omega, by simp [toL], by simp⟩
               ·
                intro i1a i1b hi1
                refine ⟨fun h13 => ?_, fun h13 => ?_⟩
                ·
                 refine ⟨fun h14 => ?_, fun h14 => ?_⟩
                 ·
                  refine ⟨?_, fun h15 => ?_⟩
                  ·
                   first
                   | exact True.intro
                   | omega
                   | exact eqV_iff.2 rfl
                  ·
                   refine ⟨fun h16 => ?_, fun h16 => ?_⟩
                   ·
                    refine ⟨fun h17 => ?_, fun h17 => ?_⟩
                    ·
                     have hck := ck_may (Sy.rows l)
                     first
                     | exact True.intro
                     | rfl
                     | (exfalso
                        obtain ⟨g1, g2, g3, g4⟩ := hi1
                        have q := end_hit (t := t) (by assumption) g3 g1 (by assumption) (by assumption)
                        omega)
                     | (exfalso
                        obtain ⟨g1, g2, g3, g4⟩ := hi1
                        have q := end_all (l := Sy.rows l) (t := t) (b := i1b) g3 g1 (by
                          by_cases hmm : mayB (Sy.rows l) = true
                          · left
                            refine ⟨hmm, ?_⟩
                            first
                            | omega
                            | (exfalso; contradiction)
                          · right
                            exact ⟨Bool.eq_false_iff.2 hmm, g4.resolve_left hmm⟩)
                        omega)
                     | (exfalso
                        rw [hck] at *
                        contradiction)
                     | (exfalso
                        simp only [hck, not_true_eq_false, not_false_eq_true] at *
                        done)
                    ·
                     refine ⟨?_, fun h18 => ?_⟩
                     ·
                      first
                      | exact True.intro
                      | omega
                      | exact eqV_iff.2 rfl
                     ·
                      refine ⟨fun h19 => ?_, fun h19 => ?_⟩
                      ·
                       have hck := ck_may (Sy.rows l)
                       first
                       | exact True.intro
                       | rfl
                       | (exfalso
                          obtain ⟨g1, g2, g3, g4⟩ := hi1
                          have q := end_hit (t := t) (by assumption) g3 g1 (by assumption) (by assumption)
                          omega)
                       | (exfalso
                          obtain ⟨g1, g2, g3, g4⟩ := hi1
                          have q := end_all (l := Sy.rows l) (t := t) (b := i1b) g3 g1 (by
                            by_cases hmm : mayB (Sy.rows l) = true
                            · left
                              refine ⟨hmm, ?_⟩
                              first
                              | omega
                              | (exfalso; contradiction)
                            · right
                              exact ⟨Bool.eq_false_iff.2 hmm, g4.resolve_left hmm⟩)
                          omega)
                       | (exfalso
                          rw [hck] at *
                          contradiction)
                       | (exfalso
                          simp only [hck, not_true_eq_false, not_false_eq_true] at *
                          done)
                      ·
                       have wf2 := wr_i64 (i1b + 1)
                       have wf3 := wr_i64 (i1a + 1)
                       refine ⟨?_, ?_⟩
                       ·
                        obtain ⟨g1, g2, g3, g4⟩ := hi1
                        have e : IntKind.wrap .i64 (i1b + 1) = i1b + 1 := by omega
                        have hle := toL_le (Sy.rows l) t i1b.toNat
                        rw [e]
                        first
                        | (have q := end_hit (t := t) (by assumption) g3 g1 (by assumption) (by assumption)
                           have e2 : IntKind.wrap .i64 (i1a + 1) = i1a + 1 := by omega
                           rw [e2]
                           exact ⟨by omega, by omega, by omega, .inl (by assumption)⟩)
                        | (have q := end_miss (t := t) g3 g1 (by assumption)
                           exact ⟨by omega, by omega, by omega, .inl (by assumption)⟩)
                       ·
                        omega
                   ·
                    have wf4 := wr_i64 (i1b + 1)
                    refine ⟨?_, ?_⟩
                    ·
                     obtain ⟨g1, g2, g3, g4⟩ := hi1
                     have e : IntKind.wrap .i64 (i1b + 1) = i1b + 1 := by omega
                     have hle := toL_le (Sy.rows l) t i1b.toNat
                     rw [e]
                     first
                     | (have q := end_hit (t := t) (by assumption) g3 g1 (by assumption) (by assumption)
                        have e2 : IntKind.wrap .i64 (i1a + 1) = i1a + 1 := by omega
                        rw [e2]
                        exact ⟨by omega, by omega, by omega, .inl (by assumption)⟩)
                     | (have q := end_miss (t := t) g3 g1 (by assumption)
                        exact ⟨by omega, by omega, by omega, .inl (by assumption)⟩)
                    ·
                     omega
                 ·
                  refine ⟨fun h20 => ?_, fun h20 => ?_⟩
                  ·
                   have hck := ck_may (Sy.rows l)
                   first
                   | exact True.intro
                   | rfl
                   | (exfalso
                      obtain ⟨g1, g2, g3, g4⟩ := hi1
                      have q := end_hit (t := t) (by assumption) g3 g1 (by assumption) (by assumption)
                      omega)
                   | (exfalso
                      obtain ⟨g1, g2, g3, g4⟩ := hi1
                      have q := end_all (l := Sy.rows l) (t := t) (b := i1b) g3 g1 (by
                        by_cases hmm : mayB (Sy.rows l) = true
                        · left
                          refine ⟨hmm, ?_⟩
                          first
                          | omega
                          | (exfalso; contradiction)
                        · right
                          exact ⟨Bool.eq_false_iff.2 hmm, g4.resolve_left hmm⟩)
                      omega)
                   | (exfalso
                      rw [hck] at *
                      contradiction)
                   | (exfalso
                      simp only [hck, not_true_eq_false, not_false_eq_true] at *
                      done)
                  ·
                   have hck := ck_may (Sy.rows l)
                   first
                   | exact True.intro
                   | rfl
                   | (exfalso
                      obtain ⟨g1, g2, g3, g4⟩ := hi1
                      have q := end_hit (t := t) (by assumption) g3 g1 (by assumption) (by assumption)
                      omega)
                   | (exfalso
                      obtain ⟨g1, g2, g3, g4⟩ := hi1
                      have q := end_all (l := Sy.rows l) (t := t) (b := i1b) g3 g1 (by
                        by_cases hmm : mayB (Sy.rows l) = true
                        · left
                          refine ⟨hmm, ?_⟩
                          first
                          | omega
                          | (exfalso; contradiction)
                        · right
                          exact ⟨Bool.eq_false_iff.2 hmm, g4.resolve_left hmm⟩)
                      omega)
                   | (exfalso
                      rw [hck] at *
                      contradiction)
                   | (exfalso
                      simp only [hck, not_true_eq_false, not_false_eq_true] at *
                      done)
                ·
                 refine ⟨fun h21 => ?_, fun h21 => ?_⟩
                 ·
                  have hck := ck_may (Sy.rows l)
                  first
                  | exact True.intro
                  | rfl
                  | (exfalso
                     obtain ⟨g1, g2, g3, g4⟩ := hi1
                     have q := end_hit (t := t) (by assumption) g3 g1 (by assumption) (by assumption)
                     omega)
                  | (exfalso
                     obtain ⟨g1, g2, g3, g4⟩ := hi1
                     have q := end_all (l := Sy.rows l) (t := t) (b := i1b) g3 g1 (by
                       by_cases hmm : mayB (Sy.rows l) = true
                       · left
                         refine ⟨hmm, ?_⟩
                         first
                         | omega
                         | (exfalso; contradiction)
                       · right
                         exact ⟨Bool.eq_false_iff.2 hmm, g4.resolve_left hmm⟩)
                     omega)
                  | (exfalso
                     rw [hck] at *
                     contradiction)
                  | (exfalso
                     simp only [hck, not_true_eq_false, not_false_eq_true] at *
                     done)
                 ·
                  have hck := ck_may (Sy.rows l)
                  first
                  | exact True.intro
                  | rfl
                  | (exfalso
                     obtain ⟨g1, g2, g3, g4⟩ := hi1
                     have q := end_hit (t := t) (by assumption) g3 g1 (by assumption) (by assumption)
                     omega)
                  | (exfalso
                     obtain ⟨g1, g2, g3, g4⟩ := hi1
                     have q := end_all (l := Sy.rows l) (t := t) (b := i1b) g3 g1 (by
                       by_cases hmm : mayB (Sy.rows l) = true
                       · left
                         refine ⟨hmm, ?_⟩
                         first
                         | omega
                         | (exfalso; contradiction)
                       · right
                         exact ⟨Bool.eq_false_iff.2 hmm, g4.resolve_left hmm⟩)
                     omega)
                  | (exfalso
                     rw [hck] at *
                     contradiction)
                  | (exfalso
                     simp only [hck, not_true_eq_false, not_false_eq_true] at *
                     done)
   ·
    refine ⟨fun h22 => ?_, fun h22 => ?_⟩
    ·
     first
     | exact True.intro
     | rfl
     | (exfalso
        have hck := ck_may (Sy.rows l)
        simp only [hck, not_true_eq_false, not_false_eq_true] at *
        done)
    ·
     refine ⟨fun h23 => ?_, fun h23 => ?_⟩
     ·
      first
      | exact True.intro
      | rfl
      | (exfalso
         have hck := ck_may (Sy.rows l)
         simp only [hck, not_true_eq_false, not_false_eq_true] at *
         done)
     ·
      refine ⟨fun h24 => ?_, fun h24 => ?_⟩
      ·
       first
       | exact True.intro
       | rfl
       | (exfalso
          have hck := ck_may (Sy.rows l)
          simp only [hck, not_true_eq_false, not_false_eq_true] at *
          done)
      ·
       refine ⟨?_, fun h25 => ?_⟩
       ·
        first
        | exact True.intro
        | omega
        | exact eqV_iff.2 rfl
       ·
        refine ⟨?_, fun h26 => ?_⟩
        ·
         first
         | exact True.intro
         | omega
         | exact eqV_iff.2 rfl
        ·
         refine ⟨?_, fun h27 => ?_⟩
         ·
          first
          | exact True.intro
          | omega
          | exact eqV_iff.2 rfl
         ·
          refine ⟨?_, fun h28 => ?_⟩
          ·
           first
           | exact True.intro
           | omega
           | exact eqV_iff.2 rfl
          ·
           refine ⟨?_, fun h29 => ?_⟩
           ·
            first
            | exact True.intro
            | omega
            | exact eqV_iff.2 rfl
           ·
            refine ⟨?_, fun h30 => ?_⟩
            ·
             first
             | exact True.intro
             | omega
             | exact eqV_iff.2 rfl
            ·
             refine ⟨fun h31 => ?_, fun h31 => ?_⟩
             ·
              first
              | exact True.intro
              | rfl
              | (exfalso
                 have hck := ck_may (Sy.rows l)
                 simp only [hck, not_true_eq_false, not_false_eq_true] at *
                 done)
             ·
              refine ⟨?_, ?_⟩
              ·
               first
               | exact ⟨by omega, by omega, by omega, by omega, by omega⟩
               | exact ⟨by omega, by omega, by simp [toL], by simp⟩
              ·
               intro i2a i2b hi2
               refine ⟨fun h32 => ?_, fun h32 => ?_⟩
               ·
                refine ⟨fun h33 => ?_, fun h33 => ?_⟩
                ·
                 refine ⟨?_, fun h34 => ?_⟩
                 ·
                  first
                  | exact True.intro
                  | omega
                  | exact eqV_iff.2 rfl
                 ·
                  refine ⟨fun h35 => ?_, fun h35 => ?_⟩
                  ·
                   refine ⟨fun h36 => ?_, fun h36 => ?_⟩
                   ·
                    have hck := ck_may (Sy.rows l)
                    first
                    | exact True.intro
                    | rfl
                    | (exfalso
                       obtain ⟨g1, g2, g3, g4⟩ := hi2
                       have q := end_hit (t := t) (by assumption) g3 g1 (by assumption) (by assumption)
                       omega)
                    | (exfalso
                       obtain ⟨g1, g2, g3, g4⟩ := hi2
                       have q := end_all (l := Sy.rows l) (t := t) (b := i2b) g3 g1 (by
                         by_cases hmm : mayB (Sy.rows l) = true
                         · left
                           refine ⟨hmm, ?_⟩
                           first
                           | omega
                           | (exfalso; contradiction)
                         · right
                           exact ⟨Bool.eq_false_iff.2 hmm, g4.resolve_left hmm⟩)
                       omega)
                    | (exfalso
                       rw [hck] at *
                       contradiction)
                    | (exfalso
                       simp only [hck, not_true_eq_false, not_false_eq_true] at *
                       done)
                   ·
                    refine ⟨?_, fun h37 => ?_⟩
                    ·
                     first
                     | exact True.intro
                     | omega
                     | exact eqV_iff.2 rfl
                    ·
                     refine ⟨fun h38 => ?_, fun h38 => ?_⟩
                     ·
                      have hck := ck_may (Sy.rows l)
                      first
                      | exact True.intro
                      | rfl
                      | (exfalso
                         obtain ⟨g1, g2, g3, g4⟩ := hi2
                         have q := end_hit (t := t) (by assumption) g3 g1 (by assumption) (by assumption)
                         omega)
                      | (exfalso
                         obtain ⟨g1, g2, g3, g4⟩ := hi2
                         have q := end_all (l := Sy.rows l) (t := t) (b := i2b) g3 g1 (by
                           by_cases hmm : mayB (Sy.rows l) = true
                           · left
                             refine ⟨hmm, ?_⟩
                             first
                             | omega
                             | (exfalso; contradiction)
                           · right
                             exact ⟨Bool.eq_false_iff.2 hmm, g4.resolve_left hmm⟩)
                         omega)
                      | (exfalso
                         rw [hck] at *
                         contradiction)
                      | (exfalso
                         simp only [hck, not_true_eq_false, not_false_eq_true] at *
                         done)
                     ·
                      have wf5 := wr_i64 (i2b + 1)
                      have wf6 := wr_i64 (i2a + 1)
                      refine ⟨?_, ?_⟩
                      ·
                       obtain ⟨g1, g2, g3, g4⟩ := hi2
                       have e : IntKind.wrap .i64 (i2b + 1) = i2b + 1 := by omega
                       have hle := toL_le (Sy.rows l) t i2b.toNat
                       rw [e]
                       first
                       | (have q := end_hit (t := t) (by assumption) g3 g1 (by assumption) (by assumption)
                          have e2 : IntKind.wrap .i64 (i2a + 1) = i2a + 1 := by omega
                          rw [e2]
                          exact ⟨by omega, by omega, by omega, .inl (by assumption)⟩)
                       | (have q := end_miss (t := t) g3 g1 (by assumption)
                          exact ⟨by omega, by omega, by omega, .inl (by assumption)⟩)
                      ·
                       omega
                  ·
                   have wf7 := wr_i64 (i2b + 1)
                   refine ⟨?_, ?_⟩
                   ·
                    obtain ⟨g1, g2, g3, g4⟩ := hi2
                    have e : IntKind.wrap .i64 (i2b + 1) = i2b + 1 := by omega
                    have hle := toL_le (Sy.rows l) t i2b.toNat
                    rw [e]
                    first
                    | (have q := end_hit (t := t) (by assumption) g3 g1 (by assumption) (by assumption)
                       have e2 : IntKind.wrap .i64 (i2a + 1) = i2a + 1 := by omega
                       rw [e2]
                       exact ⟨by omega, by omega, by omega, .inl (by assumption)⟩)
                    | (have q := end_miss (t := t) g3 g1 (by assumption)
                       exact ⟨by omega, by omega, by omega, .inl (by assumption)⟩)
                   ·
                    omega
                ·
                 refine ⟨fun h39 => ?_, fun h39 => ?_⟩
                 ·
                  have hck := ck_may (Sy.rows l)
                  first
                  | exact True.intro
                  | rfl
                  | (exfalso
                     obtain ⟨g1, g2, g3, g4⟩ := hi2
                     have q := end_hit (t := t) (by assumption) g3 g1 (by assumption) (by assumption)
                     omega)
                  | (exfalso
                     obtain ⟨g1, g2, g3, g4⟩ := hi2
                     have q := end_all (l := Sy.rows l) (t := t) (b := i2b) g3 g1 (by
                       by_cases hmm : mayB (Sy.rows l) = true
                       · left
                         refine ⟨hmm, ?_⟩
                         first
                         | omega
                         | (exfalso; contradiction)
                       · right
                         exact ⟨Bool.eq_false_iff.2 hmm, g4.resolve_left hmm⟩)
                     omega)
                  | (exfalso
                     rw [hck] at *
                     contradiction)
                  | (exfalso
                     simp only [hck, not_true_eq_false, not_false_eq_true] at *
                     done)
                 ·
                  have hck := ck_may (Sy.rows l)
                  first
                  | exact True.intro
                  | rfl
                  | (exfalso
                     obtain ⟨g1, g2, g3, g4⟩ := hi2
                     have q := end_hit (t := t) (by assumption) g3 g1 (by assumption) (by assumption)
                     omega)
                  | (exfalso
                     obtain ⟨g1, g2, g3, g4⟩ := hi2
                     have q := end_all (l := Sy.rows l) (t := t) (b := i2b) g3 g1 (by
                       by_cases hmm : mayB (Sy.rows l) = true
                       · left
                         refine ⟨hmm, ?_⟩
                         first
                         | omega
                         | (exfalso; contradiction)
                       · right
                         exact ⟨Bool.eq_false_iff.2 hmm, g4.resolve_left hmm⟩)
                     omega)
                  | (exfalso
                     rw [hck] at *
                     contradiction)
                  | (exfalso
                     simp only [hck, not_true_eq_false, not_false_eq_true] at *
                     done)
               ·
                refine ⟨fun h40 => ?_, fun h40 => ?_⟩
                ·
                 have hck := ck_may (Sy.rows l)
                 first
                 | exact True.intro
                 | rfl
                 | (exfalso
                    obtain ⟨g1, g2, g3, g4⟩ := hi2
                    have q := end_hit (t := t) (by assumption) g3 g1 (by assumption) (by assumption)
                    omega)
                 | (exfalso
                    obtain ⟨g1, g2, g3, g4⟩ := hi2
                    have q := end_all (l := Sy.rows l) (t := t) (b := i2b) g3 g1 (by
                      by_cases hmm : mayB (Sy.rows l) = true
                      · left
                        refine ⟨hmm, ?_⟩
                        first
                        | omega
                        | (exfalso; contradiction)
                      · right
                        exact ⟨Bool.eq_false_iff.2 hmm, g4.resolve_left hmm⟩)
                    omega)
                 | (exfalso
                    rw [hck] at *
                    contradiction)
                 | (exfalso
                    simp only [hck, not_true_eq_false, not_false_eq_true] at *
                    done)
                ·
                 have hck := ck_may (Sy.rows l)
                 first
                 | exact True.intro
                 | rfl
                 | (exfalso
                    obtain ⟨g1, g2, g3, g4⟩ := hi2
                    have q := end_hit (t := t) (by assumption) g3 g1 (by assumption) (by assumption)
                    omega)
                 | (exfalso
                    obtain ⟨g1, g2, g3, g4⟩ := hi2
                    have q := end_all (l := Sy.rows l) (t := t) (b := i2b) g3 g1 (by
                      by_cases hmm : mayB (Sy.rows l) = true
                      · left
                        refine ⟨hmm, ?_⟩
                        first
                        | omega
                        | (exfalso; contradiction)
                      · right
                        exact ⟨Bool.eq_false_iff.2 hmm, g4.resolve_left hmm⟩)
                    omega)
                 | (exfalso
                    rw [hck] at *
                    contradiction)
                 | (exfalso
                    simp only [hck, not_true_eq_false, not_false_eq_true] at *
                    done)
theorem nbg_wSteps : nbc_wSteps.Good Tryd.prog syG (nbE [] [] [] []) := good_of_walk (Γ := ⟨[nbc_sure, nc_give, nbc_send, nc_rsend, nbc_take, nc_rtake, nbc_lose, nbc_double, nbc_rdouble, nc_isnet, nc_num, nc_check, nc_rmay, nbc_to], syG, [], [], []⟩) (ρ := nbE [] [] [] []) sym wSteps_w rfl (fun _ _ _ _ => (ok_cons (Con.Good.env nbg_sure _ _ _ _) (ok_cons (Con.Good.env (Con.Good.up ng_give nbup rfl) _ _ _ _) (ok_cons (Con.Good.env nbg_send _ _ _ _) (ok_cons (Con.Good.env (Con.Good.up ng_rsend nbup rfl) _ _ _ _) (ok_cons (Con.Good.env nbg_take _ _ _ _) (ok_cons (Con.Good.env (Con.Good.up ng_rtake nbup rfl) _ _ _ _) (ok_cons (Con.Good.env nbg_lose _ _ _ _) (ok_cons (Con.Good.env nbg_double _ _ _ _) (ok_cons (Con.Good.env nbg_rdouble _ _ _ _) (ok_cons (Con.Good.env (Con.Good.up ng_isnet nbup rfl) _ _ _ _) (ok_cons (Con.Good.env (Con.Good.up ng_num nbup rfl) _ _ _ _) (ok_cons (Con.Good.env (Con.Good.up ng_check nbup rfl) _ _ _ _) (ok_cons (Con.Good.env (Con.Good.up ng_rmay nbup rfl) _ _ _ _) (ok_cons (Con.Good.env nbg_to _ _ _ _) ok_nil))))))))))))))) (fun t i l b hc hty => wSteps_h t i l b hc hty)
end Go.Proofs.YtbjgopehomnpgaaDoor
