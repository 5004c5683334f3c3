/-
  Layer 32 by the second engine: letters.
-/
import Derived.Test.YtbjgopehomnpgaaDoorSyc
import Derived.Test.YtbjgopehomnpgaaDoorE00
import Derived.Test.YtbjgopehomnpgaaDoorNum
import Derived.Test.YtbjgopehomnpgaaDoorSyo
namespace Go.Proofs.YtbjgopehomnpgaaDoor
open Go.RowKit Go.Extern.Stop Go.Stop Go.Extern Go.Proofs.YtbjgopehomnpgaaDoor.Sy
set_option linter.unusedVariables false
set_option linter.unusedSimpArgs false
noncomputable def eqV (a b : Value) : Bool := @decide (a = b) (Classical.propDecidable _)
theorem eqV_iff {a b : Value} : eqV a b = true ↔ a = b := @decide_eq_true_iff _ (Classical.propDecidable _)
theorem ba_beq {a b : ByteArray} : (a == b) = true ↔ a = b := by
  cases a with | mk a => cases b with | mk b =>
  rw [ByteArray.mk.injEq, ← beq_iff_eq (a := a)]
  rfl
theorem rows_tup (a : Array Value) : Sy.rows (.tuple a) = a.toList := rfl
abbrev KL : SK := .cons (.int .i64) (.cons (.sl (.cons (.int .u8) .nil)) .nil)
def oneB (t : Int) (b : Value) : Bool := decide (0 ≤ t ∧ t ≤ 1 ∧ (Sy.rows b).length ≤ 1033)
def toAt (l : List Value) (j : Nat) : Int := Go.RowKit.intOf (l.getD (j * 2) Go.undef)
def bAt (l : List Value) (j : Nat) : Value := l.getD (j * 2 + 1) Go.undef
def oneAt (l : List Value) (j : Nat) : Bool := oneB (toAt l j) (bAt l j)
def okN (l : List Value) (n : Nat) : Bool := (List.range n).all fun j => oneAt l j
def fstN (l : List Value) : Nat → Int
  | 0 => -1
  | n + 1 => if 0 ≤ fstN l n then fstN l n else if oneAt l n = true then -1 else (n : Int)
def fstI (l : List Value) : Int := fstN l (l.length / 2)
theorem okN_succ (l : List Value) (n : Nat) : okN l (n + 1) = (okN l n && oneAt l n) := by simp [okN, List.range_succ]
theorem okN_get {l : List Value} {n : Nat} (h : okN l n = true) {j : Nat} (hj : j < n) : oneAt l j = true := List.all_eq_true.1 h j (List.mem_range.2 hj)
theorem fst_ok {l : List Value} : ∀ {n : Nat}, okN l n = true → fstN l n = -1
  | 0, _ => rfl
  | n + 1, h => by
    rw [okN_succ, Bool.and_eq_true] at h
    simp only [fstN, fst_ok h.1, h.2, if_true]
    rfl
theorem fst_hit {l : List Value} {n : Nat} (h0 : okN l n = true) (h1 : oneAt l n = false) : ∀ m, n < m → fstN l m = n
  | 0, h => by omega
  | m + 1, h => by
    by_cases c : n = m
    · subst c
      simp only [fstN, fst_ok h0, h1]
      rfl
    · have := fst_hit h0 h1 m (by omega)
      simp only [fstN, this]
      rw [if_pos (by omega)]
theorem fst_inv (l : List Value) : ∀ n, (fstN l n = -1 ∧ okN l n = true) ∨ (0 ≤ fstN l n ∧ okN l n = false)
  | 0 => .inl ⟨rfl, rfl⟩
  | n + 1 => by
    rcases fst_inv l n with ⟨a, b⟩ | ⟨a, b⟩
    · cases h : oneAt l n with
      | true => left; rw [okN_succ, b, h]; simp only [fstN, a, h, if_true]; exact ⟨rfl, rfl⟩
      | false => right; rw [okN_succ, b, h]; simp only [fstN, a, h]; exact ⟨by show (0 : Int) ≤ (n : Int); omega, rfl⟩
    · right; rw [okN_succ, b]; simp only [fstN]; rw [if_pos a]; exact ⟨a, rfl⟩
def mayB (l : List Value) : Bool := decide (fstI l < 0) && decide (l.length / 2 ≤ 32)
theorem may_iff (l : List Value) : mayB l = true ↔ okN l (l.length / 2) = true ∧ l.length / 2 ≤ 32 := by
  unfold mayB fstI
  rcases fst_inv l (l.length / 2) with ⟨a, b⟩ | ⟨a, b⟩
  · simp [a, b]
  · simp [b]; omega
theorem may_bad {l : List Value} {n : Nat} (hn : n < l.length / 2) (h : oneAt l n = false) : mayB l = false := by
  cases c : mayB l with
  | false => rfl
  | true => rw [okN_get ((may_iff l).1 c).1 hn] at h; cases h
theorem may_big {l : List Value} (h : 32 < l.length / 2) : mayB l = false := by
  cases c : mayB l with
  | false => rfl
  | true => have := ((may_iff l).1 c).2; omega
theorem take2 {l : List Value} {n : Nat} (h : n * 2 + 1 < l.length) : l.take ((n + 1) * 2) = l.take (n * 2) ++ [l.getD (n * 2) Go.undef, l.getD (n * 2 + 1) Go.undef] := by
  have e : ∀ k, k < l.length → l.take (k + 1) = l.take k ++ [l.getD k Go.undef] := fun k hk => by
    rw [List.take_add_one, List.getD_eq_getElem?_getD, List.getElem?_eq_getElem hk]; rfl
  rw [show (n + 1) * 2 = n * 2 + 1 + 1 by omega, e _ (by omega), e _ (by omega)]
  simp only [List.append_assoc, List.cons_append, List.nil_append]
theorem at_no {l : List Value} {n : Nat} (h : ¬ oneB (Go.RowKit.intOf (l.getD (n * 2) Go.undef)) (l.getD (n * 2 + 1) Go.undef) = true) : oneAt l n = false := (Bool.not_eq_true _).mp h
theorem at_yes {l : List Value} {n : Nat} (h : oneB (Go.RowKit.intOf (l.getD (n * 2) Go.undef)) (l.getD (n * 2 + 1) Go.undef) = true) : oneAt l n = true := h
def ckI (l : List Value) : Int := if mayB l then 0 else 1
def sndE (l : List Value) (t : Int) (b : Value) : Int := if mayB l = false ∨ oneB t b = false then 1 else if l.length / 2 = 32 then 7 else 0
def sndV (l : List Value) (t : Int) (b : Value) : Value := if sndE l t b = 0 then .tuple (l ++ [.int .i64 t, b]).toArray else .tuple #[]
def tkE (l : List Value) (i : Int) : Int := if mayB l = false then 1 else if i < 0 ∨ (l.length / 2 : Nat) ≤ i then 6 else 0
def tkV (l : List Value) (i : Int) : Value := if tkE l i = 0 then .tuple (l.take (i.toNat * 2) ++ l.drop ((i.toNat + 1) * 2)).toArray else .tuple #[]
def tkT (l : List Value) (i : Int) : Int := if tkE l i = 0 then toAt l i.toNat else 0
def tkB (l : List Value) (i : Int) : Value := if tkE l i = 0 then bAt l i.toNat else .tuple #[]
def dbE (l : List Value) (i : Int) : Int := if tkE l i ≠ 0 then tkE l i else sndE l (tkT l i) (tkB l i)
def dbV (l : List Value) (i : Int) : Value := if tkE l i ≠ 0 then .tuple #[] else sndV l (tkT l i) (tkB l i)
def toL (l : List Value) (h : Int) (n : Nat) : List Nat := (List.range n).filter fun j => toAt l j == h
def toV (l : List Value) (h : Int) (n : Nat) : Value := .tuple ((toL l h n).map fun j => Value.int .i64 (j : Nat)).toArray
def tkk (l : Value) (n : Nat) : Value := .tuple ((Sy.rows l).take (n * 2)).toArray
def accV (a b : List Value) (k : Int) (n : Nat) : Value := .tuple (if k = 0 then a.take (n * 2) else if k = 1 then a ++ b.take (n * 2) else a ++ b).toArray
theorem accV0 (a b : List Value) (n : Nat) : accV a b 0 n = .tuple (a.take (n * 2)).toArray := by simp [accV]
theorem accV1 (a b : List Value) (n : Nat) : accV a b 1 n = .tuple (a ++ b.take (n * 2)).toArray := by simp [accV]
theorem accV2 (a b : List Value) (n : Nat) : accV a b 2 n = .tuple (a ++ b).toArray := by simp [accV]
def ctkk (a l : Value) (n : Nat) : Value := .tuple (Sy.rows a ++ (Sy.rows l).take (n * 2)).toArray
theorem typ_rowL {l : Value} (h : typ (.sl KL) l) {k : Nat} (hk : k < (Sy.rows l).length / 2) : (Sy.rows l).getD (k * 2) Go.undef = .int .i64 (Go.RowKit.intOf ((Sy.rows l).getD (k * 2) Go.undef)) ∧ typ (.sl (.cons (.int .u8) .nil)) ((Sy.rows l).getD (k * 2 + 1) Go.undef) := by
  obtain ⟨_, n, h1, h2, h3⟩ := h
  have : n = (Sy.rows l).length / 2 := by rw [h2]; exact (Nat.mul_div_cancel n (by decide)).symm
  obtain ⟨g1, g2, _⟩ := h3 k (by omega)
  exact ⟨g1, g2⟩
theorem take2t {l : Value} (ht : typ (.sl KL) l) {n : Nat} (hn : n < (Sy.rows l).length / 2) : (Sy.rows l).take ((n + 1) * 2) = (Sy.rows l).take (n * 2) ++ [.int .i64 (Go.RowKit.intOf ((Sy.rows l).getD (n * 2) Go.undef)), (Sy.rows l).getD (n * 2 + 1) Go.undef] := by
  have hr := (typ_rowL ht hn).1
  rw [take2 (by omega), hr]
  rfl
theorem full2 {l : Value} (ht : typ (.sl KL) l) {n : Nat} (hn : n = (Sy.rows l).length / 2) : (Sy.rows l).take (n * 2) = Sy.rows l := by
  obtain ⟨_, m, h1, h2, h3⟩ := ht
  have e : KL.wd = 2 := rfl
  rw [e] at h2
  exact List.take_of_length_le (by omega)
theorem num32_any (n : Int) (w : World) (hg : w.cell? ⟨0, 0, none⟩ = some asHandle) : Calls Tryd.prog 107 #[errVal 182 n] w fun e w' => e = .returned (.int .i64 n) ∧ Below w.heap.size w w' := by
  unfold errVal
  split
  · rename_i h; subst h; exact num32_nil _
  · exact num32_err _ _ hg
noncomputable def nI : Nat → List Value → Int
  | 0, [l] => fstI (rows l)
  | 1, [l] => ckI (rows l)
  | 2, [l, .int _ t, b] => sndE (rows l) t b
  | 3, [l, .int _ i] => tkE (rows l) i
  | 4, [l, .int _ i] => tkT (rows l) i
  | 5, [l, .int _ i] => dbE (rows l) i
  | _, _ => 0
noncomputable def nB : Nat → List Value → Bool
  | 0, [.int _ t, b] => oneB t b
  | 1, [l] => mayB (rows l)
  | 2, [x, y] => eqV x y
  | 3, [x, y, .int _ n] => eqV x (tkk y n.toNat)
  | 4, [x, z, y, .int _ n] => eqV x (ctkk z y n.toNat)
  | 5, [x, a, b, .int _ k, .int _ n] => eqV x (accV (rows a) (rows b) k n.toNat)
  | 6, [l, .int _ n] => okN (rows l) n.toNat
  | _, _ => false
noncomputable def nV : Nat → List Value → Value
  | 0, [l, .int _ t, b] => sndV (rows l) t b
  | 1, [l, .int _ i] => tkV (rows l) i
  | 2, [l, .int _ i] => tkB (rows l) i
  | 3, [l, .int _ i] => dbV (rows l) i
  | 4, [l, .int _ h, .int _ n] => toV (rows l) h n.toNat
  | _, _ => Go.undef
noncomputable abbrev nE (iv : List Int) (bv : List Bool) (vv : List Value) (sv : List ByteArray) : Env := { iv := iv, bv := bv, vv := vv, sv := sv, fi := nI, fb := nB, fv := nV, et := 182 }
theorem ni_fst (l : Value) : nI 0 [l] = fstI (rows l) := rfl
theorem ni_ck (l : Value) : nI 1 [l] = ckI (rows l) := rfl
theorem ni_se (l : Value) (k1 : IntKind) (t : Int) (b : Value) : nI 2 [l, .int k1 t, b] = sndE (rows l) t b := rfl
theorem ni_te (l : Value) (k1 : IntKind) (i : Int) : nI 3 [l, .int k1 i] = tkE (rows l) i := rfl
theorem ni_tt (l : Value) (k1 : IntKind) (i : Int) : nI 4 [l, .int k1 i] = tkT (rows l) i := rfl
theorem ni_de (l : Value) (k1 : IntKind) (i : Int) : nI 5 [l, .int k1 i] = dbE (rows l) i := rfl
theorem nb_one (k1 : IntKind) (t : Int) (b : Value) : nB 0 [.int k1 t, b] = oneB t b := rfl
theorem nb_may (l : Value) : nB 1 [l] = mayB (rows l) := rfl
theorem nb_eqv (x : Value) (y : Value) : nB 2 [x, y] = eqV x y := rfl
theorem nb_tk (x : Value) (y : Value) (k1 : IntKind) (n : Int) : nB 3 [x, y, .int k1 n] = eqV x (tkk y n.toNat) := rfl
theorem nb_ctk (x : Value) (z : Value) (y : Value) (k1 : IntKind) (n : Int) : nB 4 [x, z, y, .int k1 n] = eqV x (ctkk z y n.toNat) := rfl
theorem nb_ow (x : Value) (a : Value) (b : Value) (k1 : IntKind) (k : Int) (k2 : IntKind) (n : Int) : nB 5 [x, a, b, .int k1 k, .int k2 n] = eqV x (accV (rows a) (rows b) k n.toNat) := rfl
theorem nb_okn (l : Value) (k1 : IntKind) (n : Int) : nB 6 [l, .int k1 n] = okN (rows l) n.toNat := rfl
theorem nv_sv (l : Value) (k1 : IntKind) (t : Int) (b : Value) : nV 0 [l, .int k1 t, b] = sndV (rows l) t b := rfl
theorem nv_tv (l : Value) (k1 : IntKind) (i : Int) : nV 1 [l, .int k1 i] = tkV (rows l) i := rfl
theorem nv_tb (l : Value) (k1 : IntKind) (i : Int) : nV 2 [l, .int k1 i] = tkB (rows l) i := rfl
theorem nv_dv (l : Value) (k1 : IntKind) (i : Int) : nV 3 [l, .int k1 i] = dbV (rows l) i := rfl
theorem nv_to (l : Value) (k1 : IntKind) (h : Int) (k2 : IntKind) (n : Int) : nV 4 [l, .int k1 h, .int k2 n] = toV (rows l) h n.toNat := rfl
theorem syso (s : ByteArray) : strOf (.string s) = s := rfl
theorem syse (a b : ByteArray) : strEq (.string a) (.string b) = (a == b) := rfl
theorem syio (k : IntKind) (n : Int) : intOf (.int k n) = n := rfl
theorem sybo (b : Bool) : boolOf (.bool b) = b := rfl
theorem typ_len {r : SK} {v : Value} {n : Nat} (h : typ (.sl r) v) (e : r.wd = n) (e0 : 0 < n) : ((rows v).length / n : Nat) ≤ 140737488355328 ∧ (rows v).length = (rows v).length / n * n := by
  obtain ⟨_, m, h1, h2, _⟩ := h
  rw [e] at h2
  rw [h2, Nat.mul_div_cancel _ e0]
  exact ⟨h1, rfl⟩
theorem sym : Tryd.prog.follows .mixedOrders = true := by kernel_rfl
abbrev syG : Glob := [(0, 0, asHandle)]
abbrev nc_num : Con := ⟨107, [(.err (.var 0))], (.tt true), (.int .i64 (.var 0)), ⟨1, 0, 0, 0⟩, none⟩
theorem ng_num : nc_num.Good Tryd.prog syG (nE [] [] [] []) := good_flat rfl rfl rfl (by
  intro n hc β ok w hG
  have hc' := hc
  simp only [Tree.holds, Sy.holds, AllN, Env.more, nE, List.cons_append, List.nil_append, List.append_nil, denV, denI, denB, denL, I2.den, VOp.den, List.getD_cons_zero, List.getD_cons_succ, Cst.den, syso, syse, syio, sybo, ni_fst, ni_ck, ni_se, ni_te, ni_tt, ni_de, nb_one, nb_may, nb_eqv, nb_tk, nb_ctk, nb_ow, nb_okn, nv_sv, nv_tv, nv_tb, nv_dv, nv_to, List.map_nil, List.map_cons, B2.ofInts, B2.denI, B2.denB, if_true, Bool.false_eq_true, if_false, Nat.div_one, Nat.mul_one, Nat.add_zero, holds] at hc
  exact num32_any n w (hG _ (List.mem_singleton.2 rfl)).2.2)
def isw_tree : Tree :=
 (.br (.b2 .lt (.var 0) (.lit (0)))
 (.ret (.bool (.tt true)))
 (.br (.b2 .lt (.lit (1)) (.var 0))
 (.ret (.bool (.tt true)))
 (.ret (.bool (.b2 .lt (.lit (1033)) (.ofI (.vop (.len 1) (.cons (.opq 0) .nil))))))))
abbrev nc_isw : Con := ⟨177, [(.agg (.cons (.int .i64 (.var 0)) (.cons (.hs .no (.cons (.int .u8) .nil) (.opq 0)) .nil)))], (.tt true), (.bool (.not (.bapp 0 (.cons (.int .i64 (.var 0)) (.cons (.opq 0) .nil))))), ⟨1, 0, 1, 0⟩, none⟩
theorem isw_w : walk Tryd.prog 182 ⟨[], syG, [], [], []⟩ [] .v nc_isw nc_isw.n 3000 = some isw_tree := by kernel_rfl
theorem isw_h (t : Int) (b : Value) (hc : holds (nE [t] [] [b] []) (.tt true)) (hty : patsTyp (nE [t] [] [b] []) [(.agg (.cons (.int .i64 (.var 0)) (.cons (.hs .no (.cons (.int .u8) .nil) (.opq 0)) .nil)))]) : isw_tree.holds (fun v_ => v_ = denV (nE [t] [] [b] []) b0 (.bool (.not (.bapp 0 (.cons (.int .i64 (.var 0)) (.cons (.opq 0) .nil)))))) (nE [t] [] [b] []) := by
  simp only [Tree.holds, Sy.holds, AllN, Env.more, nE, List.cons_append, List.nil_append, List.append_nil, denV, denI, denB, denL, I2.den, VOp.den, List.getD_cons_zero, List.getD_cons_succ, Cst.den, syso, syse, syio, sybo, ni_fst, ni_ck, ni_se, ni_te, ni_tt, ni_de, nb_one, nb_may, nb_eqv, nb_tk, nb_ctk, nb_ow, nb_okn, nv_sv, nv_tv, nv_tb, nv_dv, nv_to, List.map_nil, List.map_cons, B2.ofInts, B2.denI, B2.denB, if_true, Bool.false_eq_true, if_false, Nat.div_one, Nat.mul_one, Nat.add_zero, holds] at hc
  simp only [patsTyp, patTyp, patTypL, nE, denV, denL, List.getD_cons_zero, List.getD_cons_succ, and_true, true_and] at hty
  have hL_b : typ (.sl (.cons (.int .u8) .nil)) b := by first | exact hty | exact hty.1 | exact hty.2 | exact hty.1.1 | exact hty.1.2 | exact hty.2.1 | exact hty.2.2 | exact hty.2.2.1 | exact hty.2.2.2
  have hN_b := typ_len (n := 1) hL_b rfl (by omega)
  simp only [Nat.div_one, Nat.mul_one] at hN_b
  unfold isw_tree
  simp only [Tree.holds, Sy.holds, AllN, Env.more, nE, List.cons_append, List.nil_append, List.append_nil, denV, denI, denB, denL, I2.den, VOp.den, List.getD_cons_zero, List.getD_cons_succ, Cst.den, syso, syse, syio, sybo, ni_fst, ni_ck, ni_se, ni_te, ni_tt, ni_de, nb_one, nb_may, nb_eqv, nb_tk, nb_ctk, nb_ow, nb_okn, nv_sv, nv_tv, nv_tb, nv_dv, nv_to, List.map_nil, List.map_cons, B2.ofInts, B2.denI, B2.denB, if_true, Bool.false_eq_true, if_false, Nat.div_one, Nat.mul_one, Nat.add_zero]
  refine ⟨fun h0 => ?_, fun h0 => ?_⟩
  ·
   unfold oneB
   refine congrArg Value.bool (Bool.eq_iff_iff.2 ?_)
   simp only [decide_eq_true_eq, Bool.not_eq_true', decide_eq_false_iff_not, Bool.false_eq_true, true_iff, false_iff]
   omega
  ·
   refine ⟨fun h1 => ?_, fun h1 => ?_⟩
   ·
    unfold oneB
    refine congrArg Value.bool (Bool.eq_iff_iff.2 ?_)
    simp only [decide_eq_true_eq, Bool.not_eq_true', decide_eq_false_iff_not, Bool.false_eq_true, true_iff, false_iff]
    omega
   ·
    unfold oneB
    refine congrArg Value.bool (Bool.eq_iff_iff.2 ?_)
    simp only [decide_eq_true_eq, Bool.not_eq_true', decide_eq_false_iff_not, Bool.false_eq_true, true_iff, false_iff]
    omega
theorem ng_isw : nc_isw.Good Tryd.prog syG (nE [] [] [] []) := good_of_walk (Γ := ⟨[], syG, [], [], []⟩) (ρ := nE [] [] [] []) sym isw_w rfl (fun _ _ _ _ => ok_nil) (fun t b hc hty => isw_h t b hc hty)
def rone_tree : Tree :=
 (.br (.b2 .eq (.var 0) (.lit (0)))
 (.ret (.bool (.b2 .le (.ofI (.vop (.len 1) (.cons (.opq 0) .nil))) (.lit (1033)))))
 (.br (.b2 .eq (.var 0) (.lit (1)))
 (.ret (.bool (.b2 .le (.ofI (.vop (.len 1) (.cons (.opq 0) .nil))) (.lit (1033)))))
 (.ret (.bool (.tt false)))))
abbrev nc_rone : Con := ⟨179, [(.agg (.cons (.int .i64 (.var 0)) (.cons (.hs .no (.cons (.int .u8) .nil) (.opq 0)) .nil)))], (.tt true), (.bool (.bapp 0 (.cons (.int .i64 (.var 0)) (.cons (.opq 0) .nil)))), ⟨1, 0, 1, 0⟩, none⟩
theorem rone_w : walk Tryd.prog 182 ⟨[], syG, [], [], []⟩ [] .v nc_rone nc_rone.n 3000 = some rone_tree := by kernel_rfl
theorem rone_h (t : Int) (b : Value) (hc : holds (nE [t] [] [b] []) (.tt true)) (hty : patsTyp (nE [t] [] [b] []) [(.agg (.cons (.int .i64 (.var 0)) (.cons (.hs .no (.cons (.int .u8) .nil) (.opq 0)) .nil)))]) : rone_tree.holds (fun v_ => v_ = denV (nE [t] [] [b] []) b0 (.bool (.bapp 0 (.cons (.int .i64 (.var 0)) (.cons (.opq 0) .nil))))) (nE [t] [] [b] []) := by
  simp only [Tree.holds, Sy.holds, AllN, Env.more, nE, List.cons_append, List.nil_append, List.append_nil, denV, denI, denB, denL, I2.den, VOp.den, List.getD_cons_zero, List.getD_cons_succ, Cst.den, syso, syse, syio, sybo, ni_fst, ni_ck, ni_se, ni_te, ni_tt, ni_de, nb_one, nb_may, nb_eqv, nb_tk, nb_ctk, nb_ow, nb_okn, nv_sv, nv_tv, nv_tb, nv_dv, nv_to, List.map_nil, List.map_cons, B2.ofInts, B2.denI, B2.denB, if_true, Bool.false_eq_true, if_false, Nat.div_one, Nat.mul_one, Nat.add_zero, holds] at hc
  simp only [patsTyp, patTyp, patTypL, nE, denV, denL, List.getD_cons_zero, List.getD_cons_succ, and_true, true_and] at hty
  have hL_b : typ (.sl (.cons (.int .u8) .nil)) b := by first | exact hty | exact hty.1 | exact hty.2 | exact hty.1.1 | exact hty.1.2 | exact hty.2.1 | exact hty.2.2 | exact hty.2.2.1 | exact hty.2.2.2
  have hN_b := typ_len (n := 1) hL_b rfl (by omega)
  simp only [Nat.div_one, Nat.mul_one] at hN_b
  unfold rone_tree
  simp only [Tree.holds, Sy.holds, AllN, Env.more, nE, List.cons_append, List.nil_append, List.append_nil, denV, denI, denB, denL, I2.den, VOp.den, List.getD_cons_zero, List.getD_cons_succ, Cst.den, syso, syse, syio, sybo, ni_fst, ni_ck, ni_se, ni_te, ni_tt, ni_de, nb_one, nb_may, nb_eqv, nb_tk, nb_ctk, nb_ow, nb_okn, nv_sv, nv_tv, nv_tb, nv_dv, nv_to, List.map_nil, List.map_cons, B2.ofInts, B2.denI, B2.denB, if_true, Bool.false_eq_true, if_false, Nat.div_one, Nat.mul_one, Nat.add_zero]
  refine ⟨fun h0 => ?_, fun h0 => ?_⟩
  ·
   unfold oneB
   refine congrArg Value.bool (Bool.eq_iff_iff.2 ?_)
   simp only [decide_eq_true_eq, Bool.not_eq_true', decide_eq_false_iff_not, Bool.false_eq_true, true_iff, false_iff]
   omega
  ·
   refine ⟨fun h1 => ?_, fun h1 => ?_⟩
   ·
    unfold oneB
    refine congrArg Value.bool (Bool.eq_iff_iff.2 ?_)
    simp only [decide_eq_true_eq, Bool.not_eq_true', decide_eq_false_iff_not, Bool.false_eq_true, true_iff, false_iff]
    omega
   ·
    unfold oneB
    refine congrArg Value.bool (Bool.eq_iff_iff.2 ?_)
    simp only [decide_eq_true_eq, Bool.not_eq_true', decide_eq_false_iff_not, Bool.false_eq_true, true_iff, false_iff]
    omega
theorem ng_rone : nc_rone.Good Tryd.prog syG (nE [] [] [] []) := good_of_walk (Γ := ⟨[], syG, [], [], []⟩) (ρ := nE [] [] [] []) sym rone_w rfl (fun _ _ _ _ => ok_nil) (fun t b hc hty => rone_h t b hc hty)
def first_tree : Tree :=
 (.loop ⟨1, 0, 0, 0⟩ (.b2 .and (.b2 .le (.lit (0)) (.lit (0))) (.b2 .and (.b2 .le (.lit (0)) (.ofI (.vop (.len 2) (.cons (.opq 0) .nil)))) (.bapp 6 (.cons (.opq 0) (.cons (.int .i64 (.lit (0))) .nil))))) (.b2 .and (.b2 .le (.lit (0)) (.var 0)) (.b2 .and (.b2 .le (.var 0) (.ofI (.vop (.len 2) (.cons (.opq 0) .nil)))) (.bapp 6 (.cons (.opq 0) (.cons (.int .i64 (.var 0)) .nil)))))
 (.br (.b2 .lt (.var 0) (.ofI (.vop (.len 2) (.cons (.opq 0) .nil))))
 (.need (.b2 .and (.b2 .le (.lit (0)) (.var 0)) (.b2 .lt (.var 0) (.ofI (.vop (.len 2) (.cons (.opq 0) .nil)))))
 (.br (.not (.bapp 0 (.cons (.int .i64 (.ofI (.vop (.sel 2 0) (.cons (.opq 0) (.cons (.int .i64 (.var 0)) .nil))))) (.cons (.vop (.sel 2 1) (.cons (.opq 0) (.cons (.int .i64 (.var 0)) .nil))) .nil))))
 (.ret (.int .i64 (.var 0)))
 (.back (.b2 .and (.b2 .le (.lit (0)) (.wrap .i64 (.i2 .add (.var 0) (.lit (1))))) (.b2 .and (.b2 .le (.wrap .i64 (.i2 .add (.var 0) (.lit (1)))) (.ofI (.vop (.len 2) (.cons (.opq 0) .nil)))) (.bapp 6 (.cons (.opq 0) (.cons (.int .i64 (.wrap .i64 (.i2 .add (.var 0) (.lit (1))))) .nil))))) (.i2 .sub (.ofI (.vop (.len 2) (.cons (.opq 0) .nil))) (.wrap .i64 (.i2 .add (.var 0) (.lit (1))))) (.i2 .sub (.ofI (.vop (.len 2) (.cons (.opq 0) .nil))) (.var 0)))))
 (.ret (.int .i64 (.lit (-1))))))
abbrev nc_first : Con := ⟨182, [(.hs .no (.cons (.int .i64) (.cons (.sl (.cons (.int .u8) .nil)) .nil)) (.opq 0)), (.cst (.fn 177))], (.tt true), (.int .i64 (.iapp 0 (.cons (.opq 0) .nil))), ⟨0, 0, 1, 0⟩, none⟩
theorem first_w : walk Tryd.prog 182 ⟨[nc_isw], syG, [], [], []⟩ [⟨0, ⟨1, 0, 0, 0⟩, [(9, (.int .i64 (.var 0)))], none, (.b2 .and (.b2 .le (.lit (0)) (.var 0)) (.b2 .and (.b2 .le (.var 0) (.ofI (.vop (.len 2) (.cons (.opq 0) .nil)))) (.bapp 6 (.cons (.opq 0) (.cons (.int .i64 (.var 0)) .nil))))), (.i2 .sub (.ofI (.vop (.len 2) (.cons (.opq 0) .nil))) (.var 0)), 0, []⟩] .v nc_first nc_first.n 3000 = some first_tree := by kernel_rfl
theorem first_h (l : Value) (hc : holds (nE [] [] [l] []) (.tt true)) (hty : patsTyp (nE [] [] [l] []) [(.hs .no (.cons (.int .i64) (.cons (.sl (.cons (.int .u8) .nil)) .nil)) (.opq 0)), (.cst (.fn 177))]) : first_tree.holds (fun v_ => v_ = denV (nE [] [] [l] []) b0 (.int .i64 (.iapp 0 (.cons (.opq 0) .nil)))) (nE [] [] [l] []) := by
  simp only [Tree.holds, Sy.holds, AllN, Env.more, nE, List.cons_append, List.nil_append, List.append_nil, denV, denI, denB, denL, I2.den, VOp.den, List.getD_cons_zero, List.getD_cons_succ, Cst.den, syso, syse, syio, sybo, ni_fst, ni_ck, ni_se, ni_te, ni_tt, ni_de, nb_one, nb_may, nb_eqv, nb_tk, nb_ctk, nb_ow, nb_okn, nv_sv, nv_tv, nv_tb, nv_dv, nv_to, List.map_nil, List.map_cons, B2.ofInts, B2.denI, B2.denB, if_true, Bool.false_eq_true, if_false, Nat.div_one, Nat.mul_one, Nat.add_zero, holds] at hc
  simp only [patsTyp, patTyp, patTypL, nE, denV, denL, List.getD_cons_zero, List.getD_cons_succ, and_true, true_and] at hty
  have hL_l : typ (.sl (.cons (.int .i64) (.cons (.sl (.cons (.int .u8) .nil)) .nil))) l := by first | exact hty | exact hty.1 | exact hty.2 | exact hty.1.1 | exact hty.1.2 | exact hty.2.1 | exact hty.2.2 | exact hty.2.2.1 | exact hty.2.2.2
  have hN_l := typ_len (n := 2) hL_l rfl (by omega)
  unfold first_tree
  simp only [Tree.holds, Sy.holds, AllN, Env.more, nE, List.cons_append, List.nil_append, List.append_nil, denV, denI, denB, denL, I2.den, VOp.den, List.getD_cons_zero, List.getD_cons_succ, Cst.den, syso, syse, syio, sybo, ni_fst, ni_ck, ni_se, ni_te, ni_tt, ni_de, nb_one, nb_may, nb_eqv, nb_tk, nb_ctk, nb_ow, nb_okn, nv_sv, nv_tv, nv_tb, nv_dv, nv_to, List.map_nil, List.map_cons, B2.ofInts, B2.denI, B2.denB, if_true, Bool.false_eq_true, if_false, Nat.div_one, Nat.mul_one, Nat.add_zero]
  refine ⟨?_, ?_⟩
  ·
   exact ⟨by omega, by omega, rfl⟩
  ·
   intro i0a hi0
   refine ⟨fun h0 => ?_, fun h0 => ?_⟩
   ·
    refine ⟨?_, fun h1 => ?_⟩
    ·
     omega
    ·
     refine ⟨fun h2 => ?_, fun h2 => ?_⟩
     ·
      obtain ⟨hi1, hi2, hi3⟩ := hi0
      refine congrArg (Value.int .i64) ?_
      by_cases c : i0a < ↑((Sy.rows l).length / 2)
      · first
        | (exfalso; omega)
        | (have := fst_hit hi3 (at_no h2) ((Sy.rows l).length / 2) (by omega)
           unfold fstI
           omega)
      · first
        | (exfalso; omega)
        | (have hz := fst_ok hi3
           rw [show i0a.toNat = (Sy.rows l).length / 2 by omega] at hz
           unfold fstI
           omega)
     ·
      have wf0 := wr_i64 (i0a + 1)
      refine ⟨?_, ?_⟩
      ·
       have e : IntKind.wrap .i64 (i0a + 1) = i0a + 1 := by omega
       rw [e]
       obtain ⟨hi1, hi2, hi3⟩ := hi0
       refine ⟨by omega, by omega, ?_⟩
       rw [show (i0a + 1).toNat = i0a.toNat + 1 by omega, okN_succ, Bool.and_eq_true]
       refine ⟨hi3, ?_⟩
       first
       | exact at_yes (Classical.not_not.1 h2)
       | exact at_yes h2
       | exact at_yes (Classical.not_not.1 h1)
       | exact at_yes h1
      ·
       omega
   ·
    obtain ⟨hi1, hi2, hi3⟩ := hi0
    refine congrArg (Value.int .i64) ?_
    by_cases c : i0a < ↑((Sy.rows l).length / 2)
    · first
      | (exfalso; omega)
      | (have := fst_hit hi3 (at_no h2) ((Sy.rows l).length / 2) (by omega)
         unfold fstI
         omega)
    · first
      | (exfalso; omega)
      | (have hz := fst_ok hi3
         rw [show i0a.toNat = (Sy.rows l).length / 2 by omega] at hz
         unfold fstI
         omega)
theorem ng_first : nc_first.Good Tryd.prog syG (nE [] [] [] []) := good_of_walk (Γ := ⟨[nc_isw], syG, [], [], []⟩) (ρ := nE [] [] [] []) sym first_w rfl (fun _ _ _ _ => (ok_cons (Con.Good.env ng_isw _ _ _ _) ok_nil)) (fun l hc hty => first_h l hc hty)
def check_tree : Tree :=
 (.br (.b2 .lt (.lit (32)) (.ofI (.vop (.len 2) (.cons (.opq 0) .nil))))
 (.ret (.iface 182 (.int .i64 (.lit (1)))))
 (.br (.b2 .le (.lit (0)) (.iapp 0 (.cons (.opq 0) .nil)))
 (.ret (.iface 182 (.int .i64 (.lit (1)))))
 (.ret (.cst .nilI))))
abbrev nc_check : Con := ⟨108, [(.agg (.cons (.hs .no (.cons (.int .i64) (.cons (.sl (.cons (.int .u8) .nil)) .nil)) (.opq 0)) .nil))], (.tt true), (.err (.iapp 1 (.cons (.opq 0) .nil))), ⟨0, 0, 1, 0⟩, none⟩
theorem check_w : walk Tryd.prog 182 ⟨[nc_first], syG, [], [], []⟩ [] .v nc_check nc_check.n 3000 = some check_tree := by kernel_rfl
theorem check_h (l : Value) (hc : holds (nE [] [] [l] []) (.tt true)) (hty : patsTyp (nE [] [] [l] []) [(.agg (.cons (.hs .no (.cons (.int .i64) (.cons (.sl (.cons (.int .u8) .nil)) .nil)) (.opq 0)) .nil))]) : check_tree.holds (fun v_ => v_ = denV (nE [] [] [l] []) b0 (.err (.iapp 1 (.cons (.opq 0) .nil)))) (nE [] [] [l] []) := by
  simp only [Tree.holds, Sy.holds, AllN, Env.more, nE, List.cons_append, List.nil_append, List.append_nil, denV, denI, denB, denL, I2.den, VOp.den, List.getD_cons_zero, List.getD_cons_succ, Cst.den, syso, syse, syio, sybo, ni_fst, ni_ck, ni_se, ni_te, ni_tt, ni_de, nb_one, nb_may, nb_eqv, nb_tk, nb_ctk, nb_ow, nb_okn, nv_sv, nv_tv, nv_tb, nv_dv, nv_to, List.map_nil, List.map_cons, B2.ofInts, B2.denI, B2.denB, if_true, Bool.false_eq_true, if_false, Nat.div_one, Nat.mul_one, Nat.add_zero, holds] at hc
  simp only [patsTyp, patTyp, patTypL, nE, denV, denL, List.getD_cons_zero, List.getD_cons_succ, and_true, true_and] at hty
  have hL_l : typ (.sl (.cons (.int .i64) (.cons (.sl (.cons (.int .u8) .nil)) .nil))) l := by first | exact hty | exact hty.1 | exact hty.2 | exact hty.1.1 | exact hty.1.2 | exact hty.2.1 | exact hty.2.2 | exact hty.2.2.1 | exact hty.2.2.2
  have hN_l := typ_len (n := 2) hL_l rfl (by omega)
  unfold check_tree
  simp only [Tree.holds, Sy.holds, AllN, Env.more, nE, List.cons_append, List.nil_append, List.append_nil, denV, denI, denB, denL, I2.den, VOp.den, List.getD_cons_zero, List.getD_cons_succ, Cst.den, syso, syse, syio, sybo, ni_fst, ni_ck, ni_se, ni_te, ni_tt, ni_de, nb_one, nb_may, nb_eqv, nb_tk, nb_ctk, nb_ow, nb_okn, nv_sv, nv_tv, nv_tb, nv_dv, nv_to, List.map_nil, List.map_cons, B2.ofInts, B2.denI, B2.denB, if_true, Bool.false_eq_true, if_false, Nat.div_one, Nat.mul_one, Nat.add_zero]
  refine ⟨fun h0 => ?_, fun h0 => ?_⟩
  ·
   unfold ckI mayB
   first
   | (rw [if_neg (by simp; omega)]; rfl)
   | (rw [if_pos (by simp; omega)]; rfl)
  ·
   refine ⟨fun h1 => ?_, fun h1 => ?_⟩
   ·
    unfold ckI mayB
    first
    | (rw [if_neg (by simp; omega)]; rfl)
    | (rw [if_pos (by simp; omega)]; rfl)
   ·
    unfold ckI mayB
    first
    | (rw [if_neg (by simp; omega)]; rfl)
    | (rw [if_pos (by simp; omega)]; rfl)
theorem ng_check : nc_check.Good Tryd.prog syG (nE [] [] [] []) := good_of_walk (Γ := ⟨[nc_first], syG, [], [], []⟩) (ρ := nE [] [] [] []) sym check_w rfl (fun _ _ _ _ => (ok_cons (Con.Good.env ng_first _ _ _ _) ok_nil)) (fun l hc hty => check_h l hc hty)
def rmay_tree : Tree :=
 (.loop ⟨1, 0, 0, 0⟩ (.b2 .and (.b2 .le (.lit (0)) (.lit (0))) (.b2 .and (.b2 .le (.lit (0)) (.ofI (.vop (.len 2) (.cons (.opq 0) .nil)))) (.bapp 6 (.cons (.opq 0) (.cons (.int .i64 (.lit (0))) .nil))))) (.b2 .and (.b2 .le (.lit (0)) (.var 0)) (.b2 .and (.b2 .le (.var 0) (.ofI (.vop (.len 2) (.cons (.opq 0) .nil)))) (.bapp 6 (.cons (.opq 0) (.cons (.int .i64 (.var 0)) .nil)))))
 (.br (.b2 .lt (.var 0) (.ofI (.vop (.len 2) (.cons (.opq 0) .nil))))
 (.need (.b2 .and (.b2 .le (.lit (0)) (.var 0)) (.b2 .lt (.var 0) (.ofI (.vop (.len 2) (.cons (.opq 0) .nil)))))
 (.br (.not (.bapp 0 (.cons (.int .i64 (.ofI (.vop (.sel 2 0) (.cons (.opq 0) (.cons (.int .i64 (.var 0)) .nil))))) (.cons (.vop (.sel 2 1) (.cons (.opq 0) (.cons (.int .i64 (.var 0)) .nil))) .nil))))
 (.ret (.bool (.tt false)))
 (.back (.b2 .and (.b2 .le (.lit (0)) (.wrap .i64 (.i2 .add (.var 0) (.lit (1))))) (.b2 .and (.b2 .le (.wrap .i64 (.i2 .add (.var 0) (.lit (1)))) (.ofI (.vop (.len 2) (.cons (.opq 0) .nil)))) (.bapp 6 (.cons (.opq 0) (.cons (.int .i64 (.wrap .i64 (.i2 .add (.var 0) (.lit (1))))) .nil))))) (.i2 .sub (.ofI (.vop (.len 2) (.cons (.opq 0) .nil))) (.wrap .i64 (.i2 .add (.var 0) (.lit (1))))) (.i2 .sub (.ofI (.vop (.len 2) (.cons (.opq 0) .nil))) (.var 0)))))
 (.ret (.bool (.b2 .le (.ofI (.vop (.len 2) (.cons (.opq 0) .nil))) (.lit (32)))))))
abbrev nc_rmay : Con := ⟨109, [(.hs .no (.cons (.int .i64) (.cons (.sl (.cons (.int .u8) .nil)) .nil)) (.opq 0))], (.tt true), (.bool (.bapp 1 (.cons (.opq 0) .nil))), ⟨0, 0, 1, 0⟩, none⟩
theorem rmay_w : walk Tryd.prog 182 ⟨[nc_rone], syG, [], [], []⟩ [⟨0, ⟨1, 0, 0, 0⟩, [(3, (.int .i64 (.var 0)))], none, (.b2 .and (.b2 .le (.lit (0)) (.var 0)) (.b2 .and (.b2 .le (.var 0) (.ofI (.vop (.len 2) (.cons (.opq 0) .nil)))) (.bapp 6 (.cons (.opq 0) (.cons (.int .i64 (.var 0)) .nil))))), (.i2 .sub (.ofI (.vop (.len 2) (.cons (.opq 0) .nil))) (.var 0)), 0, []⟩] .v nc_rmay nc_rmay.n 3000 = some rmay_tree := by kernel_rfl
theorem rmay_h (l : Value) (hc : holds (nE [] [] [l] []) (.tt true)) (hty : patsTyp (nE [] [] [l] []) [(.hs .no (.cons (.int .i64) (.cons (.sl (.cons (.int .u8) .nil)) .nil)) (.opq 0))]) : rmay_tree.holds (fun v_ => v_ = denV (nE [] [] [l] []) b0 (.bool (.bapp 1 (.cons (.opq 0) .nil)))) (nE [] [] [l] []) := by
  simp only [Tree.holds, Sy.holds, AllN, Env.more, nE, List.cons_append, List.nil_append, List.append_nil, denV, denI, denB, denL, I2.den, VOp.den, List.getD_cons_zero, List.getD_cons_succ, Cst.den, syso, syse, syio, sybo, ni_fst, ni_ck, ni_se, ni_te, ni_tt, ni_de, nb_one, nb_may, nb_eqv, nb_tk, nb_ctk, nb_ow, nb_okn, nv_sv, nv_tv, nv_tb, nv_dv, nv_to, List.map_nil, List.map_cons, B2.ofInts, B2.denI, B2.denB, if_true, Bool.false_eq_true, if_false, Nat.div_one, Nat.mul_one, Nat.add_zero, holds] at hc
  simp only [patsTyp, patTyp, patTypL, nE, denV, denL, List.getD_cons_zero, List.getD_cons_succ, and_true, true_and] at hty
  have hL_l : typ (.sl (.cons (.int .i64) (.cons (.sl (.cons (.int .u8) .nil)) .nil))) l := by first | exact hty | exact hty.1 | exact hty.2 | exact hty.1.1 | exact hty.1.2 | exact hty.2.1 | exact hty.2.2 | exact hty.2.2.1 | exact hty.2.2.2
  have hN_l := typ_len (n := 2) hL_l rfl (by omega)
  unfold rmay_tree
  simp only [Tree.holds, Sy.holds, AllN, Env.more, nE, List.cons_append, List.nil_append, List.append_nil, denV, denI, denB, denL, I2.den, VOp.den, List.getD_cons_zero, List.getD_cons_succ, Cst.den, syso, syse, syio, sybo, ni_fst, ni_ck, ni_se, ni_te, ni_tt, ni_de, nb_one, nb_may, nb_eqv, nb_tk, nb_ctk, nb_ow, nb_okn, nv_sv, nv_tv, nv_tb, nv_dv, nv_to, List.map_nil, List.map_cons, B2.ofInts, B2.denI, B2.denB, if_true, Bool.false_eq_true, if_false, Nat.div_one, Nat.mul_one, Nat.add_zero]
  refine ⟨?_, ?_⟩
  ·
   exact ⟨by omega, by omega, rfl⟩
  ·
   intro i0a hi0
   refine ⟨fun h0 => ?_, fun h0 => ?_⟩
   ·
    refine ⟨?_, fun h1 => ?_⟩
    ·
     omega
    ·
     refine ⟨fun h2 => ?_, fun h2 => ?_⟩
     ·
      obtain ⟨hi1, hi2, hi3⟩ := hi0
      refine congrArg Value.bool ?_
      by_cases c : i0a < ↑((Sy.rows l).length / 2)
      · first
        | (exfalso; omega)
        | exact (may_bad (by omega) (at_no h2)).symm
      · first
        | (exfalso; omega)
        | (rw [show i0a.toNat = (Sy.rows l).length / 2 by omega] at hi3
           refine Bool.eq_iff_iff.2 ?_
           rw [may_iff, decide_eq_true_eq]
           exact ⟨fun h => ⟨hi3, by omega⟩, fun h => by omega⟩)
     ·
      have wf0 := wr_i64 (i0a + 1)
      refine ⟨?_, ?_⟩
      ·
       have e : IntKind.wrap .i64 (i0a + 1) = i0a + 1 := by omega
       rw [e]
       obtain ⟨hi1, hi2, hi3⟩ := hi0
       refine ⟨by omega, by omega, ?_⟩
       rw [show (i0a + 1).toNat = i0a.toNat + 1 by omega, okN_succ, Bool.and_eq_true]
       refine ⟨hi3, ?_⟩
       first
       | exact at_yes (Classical.not_not.1 h2)
       | exact at_yes h2
       | exact at_yes (Classical.not_not.1 h1)
       | exact at_yes h1
      ·
       omega
   ·
    obtain ⟨hi1, hi2, hi3⟩ := hi0
    refine congrArg Value.bool ?_
    by_cases c : i0a < ↑((Sy.rows l).length / 2)
    · first
      | (exfalso; omega)
      | exact (may_bad (by omega) (at_no h2)).symm
    · first
      | (exfalso; omega)
      | (rw [show i0a.toNat = (Sy.rows l).length / 2 by omega] at hi3
         refine Bool.eq_iff_iff.2 ?_
         rw [may_iff, decide_eq_true_eq]
         exact ⟨fun h => ⟨hi3, by omega⟩, fun h => by omega⟩)
theorem ng_rmay : nc_rmay.Good Tryd.prog syG (nE [] [] [] []) := good_of_walk (Γ := ⟨[nc_rone], syG, [], [], []⟩) (ρ := nE [] [] [] []) sym rmay_w rfl (fun _ _ _ _ => (ok_cons (Con.Good.env ng_rone _ _ _ _) ok_nil)) (fun l hc hty => rmay_h l hc hty)
def clone_tree : Tree :=
 (.need (.b2 .le (.i2 .add (.lit (0)) (.ofI (.vop (.len 1) (.cons (.opq 0) .nil)))) (.lit (140737488355328)))
 (.ret (.agg (.cons (.int .i64 (.var 0)) (.cons (.hs (.new 5) (.cons (.int .u8) .nil) (.opq 0)) .nil)))))
abbrev nc_clone : Con := ⟨180, [(.agg (.cons (.int .i64 (.var 0)) (.cons (.hs .no (.cons (.int .u8) .nil) (.opq 0)) .nil)))], (.b2 .le (.ofI (.vop (.len 1) (.cons (.opq 0) .nil))) (.lit (140737488355328))), (.agg (.cons (.int .i64 (.var 0)) (.cons (.hs (.new 5) (.cons (.int .u8) .nil) (.opq 0)) .nil))), ⟨1, 0, 1, 0⟩, none⟩
theorem clone_w : walk Tryd.prog 182 ⟨[], syG, [], [], []⟩ [] (.agg (.cons .v (.cons (.o 5 (.cons (.int .u8) .nil)) .nil))) nc_clone nc_clone.n 3000 = some clone_tree := by kernel_rfl
theorem clone_h (t : Int) (b : Value) (hc : holds (nE [t] [] [b] []) (.b2 .le (.ofI (.vop (.len 1) (.cons (.opq 0) .nil))) (.lit (140737488355328)))) (hty : patsTyp (nE [t] [] [b] []) [(.agg (.cons (.int .i64 (.var 0)) (.cons (.hs .no (.cons (.int .u8) .nil) (.opq 0)) .nil)))]) : clone_tree.holds (fun v_ => v_ = denV (nE [t] [] [b] []) b0 (.agg (.cons (.int .i64 (.var 0)) (.cons (.hs (.new 5) (.cons (.int .u8) .nil) (.opq 0)) .nil)))) (nE [t] [] [b] []) := by
  simp only [Tree.holds, Sy.holds, AllN, Env.more, nE, List.cons_append, List.nil_append, List.append_nil, denV, denI, denB, denL, I2.den, VOp.den, List.getD_cons_zero, List.getD_cons_succ, Cst.den, syso, syse, syio, sybo, ni_fst, ni_ck, ni_se, ni_te, ni_tt, ni_de, nb_one, nb_may, nb_eqv, nb_tk, nb_ctk, nb_ow, nb_okn, nv_sv, nv_tv, nv_tb, nv_dv, nv_to, List.map_nil, List.map_cons, B2.ofInts, B2.denI, B2.denB, if_true, Bool.false_eq_true, if_false, Nat.div_one, Nat.mul_one, Nat.add_zero, holds] at hc
  simp only [patsTyp, patTyp, patTypL, nE, denV, denL, List.getD_cons_zero, List.getD_cons_succ, and_true, true_and] at hty
  have hL_b : typ (.sl (.cons (.int .u8) .nil)) b := by first | exact hty | exact hty.1 | exact hty.2 | exact hty.1.1 | exact hty.1.2 | exact hty.2.1 | exact hty.2.2 | exact hty.2.2.1 | exact hty.2.2.2
  have hN_b := typ_len (n := 1) hL_b rfl (by omega)
  simp only [Nat.div_one, Nat.mul_one] at hN_b
  unfold clone_tree
  simp only [Tree.holds, Sy.holds, AllN, Env.more, nE, List.cons_append, List.nil_append, List.append_nil, denV, denI, denB, denL, I2.den, VOp.den, List.getD_cons_zero, List.getD_cons_succ, Cst.den, syso, syse, syio, sybo, ni_fst, ni_ck, ni_se, ni_te, ni_tt, ni_de, nb_one, nb_may, nb_eqv, nb_tk, nb_ctk, nb_ow, nb_okn, nv_sv, nv_tv, nv_tb, nv_dv, nv_to, List.map_nil, List.map_cons, B2.ofInts, B2.denI, B2.denB, if_true, Bool.false_eq_true, if_false, Nat.div_one, Nat.mul_one, Nat.add_zero]
  refine ⟨?_, fun h0 => ?_⟩
  ·
   omega
  ·
   first
   | exact True.intro
   | rfl
theorem ng_clone : nc_clone.Good Tryd.prog syG (nE [] [] [] []) := good_of_walk (Γ := ⟨[], syG, [], [], []⟩) (ρ := nE [] [] [] []) sym clone_w rfl (fun _ _ _ _ => ok_nil) (fun t b hc hty => clone_h t b hc hty)
def own_tree : Tree :=
 (.need (.b2 .and (.b2 .le (.lit (0)) (.wrap .i64 (.i2 .add (.ofI (.vop (.len 2) (.cons (.opq 0) .nil))) (.ofI (.vop (.len 2) (.cons (.opq 1) .nil)))))) (.b2 .le (.wrap .i64 (.i2 .add (.ofI (.vop (.len 2) (.cons (.opq 0) .nil))) (.ofI (.vop (.len 2) (.cons (.opq 1) .nil))))) (.lit (4398046511104))))
 (.loop ⟨1, 0, 1, 0⟩ (.b2 .and (.b2 .le (.lit (0)) (.lit (0))) (.b2 .and (.b2 .le (.lit (0)) (.lit (2))) (.bapp 5 (.cons (.tup .nil) (.cons (.opq 0) (.cons (.opq 1) (.cons (.int .i64 (.lit (0))) (.cons (.int .i64 (.lit (0))) .nil)))))))) (.b2 .and (.b2 .le (.lit (0)) (.var 0)) (.b2 .and (.b2 .le (.var 0) (.lit (2))) (.bapp 5 (.cons (.opq 2) (.cons (.opq 0) (.cons (.opq 1) (.cons (.int .i64 (.var 0)) (.cons (.int .i64 (.lit (0))) .nil))))))))
 (.br (.b2 .lt (.var 0) (.lit (2)))
 (.br (.b2 .eq (.var 0) (.lit (0)))
 (.loop ⟨1, 0, 1, 0⟩ (.b2 .and (.b2 .le (.lit (0)) (.lit (0))) (.b2 .and (.b2 .or (.b2 .and (.b2 .eq (.var 0) (.lit (0))) (.b2 .le (.lit (0)) (.ofI (.vop (.len 2) (.cons (.opq 0) .nil))))) (.b2 .and (.b2 .eq (.var 0) (.lit (1))) (.b2 .le (.lit (0)) (.ofI (.vop (.len 2) (.cons (.opq 1) .nil)))))) (.bapp 5 (.cons (.opq 2) (.cons (.opq 0) (.cons (.opq 1) (.cons (.int .i64 (.var 0)) (.cons (.int .i64 (.lit (0))) .nil)))))))) (.b2 .and (.b2 .le (.lit (0)) (.var 1)) (.b2 .and (.b2 .or (.b2 .and (.b2 .eq (.var 0) (.lit (0))) (.b2 .le (.var 1) (.ofI (.vop (.len 2) (.cons (.opq 0) .nil))))) (.b2 .and (.b2 .eq (.var 0) (.lit (1))) (.b2 .le (.var 1) (.ofI (.vop (.len 2) (.cons (.opq 1) .nil)))))) (.bapp 5 (.cons (.opq 3) (.cons (.opq 0) (.cons (.opq 1) (.cons (.int .i64 (.var 0)) (.cons (.int .i64 (.var 1)) .nil))))))))
 (.br (.b2 .lt (.var 1) (.ofI (.vop (.len 2) (.cons (.opq 0) .nil))))
 (.need (.b2 .and (.b2 .le (.lit (0)) (.var 1)) (.b2 .lt (.var 1) (.ofI (.vop (.len 2) (.cons (.opq 0) .nil)))))
 (.need (.b2 .le (.ofI (.vop (.len 1) (.cons (.vop (.sel 2 1) (.cons (.opq 0) (.cons (.int .i64 (.var 1)) .nil))) .nil))) (.lit (140737488355328)))
 (.need (.b2 .le (.i2 .add (.ofI (.vop (.len 2) (.cons (.opq 3) .nil))) (.lit (1))) (.lit (4398046511104)))
 (.back (.b2 .and (.b2 .le (.lit (0)) (.wrap .i64 (.i2 .add (.var 1) (.lit (1))))) (.b2 .and (.b2 .or (.b2 .and (.b2 .eq (.var 0) (.lit (0))) (.b2 .le (.wrap .i64 (.i2 .add (.var 1) (.lit (1)))) (.ofI (.vop (.len 2) (.cons (.opq 0) .nil))))) (.b2 .and (.b2 .eq (.var 0) (.lit (1))) (.b2 .le (.wrap .i64 (.i2 .add (.var 1) (.lit (1)))) (.ofI (.vop (.len 2) (.cons (.opq 1) .nil)))))) (.bapp 5 (.cons (.vop .cat (.cons (.opq 3) (.cons (.tup (.cons (.int .i64 (.ofI (.vop (.sel 2 0) (.cons (.opq 0) (.cons (.int .i64 (.var 1)) .nil))))) (.cons (.hs .no (.cons (.int .u8) .nil) (.vop (.sel 2 1) (.cons (.opq 0) (.cons (.int .i64 (.var 1)) .nil)))) .nil))) .nil))) (.cons (.opq 0) (.cons (.opq 1) (.cons (.int .i64 (.var 0)) (.cons (.int .i64 (.wrap .i64 (.i2 .add (.var 1) (.lit (1))))) .nil)))))))) (.i2 .sub (.i2 .add (.ofI (.vop (.len 2) (.cons (.opq 0) .nil))) (.ofI (.vop (.len 2) (.cons (.opq 1) .nil)))) (.wrap .i64 (.i2 .add (.var 1) (.lit (1))))) (.i2 .sub (.i2 .add (.ofI (.vop (.len 2) (.cons (.opq 0) .nil))) (.ofI (.vop (.len 2) (.cons (.opq 1) .nil)))) (.var 1))))))
 (.back (.b2 .and (.b2 .le (.lit (0)) (.wrap .i64 (.i2 .add (.var 0) (.lit (1))))) (.b2 .and (.b2 .le (.wrap .i64 (.i2 .add (.var 0) (.lit (1)))) (.lit (2))) (.bapp 5 (.cons (.opq 3) (.cons (.opq 0) (.cons (.opq 1) (.cons (.int .i64 (.wrap .i64 (.i2 .add (.var 0) (.lit (1))))) (.cons (.int .i64 (.lit (0))) .nil)))))))) (.i2 .sub (.lit (2)) (.wrap .i64 (.i2 .add (.var 0) (.lit (1))))) (.i2 .sub (.lit (2)) (.var 0)))))
 (.need (.b2 .eq (.var 0) (.lit (1)))
 (.loop ⟨1, 0, 1, 0⟩ (.b2 .and (.b2 .le (.lit (0)) (.lit (0))) (.b2 .and (.b2 .or (.b2 .and (.b2 .eq (.var 0) (.lit (0))) (.b2 .le (.lit (0)) (.ofI (.vop (.len 2) (.cons (.opq 0) .nil))))) (.b2 .and (.b2 .eq (.var 0) (.lit (1))) (.b2 .le (.lit (0)) (.ofI (.vop (.len 2) (.cons (.opq 1) .nil)))))) (.bapp 5 (.cons (.opq 2) (.cons (.opq 0) (.cons (.opq 1) (.cons (.int .i64 (.var 0)) (.cons (.int .i64 (.lit (0))) .nil)))))))) (.b2 .and (.b2 .le (.lit (0)) (.var 1)) (.b2 .and (.b2 .or (.b2 .and (.b2 .eq (.var 0) (.lit (0))) (.b2 .le (.var 1) (.ofI (.vop (.len 2) (.cons (.opq 0) .nil))))) (.b2 .and (.b2 .eq (.var 0) (.lit (1))) (.b2 .le (.var 1) (.ofI (.vop (.len 2) (.cons (.opq 1) .nil)))))) (.bapp 5 (.cons (.opq 3) (.cons (.opq 0) (.cons (.opq 1) (.cons (.int .i64 (.var 0)) (.cons (.int .i64 (.var 1)) .nil))))))))
 (.br (.b2 .lt (.var 1) (.ofI (.vop (.len 2) (.cons (.opq 1) .nil))))
 (.need (.b2 .and (.b2 .le (.lit (0)) (.var 1)) (.b2 .lt (.var 1) (.ofI (.vop (.len 2) (.cons (.opq 1) .nil)))))
 (.need (.b2 .le (.ofI (.vop (.len 1) (.cons (.vop (.sel 2 1) (.cons (.opq 1) (.cons (.int .i64 (.var 1)) .nil))) .nil))) (.lit (140737488355328)))
 (.need (.b2 .le (.i2 .add (.ofI (.vop (.len 2) (.cons (.opq 3) .nil))) (.lit (1))) (.lit (4398046511104)))
 (.back (.b2 .and (.b2 .le (.lit (0)) (.wrap .i64 (.i2 .add (.var 1) (.lit (1))))) (.b2 .and (.b2 .or (.b2 .and (.b2 .eq (.var 0) (.lit (0))) (.b2 .le (.wrap .i64 (.i2 .add (.var 1) (.lit (1)))) (.ofI (.vop (.len 2) (.cons (.opq 0) .nil))))) (.b2 .and (.b2 .eq (.var 0) (.lit (1))) (.b2 .le (.wrap .i64 (.i2 .add (.var 1) (.lit (1)))) (.ofI (.vop (.len 2) (.cons (.opq 1) .nil)))))) (.bapp 5 (.cons (.vop .cat (.cons (.opq 3) (.cons (.tup (.cons (.int .i64 (.ofI (.vop (.sel 2 0) (.cons (.opq 1) (.cons (.int .i64 (.var 1)) .nil))))) (.cons (.hs .no (.cons (.int .u8) .nil) (.vop (.sel 2 1) (.cons (.opq 1) (.cons (.int .i64 (.var 1)) .nil)))) .nil))) .nil))) (.cons (.opq 0) (.cons (.opq 1) (.cons (.int .i64 (.var 0)) (.cons (.int .i64 (.wrap .i64 (.i2 .add (.var 1) (.lit (1))))) .nil)))))))) (.i2 .sub (.i2 .add (.ofI (.vop (.len 2) (.cons (.opq 0) .nil))) (.ofI (.vop (.len 2) (.cons (.opq 1) .nil)))) (.wrap .i64 (.i2 .add (.var 1) (.lit (1))))) (.i2 .sub (.i2 .add (.ofI (.vop (.len 2) (.cons (.opq 0) .nil))) (.ofI (.vop (.len 2) (.cons (.opq 1) .nil)))) (.var 1))))))
 (.back (.b2 .and (.b2 .le (.lit (0)) (.wrap .i64 (.i2 .add (.var 0) (.lit (1))))) (.b2 .and (.b2 .le (.wrap .i64 (.i2 .add (.var 0) (.lit (1)))) (.lit (2))) (.bapp 5 (.cons (.opq 3) (.cons (.opq 0) (.cons (.opq 1) (.cons (.int .i64 (.wrap .i64 (.i2 .add (.var 0) (.lit (1))))) (.cons (.int .i64 (.lit (0))) .nil)))))))) (.i2 .sub (.lit (2)) (.wrap .i64 (.i2 .add (.var 0) (.lit (1))))) (.i2 .sub (.lit (2)) (.var 0)))))))
 (.ret (.agg (.cons (.hs (.new 159) (.cons (.int .i64) (.cons (.sl (.cons (.int .u8) .nil)) .nil)) (.opq 2)) .nil))))))
abbrev nc_own : Con := ⟨178, [(.hs .no (.cons (.int .i64) (.cons (.sl (.cons (.int .u8) .nil)) .nil)) (.opq 0)), (.hs .no (.cons (.int .i64) (.cons (.sl (.cons (.int .u8) .nil)) .nil)) (.opq 1))], (.b2 .le (.i2 .add (.ofI (.vop (.len 2) (.cons (.opq 0) .nil))) (.ofI (.vop (.len 2) (.cons (.opq 1) .nil)))) (.lit (4398046511103))), (.agg (.cons (.hs (.new 159) (.cons (.int .i64) (.cons (.sl (.cons (.int .u8) .nil)) .nil)) (.vop .cat (.cons (.opq 0) (.cons (.opq 1) .nil)))) .nil)), ⟨0, 0, 2, 0⟩, none⟩
theorem own_w : walk Tryd.prog 182 ⟨[nc_clone], syG, [], [], []⟩ [⟨0, ⟨1, 0, 1, 0⟩, [(19, (.int .i64 (.var 0))), (5, (.hs (.id 1000 159) (.cons (.int .i64) (.cons (.sl (.cons (.int .u8) .nil)) .nil)) (.opq 2)))], none, (.b2 .and (.b2 .le (.lit (0)) (.var 0)) (.b2 .and (.b2 .le (.var 0) (.lit (2))) (.bapp 5 (.cons (.opq 2) (.cons (.opq 0) (.cons (.opq 1) (.cons (.int .i64 (.var 0)) (.cons (.int .i64 (.lit (0))) .nil)))))))), (.i2 .sub (.lit (2)) (.var 0)), 1, []⟩, ⟨2, ⟨1, 0, 1, 0⟩, [(24, (.int .i64 (.var 1))), (5, (.hs (.id 1000 159) (.cons (.int .i64) (.cons (.sl (.cons (.int .u8) .nil)) .nil)) (.opq 3)))], none, (.b2 .and (.b2 .le (.lit (0)) (.var 1)) (.b2 .and (.b2 .or (.b2 .and (.b2 .eq (.var 0) (.lit (0))) (.b2 .le (.var 1) (.ofI (.vop (.len 2) (.cons (.opq 0) .nil))))) (.b2 .and (.b2 .eq (.var 0) (.lit (1))) (.b2 .le (.var 1) (.ofI (.vop (.len 2) (.cons (.opq 1) .nil)))))) (.bapp 5 (.cons (.opq 3) (.cons (.opq 0) (.cons (.opq 1) (.cons (.int .i64 (.var 0)) (.cons (.int .i64 (.var 1)) .nil)))))))), (.i2 .sub (.i2 .add (.ofI (.vop (.len 2) (.cons (.opq 0) .nil))) (.ofI (.vop (.len 2) (.cons (.opq 1) .nil)))) (.var 1)), 1, []⟩] (.agg (.cons (.o 159 (.cons (.int .i64) (.cons (.sl (.cons (.int .u8) .nil)) .nil))) .nil)) nc_own nc_own.n 3000 = some own_tree := by kernel_rfl
theorem own_h (a : Value) (b : Value) (hc : holds (nE [] [] [a, b] []) (.b2 .le (.i2 .add (.ofI (.vop (.len 2) (.cons (.opq 0) .nil))) (.ofI (.vop (.len 2) (.cons (.opq 1) .nil)))) (.lit (4398046511103)))) (hty : patsTyp (nE [] [] [a, b] []) [(.hs .no (.cons (.int .i64) (.cons (.sl (.cons (.int .u8) .nil)) .nil)) (.opq 0)), (.hs .no (.cons (.int .i64) (.cons (.sl (.cons (.int .u8) .nil)) .nil)) (.opq 1))]) : own_tree.holds (fun v_ => v_ = denV (nE [] [] [a, b] []) b0 (.agg (.cons (.hs (.new 159) (.cons (.int .i64) (.cons (.sl (.cons (.int .u8) .nil)) .nil)) (.vop .cat (.cons (.opq 0) (.cons (.opq 1) .nil)))) .nil))) (nE [] [] [a, b] []) := by
  simp only [Tree.holds, Sy.holds, AllN, Env.more, nE, List.cons_append, List.nil_append, List.append_nil, denV, denI, denB, denL, I2.den, VOp.den, List.getD_cons_zero, List.getD_cons_succ, Cst.den, syso, syse, syio, sybo, ni_fst, ni_ck, ni_se, ni_te, ni_tt, ni_de, nb_one, nb_may, nb_eqv, nb_tk, nb_ctk, nb_ow, nb_okn, nv_sv, nv_tv, nv_tb, nv_dv, nv_to, List.map_nil, List.map_cons, B2.ofInts, B2.denI, B2.denB, if_true, Bool.false_eq_true, if_false, Nat.div_one, Nat.mul_one, Nat.add_zero, holds] at hc
  simp only [patsTyp, patTyp, patTypL, nE, denV, denL, List.getD_cons_zero, List.getD_cons_succ, and_true, true_and] at hty
  have hL_a : typ (.sl (.cons (.int .i64) (.cons (.sl (.cons (.int .u8) .nil)) .nil))) a := by first | exact hty | exact hty.1 | exact hty.2 | exact hty.1.1 | exact hty.1.2 | exact hty.2.1 | exact hty.2.2 | exact hty.2.2.1 | exact hty.2.2.2
  have hN_a := typ_len (n := 2) hL_a rfl (by omega)
  have hL_b : typ (.sl (.cons (.int .i64) (.cons (.sl (.cons (.int .u8) .nil)) .nil))) b := by first | exact hty | exact hty.1 | exact hty.2 | exact hty.1.1 | exact hty.1.2 | exact hty.2.1 | exact hty.2.2 | exact hty.2.2.1 | exact hty.2.2.2
  have hN_b := typ_len (n := 2) hL_b rfl (by omega)
  unfold own_tree
  simp only [Tree.holds, Sy.holds, AllN, Env.more, nE, List.cons_append, List.nil_append, List.append_nil, denV, denI, denB, denL, I2.den, VOp.den, List.getD_cons_zero, List.getD_cons_succ, Cst.den, syso, syse, syio, sybo, ni_fst, ni_ck, ni_se, ni_te, ni_tt, ni_de, nb_one, nb_may, nb_eqv, nb_tk, nb_ctk, nb_ow, nb_okn, nv_sv, nv_tv, nv_tb, nv_dv, nv_to, List.map_nil, List.map_cons, B2.ofInts, B2.denI, B2.denB, if_true, Bool.false_eq_true, if_false, Nat.div_one, Nat.mul_one, Nat.add_zero]
  have wf0 := wr_i64 (((((rows a).length / 2 : Nat)) : Int) + ((((rows b).length / 2 : Nat)) : Int))
  refine ⟨?_, fun h0 => ?_⟩
  ·
   first
   | exact True.intro
   | omega
  ·
   refine ⟨?_, ?_⟩
   ·
    first
    | (obtain ⟨hi1, hi2, hi3⟩ := hi0
       have hk : i0a = 0 ∨ i0a = 1 := by omega
       exact ⟨by omega, by omega, hi3⟩)
    | exact ⟨by omega, by omega, eqV_iff.2 (by simp [accV])⟩
   ·
    intro i0a i0b hi0
    refine ⟨fun h1 => ?_, fun h1 => ?_⟩
    ·
     refine ⟨fun h2 => ?_, fun h2 => ?_⟩
     ·
      refine ⟨?_, ?_⟩
      ·
       first
       | (obtain ⟨hi1, hi2, hi3⟩ := hi0
          have hk : i0a = 0 ∨ i0a = 1 := by omega
          exact ⟨by omega, by omega, hi3⟩)
       | exact ⟨by omega, by omega, eqV_iff.2 (by simp [accV])⟩
      ·
       intro i1a i1b hi1
       refine ⟨fun h3 => ?_, fun h3 => ?_⟩
       ·
        refine ⟨?_, fun h4 => ?_⟩
        ·
         first
         | exact True.intro
         | omega
         | (have tr := (typ_rowL hL_a (k := i1a.toNat) (by omega)).2
            obtain ⟨_, n, h1', h2', _⟩ := tr
            rw [h2']
            simp only [SK.wd]
            omega)
         | (obtain ⟨g1, g2, g3⟩ := hi1
            have e0 : i0a = 0 := by omega
            have hlen : (Sy.rows i1b).length ≤ (Sy.rows a).length + (Sy.rows b).length := by
              rw [eqV_iff.1 g3, e0, accV0]
              simp only [rows_tup, List.length_append, List.length_take]
              omega
            have hlen2 : (Sy.rows i1b).length ≤ i1a.toNat * 2 := by
              rw [eqV_iff.1 g3, e0, accV0]
              simp only [rows_tup, List.length_append, List.length_take]
              omega
            omega)
        ·
         refine ⟨?_, fun h5 => ?_⟩
         ·
          first
          | exact True.intro
          | omega
          | (have tr := (typ_rowL hL_a (k := i1a.toNat) (by omega)).2
             obtain ⟨_, n, h1', h2', _⟩ := tr
             rw [h2']
             simp only [SK.wd]
             omega)
          | (obtain ⟨g1, g2, g3⟩ := hi1
             have e0 : i0a = 0 := by omega
             have hlen : (Sy.rows i1b).length ≤ (Sy.rows a).length + (Sy.rows b).length := by
               rw [eqV_iff.1 g3, e0, accV0]
               simp only [rows_tup, List.length_append, List.length_take]
               omega
             have hlen2 : (Sy.rows i1b).length ≤ i1a.toNat * 2 := by
               rw [eqV_iff.1 g3, e0, accV0]
               simp only [rows_tup, List.length_append, List.length_take]
               omega
             omega)
         ·
          refine ⟨?_, fun h6 => ?_⟩
          ·
           first
           | exact True.intro
           | omega
           | (have tr := (typ_rowL hL_a (k := i1a.toNat) (by omega)).2
              obtain ⟨_, n, h1', h2', _⟩ := tr
              rw [h2']
              simp only [SK.wd]
              omega)
           | (obtain ⟨g1, g2, g3⟩ := hi1
              have e0 : i0a = 0 := by omega
              have hlen : (Sy.rows i1b).length ≤ (Sy.rows a).length + (Sy.rows b).length := by
                rw [eqV_iff.1 g3, e0, accV0]
                simp only [rows_tup, List.length_append, List.length_take]
                omega
              have hlen2 : (Sy.rows i1b).length ≤ i1a.toNat * 2 := by
                rw [eqV_iff.1 g3, e0, accV0]
                simp only [rows_tup, List.length_append, List.length_take]
                omega
              omega)
          ·
           have wf1 := wr_i64 (i1a + 1)
           refine ⟨?_, ?_⟩
           ·
            by_cases c : i1a < ↑((Sy.rows a).length / 2)
            · first
              | (exfalso; omega)
              | (obtain ⟨g1, g2, g3⟩ := hi1
                 have e : IntKind.wrap .i64 (i1a + 1) = i1a + 1 := by omega
                 have e0 : i0a = 0 := by omega
                 subst e0
                 rw [e]
                 refine ⟨by omega, by omega, eqV_iff.2 ?_⟩
                 rw [eqV_iff.1 g3, show (i1a + 1).toNat = i1a.toNat + 1 by omega, accV0, accV0]
                 simp only [rows_tup]
                 rw [take2t hL_a (by omega)])
            · first
              | (exfalso; omega)
              | (obtain ⟨g1, g2, g3⟩ := hi1
                 have e0 : i0a = 0 := by omega
                 subst e0
                 have e : IntKind.wrap .i64 (0 + 1) = 1 := by omega
                 rw [e]
                 refine ⟨by omega, by omega, eqV_iff.2 ?_⟩
                 rw [eqV_iff.1 g3, accV0, accV1, full2 hL_a (by omega)]
                 simp)
           ·
            omega
       ·
        have wf2 := wr_i64 (i0a + 1)
        refine ⟨?_, ?_⟩
        ·
         by_cases c : i1a < ↑((Sy.rows a).length / 2)
         · first
           | (exfalso; omega)
           | (obtain ⟨g1, g2, g3⟩ := hi1
              have e : IntKind.wrap .i64 (i1a + 1) = i1a + 1 := by omega
              have e0 : i0a = 0 := by omega
              subst e0
              rw [e]
              refine ⟨by omega, by omega, eqV_iff.2 ?_⟩
              rw [eqV_iff.1 g3, show (i1a + 1).toNat = i1a.toNat + 1 by omega, accV0, accV0]
              simp only [rows_tup]
              rw [take2t hL_a (by omega)])
         · first
           | (exfalso; omega)
           | (obtain ⟨g1, g2, g3⟩ := hi1
              have e0 : i0a = 0 := by omega
              subst e0
              have e : IntKind.wrap .i64 (0 + 1) = 1 := by omega
              rw [e]
              refine ⟨by omega, by omega, eqV_iff.2 ?_⟩
              rw [eqV_iff.1 g3, accV0, accV1, full2 hL_a (by omega)]
              simp)
        ·
         omega
     ·
      refine ⟨?_, fun h7 => ?_⟩
      ·
       first
       | exact True.intro
       | omega
      ·
       refine ⟨?_, ?_⟩
       ·
        first
        | (obtain ⟨hi1, hi2, hi3⟩ := hi0
           have hk : i0a = 0 ∨ i0a = 1 := by omega
           exact ⟨by omega, by omega, hi3⟩)
        | exact ⟨by omega, by omega, eqV_iff.2 (by simp [accV])⟩
       ·
        intro i2a i2b hi2
        refine ⟨fun h8 => ?_, fun h8 => ?_⟩
        ·
         refine ⟨?_, fun h9 => ?_⟩
         ·
          first
          | exact True.intro
          | omega
          | (have tr := (typ_rowL hL_b (k := i2a.toNat) (by omega)).2
             obtain ⟨_, n, h1', h2', _⟩ := tr
             rw [h2']
             simp only [SK.wd]
             omega)
          | (obtain ⟨g1, g2, g3⟩ := hi2
             have e0 : i0a = 1 := by omega
             have hlen : (Sy.rows i2b).length ≤ (Sy.rows a).length + (Sy.rows b).length := by
               rw [eqV_iff.1 g3, e0, accV1]
               simp only [rows_tup, List.length_append, List.length_take]
               omega
             have hlen2 : (Sy.rows i2b).length ≤ (Sy.rows a).length + i2a.toNat * 2 := by
               rw [eqV_iff.1 g3, e0, accV1]
               simp only [rows_tup, List.length_append, List.length_take]
               omega
             omega)
         ·
          refine ⟨?_, fun h10 => ?_⟩
          ·
           first
           | exact True.intro
           | omega
           | (have tr := (typ_rowL hL_b (k := i2a.toNat) (by omega)).2
              obtain ⟨_, n, h1', h2', _⟩ := tr
              rw [h2']
              simp only [SK.wd]
              omega)
           | (obtain ⟨g1, g2, g3⟩ := hi2
              have e0 : i0a = 1 := by omega
              have hlen : (Sy.rows i2b).length ≤ (Sy.rows a).length + (Sy.rows b).length := by
                rw [eqV_iff.1 g3, e0, accV1]
                simp only [rows_tup, List.length_append, List.length_take]
                omega
              have hlen2 : (Sy.rows i2b).length ≤ (Sy.rows a).length + i2a.toNat * 2 := by
                rw [eqV_iff.1 g3, e0, accV1]
                simp only [rows_tup, List.length_append, List.length_take]
                omega
              omega)
          ·
           refine ⟨?_, fun h11 => ?_⟩
           ·
            first
            | exact True.intro
            | omega
            | (have tr := (typ_rowL hL_b (k := i2a.toNat) (by omega)).2
               obtain ⟨_, n, h1', h2', _⟩ := tr
               rw [h2']
               simp only [SK.wd]
               omega)
            | (obtain ⟨g1, g2, g3⟩ := hi2
               have e0 : i0a = 1 := by omega
               have hlen : (Sy.rows i2b).length ≤ (Sy.rows a).length + (Sy.rows b).length := by
                 rw [eqV_iff.1 g3, e0, accV1]
                 simp only [rows_tup, List.length_append, List.length_take]
                 omega
               have hlen2 : (Sy.rows i2b).length ≤ (Sy.rows a).length + i2a.toNat * 2 := by
                 rw [eqV_iff.1 g3, e0, accV1]
                 simp only [rows_tup, List.length_append, List.length_take]
                 omega
               omega)
           ·
            have wf3 := wr_i64 (i2a + 1)
            refine ⟨?_, ?_⟩
            ·
             by_cases c : i2a < ↑((Sy.rows b).length / 2)
             · first
               | (exfalso; omega)
               | (obtain ⟨g1, g2, g3⟩ := hi2
                  have e : IntKind.wrap .i64 (i2a + 1) = i2a + 1 := by omega
                  have e0 : i0a = 1 := by omega
                  subst e0
                  rw [e]
                  refine ⟨by omega, by omega, eqV_iff.2 ?_⟩
                  rw [eqV_iff.1 g3, show (i2a + 1).toNat = i2a.toNat + 1 by omega, accV1, accV1]
                  simp only [rows_tup]
                  rw [take2t hL_b (by omega)]
                  simp only [List.append_assoc])
             · first
               | (exfalso; omega)
               | (obtain ⟨g1, g2, g3⟩ := hi2
                  have e0 : i0a = 1 := by omega
                  subst e0
                  have e : IntKind.wrap .i64 (1 + 1) = 2 := by omega
                  rw [e]
                  refine ⟨by omega, by omega, eqV_iff.2 ?_⟩
                  rw [eqV_iff.1 g3, accV1, accV2, full2 hL_b (by omega)])
            ·
             omega
        ·
         have wf4 := wr_i64 (i0a + 1)
         refine ⟨?_, ?_⟩
         ·
          by_cases c : i2a < ↑((Sy.rows b).length / 2)
          · first
            | (exfalso; omega)
            | (obtain ⟨g1, g2, g3⟩ := hi2
               have e : IntKind.wrap .i64 (i2a + 1) = i2a + 1 := by omega
               have e0 : i0a = 1 := by omega
               subst e0
               rw [e]
               refine ⟨by omega, by omega, eqV_iff.2 ?_⟩
               rw [eqV_iff.1 g3, show (i2a + 1).toNat = i2a.toNat + 1 by omega, accV1, accV1]
               simp only [rows_tup]
               rw [take2t hL_b (by omega)]
               simp only [List.append_assoc])
          · first
            | (exfalso; omega)
            | (obtain ⟨g1, g2, g3⟩ := hi2
               have e0 : i0a = 1 := by omega
               subst e0
               have e : IntKind.wrap .i64 (1 + 1) = 2 := by omega
               rw [e]
               refine ⟨by omega, by omega, eqV_iff.2 ?_⟩
               rw [eqV_iff.1 g3, accV1, accV2, full2 hL_b (by omega)])
         ·
          omega
    ·
     obtain ⟨g1, g2, g3⟩ := hi0
     have e0 : i0a = 2 := by omega
     rw [eqV_iff.1 g3, e0, accV2]
theorem ng_own : nc_own.Good Tryd.prog syG (nE [] [] [] []) := good_of_walk (Γ := ⟨[nc_clone], syG, [], [], []⟩) (ρ := nE [] [] [] []) sym own_w rfl (fun _ _ _ _ => (ok_cons (Con.Good.env ng_clone _ _ _ _) ok_nil)) (fun a b hc hty => own_h a b hc hty)
def give_tree : Tree :=
 (.loop ⟨1, 0, 1, 0⟩ (.b2 .and (.b2 .le (.lit (0)) (.lit (0))) (.b2 .and (.b2 .le (.lit (0)) (.ofI (.vop (.len 2) (.cons (.opq 0) .nil)))) (.bapp 3 (.cons (.tup .nil) (.cons (.opq 0) (.cons (.int .i64 (.lit (0))) .nil)))))) (.b2 .and (.b2 .le (.lit (0)) (.var 0)) (.b2 .and (.b2 .le (.var 0) (.ofI (.vop (.len 2) (.cons (.opq 0) .nil)))) (.bapp 3 (.cons (.opq 1) (.cons (.opq 0) (.cons (.int .i64 (.var 0)) .nil))))))
 (.br (.b2 .lt (.var 0) (.ofI (.vop (.len 2) (.cons (.opq 0) .nil))))
 (.need (.b2 .and (.b2 .le (.lit (0)) (.var 0)) (.b2 .lt (.var 0) (.ofI (.vop (.len 2) (.cons (.opq 0) .nil)))))
 (.need (.b2 .le (.i2 .add (.ofI (.vop (.len 2) (.cons (.opq 1) .nil))) (.lit (1))) (.lit (4398046511104)))
 (.back (.b2 .and (.b2 .le (.lit (0)) (.wrap .i64 (.i2 .add (.var 0) (.lit (1))))) (.b2 .and (.b2 .le (.wrap .i64 (.i2 .add (.var 0) (.lit (1)))) (.ofI (.vop (.len 2) (.cons (.opq 0) .nil)))) (.bapp 3 (.cons (.vop .cat (.cons (.opq 1) (.cons (.tup (.cons (.int .i64 (.ofI (.vop (.sel 2 0) (.cons (.opq 0) (.cons (.int .i64 (.var 0)) .nil))))) (.cons (.hs .no (.cons (.int .u8) .nil) (.vop (.sel 2 1) (.cons (.opq 0) (.cons (.int .i64 (.var 0)) .nil)))) .nil))) .nil))) (.cons (.opq 0) (.cons (.int .i64 (.wrap .i64 (.i2 .add (.var 0) (.lit (1))))) .nil)))))) (.i2 .sub (.ofI (.vop (.len 2) (.cons (.opq 0) .nil))) (.wrap .i64 (.i2 .add (.var 0) (.lit (1))))) (.i2 .sub (.ofI (.vop (.len 2) (.cons (.opq 0) .nil))) (.var 0)))))
 (.ret (.agg (.cons (.hs .no (.cons (.int .i64) (.cons (.sl (.cons (.int .u8) .nil)) .nil)) (.opq 1)) .nil)))))
abbrev nc_give : Con := ⟨98, [(.hs .no (.cons (.int .i64) (.cons (.sl (.cons (.int .u8) .nil)) .nil)) (.opq 0))], (.b2 .le (.ofI (.vop (.len 2) (.cons (.opq 0) .nil))) (.lit (4398046511103))), (.agg (.cons (.hs .no (.cons (.int .i64) (.cons (.sl (.cons (.int .u8) .nil)) .nil)) (.opq 0)) .nil)), ⟨0, 0, 1, 0⟩, none⟩
theorem give_w : walk Tryd.prog 182 ⟨[], syG, [], [], []⟩ [⟨0, ⟨1, 0, 1, 0⟩, [(4, (.int .i64 (.var 0)))], some [[(.cst .nilS)], [(.hs (.id 1000 159) (.cons (.int .i64) (.cons (.sl (.cons (.int .u8) .nil)) .nil)) (.opq 1))]], (.b2 .and (.b2 .le (.lit (0)) (.var 0)) (.b2 .and (.b2 .le (.var 0) (.ofI (.vop (.len 2) (.cons (.opq 0) .nil)))) (.bapp 3 (.cons (.opq 1) (.cons (.opq 0) (.cons (.int .i64 (.var 0)) .nil)))))), (.i2 .sub (.ofI (.vop (.len 2) (.cons (.opq 0) .nil))) (.var 0)), 1, []⟩] (.agg (.cons (.s (.cons (.int .i64) (.cons (.sl (.cons (.int .u8) .nil)) .nil))) .nil)) nc_give nc_give.n 3000 = some give_tree := by kernel_rfl
theorem give_h (l : Value) (hc : holds (nE [] [] [l] []) (.b2 .le (.ofI (.vop (.len 2) (.cons (.opq 0) .nil))) (.lit (4398046511103)))) (hty : patsTyp (nE [] [] [l] []) [(.hs .no (.cons (.int .i64) (.cons (.sl (.cons (.int .u8) .nil)) .nil)) (.opq 0))]) : give_tree.holds (fun v_ => v_ = denV (nE [] [] [l] []) b0 (.agg (.cons (.hs .no (.cons (.int .i64) (.cons (.sl (.cons (.int .u8) .nil)) .nil)) (.opq 0)) .nil))) (nE [] [] [l] []) := by
  simp only [Tree.holds, Sy.holds, AllN, Env.more, nE, List.cons_append, List.nil_append, List.append_nil, denV, denI, denB, denL, I2.den, VOp.den, List.getD_cons_zero, List.getD_cons_succ, Cst.den, syso, syse, syio, sybo, ni_fst, ni_ck, ni_se, ni_te, ni_tt, ni_de, nb_one, nb_may, nb_eqv, nb_tk, nb_ctk, nb_ow, nb_okn, nv_sv, nv_tv, nv_tb, nv_dv, nv_to, List.map_nil, List.map_cons, B2.ofInts, B2.denI, B2.denB, if_true, Bool.false_eq_true, if_false, Nat.div_one, Nat.mul_one, Nat.add_zero, holds] at hc
  simp only [patsTyp, patTyp, patTypL, nE, denV, denL, List.getD_cons_zero, List.getD_cons_succ, and_true, true_and] at hty
  have hL_l : typ (.sl (.cons (.int .i64) (.cons (.sl (.cons (.int .u8) .nil)) .nil))) l := by first | exact hty | exact hty.1 | exact hty.2 | exact hty.1.1 | exact hty.1.2 | exact hty.2.1 | exact hty.2.2 | exact hty.2.2.1 | exact hty.2.2.2
  have hN_l := typ_len (n := 2) hL_l rfl (by omega)
  unfold give_tree
  simp only [Tree.holds, Sy.holds, AllN, Env.more, nE, List.cons_append, List.nil_append, List.append_nil, denV, denI, denB, denL, I2.den, VOp.den, List.getD_cons_zero, List.getD_cons_succ, Cst.den, syso, syse, syio, sybo, ni_fst, ni_ck, ni_se, ni_te, ni_tt, ni_de, nb_one, nb_may, nb_eqv, nb_tk, nb_ctk, nb_ow, nb_okn, nv_sv, nv_tv, nv_tb, nv_dv, nv_to, List.map_nil, List.map_cons, B2.ofInts, B2.denI, B2.denB, if_true, Bool.false_eq_true, if_false, Nat.div_one, Nat.mul_one, Nat.add_zero]
  refine ⟨?_, ?_⟩
  ·
   exact ⟨by omega, by omega, eqV_iff.2 (by simp [tkk])⟩
  ·
   intro i0a i0b hi0
   refine ⟨fun h0 => ?_, fun h0 => ?_⟩
   ·
    refine ⟨?_, fun h1 => ?_⟩
    ·
     first
     | omega
     | (have hlen : (Sy.rows i0b).length = i0a.toNat * 2 := by
          rw [eqV_iff.1 hi0.2.2]
          simp only [tkk, rows_tup, List.length_take]
          omega
        omega)
    ·
     refine ⟨?_, fun h2 => ?_⟩
     ·
      first
      | omega
      | (have hlen : (Sy.rows i0b).length = i0a.toNat * 2 := by
           rw [eqV_iff.1 hi0.2.2]
           simp only [tkk, rows_tup, List.length_take]
           omega
         omega)
     ·
      have wf0 := wr_i64 (i0a + 1)
      refine ⟨?_, ?_⟩
      ·
       have e : IntKind.wrap .i64 (i0a + 1) = i0a + 1 := by omega
       rw [e]
       obtain ⟨hi1, hi2, hi3⟩ := hi0
       rw [show (i0a + 1).toNat = i0a.toNat + 1 by omega]
       refine ⟨by omega, by omega, eqV_iff.2 ?_⟩
       rw [eqV_iff.1 hi3]
       simp only [tkk, rows_tup]
       rw [take2t hL_l (by omega)]
      ·
       omega
   ·
    obtain ⟨hi1, hi2, hi3⟩ := hi0
    rw [eqV_iff.1 hi3]
    unfold tkk
    rw [full2 hL_l (by omega), ← hL_l.1]
theorem ng_give : nc_give.Good Tryd.prog syG (nE [] [] [] []) := good_of_walk (Γ := ⟨[], syG, [], [], []⟩) (ρ := nE [] [] [] []) sym give_w rfl (fun _ _ _ _ => ok_nil) (fun l hc hty => give_h l hc hty)
def rsend_tree : Tree :=
 (.br (.not (.bapp 1 (.cons (.opq 0) .nil)))
 (.ret (.tup (.cons (.hs .no (.cons (.int .i64) (.cons (.sl (.cons (.int .u8) .nil)) .nil)) (.tup .nil)) (.cons (.int .i64 (.lit (1))) .nil))))
 (.br (.not (.bapp 0 (.cons (.int .i64 (.var 0)) (.cons (.opq 1) .nil))))
 (.ret (.tup (.cons (.hs .no (.cons (.int .i64) (.cons (.sl (.cons (.int .u8) .nil)) .nil)) (.tup .nil)) (.cons (.int .i64 (.lit (1))) .nil))))
 (.br (.b2 .eq (.ofI (.vop (.len 2) (.cons (.opq 0) .nil))) (.lit (32)))
 (.ret (.tup (.cons (.hs .no (.cons (.int .i64) (.cons (.sl (.cons (.int .u8) .nil)) .nil)) (.tup .nil)) (.cons (.int .i64 (.lit (7))) .nil))))
 (.need (.b2 .le (.i2 .add (.lit (0)) (.ofI (.vop (.len 2) (.cons (.opq 0) .nil)))) (.lit (4398046511104)))
 (.need (.b2 .le (.i2 .add (.ofI (.vop (.len 2) (.cons (.opq 0) .nil))) (.lit (1))) (.lit (4398046511104)))
 (.ret (.tup (.cons (.hs .no (.cons (.int .i64) (.cons (.sl (.cons (.int .u8) .nil)) .nil)) (.vop .cat (.cons (.opq 0) (.cons (.tup (.cons (.int .i64 (.var 0)) (.cons (.hs .no (.cons (.int .u8) .nil) (.opq 1)) .nil))) .nil)))) (.cons (.int .i64 (.lit (0))) .nil)))))))))
abbrev nc_rsend : Con := ⟨100, [(.hs .no (.cons (.int .i64) (.cons (.sl (.cons (.int .u8) .nil)) .nil)) (.opq 0)), (.agg (.cons (.int .i64 (.var 0)) (.cons (.hs .no (.cons (.int .u8) .nil) (.opq 1)) .nil)))], (.tt true), (.tup (.cons (.hs .no (.cons (.int .i64) (.cons (.sl (.cons (.int .u8) .nil)) .nil)) (.vapp 0 (.cons (.opq 0) (.cons (.int .i64 (.var 0)) (.cons (.opq 1) .nil))))) (.cons (.int .i64 (.iapp 2 (.cons (.opq 0) (.cons (.int .i64 (.var 0)) (.cons (.opq 1) .nil))))) .nil))), ⟨1, 0, 2, 0⟩, none⟩
theorem rsend_w : walk Tryd.prog 182 ⟨[nc_rone, nc_rmay], syG, [], [], []⟩ [] (.tup (.cons (.s (.cons (.int .i64) (.cons (.sl (.cons (.int .u8) .nil)) .nil))) (.cons .v .nil))) nc_rsend nc_rsend.n 3000 = some rsend_tree := by kernel_rfl
theorem rsend_h (t : Int) (l : Value) (b : Value) (hc : holds (nE [t] [] [l, b] []) (.tt true)) (hty : patsTyp (nE [t] [] [l, b] []) [(.hs .no (.cons (.int .i64) (.cons (.sl (.cons (.int .u8) .nil)) .nil)) (.opq 0)), (.agg (.cons (.int .i64 (.var 0)) (.cons (.hs .no (.cons (.int .u8) .nil) (.opq 1)) .nil)))]) : rsend_tree.holds (fun v_ => v_ = denV (nE [t] [] [l, b] []) b0 (.tup (.cons (.hs .no (.cons (.int .i64) (.cons (.sl (.cons (.int .u8) .nil)) .nil)) (.vapp 0 (.cons (.opq 0) (.cons (.int .i64 (.var 0)) (.cons (.opq 1) .nil))))) (.cons (.int .i64 (.iapp 2 (.cons (.opq 0) (.cons (.int .i64 (.var 0)) (.cons (.opq 1) .nil))))) .nil)))) (nE [t] [] [l, b] []) := by
  simp only [Tree.holds, Sy.holds, AllN, Env.more, nE, List.cons_append, List.nil_append, List.append_nil, denV, denI, denB, denL, I2.den, VOp.den, List.getD_cons_zero, List.getD_cons_succ, Cst.den, syso, syse, syio, sybo, ni_fst, ni_ck, ni_se, ni_te, ni_tt, ni_de, nb_one, nb_may, nb_eqv, nb_tk, nb_ctk, nb_ow, nb_okn, nv_sv, nv_tv, nv_tb, nv_dv, nv_to, List.map_nil, List.map_cons, B2.ofInts, B2.denI, B2.denB, if_true, Bool.false_eq_true, if_false, Nat.div_one, Nat.mul_one, Nat.add_zero, holds] at hc
  simp only [patsTyp, patTyp, patTypL, nE, denV, denL, List.getD_cons_zero, List.getD_cons_succ, and_true, true_and] at hty
  have hL_l : typ (.sl (.cons (.int .i64) (.cons (.sl (.cons (.int .u8) .nil)) .nil))) l := by first | exact hty | exact hty.1 | exact hty.2 | exact hty.1.1 | exact hty.1.2 | exact hty.2.1 | exact hty.2.2 | exact hty.2.2.1 | exact hty.2.2.2
  have hN_l := typ_len (n := 2) hL_l rfl (by omega)
  have hL_b : typ (.sl (.cons (.int .u8) .nil)) b := by first | exact hty | exact hty.1 | exact hty.2 | exact hty.1.1 | exact hty.1.2 | exact hty.2.1 | exact hty.2.2 | exact hty.2.2.1 | exact hty.2.2.2
  have hN_b := typ_len (n := 1) hL_b rfl (by omega)
  simp only [Nat.div_one, Nat.mul_one] at hN_b
  unfold rsend_tree
  simp only [Tree.holds, Sy.holds, AllN, Env.more, nE, List.cons_append, List.nil_append, List.append_nil, denV, denI, denB, denL, I2.den, VOp.den, List.getD_cons_zero, List.getD_cons_succ, Cst.den, syso, syse, syio, sybo, ni_fst, ni_ck, ni_se, ni_te, ni_tt, ni_de, nb_one, nb_may, nb_eqv, nb_tk, nb_ctk, nb_ow, nb_okn, nv_sv, nv_tv, nv_tb, nv_dv, nv_to, List.map_nil, List.map_cons, B2.ofInts, B2.denI, B2.denB, if_true, Bool.false_eq_true, if_false, Nat.div_one, Nat.mul_one, Nat.add_zero]
  refine ⟨fun h0 => ?_, fun h0 => ?_⟩
  ·
   first
   | grind [sndV, sndE, rows_tup]
  ·
   refine ⟨fun h1 => ?_, fun h1 => ?_⟩
   ·
    first
    | grind [sndV, sndE, rows_tup]
   ·
    refine ⟨fun h2 => ?_, fun h2 => ?_⟩
    ·
     first
     | grind [sndV, sndE, rows_tup]
    ·
     refine ⟨?_, fun h3 => ?_⟩
     ·
      have hm := may_iff (Sy.rows l)
      first
      | omega
      | (have h1' : mayB (Sy.rows l) = true := by grind
         have h2' := (hm.1 h1').2
         omega)
     ·
      refine ⟨?_, fun h4 => ?_⟩
      ·
       have hm := may_iff (Sy.rows l)
       first
       | omega
       | (have h1' : mayB (Sy.rows l) = true := by grind
          have h2' := (hm.1 h1').2
          omega)
      ·
       first
       | grind [sndV, sndE, rows_tup]
theorem ng_rsend : nc_rsend.Good Tryd.prog syG (nE [] [] [] []) := good_of_walk (Γ := ⟨[nc_rone, nc_rmay], syG, [], [], []⟩) (ρ := nE [] [] [] []) sym rsend_w rfl (fun _ _ _ _ => (ok_cons (Con.Good.env ng_rone _ _ _ _) (ok_cons (Con.Good.env ng_rmay _ _ _ _) ok_nil))) (fun t l b hc hty => rsend_h t l b hc hty)
def rtake_tree : Tree :=
 (.br (.not (.bapp 1 (.cons (.opq 0) .nil)))
 (.ret (.tup (.cons (.hs .no (.cons (.int .i64) (.cons (.sl (.cons (.int .u8) .nil)) .nil)) (.tup .nil)) (.cons (.agg (.cons (.int .i64 (.lit (0))) (.cons (.hs .no (.cons (.int .u8) .nil) (.tup .nil)) .nil))) (.cons (.int .i64 (.lit (1))) .nil)))))
 (.br (.b2 .lt (.var 0) (.lit (0)))
 (.ret (.tup (.cons (.hs .no (.cons (.int .i64) (.cons (.sl (.cons (.int .u8) .nil)) .nil)) (.tup .nil)) (.cons (.agg (.cons (.int .i64 (.lit (0))) (.cons (.hs .no (.cons (.int .u8) .nil) (.tup .nil)) .nil))) (.cons (.int .i64 (.lit (6))) .nil)))))
 (.br (.b2 .le (.ofI (.vop (.len 2) (.cons (.opq 0) .nil))) (.var 0))
 (.ret (.tup (.cons (.hs .no (.cons (.int .i64) (.cons (.sl (.cons (.int .u8) .nil)) .nil)) (.tup .nil)) (.cons (.agg (.cons (.int .i64 (.lit (0))) (.cons (.hs .no (.cons (.int .u8) .nil) (.tup .nil)) .nil))) (.cons (.int .i64 (.lit (6))) .nil)))))
 (.need (.b2 .and (.b2 .le (.lit (0)) (.var 0)) (.b2 .le (.var 0) (.ofI (.vop (.len 2) (.cons (.opq 0) .nil)))))
 (.need (.b2 .le (.i2 .add (.lit (0)) (.ofI (.vop (.len 2) (.cons (.vop (.sub 2) (.cons (.opq 0) (.cons (.int .i64 (.lit (0))) (.cons (.int .i64 (.var 0)) .nil)))) .nil)))) (.lit (4398046511104)))
 (.need (.b2 .and (.b2 .le (.lit (0)) (.wrap .i64 (.i2 .add (.var 0) (.lit (1))))) (.b2 .le (.wrap .i64 (.i2 .add (.var 0) (.lit (1)))) (.ofI (.vop (.len 2) (.cons (.opq 0) .nil)))))
 (.need (.b2 .le (.i2 .add (.ofI (.vop (.len 2) (.cons (.vop (.sub 2) (.cons (.opq 0) (.cons (.int .i64 (.lit (0))) (.cons (.int .i64 (.var 0)) .nil)))) .nil))) (.ofI (.vop (.len 2) (.cons (.vop (.sub 2) (.cons (.opq 0) (.cons (.int .i64 (.wrap .i64 (.i2 .add (.var 0) (.lit (1))))) (.cons (.int .i64 (.ofI (.vop (.len 2) (.cons (.opq 0) .nil)))) .nil)))) .nil)))) (.lit (4398046511104)))
 (.need (.b2 .and (.b2 .le (.lit (0)) (.var 0)) (.b2 .lt (.var 0) (.ofI (.vop (.len 2) (.cons (.opq 0) .nil)))))
 (.ret (.tup (.cons (.hs .no (.cons (.int .i64) (.cons (.sl (.cons (.int .u8) .nil)) .nil)) (.vop .cat (.cons (.vop (.sub 2) (.cons (.opq 0) (.cons (.int .i64 (.lit (0))) (.cons (.int .i64 (.var 0)) .nil)))) (.cons (.vop (.sub 2) (.cons (.opq 0) (.cons (.int .i64 (.wrap .i64 (.i2 .add (.var 0) (.lit (1))))) (.cons (.int .i64 (.ofI (.vop (.len 2) (.cons (.opq 0) .nil)))) .nil)))) .nil)))) (.cons (.agg (.cons (.int .i64 (.ofI (.vop (.sel 2 0) (.cons (.opq 0) (.cons (.int .i64 (.var 0)) .nil))))) (.cons (.hs .no (.cons (.int .u8) .nil) (.vop (.sel 2 1) (.cons (.opq 0) (.cons (.int .i64 (.var 0)) .nil)))) .nil))) (.cons (.int .i64 (.lit (0))) .nil)))))))))))))
abbrev nc_rtake : Con := ⟨102, [(.hs .no (.cons (.int .i64) (.cons (.sl (.cons (.int .u8) .nil)) .nil)) (.opq 0)), (.int .i64 (.var 0))], (.tt true), (.tup (.cons (.hs .no (.cons (.int .i64) (.cons (.sl (.cons (.int .u8) .nil)) .nil)) (.vapp 1 (.cons (.opq 0) (.cons (.int .i64 (.var 0)) .nil)))) (.cons (.agg (.cons (.int .i64 (.iapp 4 (.cons (.opq 0) (.cons (.int .i64 (.var 0)) .nil)))) (.cons (.hs .no (.cons (.int .u8) .nil) (.vapp 2 (.cons (.opq 0) (.cons (.int .i64 (.var 0)) .nil)))) .nil))) (.cons (.int .i64 (.iapp 3 (.cons (.opq 0) (.cons (.int .i64 (.var 0)) .nil)))) .nil)))), ⟨1, 0, 1, 0⟩, none⟩
theorem rtake_w : walk Tryd.prog 182 ⟨[nc_rmay], syG, [], [], []⟩ [] (.tup (.cons (.s (.cons (.int .i64) (.cons (.sl (.cons (.int .u8) .nil)) .nil))) (.cons (.agg (.cons .v (.cons (.s (.cons (.int .u8) .nil)) .nil))) (.cons .v .nil)))) nc_rtake nc_rtake.n 3000 = some rtake_tree := by kernel_rfl
theorem rtake_h (i : Int) (l : Value) (hc : holds (nE [i] [] [l] []) (.tt true)) (hty : patsTyp (nE [i] [] [l] []) [(.hs .no (.cons (.int .i64) (.cons (.sl (.cons (.int .u8) .nil)) .nil)) (.opq 0)), (.int .i64 (.var 0))]) : rtake_tree.holds (fun v_ => v_ = denV (nE [i] [] [l] []) b0 (.tup (.cons (.hs .no (.cons (.int .i64) (.cons (.sl (.cons (.int .u8) .nil)) .nil)) (.vapp 1 (.cons (.opq 0) (.cons (.int .i64 (.var 0)) .nil)))) (.cons (.agg (.cons (.int .i64 (.iapp 4 (.cons (.opq 0) (.cons (.int .i64 (.var 0)) .nil)))) (.cons (.hs .no (.cons (.int .u8) .nil) (.vapp 2 (.cons (.opq 0) (.cons (.int .i64 (.var 0)) .nil)))) .nil))) (.cons (.int .i64 (.iapp 3 (.cons (.opq 0) (.cons (.int .i64 (.var 0)) .nil)))) .nil))))) (nE [i] [] [l] []) := by
  simp only [Tree.holds, Sy.holds, AllN, Env.more, nE, List.cons_append, List.nil_append, List.append_nil, denV, denI, denB, denL, I2.den, VOp.den, List.getD_cons_zero, List.getD_cons_succ, Cst.den, syso, syse, syio, sybo, ni_fst, ni_ck, ni_se, ni_te, ni_tt, ni_de, nb_one, nb_may, nb_eqv, nb_tk, nb_ctk, nb_ow, nb_okn, nv_sv, nv_tv, nv_tb, nv_dv, nv_to, List.map_nil, List.map_cons, B2.ofInts, B2.denI, B2.denB, if_true, Bool.false_eq_true, if_false, Nat.div_one, Nat.mul_one, Nat.add_zero, holds] at hc
  simp only [patsTyp, patTyp, patTypL, nE, denV, denL, List.getD_cons_zero, List.getD_cons_succ, and_true, true_and] at hty
  have hL_l : typ (.sl (.cons (.int .i64) (.cons (.sl (.cons (.int .u8) .nil)) .nil))) l := by first | exact hty | exact hty.1 | exact hty.2 | exact hty.1.1 | exact hty.1.2 | exact hty.2.1 | exact hty.2.2 | exact hty.2.2.1 | exact hty.2.2.2
  have hN_l := typ_len (n := 2) hL_l rfl (by omega)
  unfold rtake_tree
  simp only [Tree.holds, Sy.holds, AllN, Env.more, nE, List.cons_append, List.nil_append, List.append_nil, denV, denI, denB, denL, I2.den, VOp.den, List.getD_cons_zero, List.getD_cons_succ, Cst.den, syso, syse, syio, sybo, ni_fst, ni_ck, ni_se, ni_te, ni_tt, ni_de, nb_one, nb_may, nb_eqv, nb_tk, nb_ctk, nb_ow, nb_okn, nv_sv, nv_tv, nv_tb, nv_dv, nv_to, List.map_nil, List.map_cons, B2.ofInts, B2.denI, B2.denB, if_true, Bool.false_eq_true, if_false, Nat.div_one, Nat.mul_one, Nat.add_zero]
  refine ⟨fun h0 => ?_, fun h0 => ?_⟩
  ·
   first
   | grind [tkV, tkT, tkB, tkE, rows_tup]
   | (have e : IntKind.wrap .i64 (i + 1) = i + 1 := by omega
      have hE : tkE (Sy.rows l) i = 0 := by grind [tkE]
      have e2 : ((↑((Sy.rows l).length / 2) : Int)).toNat * 2 = (Sy.rows l).length := by omega
      simp only [tkV, tkT, tkB, hE, if_true, rows_tup, e, e2, List.take_length, show (i + 1).toNat = i.toNat + 1 by omega, Int.toNat_zero, Nat.zero_mul, List.drop_zero]
      rfl)
  ·
   refine ⟨fun h1 => ?_, fun h1 => ?_⟩
   ·
    first
    | grind [tkV, tkT, tkB, tkE, rows_tup]
    | (have e : IntKind.wrap .i64 (i + 1) = i + 1 := by omega
       have hE : tkE (Sy.rows l) i = 0 := by grind [tkE]
       have e2 : ((↑((Sy.rows l).length / 2) : Int)).toNat * 2 = (Sy.rows l).length := by omega
       simp only [tkV, tkT, tkB, hE, if_true, rows_tup, e, e2, List.take_length, show (i + 1).toNat = i.toNat + 1 by omega, Int.toNat_zero, Nat.zero_mul, List.drop_zero]
       rfl)
   ·
    refine ⟨fun h2 => ?_, fun h2 => ?_⟩
    ·
     first
     | grind [tkV, tkT, tkB, tkE, rows_tup]
     | (have e : IntKind.wrap .i64 (i + 1) = i + 1 := by omega
        have hE : tkE (Sy.rows l) i = 0 := by grind [tkE]
        have e2 : ((↑((Sy.rows l).length / 2) : Int)).toNat * 2 = (Sy.rows l).length := by omega
        simp only [tkV, tkT, tkB, hE, if_true, rows_tup, e, e2, List.take_length, show (i + 1).toNat = i.toNat + 1 by omega, Int.toNat_zero, Nat.zero_mul, List.drop_zero]
        rfl)
    ·
     refine ⟨?_, fun h3 => ?_⟩
     ·
      have hm := may_iff (Sy.rows l)
      first
      | omega
      | (have h1' : mayB (Sy.rows l) = true := by grind
         have h2' := (hm.1 h1').2
         first
         | omega
         | (simp only [rows_tup, List.length_drop, List.length_take]
            omega))
     ·
      refine ⟨?_, fun h4 => ?_⟩
      ·
       have hm := may_iff (Sy.rows l)
       first
       | omega
       | (have h1' : mayB (Sy.rows l) = true := by grind
          have h2' := (hm.1 h1').2
          first
          | omega
          | (simp only [rows_tup, List.length_drop, List.length_take]
             omega))
      ·
       have wf0 := wr_i64 (i + 1)
       refine ⟨?_, fun h5 => ?_⟩
       ·
        have hm := may_iff (Sy.rows l)
        first
        | omega
        | (have h1' : mayB (Sy.rows l) = true := by grind
           have h2' := (hm.1 h1').2
           first
           | omega
           | (simp only [rows_tup, List.length_drop, List.length_take]
              omega))
       ·
        try simp only [hw0]
        refine ⟨?_, fun h6 => ?_⟩
        ·
         have hm := may_iff (Sy.rows l)
         first
         | omega
         | (have h1' : mayB (Sy.rows l) = true := by grind
            have h2' := (hm.1 h1').2
            first
            | omega
            | (simp only [rows_tup, List.length_drop, List.length_take]
               omega))
        ·
         refine ⟨?_, fun h7 => ?_⟩
         ·
          have hm := may_iff (Sy.rows l)
          first
          | omega
          | (have h1' : mayB (Sy.rows l) = true := by grind
             have h2' := (hm.1 h1').2
             first
             | omega
             | (simp only [rows_tup, List.length_drop, List.length_take]
                omega))
         ·
          try simp only [hw0]
          first
          | grind [tkV, tkT, tkB, tkE, rows_tup]
          | (have e : IntKind.wrap .i64 (i + 1) = i + 1 := by omega
             have hE : tkE (Sy.rows l) i = 0 := by grind [tkE]
             have e2 : ((↑((Sy.rows l).length / 2) : Int)).toNat * 2 = (Sy.rows l).length := by omega
             simp only [tkV, tkT, tkB, hE, if_true, rows_tup, e, e2, List.take_length, show (i + 1).toNat = i.toNat + 1 by omega, Int.toNat_zero, Nat.zero_mul, List.drop_zero]
             rfl)
theorem ng_rtake : nc_rtake.Good Tryd.prog syG (nE [] [] [] []) := good_of_walk (Γ := ⟨[nc_rmay], syG, [], [], []⟩) (ρ := nE [] [] [] []) sym rtake_w rfl (fun _ _ _ _ => (ok_cons (Con.Good.env ng_rmay _ _ _ _) ok_nil)) (fun i l hc hty => rtake_h i l hc hty)
def isnet_tree : Tree :=
 (.br (.not (.b2 .eq (.ofI (.vop (.len 2) (.cons (.opq 0) .nil))) (.ofI (.vop (.len 2) (.cons (.opq 1) .nil)))))
 (.ret (.bool (.tt false)))
 (.loop ⟨1, 0, 0, 0⟩ (.b2 .and (.b2 .le (.lit (0)) (.lit (0))) (.b2 .le (.lit (0)) (.ofI (.vop (.len 2) (.cons (.opq 0) .nil))))) (.b2 .and (.b2 .le (.lit (0)) (.var 0)) (.b2 .le (.var 0) (.ofI (.vop (.len 2) (.cons (.opq 0) .nil)))))
 (.br (.b2 .lt (.var 0) (.ofI (.vop (.len 2) (.cons (.opq 1) .nil))))
 (.need (.b2 .and (.b2 .le (.lit (0)) (.var 0)) (.b2 .lt (.var 0) (.ofI (.vop (.len 2) (.cons (.opq 0) .nil)))))
 (.need (.b2 .and (.b2 .le (.lit (0)) (.var 0)) (.b2 .lt (.var 0) (.ofI (.vop (.len 2) (.cons (.opq 1) .nil)))))
 (.br (.not (.b2 .eq (.ofI (.vop (.sel 2 0) (.cons (.opq 0) (.cons (.int .i64 (.var 0)) .nil)))) (.ofI (.vop (.sel 2 0) (.cons (.opq 1) (.cons (.int .i64 (.var 0)) .nil))))))
 (.ret (.bool (.tt false)))
 (.need (.b2 .and (.b2 .le (.lit (0)) (.var 0)) (.b2 .lt (.var 0) (.ofI (.vop (.len 2) (.cons (.opq 0) .nil)))))
 (.need (.b2 .and (.b2 .le (.lit (0)) (.var 0)) (.b2 .lt (.var 0) (.ofI (.vop (.len 2) (.cons (.opq 1) .nil)))))
 (.br (.not (.veq (.vop .b2s (.cons (.vop (.sel 2 1) (.cons (.opq 0) (.cons (.int .i64 (.var 0)) .nil))) .nil)) (.vop .b2s (.cons (.vop (.sel 2 1) (.cons (.opq 1) (.cons (.int .i64 (.var 0)) .nil))) .nil))))
 (.ret (.bool (.tt false)))
 (.back (.b2 .and (.b2 .le (.lit (0)) (.wrap .i64 (.i2 .add (.var 0) (.lit (1))))) (.b2 .le (.wrap .i64 (.i2 .add (.var 0) (.lit (1)))) (.ofI (.vop (.len 2) (.cons (.opq 0) .nil))))) (.i2 .sub (.ofI (.vop (.len 2) (.cons (.opq 0) .nil))) (.wrap .i64 (.i2 .add (.var 0) (.lit (1))))) (.i2 .sub (.ofI (.vop (.len 2) (.cons (.opq 0) .nil))) (.var 0)))))))))
 (.ret (.bool (.tt true))))))
abbrev nc_isnet : Con := ⟨106, [(.agg (.cons (.hs .no (.cons (.int .i64) (.cons (.sl (.cons (.int .u8) .nil)) .nil)) (.opq 0)) .nil)), (.hs .no (.cons (.int .i64) (.cons (.sl (.cons (.int .u8) .nil)) .nil)) (.opq 1))], (.bapp 2 (.cons (.opq 0) (.cons (.opq 1) .nil))), (.bool (.tt true)), ⟨0, 0, 2, 0⟩, none⟩
theorem isnet_w : walk Tryd.prog 182 ⟨[], syG, [], [], []⟩ [⟨0, ⟨1, 0, 0, 0⟩, [(5, (.int .i64 (.var 0)))], none, (.b2 .and (.b2 .le (.lit (0)) (.var 0)) (.b2 .le (.var 0) (.ofI (.vop (.len 2) (.cons (.opq 0) .nil))))), (.i2 .sub (.ofI (.vop (.len 2) (.cons (.opq 0) .nil))) (.var 0)), 0, []⟩] .v nc_isnet nc_isnet.n 3000 = some isnet_tree := by kernel_rfl
theorem isnet_h (a : Value) (b : Value) (hc : holds (nE [] [] [a, b] []) (.bapp 2 (.cons (.opq 0) (.cons (.opq 1) .nil)))) (hty : patsTyp (nE [] [] [a, b] []) [(.agg (.cons (.hs .no (.cons (.int .i64) (.cons (.sl (.cons (.int .u8) .nil)) .nil)) (.opq 0)) .nil)), (.hs .no (.cons (.int .i64) (.cons (.sl (.cons (.int .u8) .nil)) .nil)) (.opq 1))]) : isnet_tree.holds (fun v_ => v_ = denV (nE [] [] [a, b] []) b0 (.bool (.tt true))) (nE [] [] [a, b] []) := by
  simp only [Tree.holds, Sy.holds, AllN, Env.more, nE, List.cons_append, List.nil_append, List.append_nil, denV, denI, denB, denL, I2.den, VOp.den, List.getD_cons_zero, List.getD_cons_succ, Cst.den, syso, syse, syio, sybo, ni_fst, ni_ck, ni_se, ni_te, ni_tt, ni_de, nb_one, nb_may, nb_eqv, nb_tk, nb_ctk, nb_ow, nb_okn, nv_sv, nv_tv, nv_tb, nv_dv, nv_to, List.map_nil, List.map_cons, B2.ofInts, B2.denI, B2.denB, if_true, Bool.false_eq_true, if_false, Nat.div_one, Nat.mul_one, Nat.add_zero, holds] at hc
  simp only [patsTyp, patTyp, patTypL, nE, denV, denL, List.getD_cons_zero, List.getD_cons_succ, and_true, true_and] at hty
  have hL_a : typ (.sl (.cons (.int .i64) (.cons (.sl (.cons (.int .u8) .nil)) .nil))) a := by first | exact hty | exact hty.1 | exact hty.2 | exact hty.1.1 | exact hty.1.2 | exact hty.2.1 | exact hty.2.2 | exact hty.2.2.1 | exact hty.2.2.2
  have hN_a := typ_len (n := 2) hL_a rfl (by omega)
  have hL_b : typ (.sl (.cons (.int .i64) (.cons (.sl (.cons (.int .u8) .nil)) .nil))) b := by first | exact hty | exact hty.1 | exact hty.2 | exact hty.1.1 | exact hty.1.2 | exact hty.2.1 | exact hty.2.2 | exact hty.2.2.1 | exact hty.2.2.2
  have hN_b := typ_len (n := 2) hL_b rfl (by omega)
  unfold isnet_tree
  simp only [Tree.holds, Sy.holds, AllN, Env.more, nE, List.cons_append, List.nil_append, List.append_nil, denV, denI, denB, denL, I2.den, VOp.den, List.getD_cons_zero, List.getD_cons_succ, Cst.den, syso, syse, syio, sybo, ni_fst, ni_ck, ni_se, ni_te, ni_tt, ni_de, nb_one, nb_may, nb_eqv, nb_tk, nb_ctk, nb_ow, nb_okn, nv_sv, nv_tv, nv_tb, nv_dv, nv_to, List.map_nil, List.map_cons, B2.ofInts, B2.denI, B2.denB, if_true, Bool.false_eq_true, if_false, Nat.div_one, Nat.mul_one, Nat.add_zero]
  rw [eqV_iff] at hc
  subst hc
  refine ⟨fun h0 => ?_, fun h0 => ?_⟩
  ·
   first
   | rfl
   | exact True.intro
   | (exfalso
      simp only [not_true_eq_false, ba_beq] at *
      done)
   | (exfalso; omega)
  ·
   refine ⟨?_, ?_⟩
   ·
    exact ⟨by omega, by omega⟩
   ·
    intro i0a hi0
    refine ⟨fun h1 => ?_, fun h1 => ?_⟩
    ·
     refine ⟨?_, fun h2 => ?_⟩
     ·
      omega
     ·
      refine ⟨?_, fun h3 => ?_⟩
      ·
       omega
      ·
       refine ⟨fun h4 => ?_, fun h4 => ?_⟩
       ·
        first
        | rfl
        | exact True.intro
        | (exfalso
           simp only [not_true_eq_false, ba_beq] at *
           done)
        | (exfalso; omega)
       ·
        refine ⟨?_, fun h5 => ?_⟩
        ·
         omega
        ·
         refine ⟨?_, fun h6 => ?_⟩
         ·
          omega
         ·
          refine ⟨fun h7 => ?_, fun h7 => ?_⟩
          ·
           first
           | rfl
           | exact True.intro
           | (exfalso
              simp only [not_true_eq_false, ba_beq] at *
              done)
           | (exfalso; omega)
          ·
           have wf0 := wr_i64 (i0a + 1)
           refine ⟨?_, ?_⟩
           ·
            have e : IntKind.wrap .i64 (i0a + 1) = i0a + 1 := by omega
            rw [e]
            exact ⟨by omega, by omega⟩
           ·
            omega
    ·
     first
     | rfl
     | exact True.intro
     | (exfalso
        simp only [not_true_eq_false, ba_beq] at *
        done)
     | (exfalso; omega)
theorem ng_isnet : nc_isnet.Good Tryd.prog syG (nE [] [] [] []) := good_of_walk (Γ := ⟨[], syG, [], [], []⟩) (ρ := nE [] [] [] []) sym isnet_w rfl (fun _ _ _ _ => ok_nil) (fun a b hc hty => isnet_h a b hc hty)
end Go.Proofs.YtbjgopehomnpgaaDoor
