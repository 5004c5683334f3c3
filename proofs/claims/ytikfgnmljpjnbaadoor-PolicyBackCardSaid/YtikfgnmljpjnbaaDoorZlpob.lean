/-
 Layer 10: zones as blobs.
-/
import Derived.Test.YtikfgnmljpjnbaaDoorSycpob
import Derived.Test.YtikfgnmljpjnbaaDoorZzepob
import Derived.Test.YtikfgnmljpjnbaaDoorN09lpob
namespace Go.Proofs.YtikfgnmljpjnbaaDoor
open Go.RowKit Go.Extern.Stop Go.Stop Go.Extern Go.Proofs.YtikfgnmljpjnbaaDoor.Sy
set_option linter.unusedVariables false
set_option linter.unusedSimpArgs false
def dnB (l : List Value) (s : Bool) : Bool := !s && decide (l.length = 0)
def rulV (L : List Value) (k : Nat) : List Value := numB (atR L k) 8 ++ (numB (offR L k) 8 ++ txV (nmR L k))
def encZ (s : ByteArray) (f : Int) (L : List Value) (n : Nat) : List Value := txV s ++ (numB f 8 ++ ([.int .u8 (((L.length / 3 : Nat) : Int) % 256)] ++ (List.range n).flatMap (rulV L)))
def zkV (s : ByteArray) (f : Int) (L : List Value) : Value := if zoneB s f L = true then slV (encZ s f L (L.length / 3)) 6 else .tuple #[]
theorem isB_byteV (l : List UInt8) : isB (l.map byteV) := fun x hx => by
 obtain ⟨c, _, rfl⟩ := List.mem_map.1 hx
 have := c.toNat_lt
 exact ⟨c.toNat, rfl, by omega, by omega⟩
theorem isB_txV (s : ByteArray) : isB (txV s) := .cons (by omega) (by omega) (isB_byteV _)
theorem txV_len (s : ByteArray) : (txV s).length = s.size + 1 := by
 show (s.data.toList.map byteV).length + 1 = _
 rw [List.length_map]
 rfl
theorem isB_rul (L : List Value) (k : Nat) : isB (rulV L k) := isB.app (isB_numB _ _) (isB.app (isB_numB _ _) (isB_txV _))
theorem rul_len (L : List Value) (k : Nat) : (rulV L k).length = 17 + (nmR L k).size := by
 unfold rulV
 rw [List.length_append, List.length_append, numB_len, numB_len, txV_len]
 omega
theorem isB_encZ (s : ByteArray) (f : Int) (L : List Value) (n : Nat) : isB (encZ s f L n) := by
 unfold encZ
 refine isB.app (isB_txV _) (isB.app (isB_numB _ _) (isB.app (.cons (by omega) (by omega) .nil) ?_))
 intro x hx
 obtain ⟨k, _, hx⟩ := List.mem_flatMap.1 hx
 exact isB_rul _ _ x hx
theorem name_len {s : ByteArray} (h : nameB s = true) : s.size ≤ 12 := by
 simp only [nameB, Bool.and_eq_true, decide_eq_true_eq] at h
 exact h.1.2
theorem zkR_le {L : List Value} {k : Nat} : ∀ {n : Nat}, zkR L n = true → k ≤ n → zkR L k = true
 | 0, h, hk => by obtain rfl := Nat.le_zero.1 hk; exact h
 | n + 1, h, hk => by
   rcases Nat.lt_or_eq_of_le hk with h2 | rfl
   · simp only [zkR, Bool.and_eq_true] at h
     exact zkR_le h.1 (by omega)
   · exact h
theorem rul_at {s : ByteArray} {f : Int} {L : List Value} (h : zoneB s f L = true) {k : Nat} (hk : k < L.length / 3) : -1099511627776 ≤ atR L k ∧ atR L k ≤ 1099511627776 ∧ -86399 ≤ offR L k ∧ offR L k ≤ 86399 ∧ (nmR L k).size ≤ 12 := by
 obtain ⟨_, _, _, h4⟩ := (zone_iff s f L).1 h
 have h5 := zkR_get h4 hk
 have h6 := least_ge (zkR_le h4 (Nat.le_of_lt hk))
 simp only [rulB, offB, Bool.and_eq_true, decide_eq_true_eq] at h5
 have h7 := name_len h5.2
 omega
theorem flatZ_len {s : ByteArray} {f : Int} {L : List Value} (h : zoneB s f L = true) : ∀ {n : Nat}, n ≤ L.length / 3 → ((List.range n).flatMap (rulV L)).length ≤ 29 * n
 | 0, _ => Nat.le_refl _
 | n + 1, hn => by
   rw [List.range_succ, List.flatMap_append, List.length_append]
   have h1 := flatZ_len h (n := n) (by omega)
   have h2 := (rul_at h (k := n) (by omega)).2.2.2.2
   have h3 : (List.flatMap (rulV L) [n]).length = 17 + (nmR L n).size := by
     rw [List.flatMap_cons, List.flatMap_nil, List.append_nil, rul_len]
   omega
theorem encZ_len {s : ByteArray} {f : Int} {L : List Value} (h : zoneB s f L = true) {n : Nat} (hn : n ≤ L.length / 3) : (encZ s f L n).length ≤ 950 := by
 obtain ⟨h1, _, h3, _⟩ := (zone_iff s f L).1 h
 have h4 := name_len h1
 have h5 := flatZ_len h hn
 unfold encZ
 rw [List.length_append, List.length_append, List.length_append, txV_len, numB_len]
 simp only [List.length_cons, List.length_nil]
 omega
theorem zk_spec (s : ByteArray) (f : Int) (L : List Value) : (chkI s f L = 1 ∧ zoneB s f L = false ∧ zkV s f L = .tuple #[]) ∨ (chkI s f L = 0 ∧ zoneB s f L = true ∧ zkV s f L = slV (encZ s f L (L.length / 3)) 6 ∧ s.size ≤ 12 ∧ -86399 ≤ f ∧ f ≤ 86399 ∧ L.length / 3 ≤ 32) := by
 unfold zkV
 cases h : zoneB s f L with
 | false => exact .inl ⟨chk_no (by rw [h]; simp), rfl, rfl⟩
 | true =>
   obtain ⟨h1, h2, h3, _⟩ := (zone_iff s f L).1 h
   exact .inr ⟨chk_yes h, rfl, rfl, name_len h1, h2.1, h2.2, h3⟩
theorem ptx_rows {L : List Value} (h : isB L) (s : ByteArray) : Sy.rows (Value.tuple ((byL L ++ txt s).map bV).toArray) = L ++ txV s := ptx_eq h s
theorem encZ_succ (s : ByteArray) (f : Int) (L : List Value) (n : Nat) : encZ s f L (n + 1) = encZ s f L n ++ rulV L n := by
 unfold encZ
 rw [List.range_succ, List.flatMap_append]
 simp
theorem encz0 (s : ByteArray) (f : Int) (L : List Value) : Value.tuple (Sy.rows (putV (Sy.rows (Value.tuple (List.map bV (byL (Sy.rows (Value.tuple #[])) ++ txt s)).toArray)) f 8) ++ Sy.rows (Value.tuple #[Value.int .u8 (IntKind.u8.wrap ((L.length / 3 : Nat) : Int))])).toArray = Value.tuple (encZ s f L (Int.toNat 0)).toArray := by
 refine tup_congr ?_
 rw [put_rows, rows_nil, ptx_rows .nil]
 unfold encZ
 rw [List.nil_append, List.append_assoc]
 rfl
def restZ (X : List UInt8) : Nat → List UInt8 × Bool
 | 0 => (getL (getL (getTL X) 8) 1, getS (getL (getTL X) 8) (getS (getTL X) (getTS X false) 8) 1)
 | k + 1 => (getTL (getL (getL (restZ X k).1 8) 8), getTS (getL (getL (restZ X k).1 8) 8) (getS (getL (restZ X k).1 8) (getS (restZ X k).1 (restZ X k).2 8) 8))
def zCnt (X : List UInt8) : Nat := getV (getL (getTL X) 8) 1
def zNm (X : List UInt8) : ByteArray := ⟨(getT X).toArray⟩
def rowsX (X : List UInt8) : Nat → List Value
 | 0 => []
 | k + 1 => rowsX X k ++ [.int .i64 (rdI (restZ X k).1), .int .i64 (rdI (getL (restZ X k).1 8)), .string ⟨(getT (getL (getL (restZ X k).1 8) 8)).toArray⟩]
theorem rowsX_len (X : List UInt8) : ∀ k, (rowsX X k).length = 3 * k
 | 0 => rfl
 | k + 1 => by
   show (rowsX X k ++ [_, _, _]).length = _
   rw [List.length_append, rowsX_len X k]
   simp only [List.length_cons, List.length_nil]
   omega
theorem zCnt_le (X : List UInt8) : zCnt X ≤ 255 := by
 have := getV_lt (getL (getTL X) 8) 1
 unfold zCnt
 omega
theorem zCnt_wr (X : List UInt8) : IntKind.wrap .i64 (zCnt X : Int) = zCnt X := by
 have := zCnt_le X
 have := wr_i64 (zCnt X : Int)
 omega
def bx6 (l : List Value) : List UInt8 := byL (Sy.rows (blV l 6))
def dzTab (X : List UInt8) : Bool := decide (dnE (restZ X (zCnt X)).1 (restZ X (zCnt X)).2 = 0) && zoneB (zNm X) (rdI (getTL X)) (rowsX X (zCnt X))
def dzE (l : List Value) : Int := if blE l 6 ≠ 0 then blE l 6 else if dzTab (bx6 l) = true then 0 else 3
def dzF (l : List Value) : Int := if dzE l = 0 then rdI (getTL (bx6 l)) else 0
def dzN (l : List Value) : ByteArray := if dzE l = 0 then zNm (bx6 l) else ⟨#[]⟩
def dzL (l : List Value) : Value := if dzE l = 0 then .tuple (rowsX (bx6 l) (zCnt (bx6 l))).toArray else .tuple #[]
noncomputable def dszB (x y : Value) (s : Bool) (l : List Value) (k : Nat) : Bool := @decide (x = .tuple (rowsX (bx6 l) k).toArray ∧ y = .tuple ((restZ (bx6 l) k).1.map bV).toArray ∧ s = (restZ (bx6 l) k).2) (Classical.propDecidable _)
theorem dsz_iff {x y : Value} {s : Bool} {l : List Value} {k : Nat} : dszB x y s l k = true ↔ x = .tuple (rowsX (bx6 l) k).toArray ∧ y = .tuple ((restZ (bx6 l) k).1.map bV).toArray ∧ s = (restZ (bx6 l) k).2 := @decide_eq_true_iff _ (Classical.propDecidable _)
theorem blZ_isB {l : List Value} (h : isB l) (k : Int) : isB (Sy.rows (blV l k)) := by
 unfold blV
 split
 · exact isB.drop (isB.take h _) _
 · exact isB.nil
theorem okR_rl (l : List UInt8) : okR (Sy.rows (Value.tuple (l.map bV).toArray)) = true := okR_isB (isB_bV _)
theorem dz_spec (C : List Value) : (dzE C = blE C 6 ∧ blE C 6 ≠ 0 ∧ dzF C = 0 ∧ dzN C = ⟨#[]⟩ ∧ dzL C = .tuple #[]) ∨ (blE C 6 = 0 ∧ dzE C = 3 ∧ dzTab (bx6 C) = false ∧ dzF C = 0 ∧ dzN C = ⟨#[]⟩ ∧ dzL C = .tuple #[]) ∨ (blE C 6 = 0 ∧ dzE C = 0 ∧ dzTab (bx6 C) = true ∧ dzF C = rdI (getTL (bx6 C)) ∧ dzN C = zNm (bx6 C) ∧ dzL C = .tuple (rowsX (bx6 C) (zCnt (bx6 C))).toArray) := by
 unfold dzF dzN dzL
 by_cases h1 : blE C 6 = 0
 · cases h2 : dzTab (bx6 C) with
   | true =>
     have e : dzE C = 0 := by unfold dzE; rw [if_neg (by omega), if_pos h2]
     rw [if_pos e, if_pos e, if_pos e]
     exact .inr (.inr ⟨h1, e, rfl, rfl, rfl, rfl⟩)
   | false =>
     have e : dzE C = 3 := by unfold dzE; rw [if_neg (by omega), h2]; rfl
     rw [if_neg (by omega), if_neg (by omega), if_neg (by omega)]
     exact .inr (.inl ⟨h1, e, rfl, rfl, rfl, rfl⟩)
 · have e : dzE C = blE C 6 := by unfold dzE; rw [if_pos h1]
   rw [if_neg (by omega), if_neg (by omega), if_neg (by omega)]
   exact .inl ⟨e, h1, rfl, rfl, rfl⟩
theorem rest0 (X : List UInt8) : (restZ X (Int.toNat 0)).1 = getL (getL (getTL X) 8) 1 ∧ (restZ X (Int.toNat 0)).2 = getS (getL (getTL X) 8) (getS (getTL X) (getTS X false) 8) 1 := ⟨rfl, rfl⟩
theorem restS (X : List UInt8) (k : Nat) : (restZ X (k + 1)).1 = getTL (getL (getL (restZ X k).1 8) 8) ∧ (restZ X (k + 1)).2 = getTS (getL (getL (restZ X k).1 8) 8) (getS (getL (restZ X k).1 8) (getS (restZ X k).1 (restZ X k).2 8) 8) := ⟨rfl, rfl⟩
theorem rowsS (X : List UInt8) (k : Nat) : rowsX X (k + 1) = rowsX X k ++ [.int .i64 (rdI (restZ X k).1), .int .i64 (rdI (getL (restZ X k).1 8)), .string ⟨(getT (getL (getL (restZ X k).1 8) 8)).toArray⟩] := rfl
theorem bx6_def (C : List Value) : byL (Sy.rows (blV C 6)) = bx6 C := rfl
theorem zCnt_def (X : List UInt8) : getV (getL (getTL X) 8) 1 = zCnt X := rfl
theorem encZS (s : ByteArray) (f : Int) (L : List Value) (k : Nat) : Value.tuple ((byL (Sy.rows (putV (Sy.rows (putV (Sy.rows (Value.tuple (encZ s f L k).toArray)) (atR L k) 8)) (offR L k) 8)) ++ txt (nmR L k)).map bV).toArray = Value.tuple (encZ s f L (k + 1)).toArray := by
 rw [put_rows, put_rows, rows_arr, ptx_eq (isB.app (isB.app (isB_encZ _ _ _ _) (isB_numB _ _)) (isB_numB _ _)), encZ_succ]
 unfold rulV
 rw [List.append_assoc, List.append_assoc]
noncomputable def zl_I : Nat → List Value → Int
 | 19, [c] => dzE (rows c)
 | 20, [c] => dzF (rows c)
 | i, l => zzeI i l
noncomputable def zl_B : Nat → List Value → Bool
 | 14, [x, y, .bool s, c, .int _ j] => dszB x y s (rows c) j.toNat
 | 15, [l, .bool s] => dnB (rows l) s
 | i, l => zzeB i l
noncomputable def zl_V : Nat → List Value → Value
 | 14, [.string s, .int _ f, l, .int _ n] => .tuple (encZ s f (rows l) n.toNat).toArray
 | 15, [c] => .string (dzN (rows c))
 | 16, [c] => dzL (rows c)
 | 17, [.string s, .int _ f, l] => zkV s f (rows l)
 | i, l => zzeV i l
noncomputable abbrev zl_E (iv : List Int) (bv : List Bool) (vv : List Value) (sv : List ByteArray) : Env := { iv := iv, bv := bv, vv := vv, sv := sv, fi := zl_I, fb := zl_B, fv := zl_V, et := 101 }
set_option maxHeartbeats 8000000 in
theorem zl_up : Agree 19 14 14 (zzeE [] [] [] []) (zl_E [] [] [] []) := ⟨rfl, (by
   intro f hf
   funext l
   show zl_I f l = zzeI f l
   unfold zl_I
   split <;> first | rfl | omega), (by
   intro f hf
   funext l
   show zl_B f l = zzeB f l
   unfold zl_B
   split <;> first | rfl | omega), (by
   intro f hf
   funext l
   show zl_V f l = zzeV f l
   unfold zl_V
   split <;> first | rfl | omega)⟩
theorem zl_i_rn (l : Value) (k1 : IntKind) (k : Int) : zl_I 0 [l, .int k1 k] = ((getV (byL (rows l)) k.toNat : Nat) : Int) := rfl
theorem zl_i_ri (l : Value) : zl_I 1 [l] = rdI (byL (rows l)) := rfl
theorem zl_i_dn (l : Value) (s : Bool) : zl_I 2 [l, .bool s] = dnE (byL (rows l)) s := rfl
theorem zl_i_sle (l : Value) (k1 : IntKind) (k : Int) : zl_I 5 [l, .int k1 k] = slE (rows l) k := rfl
theorem zl_i_ble (l : Value) (k1 : IntKind) (k : Int) : zl_I 9 [l, .int k1 k] = blE (rows l) k := rfl
theorem zl_i_chk (s : ByteArray) (k1 : IntKind) (f : Int) (l : Value) : zl_I 12 [.string s, .int k1 f, l] = chkI s f (rows l) := rfl
theorem zl_i_dze (c : Value) : zl_I 19 [c] = dzE (rows c) := rfl
theorem zl_i_dzf (c : Value) : zl_I 20 [c] = dzF (rows c) := rfl
theorem zl_b_okr (l : Value) : zl_B 0 [l] = okR (rows l) := rfl
theorem zl_b_rs (l : Value) (s : Bool) (k1 : IntKind) (k : Int) : zl_B 1 [l, .bool s, .int k1 k] = getS (byL (rows l)) s k.toNat := rfl
theorem zl_b_ts (l : Value) (s : Bool) : zl_B 9 [l, .bool s] = getTS (byL (rows l)) s := rfl
theorem zl_b_eqv (x : Value) (y : Value) : zl_B 12 [x, y] = eqV x y := rfl
theorem zl_b_dsz (x : Value) (y : Value) (s : Bool) (c : Value) (k1 : IntKind) (j : Int) : zl_B 14 [x, y, .bool s, c, .int k1 j] = dszB x y s (rows c) j.toNat := rfl
theorem zl_v_rl (l : Value) (k1 : IntKind) (k : Int) : zl_V 0 [l, .int k1 k] = Value.tuple ((getL (byL (rows l)) k.toNat).map bV).toArray := rfl
theorem zl_v_p8 (l : Value) (k1 : IntKind) (v : Int) : zl_V 6 [l, .int k1 v] = putV (rows l) v 8 := rfl
theorem zl_v_slv (l : Value) (k1 : IntKind) (k : Int) : zl_V 7 [l, .int k1 k] = slV (rows l) k := rfl
theorem zl_v_blv (l : Value) (k1 : IntKind) (k : Int) : zl_V 8 [l, .int k1 k] = blV (rows l) k := rfl
theorem zl_v_tx (l : Value) : zl_V 9 [l] = .string ⟨(getT (byL (rows l))).toArray⟩ := rfl
theorem zl_v_tl (l : Value) : zl_V 10 [l] = Value.tuple ((getTL (byL (rows l))).map bV).toArray := rfl
theorem zl_v_ptx (l : Value) (s : ByteArray) : zl_V 11 [l, .string s] = .tuple ((byL (rows l) ++ txt s).map bV).toArray := rfl
theorem zl_v_zpa (s : ByteArray) (k1 : IntKind) (f : Int) (l : Value) (k2 : IntKind) (n : Int) : zl_V 14 [.string s, .int k1 f, l, .int k2 n] = .tuple (encZ s f (rows l) n.toNat).toArray := rfl
theorem zl_v_dzn (c : Value) : zl_V 15 [c] = .string (dzN (rows c)) := rfl
theorem zl_v_dzl (c : Value) : zl_V 16 [c] = dzL (rows c) := rfl
theorem zl_v_zkv (s : ByteArray) (k1 : IntKind) (f : Int) (l : Value) : zl_V 17 [.string s, .int k1 f, l] = zkV s f (rows l) := rfl
def zenc_tree : Tree :=
 (.br (.not (eq_ (.iapp 12 (.cons (.str 0) (.cons z0_ (.cons o0_ .nil)))) (.lit 0)))
 (.ret (.tup (.cons (.hs .no (.cons (.int .u8) .nil) (.tup .nil)) (.cons (.err (.iapp 12 (.cons (.str 0) (.cons z0_ (.cons o0_ .nil))))) .nil))))
 (.need (an_ (.bapp 0 (.cons (.tup .nil) .nil)) (an_ (le_ (.ofI (.vop (.len 1) (.cons (.tup .nil) .nil))) (.lit 70368744177664)) (le_ (.blen (.str 0)) (.lit 255))))
 (.need (an_ (le_ (.ofI (.vop (.len 1) (.cons (.vapp 11 (.cons (.tup .nil) (.cons (.str 0) .nil))) .nil))) (.lit 70368744177664)) (an_ (le_ lm_ v0_) (le_ v0_ lM_)))
 (.need (le_ (ad_ (.ofI (.vop (.len 1) (.cons (.vapp 6 (.cons (.vapp 11 (.cons (.tup .nil) (.cons (.str 0) .nil))) (.cons z0_ .nil))) .nil))) (.lit 1)) (.lit 140737488355328))
 (.loop ⟨1, 0, 1, 0⟩ (an_ (le_ (.lit 0) (.lit 0)) (an_ (le_ (.lit 0) (.ofI (.vop (.len 3) (.cons o0_ .nil)))) (.bapp 12 (.cons (.vop .cat (.cons (.vapp 6 (.cons (.vapp 11 (.cons (.tup .nil) (.cons (.str 0) .nil))) (.cons z0_ .nil))) (.cons (.tup (.cons (.int .u8 (.wrap .u8 (.ofI (.vop (.len 3) (.cons o0_ .nil))))) .nil)) .nil))) (.cons (.vapp 14 (.cons (.str 0) (.cons z0_ (.cons o0_ (.cons (.int .i64 (.lit 0)) .nil))))) .nil))))) (an_ (le_ (.lit 0) v1_) (an_ (le_ v1_ (.ofI (.vop (.len 3) (.cons o0_ .nil)))) (.bapp 12 (.cons o1_ (.cons (.vapp 14 (.cons (.str 0) (.cons z0_ (.cons o0_ (.cons z1_ .nil))))) .nil)))))
 (.br (lt_ v1_ (.ofI (.vop (.len 3) (.cons o0_ .nil))))
 (.need (an_ (le_ (.lit 0) v1_) (lt_ v1_ (.ofI (.vop (.len 3) (.cons o0_ .nil)))))
 (.need (an_ (le_ (.ofI (.vop (.len 1) (.cons o1_ .nil))) (.lit 70368744177664)) (an_ (le_ lm_ (.ofI (.vop (.sel 3 0) (.cons o0_ (.cons z1_ .nil))))) (le_ (.ofI (.vop (.sel 3 0) (.cons o0_ (.cons z1_ .nil)))) lM_)))
 (.need (an_ (le_ (.ofI (.vop (.len 1) (.cons (.vapp 6 (.cons o1_ (.cons (.int .i64 (.ofI (.vop (.sel 3 0) (.cons o0_ (.cons z1_ .nil))))) .nil))) .nil))) (.lit 70368744177664)) (an_ (le_ lm_ (.ofI (.vop (.sel 3 1) (.cons o0_ (.cons z1_ .nil))))) (le_ (.ofI (.vop (.sel 3 1) (.cons o0_ (.cons z1_ .nil)))) lM_)))
 (.need (an_ (.bapp 0 (.cons (.vapp 6 (.cons (.vapp 6 (.cons o1_ (.cons (.int .i64 (.ofI (.vop (.sel 3 0) (.cons o0_ (.cons z1_ .nil))))) .nil))) (.cons (.int .i64 (.ofI (.vop (.sel 3 1) (.cons o0_ (.cons z1_ .nil))))) .nil))) .nil)) (an_ (le_ (.ofI (.vop (.len 1) (.cons (.vapp 6 (.cons (.vapp 6 (.cons o1_ (.cons (.int .i64 (.ofI (.vop (.sel 3 0) (.cons o0_ (.cons z1_ .nil))))) .nil))) (.cons (.int .i64 (.ofI (.vop (.sel 3 1) (.cons o0_ (.cons z1_ .nil))))) .nil))) .nil))) (.lit 70368744177664)) (le_ (.blen (.vop (.ssel 3 2) (.cons o0_ (.cons z1_ .nil)))) (.lit 255))))
 (.back (an_ (le_ (.lit 0) (wr_ (ad_ v1_ (.lit 1)))) (an_ (le_ (wr_ (ad_ v1_ (.lit 1))) (.ofI (.vop (.len 3) (.cons o0_ .nil)))) (.bapp 12 (.cons (.vapp 11 (.cons (.vapp 6 (.cons (.vapp 6 (.cons o1_ (.cons (.int .i64 (.ofI (.vop (.sel 3 0) (.cons o0_ (.cons z1_ .nil))))) .nil))) (.cons (.int .i64 (.ofI (.vop (.sel 3 1) (.cons o0_ (.cons z1_ .nil))))) .nil))) (.cons (.vop (.ssel 3 2) (.cons o0_ (.cons z1_ .nil))) .nil))) (.cons (.vapp 14 (.cons (.str 0) (.cons z0_ (.cons o0_ (.cons (.int .i64 (wr_ (ad_ v1_ (.lit 1)))) .nil))))) .nil))))) (sb_ (.ofI (.vop (.len 3) (.cons o0_ .nil))) (wr_ (ad_ v1_ (.lit 1)))) (sb_ (.ofI (.vop (.len 3) (.cons o0_ .nil))) v1_))))))
 (.need (an_ (.bapp 0 (.cons o1_ .nil)) (le_ (.ofI (.vop (.len 1) (.cons o1_ .nil))) (.lit 140737488355000)))
 (.ret (.tup (.cons (.hs .no (.cons (.int .u8) .nil) (.vapp 7 (.cons o1_ (.cons (.int .u8 (.lit 6)) .nil)))) (.cons (.err (.iapp 5 (.cons o1_ (.cons (.int .u8 (.lit 6)) .nil)))) .nil)))))))))))
abbrev zl_c_zenc : Con := ⟨42, [(.agg (.cons (.str 0) (.cons z0_ (.cons (.hs .no (.cons (.int .i64) (.cons (.int .i64) (.cons .str .nil))) o0_) .nil))))], (an_ (le_ lm_ v0_) (le_ v0_ lM_)), (.tup (.cons (.hs .no (.cons (.int .u8) .nil) (.vapp 17 (.cons (.str 0) (.cons z0_ (.cons o0_ .nil))))) (.cons (.err (.iapp 12 (.cons (.str 0) (.cons z0_ (.cons o0_ .nil))))) .nil))), ⟨1, 0, 1, 1⟩, none⟩
theorem zenc_w : walk Tryd.prog 101 ⟨[zzc_zck, ztc_textp, ztc_i64p, zb6c_seal], syG, [], [], []⟩ [⟨0, ⟨1, 0, 1, 0⟩, [(36, z1_), (5, (.hs .no (.cons (.int .u8) .nil) o1_)), (6, (.err (.lit 0)))], none, (an_ (le_ (.lit 0) v1_) (an_ (le_ v1_ (.ofI (.vop (.len 3) (.cons o0_ .nil)))) (.bapp 12 (.cons o1_ (.cons (.vapp 14 (.cons (.str 0) (.cons z0_ (.cons o0_ (.cons z1_ .nil))))) .nil))))), (sb_ (.ofI (.vop (.len 3) (.cons o0_ .nil))) v1_), 0, []⟩] (.tup (.cons (.s (.cons (.int .u8) .nil)) (.cons .v .nil))) zl_c_zenc zl_c_zenc.n 3000 = some zenc_tree := by kernel_rfl
theorem zenc_h (f : Int) (l : Value) (nm : ByteArray) : Hyp_ zl_c_zenc zenc_tree (zl_E [f] [] [l] [nm]) := by
 intro hc hty
 simp only [zl_c_zenc, Sy.holds, zl_E, denV, denI, denB, denL, I2.den, VOp.den, List.getD_cons_zero, List.getD_cons_succ, Cst.den, syso, syse, syio, sybo, B2.ofInts, B2.denI, B2.denB, if_true, Bool.false_eq_true, if_false, Nat.div_one, Nat.mul_one, Nat.add_zero] at hc
 simp only [zl_c_zenc, patsTyp, patTyp, patTypL, zl_E, denV, denL, List.getD_cons_zero, List.getD_cons_succ, and_true, true_and] at hty
 have hL_l : typ (.sl (.cons (.int .i64) (.cons (.int .i64) (.cons .str .nil)))) l := by first | exact hty | exact hty.1 | exact hty.2 | exact hty.1.1 | exact hty.1.2 | exact hty.2.1 | exact hty.2.2 | exact hty.2.2.1 | exact hty.2.2.2
 have hN_l := typ_len (n := 3) hL_l rfl (by omega)
 unfold zenc_tree
 simp only [zl_c_zenc, Tree.holds, Sy.holds, AllN, Env.more, zl_E, List.cons_append, List.nil_append, List.append_nil, denV, denI, denB, denL, I2.den, VOp.den, List.getD_cons_zero, List.getD_cons_succ, Cst.den, syso, syse, syio, sybo, zl_i_sle, zl_i_chk, zl_b_okr, zl_b_eqv, zl_v_p8, zl_v_slv, zl_v_ptx, zl_v_zpa, zl_v_zkv, List.map_nil, List.map_cons, B2.ofInts, B2.denI, B2.denB, if_true, Bool.false_eq_true, if_false, Nat.div_one, Nat.mul_one, Nat.add_zero]
 have kz := zk_spec nm f (Sy.rows l)
 refine ⟨fun h0 => ?_, fun h0 => ?_⟩
 ·
  rcases kz with ⟨E, _, Z⟩ | ⟨E, _⟩
  · first
    | (exfalso; omega)
    | (rw [Z]
       done)
    | (rw [E, Z]
       done)
    | (rw [E, Z]
       rfl)
  · exfalso; omega
 refine ⟨?_, fun h1 => ?_⟩
 refine ?a0; rotate_left
 refine ⟨?_, fun h2 => ?_⟩
 refine ?a1; rotate_left
 refine ⟨?_, fun h3 => ?_⟩
 refine ?a2; rotate_left
 refine ⟨?_, ?_⟩
 ·
  exact ⟨by omega, by omega, eqV_iff.2 (encz0 nm f (Sy.rows l))⟩
 intro i0a i0b hi0
 refine ⟨fun h4 => ?_, fun h4 => ?_⟩
 refine ⟨?_, fun h5 => ?_⟩
 refine ?a3; rotate_left
 refine ⟨?_, fun h6 => ?_⟩
 refine ?a4; rotate_left
 refine ⟨?_, fun h7 => ?_⟩
 refine ?a5; rotate_left
 refine ⟨?_, fun h8 => ?_⟩
 refine ?a6; rotate_left
 refine ⟨?_, ?_⟩
 ·
  obtain ⟨q0, q1, q2⟩ := hi0
  have hw : IntKind.wrap .i64 (i0a + 1) = i0a + 1 := by have := wr_i64 (i0a + 1); omega
  rw [hw, toNat_succ (by omega)]
  refine ⟨by omega, by omega, eqV_iff.2 ?_⟩
  rw [eqV_iff.1 q2]
  exact encZS nm f (Sy.rows l) i0a.toNat
 ·
  have := wr_i64 (i0a + 1)
  omega
 refine ⟨?_, fun h9 => ?_⟩
 refine ?a7; rotate_left
 ·
  obtain ⟨q0, q1, q2⟩ := hi0
  have q3 := eqV_iff.1 q2
  have hz : zoneB nm f (Sy.rows l) = true := by
    rcases kz with ⟨x, _⟩ | ⟨_, x, _⟩
    · exfalso; omega
    · exact x
  have hb : isB (Sy.rows i0b) := by rw [q3, rows_arr]; exact isB_encZ _ _ _ _
  have hlen : (Sy.rows i0b).length ≤ 950 := by rw [q3, rows_arr]; exact encZ_len hz (by omega)
  rcases kz with ⟨E, _⟩ | ⟨E, _, Z, _⟩
  · exfalso; omega
  · have hl := encZ_len hz (Nat.le_refl ((Sy.rows l).length / 3))
    have hs : slE (encZ nm f (Sy.rows l) ((Sy.rows l).length / 3)) 6 = 0 := by rcases sl_spec (encZ nm f (Sy.rows l) ((Sy.rows l).length / 3)) 6 with h | h | h <;> omega
    rw [q3, rows_arr, show i0a.toNat = (Sy.rows l).length / 3 by omega, E, Z, hs]
 case a0 | a1 | a2 =>
  first
  | omega
  | exact ⟨okR_isB .nil, by omega, by omega⟩
  | (simp only [rows_nil, ptx_rows .nil, List.nil_append, txV_len, put_rows, List.length_append, List.length_nil, numB_len]
     omega)
  | (refine ⟨okR_isB .nil, ?_, by omega⟩
     simp only [rows_nil, List.length_nil]
     omega)
 case a3 | a4 | a5 | a6 | a7 =>
  first
  | omega
  | (
     obtain ⟨q0, q1, q2⟩ := hi0
     have q3 := eqV_iff.1 q2
     have hz : zoneB nm f (Sy.rows l) = true := by
       rcases kz with ⟨x, _⟩ | ⟨_, x, _⟩
       · exfalso; omega
       · exact x
     have hb : isB (Sy.rows i0b) := by rw [q3, rows_arr]; exact isB_encZ _ _ _ _
     have hlen : (Sy.rows i0b).length ≤ 950 := by rw [q3, rows_arr]; exact encZ_len hz (by omega)
     by_cases hlt : i0a < (((Sy.rows l).length / 3 : Nat) : Int)
     · have hr := rul_at hz (k := i0a.toNat) (by omega)
       have g0 : Go.RowKit.intOf ((Sy.rows l).getD (i0a.toNat * 3) Go.undef) = atR (Sy.rows l) i0a.toNat := rfl
       have g1 : Go.RowKit.intOf ((Sy.rows l).getD (i0a.toNat * 3 + 1) Go.undef) = offR (Sy.rows l) i0a.toNat := rfl
       have g2 : strOf ((Sy.rows l).getD (i0a.toNat * 3 + 2) Go.undef) = nmR (Sy.rows l) i0a.toNat := rfl
       try simp only [g0, g1, g2]
       first
       | omega
       | (simp only [put_rows, List.length_append, numB_len]
          omega)
       | (simp only [put_rows]
          refine ⟨okR_isB (isB.app (isB.app hb (isB_numB _ _)) (isB_numB _ _)), ?_, ?_⟩
          · simp only [List.length_append, numB_len]
            omega
          · omega)
     · first
       | (exfalso; omega)
       | (refine ⟨okR_isB hb, ?_⟩
          omega))
theorem zl_g_zenc : zl_c_zenc.Good Tryd.prog syG (zl_E [] [] [] []) := good_of_walk (Γ := ⟨[zzc_zck, ztc_textp, ztc_i64p, zb6c_seal], syG, [], [], []⟩) (ρ := zl_E [] [] [] []) sym zenc_w rfl (fun _ _ _ _ => (ok_cons (Con.Good.env (Con.Good.up (Con.Good.up (Con.Good.up (Con.Good.up (Con.Good.up (Con.Good.up zzg_zck ztup rfl) zzbup rfl) zzcup rfl) zzdup rfl) zzeup rfl) zl_up rfl) _ _ _ _) (ok_cons (Con.Good.env (Con.Good.up (Con.Good.up (Con.Good.up (Con.Good.up (Con.Good.up ztg_textp zzbup rfl) zzcup rfl) zzdup rfl) zzeup rfl) zl_up rfl) _ _ _ _) (ok_cons (Con.Good.env (Con.Good.up (Con.Good.up (Con.Good.up (Con.Good.up (Con.Good.up ztg_i64p zzbup rfl) zzcup rfl) zzdup rfl) zzeup rfl) zl_up rfl) _ _ _ _) (ok_cons (Con.Good.env (Con.Good.up (Con.Good.up (Con.Good.up (Con.Good.up (Con.Good.up (Con.Good.up (Con.Good.up zb6g_seal zzup rfl) ztup rfl) zzbup rfl) zzcup rfl) zzdup rfl) zzeup rfl) zl_up rfl) _ _ _ _) ok_nil))))) zenc_h
def zdec_tree : Tree :=
 (.need (an_ (.bapp 0 (.cons o0_ .nil)) (le_ (.ofI (.vop (.len 1) (.cons o0_ .nil))) (.lit 140737488355000)))
 (.br (.not (eq_ (.iapp 9 (.cons o0_ (.cons (.int .u8 (.lit 6)) .nil))) (.lit 0)))
 (.ret (.tup (.cons (.agg (.cons (.cst (.strc [])) (.cons (.int .i64 (.lit 0)) (.cons (.hs .no (.cons (.int .i64) (.cons (.int .i64) (.cons .str .nil))) (.tup .nil)) .nil)))) (.cons (.err (.iapp 9 (.cons o0_ (.cons (.int .u8 (.lit 6)) .nil)))) .nil))))
 (.need (.bapp 0 (.cons (.vapp 8 (.cons o0_ (.cons (.int .u8 (.lit 6)) .nil))) .nil))
 (.need (.bapp 0 (.cons (.vapp 8 (.cons o0_ (.cons (.int .u8 (.lit 6)) .nil))) .nil))
 (.need (.bapp 0 (.cons (.vapp 10 (.cons (.vapp 8 (.cons o0_ (.cons (.int .u8 (.lit 6)) .nil))) .nil)) .nil))
 (.need (.bapp 0 (.cons (.vapp 0 (.cons (.vapp 10 (.cons (.vapp 8 (.cons o0_ (.cons (.int .u8 (.lit 6)) .nil))) .nil)) (.cons (.int .i64 (.lit 8)) .nil))) .nil))
 (.loop ⟨1, 1, 2, 0⟩ (an_ (le_ (.lit 0) (.lit 0)) (an_ (le_ (.lit 0) (.iapp 0 (.cons (.vapp 0 (.cons (.vapp 10 (.cons (.vapp 8 (.cons o0_ (.cons (.int .u8 (.lit 6)) .nil))) .nil)) (.cons (.int .i64 (.lit 8)) .nil))) (.cons (.int .i64 (.lit 1)) .nil)))) (an_ (.bapp 0 (.cons (.vapp 0 (.cons (.vapp 0 (.cons (.vapp 10 (.cons (.vapp 8 (.cons o0_ (.cons (.int .u8 (.lit 6)) .nil))) .nil)) (.cons (.int .i64 (.lit 8)) .nil))) (.cons (.int .i64 (.lit 1)) .nil))) .nil)) (.bapp 14 (.cons (.tup .nil) (.cons (.vapp 0 (.cons (.vapp 0 (.cons (.vapp 10 (.cons (.vapp 8 (.cons o0_ (.cons (.int .u8 (.lit 6)) .nil))) .nil)) (.cons (.int .i64 (.lit 8)) .nil))) (.cons (.int .i64 (.lit 1)) .nil))) (.cons (.bool (.bapp 1 (.cons (.vapp 0 (.cons (.vapp 10 (.cons (.vapp 8 (.cons o0_ (.cons (.int .u8 (.lit 6)) .nil))) .nil)) (.cons (.int .i64 (.lit 8)) .nil))) (.cons (.bool (.bapp 1 (.cons (.vapp 10 (.cons (.vapp 8 (.cons o0_ (.cons (.int .u8 (.lit 6)) .nil))) .nil)) (.cons (.bool (.bapp 9 (.cons (.vapp 8 (.cons o0_ (.cons (.int .u8 (.lit 6)) .nil))) (.cons (.bool (.tt false)) .nil)))) (.cons (.int .i64 (.lit 8)) .nil))))) (.cons (.int .i64 (.lit 1)) .nil))))) (.cons o0_ (.cons (.int .i64 (.lit 0)) .nil))))))))) (an_ (le_ (.lit 0) v0_) (an_ (le_ v0_ (.iapp 0 (.cons (.vapp 0 (.cons (.vapp 10 (.cons (.vapp 8 (.cons o0_ (.cons (.int .u8 (.lit 6)) .nil))) .nil)) (.cons (.int .i64 (.lit 8)) .nil))) (.cons (.int .i64 (.lit 1)) .nil)))) (an_ (.bapp 0 (.cons o2_ .nil)) (.bapp 14 (.cons o1_ (.cons o2_ (.cons (.bool (.bvar 0)) (.cons o0_ (.cons z0_ .nil)))))))))
 (.br (lt_ v0_ (wr_ (.iapp 0 (.cons (.vapp 0 (.cons (.vapp 10 (.cons (.vapp 8 (.cons o0_ (.cons (.int .u8 (.lit 6)) .nil))) .nil)) (.cons (.int .i64 (.lit 8)) .nil))) (.cons (.int .i64 (.lit 1)) .nil)))))
 (.need (.bapp 0 (.cons o2_ .nil))
 (.need (.bapp 0 (.cons (.vapp 0 (.cons o2_ (.cons (.int .i64 (.lit 8)) .nil))) .nil))
 (.need (.bapp 0 (.cons (.vapp 0 (.cons (.vapp 0 (.cons o2_ (.cons (.int .i64 (.lit 8)) .nil))) (.cons (.int .i64 (.lit 8)) .nil))) .nil))
 (.need (le_ (ad_ (.ofI (.vop (.len 3) (.cons o1_ .nil))) (.lit 1)) (.lit 4398046511104))
 (.back (an_ (le_ (.lit 0) (wr_ (ad_ v0_ (.lit 1)))) (an_ (le_ (wr_ (ad_ v0_ (.lit 1))) (.iapp 0 (.cons (.vapp 0 (.cons (.vapp 10 (.cons (.vapp 8 (.cons o0_ (.cons (.int .u8 (.lit 6)) .nil))) .nil)) (.cons (.int .i64 (.lit 8)) .nil))) (.cons (.int .i64 (.lit 1)) .nil)))) (an_ (.bapp 0 (.cons (.vapp 10 (.cons (.vapp 0 (.cons (.vapp 0 (.cons o2_ (.cons (.int .i64 (.lit 8)) .nil))) (.cons (.int .i64 (.lit 8)) .nil))) .nil)) .nil)) (.bapp 14 (.cons (.vop .cat (.cons o1_ (.cons (.tup (.cons (.int .i64 (.iapp 1 (.cons o2_ .nil))) (.cons (.int .i64 (.iapp 1 (.cons (.vapp 0 (.cons o2_ (.cons (.int .i64 (.lit 8)) .nil))) .nil))) (.cons (.sapp 9 (.cons (.vapp 0 (.cons (.vapp 0 (.cons o2_ (.cons (.int .i64 (.lit 8)) .nil))) (.cons (.int .i64 (.lit 8)) .nil))) .nil)) .nil)))) .nil))) (.cons (.vapp 10 (.cons (.vapp 0 (.cons (.vapp 0 (.cons o2_ (.cons (.int .i64 (.lit 8)) .nil))) (.cons (.int .i64 (.lit 8)) .nil))) .nil)) (.cons (.bool (.bapp 9 (.cons (.vapp 0 (.cons (.vapp 0 (.cons o2_ (.cons (.int .i64 (.lit 8)) .nil))) (.cons (.int .i64 (.lit 8)) .nil))) (.cons (.bool (.bapp 1 (.cons (.vapp 0 (.cons o2_ (.cons (.int .i64 (.lit 8)) .nil))) (.cons (.bool (.bapp 1 (.cons o2_ (.cons (.bool (.bvar 0)) (.cons (.int .i64 (.lit 8)) .nil))))) (.cons (.int .i64 (.lit 8)) .nil))))) .nil)))) (.cons o0_ (.cons (.int .i64 (wr_ (ad_ v0_ (.lit 1)))) .nil))))))))) (sb_ (.iapp 0 (.cons (.vapp 0 (.cons (.vapp 10 (.cons (.vapp 8 (.cons o0_ (.cons (.int .u8 (.lit 6)) .nil))) .nil)) (.cons (.int .i64 (.lit 8)) .nil))) (.cons (.int .i64 (.lit 1)) .nil))) (wr_ (ad_ v0_ (.lit 1)))) (sb_ (.iapp 0 (.cons (.vapp 0 (.cons (.vapp 10 (.cons (.vapp 8 (.cons o0_ (.cons (.int .u8 (.lit 6)) .nil))) .nil)) (.cons (.int .i64 (.lit 8)) .nil))) (.cons (.int .i64 (.lit 1)) .nil))) v0_))))))
 (.need (.bapp 0 (.cons o2_ .nil))
 (.br (.not (eq_ (.iapp 2 (.cons o2_ (.cons (.bool (.bvar 0)) .nil))) (.lit 0)))
 (.ret (.tup (.cons (.agg (.cons (.cst (.strc [])) (.cons (.int .i64 (.lit 0)) (.cons (.hs .no (.cons (.int .i64) (.cons (.int .i64) (.cons .str .nil))) (.tup .nil)) .nil)))) (.cons (.iface 101 (.int .i64 (.lit 3))) .nil))))
 (.br (.not (eq_ (.iapp 12 (.cons (.sapp 9 (.cons (.vapp 8 (.cons o0_ (.cons (.int .u8 (.lit 6)) .nil))) .nil)) (.cons (.int .i64 (.iapp 1 (.cons (.vapp 10 (.cons (.vapp 8 (.cons o0_ (.cons (.int .u8 (.lit 6)) .nil))) .nil)) .nil))) (.cons o1_ .nil)))) (.lit 0)))
 (.ret (.tup (.cons (.agg (.cons (.cst (.strc [])) (.cons (.int .i64 (.lit 0)) (.cons (.hs .no (.cons (.int .i64) (.cons (.int .i64) (.cons .str .nil))) (.tup .nil)) .nil)))) (.cons (.iface 101 (.int .i64 (.lit 3))) .nil))))
 (.ret (.tup (.cons (.agg (.cons (.sapp 9 (.cons (.vapp 8 (.cons o0_ (.cons (.int .u8 (.lit 6)) .nil))) .nil)) (.cons (.int .i64 (.iapp 1 (.cons (.vapp 10 (.cons (.vapp 8 (.cons o0_ (.cons (.int .u8 (.lit 6)) .nil))) .nil)) .nil))) (.cons (.hs .no (.cons (.int .i64) (.cons (.int .i64) (.cons .str .nil))) o1_) .nil)))) (.cons (.cst .nilI) .nil)))))))))))))))
abbrev zl_c_zdec : Con := ⟨53, [(.hs .no (.cons (.int .u8) .nil) o0_)], (an_ (.bapp 0 (.cons o0_ .nil)) (le_ (.ofI (.vop (.len 1) (.cons o0_ .nil))) (.lit 4096))), (.tup (.cons (.agg (.cons (.sapp 15 (.cons o0_ .nil)) (.cons (.int .i64 (.iapp 20 (.cons o0_ .nil))) (.cons (.hs .no (.cons (.int .i64) (.cons (.int .i64) (.cons .str .nil))) (.vapp 16 (.cons o0_ .nil))) .nil)))) (.cons (.err (.iapp 19 (.cons o0_ .nil))) .nil))), ⟨0, 0, 1, 0⟩, none⟩
theorem zdec_w : walk Tryd.prog 101 ⟨[zb6c_open, zzc_zck], syG, [], [rc_i64, rc_u8, ztc_text, rc_done], [rc_new]⟩ [⟨0, ⟨1, 1, 2, 0⟩, [(27, z0_)], some [[(.cst (.strc [])), (.int .i64 (.lit 0)), (.cst .nilS)], [], [(.hs .no (.cons (.int .u8) .nil) o2_), (.bool (.bvar 0))], [(.sapp 9 (.cons (.vapp 8 (.cons o0_ (.cons (.int .u8 (.lit 6)) .nil))) .nil)), (.int .i64 (.iapp 1 (.cons (.vapp 10 (.cons (.vapp 8 (.cons o0_ (.cons (.int .u8 (.lit 6)) .nil))) .nil)) .nil))), (.hs (.id 1000 144) (.cons (.int .i64) (.cons (.int .i64) (.cons .str .nil))) o1_)]], (an_ (le_ (.lit 0) v0_) (an_ (le_ v0_ (.iapp 0 (.cons (.vapp 0 (.cons (.vapp 10 (.cons (.vapp 8 (.cons o0_ (.cons (.int .u8 (.lit 6)) .nil))) .nil)) (.cons (.int .i64 (.lit 8)) .nil))) (.cons (.int .i64 (.lit 1)) .nil)))) (an_ (.bapp 0 (.cons o2_ .nil)) (.bapp 14 (.cons o1_ (.cons o2_ (.cons (.bool (.bvar 0)) (.cons o0_ (.cons z0_ .nil))))))))), (sb_ (.iapp 0 (.cons (.vapp 0 (.cons (.vapp 10 (.cons (.vapp 8 (.cons o0_ (.cons (.int .u8 (.lit 6)) .nil))) .nil)) (.cons (.int .i64 (.lit 8)) .nil))) (.cons (.int .i64 (.lit 1)) .nil))) v0_), 1, []⟩] (.tup (.cons (.agg (.cons .v (.cons .v (.cons (.s (.cons (.int .i64) (.cons (.int .i64) (.cons .str .nil)))) .nil)))) (.cons .v .nil))) zl_c_zdec zl_c_zdec.n 3000 = some zdec_tree := by kernel_rfl
theorem zdec_h (c : Value) : Hyp_ zl_c_zdec zdec_tree (zl_E [] [] [c] []) := by
 intro hc hty
 simp only [zl_c_zdec, Sy.holds, zl_E, denV, denI, denB, denL, I2.den, VOp.den, List.getD_cons_zero, List.getD_cons_succ, Cst.den, syso, syse, syio, sybo, zl_b_okr, List.map_nil, List.map_cons, B2.ofInts, B2.denI, B2.denB, if_true, Bool.false_eq_true, if_false, Nat.div_one, Nat.mul_one, Nat.add_zero] at hc
 simp only [zl_c_zdec, patsTyp, patTyp, patTypL, zl_E, denV, denL, List.getD_cons_zero, List.getD_cons_succ, and_true, true_and] at hty
 have hL_c : typ (.sl (.cons (.int .u8) .nil)) c := by first | exact hty | exact hty.1 | exact hty.2 | exact hty.1.1 | exact hty.1.2 | exact hty.2.1 | exact hty.2.2 | exact hty.2.2.1 | exact hty.2.2.2
 have hN_c := typ_len (n := 1) hL_c rfl (by omega)
 simp only [Nat.div_one, Nat.mul_one] at hN_c
 unfold zdec_tree
 simp only [zl_c_zdec, Tree.holds, Sy.holds, AllN, Env.more, zl_E, List.cons_append, List.nil_append, List.append_nil, denV, denI, denB, denL, I2.den, VOp.den, List.getD_cons_zero, List.getD_cons_succ, Cst.den, syso, syse, syio, sybo, zl_i_rn, zl_i_ri, zl_i_dn, zl_i_ble, zl_i_chk, zl_i_dze, zl_i_dzf, zl_b_okr, zl_b_rs, zl_b_ts, zl_b_dsz, zl_v_rl, zl_v_blv, zl_v_tx, zl_v_tl, zl_v_dzn, zl_v_dzl, List.map_nil, List.map_cons, B2.ofInts, B2.denI, B2.denB, if_true, Bool.false_eq_true, if_false, Nat.div_one, Nat.mul_one, Nat.add_zero]
 have hB := blZ_isB (isB_typ hty hc.1) 6
 have s1 := dz_spec (Sy.rows c)
 have n1 := zCnt_le (bx6 (Sy.rows c))
 simp only [rl_eq, bx6_def, t8, t1, zCnt_def, zCnt_wr]
 refine ⟨?_, fun h0 => ?_⟩
 refine ?a0; rotate_left
 refine ⟨fun h1 => ?_, fun h1 => ?_⟩
 ·
  rcases s1 with ⟨E, x, F0, N0, L0⟩ | ⟨x, _⟩ | ⟨x, _⟩
  · rw [E, F0, N0, L0]
  · exfalso; omega
  · exfalso; omega
 refine ⟨?_, fun h2 => ?_⟩
 refine ?a1; rotate_left
 refine ⟨?_, fun h3 => ?_⟩
 refine ?a2; rotate_left
 refine ⟨?_, fun h4 => ?_⟩
 refine ?a3; rotate_left
 refine ⟨?_, fun h5 => ?_⟩
 refine ?a4; rotate_left
 refine ⟨?_, ?_⟩
 ·
  refine ⟨by omega, by omega, okR_rl _, dsz_iff.2 ⟨rfl, ?_, ?_⟩⟩
  · rw [(rest0 _).1]
  · rw [(rest0 _).2]
 intro i0a i0b i0c i0d hi0
 refine ⟨fun h6 => ?_, fun h6 => ?_⟩
 refine ⟨?_, fun h7 => ?_⟩
 refine ?a5; rotate_left
 refine ⟨?_, fun h8 => ?_⟩
 refine ?a6; rotate_left
 refine ⟨?_, fun h9 => ?_⟩
 refine ?a7; rotate_left
 refine ⟨?_, fun h10 => ?_⟩
 refine ?a8; rotate_left
 refine ⟨?_, ?_⟩
 ·
  obtain ⟨q0, q1, q2, q3⟩ := hi0
  obtain ⟨d1, d2, d3⟩ := dsz_iff.1 q3
  have hw : IntKind.wrap .i64 (i0a + 1) = i0a + 1 := by have := wr_i64 (i0a + 1); omega
  rw [hw, toNat_succ (by omega)]
  refine ⟨by omega, by omega, okR_rl _, dsz_iff.2 ⟨?_, ?_, ?_⟩⟩
  · rw [rowsS, d1, d2, rl_eq, rows_arr]
    rfl
  · rw [(restS _ _).1, d2, rl_eq]
  · rw [(restS _ _).2, d2, d3, rl_eq]
 ·
  have := wr_i64 (i0a + 1)
  omega
 refine ⟨?_, fun h11 => ?_⟩
 refine ?a9; rotate_left
 refine ⟨fun h12 => ?_, fun h12 => ?_⟩
 refine ?a10; rotate_left
 refine ⟨fun h13 => ?_, fun h13 => ?_⟩
 refine ?a11; rotate_left
 refine ?a12; rotate_left
 case a0 | a1 | a2 | a3 | a4 =>
  first
  | exact okR_isB hB
  | exact okR_rl _
  | exact ⟨hc.1, by omega⟩
  | omega
 case a5 | a6 | a7 | a8 | a9 =>
  first
  | omega
  | exact hi0.2.2.1
  | exact okR_rl _
  | (have hd := dsz_iff.1 hi0.2.2.2
     rw [hd.1, rows_arr, rowsX_len]
     omega)
 case a10 | a11 | a12 =>
  obtain ⟨q0, q1, q2, q3⟩ := hi0
  have hj : i0a.toNat = zCnt (bx6 (Sy.rows c)) := by omega
  rw [hj] at q3
  obtain ⟨d1, d2, d3⟩ := dsz_iff.1 q3
  have hM : chkI ⟨(getT (bx6 (Sy.rows c))).toArray⟩ (rdI (getTL (bx6 (Sy.rows c)))) (Sy.rows i0c) = chkI (zNm (bx6 (Sy.rows c))) (rdI (getTL (bx6 (Sy.rows c)))) (rowsX (bx6 (Sy.rows c)) (zCnt (bx6 (Sy.rows c)))) := by rw [d1, rows_arr]; rfl
  have hD : dnE (byL (Sy.rows i0d)) i0b = dnE (restZ (bx6 (Sy.rows c)) (zCnt (bx6 (Sy.rows c)))).1 (restZ (bx6 (Sy.rows c)) (zCnt (bx6 (Sy.rows c)))).2 := by rw [d2, d3, rl_eq]
  have hk := zk_spec (zNm (bx6 (Sy.rows c))) (rdI (getTL (bx6 (Sy.rows c)))) (rowsX (bx6 (Sy.rows c)) (zCnt (bx6 (Sy.rows c))))
  have hT : dzTab (bx6 (Sy.rows c)) = true ↔ dnE (restZ (bx6 (Sy.rows c)) (zCnt (bx6 (Sy.rows c)))).1 (restZ (bx6 (Sy.rows c)) (zCnt (bx6 (Sy.rows c)))).2 = 0 ∧ zoneB (zNm (bx6 (Sy.rows c))) (rdI (getTL (bx6 (Sy.rows c)))) (rowsX (bx6 (Sy.rows c)) (zCnt (bx6 (Sy.rows c)))) = true := by
    unfold dzTab
    rw [Bool.and_eq_true, decide_eq_true_eq]
  rcases s1 with ⟨_, x, _⟩ | ⟨x, E, y, F0, N0, L0⟩ | ⟨x, E, y, F0, N0, L0⟩
  · exfalso; omega
  · first
    | (rw [E, F0, N0, L0]
       rfl)
    | (exfalso
       rcases hk with ⟨k1, _⟩ | ⟨_, k2, _⟩
       · omega
       · have h0 : dnE (restZ (bx6 (Sy.rows c)) (zCnt (bx6 (Sy.rows c)))).1 (restZ (bx6 (Sy.rows c)) (zCnt (bx6 (Sy.rows c)))).2 = 0 := by omega
         rw [hT.2 ⟨h0, k2⟩] at y
         cases y)
  · obtain ⟨t1, t2⟩ := hT.1 y
    rcases hk with ⟨_, k2, _⟩ | ⟨k1, _⟩
    · rw [t2] at k2; cases k2
    · first
      | (exfalso; omega)
      | (rw [E, F0, N0, L0, d1]
         rfl)
theorem zl_g_zdec : zl_c_zdec.Good Tryd.prog syG (zl_E [] [] [] []) := good_of_walk (Γ := ⟨[zb6c_open, zzc_zck], syG, [], [rc_i64, rc_u8, ztc_text, rc_done], [rc_new]⟩) (ρ := zl_E [] [] [] []) sym zdec_w rfl (fun _ _ _ _ => (ok_cons (Con.Good.env (Con.Good.up (Con.Good.up (Con.Good.up (Con.Good.up (Con.Good.up (Con.Good.up (Con.Good.up zb6g_open zzup rfl) ztup rfl) zzbup rfl) zzcup rfl) zzdup rfl) zzeup rfl) zl_up rfl) _ _ _ _) (ok_cons (Con.Good.env (Con.Good.up (Con.Good.up (Con.Good.up (Con.Good.up (Con.Good.up (Con.Good.up zzg_zck ztup rfl) zzbup rfl) zzcup rfl) zzdup rfl) zzeup rfl) zl_up rfl) _ _ _ _) (ok_mcons (MCon.Good.env (MCon.Good.up (MCon.Good.up (MCon.Good.up (MCon.Good.up (MCon.Good.up (MCon.Good.up (MCon.Good.up (MCon.Good.up (MCon.Good.up rg_i64 z6up rfl) zb6up rfl) zzup rfl) ztup rfl) zzbup rfl) zzcup rfl) zzdup rfl) zzeup rfl) zl_up rfl) _ _ _ _) (ok_mcons (MCon.Good.env (MCon.Good.up (MCon.Good.up (MCon.Good.up (MCon.Good.up (MCon.Good.up (MCon.Good.up (MCon.Good.up (MCon.Good.up (MCon.Good.up rg_u8 z6up rfl) zb6up rfl) zzup rfl) ztup rfl) zzbup rfl) zzcup rfl) zzdup rfl) zzeup rfl) zl_up rfl) _ _ _ _) (ok_mcons (MCon.Good.env (MCon.Good.up (MCon.Good.up (MCon.Good.up (MCon.Good.up (MCon.Good.up ztg_text zzbup rfl) zzcup rfl) zzdup rfl) zzeup rfl) zl_up rfl) _ _ _ _) (ok_mcons (MCon.Good.env (MCon.Good.up (MCon.Good.up (MCon.Good.up (MCon.Good.up (MCon.Good.up (MCon.Good.up (MCon.Good.up (MCon.Good.up (MCon.Good.up rg_done z6up rfl) zb6up rfl) zzup rfl) ztup rfl) zzbup rfl) zzcup rfl) zzdup rfl) zzeup rfl) zl_up rfl) _ _ _ _) (ok_acons (ACon.Good.env (ACon.Good.up (ACon.Good.up (ACon.Good.up (ACon.Good.up (ACon.Good.up (ACon.Good.up (ACon.Good.up (ACon.Good.up (ACon.Good.up rg_new z6up rfl) zb6up rfl) zzup rfl) ztup rfl) zzbup rfl) zzcup rfl) zzdup rfl) zzeup rfl) zl_up rfl) _ _ _ _) ok_nil)))))))) zdec_h
end Go.Proofs.YtikfgnmljpjnbaaDoor
