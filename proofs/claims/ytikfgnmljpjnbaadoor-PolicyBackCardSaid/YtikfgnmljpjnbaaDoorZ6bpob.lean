/-
 Layer 6 by the second engine: blobs.
-/
import Derived.Test.YtikfgnmljpjnbaaDoorSycpob
import Derived.Test.YtikfgnmljpjnbaaDoorZ6pob
import Derived.Test.YtikfgnmljpjnbaaDoorE00pob
import Derived.Test.YtikfgnmljpjnbaaDoorNumpob
namespace Go.Proofs.YtikfgnmljpjnbaaDoor
open Go.RowKit Go.Extern.Stop Go.Stop Go.Extern Go.Proofs.YtikfgnmljpjnbaaDoor.Sy
set_option linter.unusedVariables false
set_option linter.unusedSimpArgs false
def gB (l : List Value) (j : Nat) : Int := Go.RowKit.intOf (l.getD j Go.undef)
def sumI (l : List Value) : Int := (crcMore 0 (byL l) : Nat)
def tlk (l : List Value) (n : Nat) : Bool := (List.range n).all fun j => decide (gB l (l.length - 4 + j) = sumI (l.take (l.length - 4)) / 256 ^ j % 256)
theorem tlk_succ (l : List Value) (n : Nat) : tlk l (n + 1) = (tlk l n && decide (gB l (l.length - 4 + n) = sumI (l.take (l.length - 4)) / 256 ^ n % 256)) := by simp [tlk, List.range_succ]
theorem gB_rng {l : List Value} (h : isB l) {j : Nat} (hj : j < l.length) : 0 ≤ gB l j ∧ gB l j ≤ 255 := (h.get hj).2
theorem five {l : List Value} (h : isB l) (h5 : 5 ≤ l.length) : ∃ (n0 n1 n2 n3 n4 : Int) (r : List Value), l = .int .u8 n0 :: .int .u8 n1 :: .int .u8 n2 :: .int .u8 n3 :: .int .u8 n4 :: r ∧ (0 ≤ n0 ∧ n0 ≤ 255) ∧ (0 ≤ n1 ∧ n1 ≤ 255) ∧ (0 ≤ n2 ∧ n2 ≤ 255) ∧ (0 ≤ n3 ∧ n3 ≤ 255) ∧ (0 ≤ n4 ∧ n4 ≤ 255) := by
 match l, h5 with
 | x0 :: x1 :: x2 :: x3 :: x4 :: r, _ =>
   obtain ⟨n0, rfl, b0⟩ := h x0 (by simp)
   obtain ⟨n1, rfl, b1⟩ := h x1 (by simp)
   obtain ⟨n2, rfl, b2⟩ := h x2 (by simp)
   obtain ⟨n3, rfl, b3⟩ := h x3 (by simp)
   obtain ⟨n4, rfl, b4⟩ := h x4 (by simp)
   exact ⟨n0, n1, n2, n3, n4, r, rfl, b0, b1, b2, b3, b4⟩
theorem u8_toNat {n : Int} (h0 : 0 ≤ n) (h1 : n ≤ 255) : (UInt8.ofNat n.toNat).toNat = n.toNat := by simp; omega
theorem kn1 {l : List Value} (h : isB l) (h5 : 5 ≤ l.length) : ((getV (byL (Sy.rows (Value.tuple (List.drop (Int.toNat 2) (List.take (Int.toNat 5) l)).toArray))) (Int.toNat 1) : Nat) : Int) = gB l 2 := by
 obtain ⟨n0, n1, n2, n3, n4, r, rfl, b0, b1, b2, b3, b4⟩ := five h h5
 have e := u8_toNat b2.1 b2.2
 show ((getV [UInt8.ofNat n2.toNat, UInt8.ofNat n3.toNat, UInt8.ofNat n4.toNat] 1 : Nat) : Int) = n2
 simp only [getV, leV, beV, List.length_cons, List.length_nil]
 rw [if_pos (by omega)]
 show (((0 * 256 + (UInt8.ofNat n2.toNat).toNat : Nat)) : Int) = n2
 rw [e]
 omega
theorem kn2 {l : List Value} (h : isB l) (h5 : 5 ≤ l.length) : ((getV (byL (Sy.rows (Value.tuple (List.map bV (getL (byL (Sy.rows (Value.tuple (List.drop (Int.toNat 2) (List.take (Int.toNat 5) l)).toArray))) (Int.toNat 1))).toArray))) (Int.toNat 2) : Nat) : Int) = gB l 3 + 256 * gB l 4 := by
 obtain ⟨n0, n1, n2, n3, n4, r, rfl, b0, b1, b2, b3, b4⟩ := five h h5
 have e3 := u8_toNat b3.1 b3.2
 have e4 := u8_toNat b4.1 b4.2
 show ((getV (byL (List.map bV (getL [UInt8.ofNat n2.toNat, UInt8.ofNat n3.toNat, UInt8.ofNat n4.toNat] 1))) 2 : Nat) : Int) = n3 + 256 * n4
 rw [byL_bV]
 have eL : getL [UInt8.ofNat n2.toNat, UInt8.ofNat n3.toNat, UInt8.ofNat n4.toNat] 1 = [UInt8.ofNat n3.toNat, UInt8.ofNat n4.toNat] := by simp [getL]
 rw [eL]
 simp only [getV, leV, beV, List.length_cons, List.length_nil]
 rw [if_pos (by omega)]
 show ((((0 * 256 + (UInt8.ofNat n4.toNat).toNat) * 256 + (UInt8.ofNat n3.toNat).toNat : Nat)) : Int) = n3 + 256 * n4
 rw [e3, e4]
 omega
theorem u8_eq {n : Int} (h0 : 0 ≤ n) (h1 : n ≤ 255) (m : Nat) (hm : m < 256) : UInt8.ofNat n.toNat = UInt8.ofNat m ↔ n = m := by
 rw [← UInt8.toNat_inj, u8_toNat h0 h1, show (UInt8.ofNat m).toNat = m by simp; omega]
 omega
theorem kmk {l : List Value} (h : isB l) (h5 : 5 ≤ l.length) : ((({ data := (List.map Sy.byteOf (Sy.rows (Value.tuple (List.drop (Int.toNat 0) (List.take (Int.toNat 2) l)).toArray))).toArray } : ByteArray) == { data := #[UInt8.ofNat 116, UInt8.ofNat 109] }) = true) ↔ gB l 0 = 116 ∧ gB l 1 = 109 := by
 obtain ⟨n0, n1, n2, n3, n4, r, rfl, b0, b1, b2, b3, b4⟩ := five h h5
 show ((({ data := #[UInt8.ofNat n0.toNat, UInt8.ofNat n1.toNat] } : ByteArray) == { data := #[UInt8.ofNat 116, UInt8.ofNat 109] }) = true) ↔ n0 = 116 ∧ n1 = 109
 have hb : ∀ {a b : ByteArray}, (a == b) = true ↔ a = b := by
   intro a b
   cases a with | mk a => cases b with | mk b =>
   rw [ByteArray.mk.injEq, ← beq_iff_eq (a := a)]
   rfl
 rw [hb, ByteArray.mk.injEq, Array.mk.injEq, List.cons.injEq, List.cons.injEq, u8_eq b0.1 b0.2 116 (by omega), u8_eq b1.1 b1.2 109 (by omega)]
 simp
theorem opens_iff (p : List UInt8) (t0 t1 t2 t3 : UInt8) : opensB (p ++ [t0, t1, t2, t3]) = true ↔ t0 = sumByte (crcMore 0 p) 0 ∧ t1 = sumByte (crcMore 0 p) 1 ∧ t2 = sumByte (crcMore 0 p) 2 ∧ t3 = sumByte (crcMore 0 p) 3 := by
 unfold opensB
 have e : (p ++ [t0, t1, t2, t3]).length - 4 = p.length := by simp
 rw [e, List.drop_left' rfl, List.take_left' rfl]
 simp [sumBytes]
theorem byte_iff {n : Int} (h0 : 0 ≤ n) (h1 : n ≤ 255) (s i k : Nat) (hk : 2 ^ (8 * i) = k) : UInt8.ofNat n.toNat = sumByte s i ↔ n = (s : Int) / k % 256 := by
 rw [← UInt8.toNat_inj, u8_toNat h0 h1, sumByte_toNat, hk]
 constructor
 · intro h
   have : ((n.toNat : Nat) : Int) = ((s / k % 256 : Nat) : Int) := by rw [h]
   rw [Int.natCast_emod, Int.natCast_ediv] at this
   omega
 · intro h
   have : ((n.toNat : Nat) : Int) = ((s / k % 256 : Nat) : Int) := by rw [Int.natCast_emod, Int.natCast_ediv]; omega
   omega
theorem gB_drop (l : List Value) (k j : Nat) : gB l (k + j) = gB (l.drop k) j := by
 unfold gB
 rw [List.getD_eq_getElem?_getD, List.getD_eq_getElem?_getD, List.getElem?_drop]
theorem opens_tlk {l : List Value} (h : isB l) : opensB (byL l) = true ↔ 4 ≤ l.length ∧ tlk l 4 = true := by
 by_cases h4 : 4 ≤ l.length
 · have e := (List.take_append_drop (l.length - 4) l).symm
   have hl : (l.drop (l.length - 4)).length = 4 := by simp; omega
   have ht : tlk l 4 = true ↔ ∀ j, j < 4 → gB (l.drop (l.length - 4)) j = sumI (l.take (l.length - 4)) / 256 ^ j % 256 := by
     unfold tlk
     rw [List.all_eq_true]
     simp only [List.mem_range, decide_eq_true_eq, gB_drop]
   have hq := h.drop (l.length - 4)
   rw [ht]
   match hd : l.drop (l.length - 4), hl with
   | [x0, x1, x2, x3], _ =>
     rw [hd] at e hq
     obtain ⟨n0, rfl, b0⟩ := hq x0 (by simp)
     obtain ⟨n1, rfl, b1⟩ := hq x1 (by simp)
     obtain ⟨n2, rfl, b2⟩ := hq x2 (by simp)
     obtain ⟨n3, rfl, b3⟩ := hq x3 (by simp)
     have hb : byL l = byL (l.take (l.length - 4)) ++ [UInt8.ofNat n0.toNat, UInt8.ofNat n1.toNat, UInt8.ofNat n2.toNat, UInt8.ofNat n3.toNat] := by
       conv => lhs; rw [e]
       exact byL_app _ _
     rw [hb, opens_iff, byte_iff b0.1 b0.2 _ 0 1 (by decide), byte_iff b1.1 b1.2 _ 1 256 (by decide), byte_iff b2.1 b2.2 _ 2 65536 (by decide), byte_iff b3.1 b3.2 _ 3 16777216 (by decide)]
     constructor
     · rintro ⟨q0, q1, q2, q3⟩
       refine ⟨h4, fun j hj => ?_⟩
       match j, hj with
       | 0, _ => exact q0
       | 1, _ => exact q1
       | 2, _ => exact q2
       | 3, _ => exact q3
     · rintro ⟨_, q⟩
       exact ⟨q 0 (by omega), q 1 (by omega), q 2 (by omega), q 3 (by omega)⟩
 · constructor
   · intro hh
     unfold opensB at hh
     rw [decide_eq_true_eq, byL_len] at hh
     exact absurd hh.1 h4
   · intro hh
     exact absurd hh.1 h4
theorem tlk_get {l : List Value} {n : Nat} (h : tlk l n = true) {j : Nat} (hj : j < n) : gB l (l.length - 4 + j) = sumI (l.take (l.length - 4)) / 256 ^ j % 256 := by
 have := List.all_eq_true.1 h j (List.mem_range.2 hj)
 exact of_decide_eq_true this
def hdB (k : Int) (n : Int) : List Value := [.int .u8 116, .int .u8 109, .int .u8 k] ++ numB n 2
def slE (l : List Value) (k : Int) : Int := if k < 1 ∨ 6 < k then 1 else if 1024 < l.length then 5 else 0
def slV (l : List Value) (k : Int) : Value := if slE l k = 0 then sealV (hdB k l.length ++ l) else .tuple #[]
def kdP (l : List Value) : Prop := 5 ≤ l.length ∧ gB l 0 = 116 ∧ gB l 1 = 109 ∧ 1 ≤ gB l 2 ∧ gB l 2 ≤ 6 ∧ gB l 3 + 256 * gB l 4 ≤ 1024
instance (l : List Value) : Decidable (kdP l) := by unfold kdP; infer_instance
def kdE (l : List Value) : Int := if kdP l then 0 else 3
def kdK (l : List Value) : Int := if kdP l then gB l 2 else 0
def kdN (l : List Value) : Int := if kdP l then 9 + (gB l 3 + 256 * gB l 4) else 0
def blE (l : List Value) (k : Int) : Int := if k < 1 ∨ 6 < k then 1 else if kdE l ≠ 0 ∨ kdK l ≠ k ∨ kdN l ≠ l.length then 3 else opnE l
def blV (l : List Value) (k : Int) : Value := if blE l k = 0 then .tuple ((l.take (l.length - 4)).drop 5).toArray else .tuple #[]
theorem bt_iff {l : List Value} {i : Int} (h0 : 0 ≤ i) (h1 : i < 4) : (Go.RowKit.intOf ((List.drop (l.length - 4) l).getD i.toNat Go.undef) = IntKind.u8.wrap ((((crcMore 0 (byL (List.take (l.length - 4) l)) : Nat) : Int)).fdiv (2 ^ min (IntKind.i64.wrap (8 * i)).toNat IntKind.u32.bits))) ↔ gB l (l.length - 4 + i.toNat) = sumI (l.take (l.length - 4)) / 256 ^ i.toNat % 256 := by
 rw [gB_drop]
 unfold gB sumI
 have hi : i = 0 ∨ i = 1 ∨ i = 2 ∨ i = 3 := by omega
 rcases hi with rfl | rfl | rfl | rfl
 · rw [fdp _ 1 (by decide) (by decide), wrap_u8]; rfl
 · rw [fdp _ 256 (by decide) (by decide), wrap_u8]; rfl
 · rw [fdp _ 65536 (by decide) (by decide), wrap_u8]; rfl
 · rw [fdp _ 16777216 (by decide) (by decide), wrap_u8]; rfl
theorem sl_spec (l : List Value) (k : Int) : (slE l k = 1 ∧ (k < 1 ∨ 6 < k)) ∨ (slE l k = 5 ∧ 1 ≤ k ∧ k ≤ 6 ∧ 1024 < l.length) ∨ (slE l k = 0 ∧ 1 ≤ k ∧ k ≤ 6 ∧ l.length ≤ 1024) := by
 unfold slE
 split
 · left; exact ⟨rfl, by assumption⟩
 · split
   · right; left; exact ⟨rfl, by omega, by omega, by assumption⟩
   · right; right; exact ⟨rfl, by omega, by omega, by omega⟩
theorem kd_spec (l : List Value) : (kdE l = 0 ∧ kdK l = gB l 2 ∧ kdN l = 9 + (gB l 3 + 256 * gB l 4) ∧ 5 ≤ l.length ∧ gB l 0 = 116 ∧ gB l 1 = 109 ∧ 1 ≤ gB l 2 ∧ gB l 2 ≤ 6 ∧ gB l 3 + 256 * gB l 4 ≤ 1024) ∨ (kdE l = 3 ∧ kdK l = 0 ∧ kdN l = 0 ∧ (l.length < 5 ∨ gB l 0 ≠ 116 ∨ gB l 1 ≠ 109 ∨ gB l 2 < 1 ∨ 6 < gB l 2 ∨ 1024 < gB l 3 + 256 * gB l 4)) := by
 unfold kdE kdK kdN
 by_cases hP : kdP l
 · left; simp only [if_pos hP]; obtain ⟨p0, p1, p2, p3, p4, p5⟩ := hP; exact ⟨trivial, trivial, trivial, p0, p1, p2, p3, p4, p5⟩
 · right; simp only [if_neg hP]; refine ⟨trivial, trivial, trivial, ?_⟩; unfold kdP at hP; omega
theorem op_spec {l : List Value} (h : isB l) : (opnE l = 0 ∧ opnV l = .tuple (l.take (l.length - 4)).toArray ∧ 4 ≤ l.length ∧ tlk l 4 = true ∧ opensB (byL l) = true) ∨ (opnE l = 4 ∧ opnV l = .tuple #[] ∧ (l.length < 4 ∨ tlk l 4 = false) ∧ opensB (byL l) = false) := by
 have ho := opens_tlk h
 unfold opnE opnV
 cases hx : opensB (byL l) with
 | true => left; rw [hx] at ho; simp only [if_true]; exact ⟨trivial, trivial, (ho.1 rfl).1, (ho.1 rfl).2, trivial⟩
 | false =>
   right; rw [hx] at ho; simp only [Bool.false_eq_true, if_false]
   refine ⟨trivial, trivial, ?_, trivial⟩
   by_cases h4 : l.length < 4
   · exact .inl h4
   · cases ht : tlk l 4 with
     | false => exact .inr rfl
     | true => exact absurd (ho.2 ⟨by omega, ht⟩) (by simp)
theorem bl_spec (l : List Value) (k : Int) : (blE l k = 1 ∧ (k < 1 ∨ 6 < k)) ∨ (blE l k = 3 ∧ 1 ≤ k ∧ k ≤ 6 ∧ (kdE l ≠ 0 ∨ kdK l ≠ k ∨ kdN l ≠ l.length)) ∨ (blE l k = opnE l ∧ 1 ≤ k ∧ k ≤ 6 ∧ kdE l = 0 ∧ kdK l = k ∧ kdN l = l.length) := by
 unfold blE
 split
 · left; exact ⟨rfl, by assumption⟩
 · split
   · right; left; exact ⟨rfl, by omega, by omega, by assumption⟩
   · right; right; exact ⟨rfl, by omega, by omega, by omega, by omega, by omega⟩
noncomputable def zb6I : Nat → List Value → Int
 | 5, [l, .int _ k] => slE (rows l) k
 | 6, [l] => kdE (rows l)
 | 7, [l] => kdK (rows l)
 | 8, [l] => kdN (rows l)
 | 9, [l, .int _ k] => blE (rows l) k
 | i, l => z6I i l
noncomputable def zb6B : Nat → List Value → Bool
 | 2, [l, .int _ n] => tlk (rows l) n.toNat
 | i, l => z6B i l
noncomputable def zb6V : Nat → List Value → Value
 | 7, [l, .int _ k] => slV (rows l) k
 | 8, [l, .int _ k] => blV (rows l) k
 | i, l => z6V i l
noncomputable abbrev zb6E (iv : List Int) (bv : List Bool) (vv : List Value) (sv : List ByteArray) : Env := { iv := iv, bv := bv, vv := vv, sv := sv, fi := zb6I, fb := zb6B, fv := zb6V, et := 101 }
set_option maxHeartbeats 8000000 in
theorem zb6up : Agree 5 2 7 (z6E [] [] [] []) (zb6E [] [] [] []) := ⟨rfl, (by
   intro f hf
   funext l
   show zb6I f l = z6I f l
   unfold zb6I
   split <;> first | rfl | omega), (by
   intro f hf
   funext l
   show zb6B f l = z6B f l
   unfold zb6B
   split <;> first | rfl | omega), (by
   intro f hf
   funext l
   show zb6V f l = z6V f l
   unfold zb6V
   split <;> first | rfl | omega)⟩
theorem zb6i_rn (l : Value) (k1 : IntKind) (k : Int) : zb6I 0 [l, .int k1 k] = ((getV (byL (rows l)) k.toNat : Nat) : Int) := rfl
theorem zb6i_sum (l : Value) : zb6I 3 [l] = ((crcMore 0 (byL (rows l)) : Nat) : Int) := rfl
theorem zb6i_ope (l : Value) : zb6I 4 [l] = opnE (rows l) := rfl
theorem zb6i_sle (l : Value) (k1 : IntKind) (k : Int) : zb6I 5 [l, .int k1 k] = slE (rows l) k := rfl
theorem zb6i_kde (l : Value) : zb6I 6 [l] = kdE (rows l) := rfl
theorem zb6i_kdk (l : Value) : zb6I 7 [l] = kdK (rows l) := rfl
theorem zb6i_kdn (l : Value) : zb6I 8 [l] = kdN (rows l) := rfl
theorem zb6i_ble (l : Value) (k1 : IntKind) (k : Int) : zb6I 9 [l, .int k1 k] = blE (rows l) k := rfl
theorem zb6b_okr (l : Value) : zb6B 0 [l] = okR (rows l) := rfl
theorem zb6b_otk (l : Value) (k1 : IntKind) (n : Int) : zb6B 2 [l, .int k1 n] = tlk (rows l) n.toNat := rfl
theorem zb6v_rl (l : Value) (k1 : IntKind) (k : Int) : zb6V 0 [l, .int k1 k] = Value.tuple ((getL (byL (rows l)) k.toNat).map bV).toArray := rfl
theorem zb6v_seal (l : Value) : zb6V 1 [l] = sealV (rows l) := rfl
theorem zb6v_opv (l : Value) : zb6V 2 [l] = opnV (rows l) := rfl
theorem zb6v_p2 (l : Value) (k1 : IntKind) (v : Int) : zb6V 4 [l, .int k1 v] = putV (rows l) v 2 := rfl
theorem zb6v_slv (l : Value) (k1 : IntKind) (k : Int) : zb6V 7 [l, .int k1 k] = slV (rows l) k := rfl
theorem zb6v_blv (l : Value) (k1 : IntKind) (k : Int) : zb6V 8 [l, .int k1 k] = blV (rows l) k := rfl
def opened_tree : Tree :=
 (.br (lt_ (.ofI (.vop (.len 1) (.cons o0_ .nil))) (.lit 4))
 (.ret (.tup (.cons (.hs .no (.cons (.int .u8) .nil) (.tup .nil)) (.cons (.iface 101 (.int .i64 (.lit 4))) .nil))))
 (.need (an_ (le_ (.lit 0) (wr_ (sb_ (.ofI (.vop (.len 1) (.cons o0_ .nil))) (.lit 4)))) (le_ (wr_ (sb_ (.ofI (.vop (.len 1) (.cons o0_ .nil))) (.lit 4))) (.ofI (.vop (.len 1) (.cons o0_ .nil)))))
 (.need (an_ (le_ (.lit 0) (wr_ (sb_ (.ofI (.vop (.len 1) (.cons o0_ .nil))) (.lit 4)))) (le_ (wr_ (sb_ (.ofI (.vop (.len 1) (.cons o0_ .nil))) (.lit 4))) (.ofI (.vop (.len 1) (.cons o0_ .nil)))))
 (.need (.bapp 0 (.cons (.vop (.sub 1) (.cons o0_ (.cons (.int .i64 (.lit 0)) (.cons (.int .i64 (wr_ (sb_ (.ofI (.vop (.len 1) (.cons o0_ .nil))) (.lit 4)))) .nil)))) .nil))
 (.loop ⟨1, 0, 0, 0⟩ (an_ (le_ (.lit 0) (.lit 0)) (an_ (le_ (.lit 0) (.lit 4)) (an_ (le_ (.lit 4) (.ofI (.vop (.len 1) (.cons o0_ .nil)))) (.bapp 2 (.cons o0_ (.cons (.int .i64 (.lit 0)) .nil)))))) (an_ (le_ (.lit 0) v0_) (an_ (le_ v0_ (.lit 4)) (an_ (le_ (.lit 4) (.ofI (.vop (.len 1) (.cons o0_ .nil)))) (.bapp 2 (.cons o0_ (.cons z0_ .nil))))))
 (.br (lt_ v0_ (.ofI (.vop (.len 1) (.cons (.vop (.sub 1) (.cons o0_ (.cons (.int .i64 (wr_ (sb_ (.ofI (.vop (.len 1) (.cons o0_ .nil))) (.lit 4)))) (.cons (.int .i64 (.ofI (.vop (.len 1) (.cons o0_ .nil)))) .nil)))) .nil))))
 (.need (an_ (le_ (.lit 0) v0_) (lt_ v0_ (.ofI (.vop (.len 1) (.cons (.vop (.sub 1) (.cons o0_ (.cons (.int .i64 (wr_ (sb_ (.ofI (.vop (.len 1) (.cons o0_ .nil))) (.lit 4)))) (.cons (.int .i64 (.ofI (.vop (.len 1) (.cons o0_ .nil)))) .nil)))) .nil)))))
 (.need (le_ (.lit 0) (wr_ (ml_ (.lit 8) v0_)))
 (.br (.not (eq_ (.ofI (.vop (.sel 1 0) (.cons (.vop (.sub 1) (.cons o0_ (.cons (.int .i64 (wr_ (sb_ (.ofI (.vop (.len 1) (.cons o0_ .nil))) (.lit 4)))) (.cons (.int .i64 (.ofI (.vop (.len 1) (.cons o0_ .nil)))) .nil)))) (.cons z0_ .nil)))) (.wrap .u8 (.i2 (.shr .u32) (.iapp 3 (.cons (.vop (.sub 1) (.cons o0_ (.cons (.int .i64 (.lit 0)) (.cons (.int .i64 (wr_ (sb_ (.ofI (.vop (.len 1) (.cons o0_ .nil))) (.lit 4)))) .nil)))) .nil)) (wr_ (ml_ (.lit 8) v0_))))))
 (.ret (.tup (.cons (.hs .no (.cons (.int .u8) .nil) (.tup .nil)) (.cons (.iface 101 (.int .i64 (.lit 4))) .nil))))
 (.back (an_ (le_ (.lit 0) (wr_ (ad_ v0_ (.lit 1)))) (an_ (le_ (wr_ (ad_ v0_ (.lit 1))) (.lit 4)) (an_ (le_ (.lit 4) (.ofI (.vop (.len 1) (.cons o0_ .nil)))) (.bapp 2 (.cons o0_ (.cons (.int .i64 (wr_ (ad_ v0_ (.lit 1)))) .nil)))))) (sb_ (.lit 4) (wr_ (ad_ v0_ (.lit 1)))) (sb_ (.lit 4) v0_)))))
 (.need (le_ (ad_ (.lit 0) (.ofI (.vop (.len 1) (.cons (.vop (.sub 1) (.cons o0_ (.cons (.int .i64 (.lit 0)) (.cons (.int .i64 (wr_ (sb_ (.ofI (.vop (.len 1) (.cons o0_ .nil))) (.lit 4)))) .nil)))) .nil)))) (.lit 140737488355328))
 (.ret (.tup (.cons (.hs .no (.cons (.int .u8) .nil) (.vop (.sub 1) (.cons o0_ (.cons (.int .i64 (.lit 0)) (.cons (.int .i64 (wr_ (sb_ (.ofI (.vop (.len 1) (.cons o0_ .nil))) (.lit 4)))) .nil))))) (.cons (.cst .nilI) .nil)))))))))))
abbrev zb6c_opened : Con := ⟨39, [(.hs .no (.cons (.int .u8) .nil) o0_)], (an_ (.bapp 0 (.cons o0_ .nil)) (le_ (.ofI (.vop (.len 1) (.cons o0_ .nil))) (.lit 140737488355000))), (.tup (.cons (.hs .no (.cons (.int .u8) .nil) (.vapp 2 (.cons o0_ .nil))) (.cons (.err (.iapp 4 (.cons o0_ .nil))) .nil))), ⟨0, 0, 1, 0⟩, none⟩
theorem opened_w : walk Tryd.prog 101 ⟨[z6c_sum], syG, [], [], []⟩ [⟨0, ⟨1, 0, 0, 0⟩, [(27, z0_)], none, (an_ (le_ (.lit 0) v0_) (an_ (le_ v0_ (.lit 4)) (an_ (le_ (.lit 4) (.ofI (.vop (.len 1) (.cons o0_ .nil)))) (.bapp 2 (.cons o0_ (.cons z0_ .nil)))))), (sb_ (.lit 4) v0_), 0, []⟩] (.tup (.cons (.s (.cons (.int .u8) .nil)) (.cons .v .nil))) zb6c_opened zb6c_opened.n 3000 = some opened_tree := by kernel_rfl
theorem opened_h (l : Value) : Hyp_ zb6c_opened opened_tree (zb6E [] [] [l] []) := by
 intro hc hty
 simp only [zb6c_opened, Sy.holds, zb6E, denV, denI, denB, denL, I2.den, VOp.den, List.getD_cons_zero, List.getD_cons_succ, Cst.den, syso, syse, syio, sybo, zb6b_okr, B2.ofInts, B2.denI, B2.denB, if_true, Bool.false_eq_true, if_false, Nat.div_one, Nat.mul_one, Nat.add_zero] at hc
 simp only [zb6c_opened, patsTyp, patTyp, patTypL, zb6E, denV, denL, List.getD_cons_zero, List.getD_cons_succ, and_true, true_and] at hty
 have hL_l : typ (.sl (.cons (.int .u8) .nil)) l := by first | exact hty | exact hty.1 | exact hty.2 | exact hty.1.1 | exact hty.1.2 | exact hty.2.1 | exact hty.2.2 | exact hty.2.2.1 | exact hty.2.2.2
 have hN_l := typ_len (n := 1) hL_l rfl (by omega)
 simp only [Nat.div_one, Nat.mul_one] at hN_l
 unfold opened_tree
 simp only [zb6c_opened, Tree.holds, Sy.holds, AllN, Env.more, zb6E, List.cons_append, List.nil_append, List.append_nil, denV, denI, denB, denL, I2.den, VOp.den, List.getD_cons_zero, List.getD_cons_succ, Cst.den, syso, syse, syio, sybo, zb6i_sum, zb6i_ope, zb6b_okr, zb6b_otk, zb6v_opv, List.map_nil, List.map_cons, B2.ofInts, B2.denI, B2.denB, if_true, Bool.false_eq_true, if_false, Nat.div_one, Nat.mul_one, Nat.add_zero]
 have hB := isB_typ hL_l hc.1
 have hl47 := hc.2
 refine ⟨fun h0 => ?_, fun h0 => ?_⟩
 refine ?a0; rotate_left
 have wf0 := wr_i64 (((((rows l).length : Nat)) : Int) - 4)
 refine ⟨?_, fun h1 => ?_⟩
 refine ?a1; rotate_left
 refine ⟨?_, fun h2 => ?_⟩
 refine ?a2; rotate_left
 refine ⟨?_, fun h3 => ?_⟩
 refine ?a3; rotate_left
 refine ⟨?_, ?_⟩
 ·
  exact ⟨by omega, by omega, by omega, rfl⟩
 intro i0a hi0
 refine ⟨fun h4 => ?_, fun h4 => ?_⟩
 refine ⟨?_, fun h5 => ?_⟩
 refine ?a4; rotate_left
 have wf1 := wr_i64 (8 * i0a)
 refine ⟨?_, fun h6 => ?_⟩
 refine ?a5; rotate_left
 refine ⟨fun h7 => ?_, fun h7 => ?_⟩
 refine ?a6; rotate_left
 have wf2 := wr_i64 (i0a + 1)
 refine ⟨?_, ?_⟩
 ·
  have e : IntKind.wrap .i64 (i0a + 1) = i0a + 1 := by omega
  have w : IntKind.wrap .i64 (((Sy.rows l).length : Int) - 4) = ((Sy.rows l).length : Int) - 4 := by have := wr_i64 (((Sy.rows l).length : Int) - 4); omega
  have wn : (((Sy.rows l).length : Int) - 4).toNat = (Sy.rows l).length - 4 := by omega
  have wl : List.take (((Sy.rows l).length : Int)).toNat (Sy.rows l) = Sy.rows l := List.take_of_length_le (by omega)
  simp only [w, wn, wl, rows_tup, Int.toNat_zero, List.drop_zero, List.length_drop] at *
  obtain ⟨q1, q2, q3, q4⟩ := hi0
  rw [e]
  refine ⟨by omega, by omega, by omega, ?_⟩
  rw [show (i0a + 1).toNat = i0a.toNat + 1 by omega, tlk_succ, Bool.and_eq_true]
  exact ⟨q4, decide_eq_true ((bt_iff (by omega) (by omega)).1 (Classical.not_not.1 h7))⟩
 ·
  have w : IntKind.wrap .i64 (((Sy.rows l).length : Int) - 4) = ((Sy.rows l).length : Int) - 4 := by have := wr_i64 (((Sy.rows l).length : Int) - 4); omega
  have wn : (((Sy.rows l).length : Int) - 4).toNat = (Sy.rows l).length - 4 := by omega
  have wl : List.take (((Sy.rows l).length : Int)).toNat (Sy.rows l) = Sy.rows l := List.take_of_length_le (by omega)
  simp only [w, wn, wl, rows_tup, Int.toNat_zero, List.drop_zero, List.length_drop] at *
  omega
 refine ⟨?_, fun h8 => ?_⟩
 refine ?a7; rotate_left
 refine ?a8; rotate_left
 case a0 | a6 | a8 =>
  by_cases hs : (Sy.rows l).length < 4
  · rcases op_spec hB with ⟨h5, h6, h4, _⟩ | ⟨h5, h6, _⟩
    · exfalso; omega
    · first
      | (rw [h5, h6]
         done)
      | (rw [h5, h6]
         rfl)
      | (exfalso; omega)
  · first
    | (exfalso; omega)
    | (
       have w : IntKind.wrap .i64 (((Sy.rows l).length : Int) - 4) = ((Sy.rows l).length : Int) - 4 := by have := wr_i64 (((Sy.rows l).length : Int) - 4); omega
       have wn : (((Sy.rows l).length : Int) - 4).toNat = (Sy.rows l).length - 4 := by omega
       have wl : List.take (((Sy.rows l).length : Int)).toNat (Sy.rows l) = Sy.rows l := List.take_of_length_le (by omega)
       simp only [w, wn, wl, rows_tup, Int.toNat_zero, List.drop_zero, List.length_drop] at *
       obtain ⟨q1, q2, q3, q4⟩ := hi0
       by_cases hlt : i0a < 4
       · rcases op_spec hB with ⟨g5, g6, g4, g7, _⟩ | ⟨g5, g6, _⟩
         · first
           | (exfalso
              exact h7 ((bt_iff (by omega) (by omega)).2 (tlk_get g7 (by omega))))
           | (exfalso; omega)
         · first
           | (rw [g5, g6]
              done)
           | (rw [g5, g6]
              rfl)
           | (exfalso; omega)
       · first
         | (exfalso; omega)
         | (have e4 : i0a.toNat = 4 := by omega
            rw [e4] at q4
            rcases op_spec hB with ⟨g5, g6, _⟩ | ⟨g5, g6, g7, _⟩
            · rw [g5, g6]; rfl
            · exfalso
              rcases g7 with g7 | g7
              · omega
              · rw [g7] at q4; cases q4))
 case a1 | a2 | a3 | a4 | a5 | a7 =>
  first
  | omega
  | exact True.intro
  | exact okR_isB hB
  | exact ⟨okR_isB hB, hl47⟩
  | exact okR_isB ((hB.take _).drop _)
  | exact okR_isB (isB_bV _)
  | (refine ⟨okR_isB ((hB.take _).drop _), ?_⟩
     simp only [rows_tup, List.length_drop, List.length_take]
     omega)
  | (simp only [rows_tup, List.length_append, List.length_cons, List.length_nil, List.length_drop, List.length_take]
     omega)
theorem zb6g_opened : zb6c_opened.Good Tryd.prog syG (zb6E [] [] [] []) := good_of_walk (Γ := ⟨[z6c_sum], syG, [], [], []⟩) (ρ := zb6E [] [] [] []) sym opened_w rfl (fun _ _ _ _ => (ok_cons (Con.Good.env (Con.Good.up z6g_sum zb6up rfl) _ _ _ _) ok_nil)) opened_h
def known_tree : Tree :=
 (.br (le_ (.lit 1) v0_)
 (.ret (.bool (le_ v0_ (.lit 6))))
 (.ret (.bool (.tt false))))
abbrev zb6c_known : Con := ⟨36, [(.int .u8 v0_)], (.tt true), (.bool (an_ (le_ (.lit 1) v0_) (le_ v0_ (.lit 6)))), ⟨1, 0, 0, 0⟩, none⟩
theorem known_w : walk Tryd.prog 101 ⟨[], syG, [], [], []⟩ [] .v zb6c_known zb6c_known.n 3000 = some known_tree := by kernel_rfl
theorem known_h (k : Int) : Hyp_ zb6c_known known_tree (zb6E [k] [] [] []) := by
 intro hc hty
 simp only [zb6c_known, Sy.holds, zb6E, denV, denI, denB, denL, I2.den, VOp.den, List.getD_cons_zero, List.getD_cons_succ, Cst.den, syso, syse, syio, sybo, B2.ofInts, B2.denI, B2.denB, if_true, Bool.false_eq_true, if_false, Nat.div_one, Nat.mul_one, Nat.add_zero] at hc
 simp only [zb6c_known, patsTyp, patTyp, patTypL, zb6E, denV, denL, List.getD_cons_zero, List.getD_cons_succ, and_true, true_and] at hty
 unfold known_tree
 simp only [zb6c_known, Tree.holds, Sy.holds, zb6E, denV, denI, denB, denL, I2.den, VOp.den, List.getD_cons_zero, List.getD_cons_succ, Cst.den, syso, syse, syio, sybo, B2.ofInts, B2.denI, B2.denB, if_true, Bool.false_eq_true, if_false, Nat.div_one, Nat.mul_one, Nat.add_zero]
 refine ⟨fun h0 => ?_, fun h0 => ?_⟩
 refine ?a0; rotate_left
 refine ?a1; rotate_left
 case a0 | a1 =>
  all_goals first | omega | rfl | (simp only [Value.tuple.injEq, Value.agg.injEq, Value.int.injEq, Value.bool.injEq, Array.mk.injEq, List.cons.injEq, true_and, and_true]; omega) | (refine congrArg Value.bool (Bool.eq_iff_iff.2 ?_); simp only [beq_iff_eq, decide_eq_true_eq, true_iff, false_iff, Bool.false_eq_true, Bool.not_eq_true', Bool.and_eq_true, Bool.or_eq_true, decide_eq_false_iff_not]; omega)
theorem zb6g_known : zb6c_known.Good Tryd.prog syG (zb6E [] [] [] []) := good_of_walk (Γ := ⟨[], syG, [], [], []⟩) (ρ := zb6E [] [] [] []) sym known_w rfl (fun _ _ _ _ => ok_nil) known_h
def kind_tree : Tree :=
 (.br (lt_ (.ofI (.vop (.len 1) (.cons o0_ .nil))) (.lit 5))
 (.ret (.tup (.cons (.int .u8 (.lit 0)) (.cons (.int .i64 (.lit 0)) (.cons (.iface 101 (.int .i64 (.lit 3))) .nil)))))
 (.need (le_ (.lit 2) (.ofI (.vop (.len 1) (.cons o0_ .nil))))
 (.br (.not (.veq (.vop .b2s (.cons (.vop (.sub 1) (.cons o0_ (.cons (.int .i64 (.lit 0)) (.cons (.int .i64 (.lit 2)) .nil)))) .nil)) (.cst (.strc [116, 109]))))
 (.ret (.tup (.cons (.int .u8 (.lit 0)) (.cons (.int .i64 (.lit 0)) (.cons (.iface 101 (.int .i64 (.lit 3))) .nil)))))
 (.need (le_ (.lit 5) (.ofI (.vop (.len 1) (.cons o0_ .nil))))
 (.need (.bapp 0 (.cons (.vop (.sub 1) (.cons o0_ (.cons (.int .i64 (.lit 2)) (.cons (.int .i64 (.lit 5)) .nil)))) .nil))
 (.need (.bapp 0 (.cons (.vop (.sub 1) (.cons o0_ (.cons (.int .i64 (.lit 2)) (.cons (.int .i64 (.lit 5)) .nil)))) .nil))
 (.need (.bapp 0 (.cons (.vapp 0 (.cons (.vop (.sub 1) (.cons o0_ (.cons (.int .i64 (.lit 2)) (.cons (.int .i64 (.lit 5)) .nil)))) (.cons (.int .i64 (.lit 1)) .nil))) .nil))
 (.br (.not (an_ (le_ (.lit 1) (.iapp 0 (.cons (.vop (.sub 1) (.cons o0_ (.cons (.int .i64 (.lit 2)) (.cons (.int .i64 (.lit 5)) .nil)))) (.cons (.int .i64 (.lit 1)) .nil)))) (le_ (.iapp 0 (.cons (.vop (.sub 1) (.cons o0_ (.cons (.int .i64 (.lit 2)) (.cons (.int .i64 (.lit 5)) .nil)))) (.cons (.int .i64 (.lit 1)) .nil))) (.lit 6))))
 (.ret (.tup (.cons (.int .u8 (.lit 0)) (.cons (.int .i64 (.lit 0)) (.cons (.iface 101 (.int .i64 (.lit 3))) .nil)))))
 (.br (lt_ (.lit 1024) (wr_ (.iapp 0 (.cons (.vapp 0 (.cons (.vop (.sub 1) (.cons o0_ (.cons (.int .i64 (.lit 2)) (.cons (.int .i64 (.lit 5)) .nil)))) (.cons (.int .i64 (.lit 1)) .nil))) (.cons (.int .i64 (.lit 2)) .nil)))))
 (.ret (.tup (.cons (.int .u8 (.lit 0)) (.cons (.int .i64 (.lit 0)) (.cons (.iface 101 (.int .i64 (.lit 3))) .nil)))))
 (.ret (.tup (.cons (.int .u8 (.iapp 0 (.cons (.vop (.sub 1) (.cons o0_ (.cons (.int .i64 (.lit 2)) (.cons (.int .i64 (.lit 5)) .nil)))) (.cons (.int .i64 (.lit 1)) .nil)))) (.cons (.int .i64 (wr_ (ad_ (.lit 9) (wr_ (.iapp 0 (.cons (.vapp 0 (.cons (.vop (.sub 1) (.cons o0_ (.cons (.int .i64 (.lit 2)) (.cons (.int .i64 (.lit 5)) .nil)))) (.cons (.int .i64 (.lit 1)) .nil))) (.cons (.int .i64 (.lit 2)) .nil))))))) (.cons (.cst .nilI) .nil))))))))))))))
abbrev zb6c_kind : Con := ⟨35, [(.hs .no (.cons (.int .u8) .nil) o0_)], (an_ (.bapp 0 (.cons o0_ .nil)) (le_ (.ofI (.vop (.len 1) (.cons o0_ .nil))) (.lit 140737488355000))), (.tup (.cons (.int .u8 (.iapp 7 (.cons o0_ .nil))) (.cons (.int .i64 (.iapp 8 (.cons o0_ .nil))) (.cons (.err (.iapp 6 (.cons o0_ .nil))) .nil)))), ⟨0, 0, 1, 0⟩, none⟩
theorem kind_w : walk Tryd.prog 101 ⟨[zb6c_known], syG, [], [rc_u8, rc_u16], [rc_new]⟩ [] .v zb6c_kind zb6c_kind.n 3000 = some kind_tree := by kernel_rfl
theorem kind_h (l : Value) : Hyp_ zb6c_kind kind_tree (zb6E [] [] [l] []) := by
 intro hc hty
 simp only [zb6c_kind, Sy.holds, zb6E, denV, denI, denB, denL, I2.den, VOp.den, List.getD_cons_zero, List.getD_cons_succ, Cst.den, syso, syse, syio, sybo, zb6b_okr, List.map_nil, List.map_cons, B2.ofInts, B2.denI, B2.denB, if_true, Bool.false_eq_true, if_false, Nat.div_one, Nat.mul_one, Nat.add_zero] at hc
 simp only [zb6c_kind, patsTyp, patTyp, patTypL, zb6E, denV, denL, List.getD_cons_zero, List.getD_cons_succ, and_true, true_and] at hty
 have hL_l : typ (.sl (.cons (.int .u8) .nil)) l := by first | exact hty | exact hty.1 | exact hty.2 | exact hty.1.1 | exact hty.1.2 | exact hty.2.1 | exact hty.2.2 | exact hty.2.2.1 | exact hty.2.2.2
 have hN_l := typ_len (n := 1) hL_l rfl (by omega)
 simp only [Nat.div_one, Nat.mul_one] at hN_l
 unfold kind_tree
 simp only [zb6c_kind, Tree.holds, Sy.holds, zb6E, denV, denI, denB, denL, I2.den, VOp.den, List.getD_cons_zero, List.getD_cons_succ, Cst.den, syso, syse, syio, sybo, zb6i_rn, zb6i_kde, zb6i_kdk, zb6i_kdn, zb6b_okr, zb6v_rl, List.map_nil, List.map_cons, B2.ofInts, B2.denI, B2.denB, if_true, Bool.false_eq_true, if_false, Nat.div_one, Nat.mul_one, Nat.add_zero]
 have hB := isB_typ hL_l hc.1
 have hl47 := hc.2
 refine ⟨fun h0 => ?_, fun h0 => ?_⟩
 refine ?a0; rotate_left
 refine ⟨?_, fun h1 => ?_⟩
 refine ?a1; rotate_left
 refine ⟨fun h2 => ?_, fun h2 => ?_⟩
 refine ?a2; rotate_left
 refine ⟨?_, fun h3 => ?_⟩
 refine ?a3; rotate_left
 refine ⟨?_, fun h4 => ?_⟩
 refine ?a4; rotate_left
 refine ⟨?_, fun h5 => ?_⟩
 refine ?a5; rotate_left
 refine ⟨?_, fun h6 => ?_⟩
 refine ?a6; rotate_left
 refine ⟨fun h7 => ?_, fun h7 => ?_⟩
 refine ?a7; rotate_left
 refine ⟨fun h8 => ?_, fun h8 => ?_⟩
 refine ?a8; rotate_left
 refine ?a9; rotate_left
 case a0 | a2 | a7 | a8 | a9 =>
  have g0 : Go.RowKit.intOf ((Sy.rows l).getD (Int.toNat 0) Go.undef) = gB (Sy.rows l) 0 := rfl
  have g1 : Go.RowKit.intOf ((Sy.rows l).getD (Int.toNat 1) Go.undef) = gB (Sy.rows l) 1 := rfl
  have g2 : Go.RowKit.intOf ((Sy.rows l).getD (Int.toNat 2) Go.undef) = gB (Sy.rows l) 2 := rfl
  have g3 : Go.RowKit.intOf ((Sy.rows l).getD (Int.toNat 3) Go.undef) = gB (Sy.rows l) 3 := rfl
  have g4 : Go.RowKit.intOf ((Sy.rows l).getD (Int.toNat 4) Go.undef) = gB (Sy.rows l) 4 := rfl
  by_cases h5 : 5 ≤ (Sy.rows l).length
  · have b2 := gB_rng hB (j := 2) (by omega)
    have b3 := gB_rng hB (j := 3) (by omega)
    have b4 := gB_rng hB (j := 4) (by omega)
    have w1 : IntKind.wrap .i64 (gB (Sy.rows l) 3 + 256 * gB (Sy.rows l) 4) = gB (Sy.rows l) 3 + 256 * gB (Sy.rows l) 4 := by have := wr_i64 (gB (Sy.rows l) 3 + 256 * gB (Sy.rows l) 4); omega
    have w2 : IntKind.wrap .i64 (9 + (gB (Sy.rows l) 3 + 256 * gB (Sy.rows l) 4)) = 9 + (gB (Sy.rows l) 3 + 256 * gB (Sy.rows l) 4) := by have := wr_i64 (9 + (gB (Sy.rows l) 3 + 256 * gB (Sy.rows l) 4)); omega
    have w3 : IntKind.wrap .i64 (gB (Sy.rows l) 3) = gB (Sy.rows l) 3 := by have := wr_i64 (gB (Sy.rows l) 3); omega
    have w4 : IntKind.wrap .i64 (gB (Sy.rows l) 4) = gB (Sy.rows l) 4 := by have := wr_i64 (gB (Sy.rows l) 4); omega
    have w5 : IntKind.wrap .i64 (256 * gB (Sy.rows l) 4) = 256 * gB (Sy.rows l) 4 := by have := wr_i64 (256 * gB (Sy.rows l) 4); omega
    have w6 : IntKind.wrap .i64 (9 + gB (Sy.rows l) 3) = 9 + gB (Sy.rows l) 3 := by have := wr_i64 (9 + gB (Sy.rows l) 3); omega
    have w7 : IntKind.wrap .i64 (9 + gB (Sy.rows l) 3 + 256 * gB (Sy.rows l) 4) = 9 + (gB (Sy.rows l) 3 + 256 * gB (Sy.rows l) 4) := by have := wr_i64 (9 + gB (Sy.rows l) 3 + 256 * gB (Sy.rows l) 4); omega
    simp only [kn1 hB h5, kn2 hB h5, kmk hB h5, g0, g1, g2, g3, g4, w1, w2, w3, w4, w5, w6, w7] at *
    rcases kd_spec (Sy.rows l) with ⟨k1, k2, k3, kr⟩ | ⟨k1, k2, k3, kr⟩
    · first
      | (exfalso; omega)
      | (simp only [k1, k2, k3]
         done)
      | (simp only [k1, k2, k3]
         rfl)
    · first
      | (simp only [k1, k2, k3]
         done)
      | (simp only [k1, k2, k3]
         rfl)
      | (exfalso; omega)
  · rcases kd_spec (Sy.rows l) with ⟨k1, k2, k3, kr⟩ | ⟨k1, k2, k3, kr⟩
    · exfalso; omega
    · first
      | (simp only [k1, k2, k3]
         done)
      | (simp only [k1, k2, k3]
         rfl)
      | (exfalso; omega)
 case a1 | a3 | a4 | a5 | a6 =>
  first
  | omega
  | exact okR_isB ((hB.take _).drop _)
  | exact okR_isB (isB_bV _)
theorem zb6g_kind : zb6c_kind.Good Tryd.prog syG (zb6E [] [] [] []) := good_of_walk (Γ := ⟨[zb6c_known], syG, [], [rc_u8, rc_u16], [rc_new]⟩) (ρ := zb6E [] [] [] []) sym kind_w rfl (fun _ _ _ _ => (ok_cons (Con.Good.env zb6g_known _ _ _ _) (ok_mcons (MCon.Good.env (MCon.Good.up (MCon.Good.up rg_u8 z6up rfl) zb6up rfl) _ _ _ _) (ok_mcons (MCon.Good.env (MCon.Good.up (MCon.Good.up rg_u16 z6up rfl) zb6up rfl) _ _ _ _) (ok_acons (ACon.Good.env (ACon.Good.up (ACon.Good.up rg_new z6up rfl) zb6up rfl) _ _ _ _) ok_nil))))) kind_h
def seal_tree : Tree :=
 (.br (.not (an_ (le_ (.lit 1) v0_) (le_ v0_ (.lit 6))))
 (.ret (.tup (.cons (.hs .no (.cons (.int .u8) .nil) (.tup .nil)) (.cons (.iface 101 (.int .i64 (.lit 1))) .nil))))
 (.br (lt_ (.lit 1024) (.ofI (.vop (.len 1) (.cons o0_ .nil))))
 (.ret (.tup (.cons (.hs .no (.cons (.int .u8) .nil) (.tup .nil)) (.cons (.iface 101 (.int .i64 (.lit 5))) .nil))))
 (.need (an_ (le_ (.ofI (.vop (.len 1) (.cons (.tup (.cons (.int .u8 (.lit 116)) (.cons (.int .u8 (.lit 109)) (.cons (.int .u8 v0_) .nil)))) .nil))) (.lit 140737488355000)) (an_ (le_ (.lit 0) (.wrap .u16 (.ofI (.vop (.len 1) (.cons o0_ .nil))))) (le_ (.wrap .u16 (.ofI (.vop (.len 1) (.cons o0_ .nil)))) (.lit 65535))))
 (.need (le_ (ad_ (.ofI (.vop (.len 1) (.cons (.vapp 4 (.cons (.tup (.cons (.int .u8 (.lit 116)) (.cons (.int .u8 (.lit 109)) (.cons (.int .u8 v0_) .nil)))) (.cons (.int .i64 (.wrap .u16 (.ofI (.vop (.len 1) (.cons o0_ .nil))))) .nil))) .nil))) (.ofI (.vop (.len 1) (.cons o0_ .nil)))) (.lit 140737488355328))
 (.need (an_ (.bapp 0 (.cons (.vop .cat (.cons (.vapp 4 (.cons (.tup (.cons (.int .u8 (.lit 116)) (.cons (.int .u8 (.lit 109)) (.cons (.int .u8 v0_) .nil)))) (.cons (.int .i64 (.wrap .u16 (.ofI (.vop (.len 1) (.cons o0_ .nil))))) .nil))) (.cons o0_ .nil))) .nil)) (le_ (.ofI (.vop (.len 1) (.cons (.vop .cat (.cons (.vapp 4 (.cons (.tup (.cons (.int .u8 (.lit 116)) (.cons (.int .u8 (.lit 109)) (.cons (.int .u8 v0_) .nil)))) (.cons (.int .i64 (.wrap .u16 (.ofI (.vop (.len 1) (.cons o0_ .nil))))) .nil))) (.cons o0_ .nil))) .nil))) (.lit 140737488355000)))
 (.ret (.tup (.cons (.hs .no (.cons (.int .u8) .nil) (.vapp 1 (.cons (.vop .cat (.cons (.vapp 4 (.cons (.tup (.cons (.int .u8 (.lit 116)) (.cons (.int .u8 (.lit 109)) (.cons (.int .u8 v0_) .nil)))) (.cons (.int .i64 (.wrap .u16 (.ofI (.vop (.len 1) (.cons o0_ .nil))))) .nil))) (.cons o0_ .nil))) .nil))) (.cons (.cst .nilI) .nil)))))))))
abbrev zb6c_seal : Con := ⟨9, [(.int .u8 v0_), (.hs .no (.cons (.int .u8) .nil) o0_)], (an_ (an_ (.bapp 0 (.cons o0_ .nil)) (le_ (.ofI (.vop (.len 1) (.cons o0_ .nil))) (.lit 140737488355000))) (an_ (le_ (.lit 0) v0_) (le_ v0_ (.lit 255)))), (.tup (.cons (.hs .no (.cons (.int .u8) .nil) (.vapp 7 (.cons o0_ (.cons (.int .u8 v0_) .nil)))) (.cons (.err (.iapp 5 (.cons o0_ (.cons (.int .u8 v0_) .nil)))) .nil))), ⟨1, 0, 1, 0⟩, none⟩
theorem seal_w : walk Tryd.prog 101 ⟨[zb6c_known, z6c_u16p, z6c_sealed], syG, [], [], []⟩ [] (.tup (.cons (.s (.cons (.int .u8) .nil)) (.cons .v .nil))) zb6c_seal zb6c_seal.n 3000 = some seal_tree := by kernel_rfl
theorem seal_h (k : Int) (l : Value) : Hyp_ zb6c_seal seal_tree (zb6E [k] [] [l] []) := by
 intro hc hty
 simp only [zb6c_seal, Sy.holds, zb6E, denV, denI, denB, denL, I2.den, VOp.den, List.getD_cons_zero, List.getD_cons_succ, Cst.den, syso, syse, syio, sybo, zb6b_okr, B2.ofInts, B2.denI, B2.denB, if_true, Bool.false_eq_true, if_false, Nat.div_one, Nat.mul_one, Nat.add_zero] at hc
 simp only [zb6c_seal, patsTyp, patTyp, patTypL, zb6E, denV, denL, List.getD_cons_zero, List.getD_cons_succ, and_true, true_and] at hty
 have hL_l : typ (.sl (.cons (.int .u8) .nil)) l := by first | exact hty | exact hty.1 | exact hty.2 | exact hty.1.1 | exact hty.1.2 | exact hty.2.1 | exact hty.2.2 | exact hty.2.2.1 | exact hty.2.2.2
 have hN_l := typ_len (n := 1) hL_l rfl (by omega)
 simp only [Nat.div_one, Nat.mul_one] at hN_l
 unfold seal_tree
 simp only [zb6c_seal, Tree.holds, Sy.holds, zb6E, denV, denI, denB, denL, I2.den, VOp.den, List.getD_cons_zero, List.getD_cons_succ, Cst.den, syso, syse, syio, sybo, zb6i_sle, zb6b_okr, zb6v_seal, zb6v_p2, zb6v_slv, B2.ofInts, B2.denI, B2.denB, if_true, Bool.false_eq_true, if_false, Nat.div_one, Nat.mul_one, Nat.add_zero]
 obtain ⟨⟨hc1, hl47⟩, hk0, hk1⟩ := hc
 have hB := isB_typ hL_l hc1
 refine ⟨fun h0 => ?_, fun h0 => ?_⟩
 refine ?a0; rotate_left
 refine ⟨fun h1 => ?_, fun h1 => ?_⟩
 refine ?a1; rotate_left
 have wf0 := wr_u16 ((((rows l).length : Nat)) : Int)
 refine ⟨?_, fun h2 => ?_⟩
 refine ?a2; rotate_left
 refine ⟨?_, fun h3 => ?_⟩
 refine ?a3; rotate_left
 refine ⟨?_, fun h4 => ?_⟩
 refine ?a4; rotate_left
 refine ?a5; rotate_left
 case a0 | a1 | a5 =>
  rcases sl_spec (Sy.rows l) k with ⟨hE, e1⟩ | ⟨hE, e1, e2, e3⟩ | ⟨hE, e1, e2, e3⟩
  · simp only [slV, hE]
    first
    | rfl
    | (exfalso; omega)
  · simp only [slV, hE]
    first
    | rfl
    | (exfalso; omega)
  · first
    | (exfalso; omega)
    | (simp only [slV, hE, if_true, hdB, numB, putV, rows_tup, errVal, wrap_u16, wrap_u8, List.append_assoc, List.cons_append, List.nil_append]
       rw [show ((Sy.rows l).length : Int) % 65536 = (Sy.rows l).length by omega])
    | (have h0 : (0 : Int) ≤ ((Sy.rows l).length : Int) := by omega
       have e1 : IntKind.wrap .i64 (((Sy.rows l).length : Int).tdiv 256) = ((Sy.rows l).length : Int) / 256 := by rw [td8 h0]; have := wr_i64 (((Sy.rows l).length : Int) / 256); omega
       simp only [slV, hE, if_true, hdB, numB, rows_tup, wrap_u8, e1, tm8 h0, List.append_assoc, List.cons_append, List.nil_append]
       rw [show ((Sy.rows l).length : Int) % 256 % 256 = ((Sy.rows l).length : Int) % 256 by omega])
 case a2 | a3 | a4 =>
  first
  | omega
  | exact ⟨okR_isB hB, hl47⟩
  | (refine ⟨?_, by omega, by omega⟩
     simp only [rows_tup, List.length_cons, List.length_nil]
     omega)
  | (simp only [rows_tup, putV, List.length_append, List.length_cons, List.length_nil, numB_len]
     omega)
  | (refine ⟨okR_isB (isB.app (isB.app (.cons (by omega) (by omega) (.cons (by omega) (by omega) (.cons hk0 hk1 .nil))) (isB_numB _ _)) hB), ?_⟩
     simp only [rows_tup, putV, List.length_append, List.length_cons, List.length_nil, numB_len]
     omega)
  | (refine ⟨okR_isB (isB.app (.cons (by omega) (by omega) (.cons (by omega) (by omega) (.cons hk0 hk1 (.cons (by rw [wrap_u8]; omega) (by rw [wrap_u8]; omega) (.cons (by rw [wrap_u8]; omega) (by rw [wrap_u8]; omega) .nil))))) hB), ?_⟩
     simp only [rows_tup, List.length_append, List.length_cons, List.length_nil]
     omega)
theorem zb6g_seal : zb6c_seal.Good Tryd.prog syG (zb6E [] [] [] []) := good_of_walk (Γ := ⟨[zb6c_known, z6c_u16p, z6c_sealed], syG, [], [], []⟩) (ρ := zb6E [] [] [] []) sym seal_w rfl (fun _ _ _ _ => (ok_cons (Con.Good.env zb6g_known _ _ _ _) (ok_cons (Con.Good.env (Con.Good.up z6g_u16p zb6up rfl) _ _ _ _) (ok_cons (Con.Good.env (Con.Good.up z6g_sealed zb6up rfl) _ _ _ _) ok_nil)))) seal_h
def open_tree : Tree :=
 (.br (.not (an_ (le_ (.lit 1) v0_) (le_ v0_ (.lit 6))))
 (.ret (.tup (.cons (.hs .no (.cons (.int .u8) .nil) (.tup .nil)) (.cons (.iface 101 (.int .i64 (.lit 1))) .nil))))
 (.need (an_ (.bapp 0 (.cons o0_ .nil)) (le_ (.ofI (.vop (.len 1) (.cons o0_ .nil))) (.lit 140737488355000)))
 (.br (.not (eq_ (.iapp 6 (.cons o0_ .nil)) (.lit 0)))
 (.ret (.tup (.cons (.hs .no (.cons (.int .u8) .nil) (.tup .nil)) (.cons (.err (.iapp 6 (.cons o0_ .nil))) .nil))))
 (.br (.not (eq_ (.iapp 7 (.cons o0_ .nil)) v0_))
 (.ret (.tup (.cons (.hs .no (.cons (.int .u8) .nil) (.tup .nil)) (.cons (.iface 101 (.int .i64 (.lit 3))) .nil))))
 (.br (.not (eq_ (.iapp 8 (.cons o0_ .nil)) (.ofI (.vop (.len 1) (.cons o0_ .nil)))))
 (.ret (.tup (.cons (.hs .no (.cons (.int .u8) .nil) (.tup .nil)) (.cons (.iface 101 (.int .i64 (.lit 3))) .nil))))
 (.need (an_ (.bapp 0 (.cons o0_ .nil)) (le_ (.ofI (.vop (.len 1) (.cons o0_ .nil))) (.lit 140737488355000)))
 (.br (.not (eq_ (.iapp 4 (.cons o0_ .nil)) (.lit 0)))
 (.ret (.tup (.cons (.hs .no (.cons (.int .u8) .nil) (.tup .nil)) (.cons (.err (.iapp 4 (.cons o0_ .nil))) .nil))))
 (.need (le_ (.lit 5) (.ofI (.vop (.len 1) (.cons (.vapp 2 (.cons o0_ .nil)) .nil))))
 (.need (le_ (ad_ (.lit 0) (.ofI (.vop (.len 1) (.cons (.vop (.sub 1) (.cons (.vapp 2 (.cons o0_ .nil)) (.cons (.int .i64 (.lit 5)) (.cons (.int .i64 (.ofI (.vop (.len 1) (.cons (.vapp 2 (.cons o0_ .nil)) .nil)))) .nil)))) .nil)))) (.lit 140737488355328))
 (.ret (.tup (.cons (.hs .no (.cons (.int .u8) .nil) (.vop (.sub 1) (.cons (.vapp 2 (.cons o0_ .nil)) (.cons (.int .i64 (.lit 5)) (.cons (.int .i64 (.ofI (.vop (.len 1) (.cons (.vapp 2 (.cons o0_ .nil)) .nil)))) .nil))))) (.cons (.cst .nilI) .nil)))))))))))))
abbrev zb6c_open : Con := ⟨10, [(.int .u8 v0_), (.hs .no (.cons (.int .u8) .nil) o0_)], (an_ (an_ (.bapp 0 (.cons o0_ .nil)) (le_ (.ofI (.vop (.len 1) (.cons o0_ .nil))) (.lit 140737488355000))) (an_ (le_ (.lit 0) v0_) (le_ v0_ (.lit 255)))), (.tup (.cons (.hs .no (.cons (.int .u8) .nil) (.vapp 8 (.cons o0_ (.cons (.int .u8 v0_) .nil)))) (.cons (.err (.iapp 9 (.cons o0_ (.cons (.int .u8 v0_) .nil)))) .nil))), ⟨1, 0, 1, 0⟩, none⟩
theorem open_w : walk Tryd.prog 101 ⟨[zb6c_known, zb6c_kind, zb6c_opened], syG, [], [], []⟩ [] (.tup (.cons (.s (.cons (.int .u8) .nil)) (.cons .v .nil))) zb6c_open zb6c_open.n 3000 = some open_tree := by kernel_rfl
theorem open_h (k : Int) (l : Value) : Hyp_ zb6c_open open_tree (zb6E [k] [] [l] []) := by
 intro hc hty
 simp only [zb6c_open, Sy.holds, zb6E, denV, denI, denB, denL, I2.den, VOp.den, List.getD_cons_zero, List.getD_cons_succ, Cst.den, syso, syse, syio, sybo, zb6b_okr, B2.ofInts, B2.denI, B2.denB, if_true, Bool.false_eq_true, if_false, Nat.div_one, Nat.mul_one, Nat.add_zero] at hc
 simp only [zb6c_open, patsTyp, patTyp, patTypL, zb6E, denV, denL, List.getD_cons_zero, List.getD_cons_succ, and_true, true_and] at hty
 have hL_l : typ (.sl (.cons (.int .u8) .nil)) l := by first | exact hty | exact hty.1 | exact hty.2 | exact hty.1.1 | exact hty.1.2 | exact hty.2.1 | exact hty.2.2 | exact hty.2.2.1 | exact hty.2.2.2
 have hN_l := typ_len (n := 1) hL_l rfl (by omega)
 simp only [Nat.div_one, Nat.mul_one] at hN_l
 unfold open_tree
 simp only [zb6c_open, Tree.holds, Sy.holds, zb6E, denV, denI, denB, denL, I2.den, VOp.den, List.getD_cons_zero, List.getD_cons_succ, Cst.den, syso, syse, syio, sybo, zb6i_ope, zb6i_kde, zb6i_kdk, zb6i_kdn, zb6i_ble, zb6b_okr, zb6v_opv, zb6v_blv, B2.ofInts, B2.denI, B2.denB, if_true, Bool.false_eq_true, if_false, Nat.div_one, Nat.mul_one, Nat.add_zero]
 obtain ⟨⟨hc1, hl47⟩, hk0, hk1⟩ := hc
 have hB := isB_typ hL_l hc1
 refine ⟨fun h0 => ?_, fun h0 => ?_⟩
 refine ?a0; rotate_left
 refine ⟨?_, fun h1 => ?_⟩
 refine ?a1; rotate_left
 refine ⟨fun h2 => ?_, fun h2 => ?_⟩
 refine ?a2; rotate_left
 refine ⟨fun h3 => ?_, fun h3 => ?_⟩
 refine ?a3; rotate_left
 refine ⟨fun h4 => ?_, fun h4 => ?_⟩
 refine ?a4; rotate_left
 refine ⟨?_, fun h5 => ?_⟩
 refine ?a5; rotate_left
 refine ⟨fun h6 => ?_, fun h6 => ?_⟩
 refine ?a6; rotate_left
 refine ⟨?_, fun h7 => ?_⟩
 refine ?a7; rotate_left
 refine ⟨?_, fun h8 => ?_⟩
 refine ?a8; rotate_left
 refine ?a9; rotate_left
 case a0 | a2 | a3 | a4 | a6 | a9 =>
  have hbl := bl_spec (Sy.rows l) k
  have hkd := kd_spec (Sy.rows l)
  have hop := op_spec hB
  rcases hop with ⟨h5, h6, h4, _⟩ | ⟨h5, h6, _⟩
  · rcases hbl with ⟨hE, hr⟩ | ⟨hE, hr⟩ | ⟨hE, hr⟩
    · simp only [blV, hE]
      first
      | rfl
      | (exfalso; omega)
    · simp only [blV, hE]
      first
      | rfl
      | (rw [show kdE (Sy.rows l) = 3 by omega]; rfl)
      | (exfalso; omega)
    · rw [h5] at hE
      first
      | (exfalso; omega)
      | (have e : (List.take ((((Sy.rows l).take ((Sy.rows l).length - 4)).length : Int)).toNat ((Sy.rows l).take ((Sy.rows l).length - 4))) = (Sy.rows l).take ((Sy.rows l).length - 4) := List.take_of_length_le (by omega)
         simp only [blV, hE, if_true, h5, h6, rows_tup, errVal, e]
         rfl)
  · rcases hbl with ⟨hE, hr⟩ | ⟨hE, hr⟩ | ⟨hE, hr⟩
    · simp only [blV, hE]
      first
      | rfl
      | (exfalso; omega)
    · simp only [blV, hE]
      first
      | rfl
      | (rw [show kdE (Sy.rows l) = 3 by omega]; rfl)
      | (exfalso; omega)
    · rw [h5] at hE
      simp only [blV, hE, h5]
      first
      | rfl
      | (exfalso; omega)
 case a1 | a5 | a7 | a8 =>
  have hbl := bl_spec (Sy.rows l) k
  have hkd := kd_spec (Sy.rows l)
  have hop := op_spec hB
  first
  | omega
  | exact ⟨okR_isB hB, hl47⟩
  | (rcases hop with ⟨h5, h6, h4, _⟩ | ⟨h5, h6, _⟩
     · rcases hkd with ⟨k1, k2, k3, k4, _⟩ | ⟨k1, k2, k3, k4⟩
       · have b3 := gB_rng hB (j := 3) (by omega)
         have b4 := gB_rng hB (j := 4) (by omega)
         rw [h6]
         simp only [rows_tup, List.length_take, List.length_drop]
         omega
       · exfalso
         omega
     · exfalso
       omega)
theorem zb6g_open : zb6c_open.Good Tryd.prog syG (zb6E [] [] [] []) := good_of_walk (Γ := ⟨[zb6c_known, zb6c_kind, zb6c_opened], syG, [], [], []⟩) (ρ := zb6E [] [] [] []) sym open_w rfl (fun _ _ _ _ => (ok_cons (Con.Good.env zb6g_known _ _ _ _) (ok_cons (Con.Good.env zb6g_kind _ _ _ _) (ok_cons (Con.Good.env zb6g_opened _ _ _ _) ok_nil)))) open_h
end Go.Proofs.YtikfgnmljpjnbaaDoor
