/-
 Layer 44: calls and answers as bytes.
-/
import Derived.Test.YtmlidfpjeomcmaaDoorSycclb
import Derived.Test.YtmlidfpjeomcmaaDoorTcclb
import Derived.Test.YtmlidfpjeomcmaaDoorNumclb
namespace Go.Proofs.YtmlidfpjeomcmaaDoor
open Go.RowKit Go.Extern.Stop Go.Stop Go.Extern Go.Proofs.YtmlidfpjeomcmaaDoor.Sy
set_option linter.unusedVariables false
set_option linter.unusedSimpArgs false
theorem num44_all (n : Int) (w : World) (hg : w.cell? ⟨0, 0, none⟩ = some asHandle) : Calls Tryd.prog 14 #[errVal 61 n] w fun e w' => e = .returned (.int .i64 n) ∧ Below w.heap.size w w' := by
 unfold errVal
 split
 · rename_i h; subst h; exact num44_nil _
 · exact num44_err _ _ hg
def prB (k : Int) : Int := if k < 2 then k + 1 else 8
def prI (k n : Int) : Int := if k < 0 ∨ 6 < k then 0 else prB k + (n + 63) / 64
theorem pr_spec (k n : Int) : ((k < 0 ∨ 6 < k) ∧ prI k n = 0) ∨ (0 ≤ k ∧ k ≤ 6 ∧ prI k n = prB k + (n + 63) / 64) := by
 unfold prI
 split <;> omega
theorem pb_spec (k : Int) : (k < 2 ∧ prB k = k + 1) ∨ (2 ≤ k ∧ prB k = 8) := by
 unfold prB
 split <;> omega
theorem isB_byV (l : List UInt8) : isB (l.map byteV) := fun x hx => by
 obtain ⟨c, _, rfl⟩ := List.mem_map.1 hx
 have := c.toNat_lt
 exact ⟨c.toNat, rfl, by omega, by omega⟩
theorem isB_tx (s : ByteArray) : isB (txV s) := .cons (by omega) (by omega) (isB_byV _)
theorem tx_len (s : ByteArray) : (txV s).length = s.size + 1 := by
 show (s.data.toList.map byteV).length + 1 = _
 rw [List.length_map]
 rfl
def encC (k : Int) (s : ByteArray) (l : List Value) (n : Int) : List Value := [.int .u8 63, .int .u8 (k % 256)] ++ (txV s ++ (numB n 8 ++ (numB l.length 2 ++ l)))
def ceP (k : Int) (s : ByteArray) (l : List Value) : Prop := 0 ≤ k ∧ k ≤ 255 ∧ l.length ≤ 1024 ∧ s.size ≤ 255
instance (k : Int) (s : ByteArray) (l : List Value) : Decidable (ceP k s l) := by unfold ceP; infer_instance
def ceI (k : Int) (s : ByteArray) (l : List Value) : Int := if ceP k s l then 0 else 1
def ceV (k : Int) (s : ByteArray) (l : List Value) (n : Int) : Value := if ceP k s l then .tuple (encC k s l n).toArray else .tuple #[]
theorem ce_spec (k : Int) (s : ByteArray) (l : List Value) (n : Int) : (ceP k s l ∧ ceI k s l = 0 ∧ ceV k s l n = .tuple (encC k s l n).toArray) ∨ (¬ ceP k s l ∧ ceI k s l = 1 ∧ ceV k s l n = .tuple #[]) := by
 unfold ceI ceV
 by_cases h : ceP k s l
 · simp only [if_pos h]; exact .inl ⟨h, trivial, trivial⟩
 · simp only [if_neg h]; exact .inr ⟨h, trivial, trivial⟩
theorem pt_spec (l : List Value) (s : ByteArray) : (s.size ≤ 255 ∧ pteI s = 0 ∧ ptqV l s = .tuple ((byL l ++ txt s).map bV).toArray) ∨ (255 < s.size ∧ pteI s = 5 ∧ ptqV l s = .tuple #[]) := by
 unfold pteI ptqV
 by_cases h : s.size ≤ 255
 · simp only [if_pos h]; exact .inl ⟨h, trivial, trivial⟩
 · simp only [if_neg h]; exact .inr ⟨by omega, trivial, trivial⟩
theorem isB_2 {a b : Int} (h0 : 0 ≤ a) (h1 : a ≤ 255) (h2 : 0 ≤ b) (h3 : b ≤ 255) : isB [.int .u8 a, .int .u8 b] := .cons h0 h1 (.cons h2 h3 .nil)
theorem ptx2 {L : List Value} (h : isB L) (s : ByteArray) : Value.tuple ((byL L ++ txt s).map bV).toArray = .tuple (L ++ txV s).toArray := by rw [ptx_eq h s]
theorem rows2 (a b : Value) : Sy.rows (Value.tuple #[a, b]) = [a, b] := rfl
theorem rows1 (a : Value) : Sy.rows (Value.tuple #[a]) = [a] := rfl
theorem numB_len2 {n : Nat} (h : n ≤ 1024) : numB (IntKind.wrap .u16 (n : Int)) 2 = numB n 2 ∧ numB (IntKind.wrap .u64 (n : Int)) 2 = numB n 2 := by
 rw [wrap_u16, wrap_u64, show (n : Int) % 65536 = n by omega, show (n : Int) % 18446744073709551616 = n by omega]
 exact ⟨rfl, rfl⟩
theorem numB_c2 {n : Int} (h0 : 0 ≤ n) (h : n ≤ 65535) : numB (IntKind.wrap .u16 n) 2 = numB n 2 ∧ numB (IntKind.wrap .u64 n) 2 = numB n 2 := by
 rw [wrap_u16, wrap_u64, show n % 65536 = n by omega, show n % 18446744073709551616 = n by omega]
 exact ⟨rfl, rfl⟩
def encT (c a b r h d s : Int) : List Value := [.int .u8 33] ++ (numB c 2 ++ (numB a 8 ++ (numB b 8 ++ (numB r 8 ++ (numB h 8 ++ (numB d 8 ++ numB s 8))))))
def tlV (c a b r h d s : Int) : Value := if 0 ≤ c ∧ c ≤ 65535 then .tuple (encT c a b r h d s).toArray else .tuple #[]
def nI (l : List Value) (j : Nat) : Int := Go.RowKit.intOf (l.getD j Go.undef)
def tlT (l : List Value) : Value := tlV (nI l 0) (nI l 1) (nI l 2) (nI l 3) (nI l 4) (nI l 5) (nI l 6)
theorem tlT_eq (c a b r h d s : Int) : tlT (Sy.rows (Value.tuple #[.int .i64 c, .int .i64 a, .int .i64 b, .int .i64 r, .int .i64 h, .int .i64 d, .int .i64 s])) = tlV c a b r h d s := rfl
theorem tl_spec (c a b r h d s : Int) : ((0 ≤ c ∧ c ≤ 65535) ∧ tlV c a b r h d s = .tuple (encT c a b r h d s).toArray) ∨ (¬ (0 ≤ c ∧ c ≤ 65535) ∧ tlV c a b r h d s = .tuple #[]) := by
 unfold tlV
 split
 · exact .inl ⟨by assumption, rfl⟩
 · exact .inr ⟨by assumption, rfl⟩
def x2 (X : List UInt8) : List UInt8 := getL (getL X 1) 1
def x3 (X : List UInt8) : List UInt8 := getTL (x2 X)
def x4 (X : List UInt8) : List UInt8 := getL (x3 X) 8
def x5 (X : List UInt8) : List UInt8 := getL (x4 X) 2
def sh5 (X : List UInt8) : Bool := getS (x4 X) (getS (x3 X) (getTS (x2 X) (getS (getL X 1) (getS X false 1) 1)) 8) 2
def cSz (X : List UInt8) : Nat := getV (x4 X) 2
def okC (X : List UInt8) : Prop := sh5 X = false ∧ getV X 1 = 63 ∧ cSz X ≤ 1024 ∧ cSz X = (x5 X).length
instance (X : List UInt8) : Decidable (okC X) := by unfold okC; infer_instance
def dcE (X : List UInt8) : Int := if okC X then 0 else 3
def dcK (X : List UInt8) : Int := if okC X then (getV (getL X 1) 1 : Nat) else 0
def dcS (X : List UInt8) : ByteArray := if okC X then ⟨(getT (x2 X)).toArray⟩ else ⟨#[]⟩
def dcB (X : List UInt8) : Value := if okC X then .tuple ((x5 X).map bV).toArray else .tuple #[]
def dcN (X : List UInt8) : Int := if okC X then rdI (x3 X) else 0
theorem dc_spec (X : List UInt8) : (okC X ∧ dcE X = 0 ∧ dcK X = (getV (getL X 1) 1 : Nat) ∧ dcS X = ⟨(getT (x2 X)).toArray⟩ ∧ dcB X = .tuple ((x5 X).map bV).toArray ∧ dcN X = rdI (x3 X)) ∨ (¬ okC X ∧ dcE X = 3 ∧ dcK X = 0 ∧ dcS X = ⟨#[]⟩ ∧ dcB X = .tuple #[] ∧ dcN X = 0) := by
 unfold dcE dcK dcS dcB dcN
 by_cases h : okC X
 · simp only [if_pos h]; exact .inl ⟨h, trivial, trivial, trivial, trivial, trivial⟩
 · simp only [if_neg h]; exact .inr ⟨h, trivial, trivial, trivial, trivial, trivial⟩
theorem cSz_le (X : List UInt8) : cSz X ≤ 65535 := by
 have := getV_lt (x4 X) 2
 rw [show 256 ^ 2 = 65536 by decide] at this
 unfold cSz
 omega
noncomputable def dlB (x y : Value) (s : Bool) (X : List UInt8) (k : Nat) : Bool := @decide (x = .tuple (((x5 X).take k).map bV).toArray ∧ y = .tuple (((x5 X).drop k).map bV).toArray ∧ s = sh5 X ∧ cSz X = (x5 X).length) (Classical.propDecidable _)
theorem dl_iff {x y : Value} {s : Bool} {X : List UInt8} {k : Nat} : dlB x y s X k = true ↔ x = .tuple (((x5 X).take k).map bV).toArray ∧ y = .tuple (((x5 X).drop k).map bV).toArray ∧ s = sh5 X ∧ cSz X = (x5 X).length := @decide_eq_true_iff _ (Classical.propDecidable _)
theorem okR_bV (l : List UInt8) : okR (Sy.rows (Value.tuple (l.map bV).toArray)) = true := okR_isB (isB_bV _)
theorem getL1_drop {l : List UInt8} {k : Nat} (h : k < l.length) : getL (l.drop k) 1 = l.drop (k + 1) := by
 unfold getL
 rw [if_pos (by rw [List.length_drop]; omega), List.drop_drop]
theorem getS1_drop {l : List UInt8} {s : Bool} {k : Nat} (h : k < l.length) : getS (l.drop k) s 1 = s := by
 unfold getS
 rw [if_pos (by rw [List.length_drop]; omega)]
theorem getV1_drop {l : List UInt8} {k : Nat} (h : k < l.length) : getV (l.drop k) 1 = (l[k]).toNat := by
 unfold getV
 rw [if_pos (by rw [List.length_drop]; omega), List.drop_eq_getElem_cons h, List.take_succ_cons, List.take_zero]
 rw [leV_cons]
 show leV [] * 256 + _ = _
 rw [show leV [] = 0 from rfl]
 omega
theorem take_one {l : List UInt8} {k : Nat} (h : k < l.length) : (l.take (k + 1)).map bV = (l.take k).map bV ++ [Value.int .u8 ((l[k]).toNat : Int)] := by
 rw [List.take_succ_eq_append_getElem h, List.map_append]
 rfl
theorem dn5 (X : List UInt8) (s : Bool) : dnE [] s = if s = true then 3 else 0 := by
 unfold dnE
 cases s <;> simp
def hR (X : List UInt8) : Nat → List UInt8 × Bool
 | 0 => (getL (getL X 1) 2, getS (getL X 1) (getS X false 1) 2)
 | j + 1 => (getL (hR X j).1 8, getS (hR X j).1 (hR X j).2 8)
theorem hR_eq (X : List UInt8) : ∀ j, hR X j = if 3 + 8 * j ≤ X.length then (X.drop (3 + 8 * j), false) else ([], true)
 | 0 => by
   show (getL (getL X 1) 2, getS (getL X 1) (getS X false 1) 2) = _
   unfold getL getS
   by_cases h1 : 1 ≤ X.length
   · by_cases h3 : 3 ≤ X.length
     · rw [if_pos h1, if_pos (show 2 ≤ (X.drop 1).length by rw [List.length_drop]; omega), if_pos (show 2 ≤ (X.drop 1).length by rw [List.length_drop]; omega), if_pos (show 3 + 8 * 0 ≤ X.length by omega), List.drop_drop, if_pos h1]
     · rw [if_pos h1, if_neg (show ¬ 2 ≤ (X.drop 1).length by rw [List.length_drop]; omega), if_neg (show ¬ 2 ≤ (X.drop 1).length by rw [List.length_drop]; omega), if_neg (show ¬ 3 + 8 * 0 ≤ X.length by omega)]
   · rw [if_neg h1, if_neg (show ¬ 2 ≤ ([] : List UInt8).length by simp), if_neg (show ¬ 2 ≤ ([] : List UInt8).length by simp), if_neg (show ¬ 3 + 8 * 0 ≤ X.length by omega)]
 | j + 1 => by
   show (getL (hR X j).1 8, getS (hR X j).1 (hR X j).2 8) = _
   rw [hR_eq X j]
   by_cases h : 3 + 8 * j ≤ X.length
   · rw [if_pos h]
     unfold getL getS
     by_cases h2 : 3 + 8 * (j + 1) ≤ X.length
     · rw [if_pos (by rw [List.length_drop]; omega), if_pos (by rw [List.length_drop]; omega), if_pos h2, List.drop_drop]
       congr 2
     · rw [if_neg (by rw [List.length_drop]; omega), if_neg (by rw [List.length_drop]; omega), if_neg h2]
   · rw [if_neg h, if_neg (show ¬ 3 + 8 * (j + 1) ≤ X.length by omega)]
     rfl
theorem hR_done (X : List UInt8) : dnE (hR X 6).1 (hR X 6).2 = if X.length = 51 then 0 else 3 := by
 rw [hR_eq]
 by_cases h : 3 + 8 * 6 ≤ X.length
 · rw [if_pos h]
   unfold dnE
   by_cases h2 : X.length = 51
   · rw [if_pos h2, if_neg]
     simp
     omega
   · rw [if_neg h2, if_pos]
     right
     rw [List.length_drop]
     omega
 · rw [if_neg h, if_neg (show ¬ X.length = 51 by omega)]
   rfl
def heP (l : List Value) : Prop := l.length = 51 ∧ gB l 0 = 33
instance (l : List Value) : Decidable (heP l) := by unfold heP; infer_instance
def heE (l : List Value) : Int := if heP l then 0 else 3
def heC (l : List Value) : Int := if heP l then gB l 1 + 256 * gB l 2 else 0
def heN (l : List Value) (j : Nat) : Int := if heP l then rdI ((byL l).drop (3 + 8 * j)) else 0
theorem he_spec (l : List Value) : (heP l ∧ heE l = 0 ∧ heC l = gB l 1 + 256 * gB l 2 ∧ ∀ j, heN l j = rdI ((byL l).drop (3 + 8 * j))) ∨ (¬ heP l ∧ heE l = 3 ∧ heC l = 0 ∧ ∀ j, heN l j = 0) := by
 unfold heE heC heN
 by_cases h : heP l
 · simp only [if_pos h]; exact .inl ⟨h, trivial, trivial, fun _ => trivial⟩
 · simp only [if_neg h]; exact .inr ⟨h, trivial, trivial, fun _ => trivial⟩
theorem hR_at {X : List UInt8} (h : X.length = 51) {j : Nat} (hj : j ≤ 5) : (hR X j).1 = X.drop (3 + 8 * j) := by rw [hR_eq, if_pos (by omega)]
theorem x2_def (X : List UInt8) : getL (getL X 1) 1 = x2 X := rfl
theorem x3_def (X : List UInt8) : getTL (x2 X) = x3 X := rfl
theorem x4_def (X : List UInt8) : getL (x3 X) 8 = x4 X := rfl
theorem x5_def (X : List UInt8) : getL (x4 X) 2 = x5 X := rfl
theorem sz_def (X : List UInt8) : getV (x4 X) 2 = cSz X := rfl
theorem sh_def (X : List UInt8) : getS (x4 X) (getS (x3 X) (getTS (x2 X) (getS (getL X 1) (getS X false 1) 1)) 8) 2 = sh5 X := rfl
theorem v1_rng (l : List UInt8) : getV l 1 ≤ 255 := by
 have := getV_lt l 1
 omega
theorem v1_wr (l : List UInt8) : IntKind.wrap .i64 (getV l 1 : Int) = getV l 1 := by
 have := v1_rng l
 have := wr_i64 (getV l 1 : Int)
 omega
theorem sz_wr (X : List UInt8) : IntKind.wrap .i64 (cSz X : Int) = cSz X := by
 have := cSz_le X
 have := wr_i64 (cSz X : Int)
 omega
theorem x5_le (X : List UInt8) : (x5 X).length ≤ X.length := by
 unfold x5 x4 x3 x2 getTL
 exact Nat.le_trans (getL_le _ _) (Nat.le_trans (getL_le _ _) (Nat.le_trans (getL_le _ _) (Nat.le_trans (getL_le _ _) (Nat.le_trans (getL_le _ _) (getL_le _ _)))))
theorem hr0 (X : List UInt8) : getL (getL X 1) 2 = (hR X 0).1 := rfl
theorem hs0 (X : List UInt8) : getS (getL X 1) (getS X false 1) 2 = (hR X 0).2 := rfl
theorem hrS (X : List UInt8) (j : Nat) : getL (hR X j).1 8 = (hR X (j + 1)).1 := rfl
theorem hsS (X : List UInt8) (j : Nat) : getS (hR X j).1 (hR X j).2 8 = (hR X (j + 1)).2 := rfl
theorem v2_wr (l : List UInt8) : IntKind.wrap .i64 (getV l 2 : Int) = getV l 2 := by
 have := getV_lt l 2
 rw [show 256 ^ 2 = 65536 by decide] at this
 have := wr_i64 (getV l 2 : Int)
 omega
theorem okR_mp (l : List UInt8) : okR (l.map bV) = true := okR_isB (isB_bV l)
noncomputable def caI : Nat → List Value → Int
 | 11, [.int _ k, .int _ n] => prI k n
 | 12, [.int _ k, .string s, l] => ceI k s (rows l)
 | 13, [.int _ c] => if 0 ≤ c ∧ c ≤ 65535 then 0 else 1
 | 14, [c] => dcE (byL (rows c))
 | 15, [c] => dcK (byL (rows c))
 | 16, [c] => dcN (byL (rows c))
 | 17, [c] => ((cSz (byL (rows c)) : Nat) : Int)
 | 18, [.int _ k] => prB k
 | 19, [c] => heE (rows c)
 | 20, [c] => heC (rows c)
 | 21, [c, .int _ j] => heN (rows c) j.toNat
 | i, l => tcI i l
noncomputable def caB : Nat → List Value → Bool
 | 4, [x, y, .bool s, c, .int _ j] => dlB x y s (byL (rows c)) j.toNat
 | i, l => tcB i l
noncomputable def caV : Nat → List Value → Value
 | 13, [.int _ k, .string s, l, .int _ n] => ceV k s (rows l) n
 | 14, [t] => tlT (rows t)
 | 15, [c] => .string (dcS (byL (rows c)))
 | 16, [c] => dcB (byL (rows c))
 | i, l => tcV i l
noncomputable abbrev caE (iv : List Int) (bv : List Bool) (vv : List Value) (sv : List ByteArray) : Env := { iv := iv, bv := bv, vv := vv, sv := sv, fi := caI, fb := caB, fv := caV, et := 61 }
set_option maxHeartbeats 8000000 in
theorem caup : Agree 11 4 13 (tcE [] [] [] []) (caE [] [] [] []) := ⟨rfl, (by
   intro f hf
   funext l
   show caI f l = tcI f l
   unfold caI
   split <;> first | omega | rfl), (by
   intro f hf
   funext l
   show caB f l = tcB f l
   unfold caB
   split <;> first | omega | rfl), (by
   intro f hf
   funext l
   show caV f l = tcV f l
   unfold caV
   split <;> first | omega | rfl)⟩
theorem cai_rn (l : Value) (k1 : IntKind) (k : Int) : caI 0 [l, .int k1 k] = ((getV (byL (rows l)) k.toNat : Nat) : Int) := rfl
theorem cai_ri (l : Value) : caI 1 [l] = rdI (byL (rows l)) := rfl
theorem cai_dn (l : Value) (s : Bool) : caI 2 [l, .bool s] = dnE (byL (rows l)) s := rfl
theorem cai_pte (s : ByteArray) : caI 10 [.string s] = pteI s := rfl
theorem cai_prc (k1 : IntKind) (k : Int) (k2 : IntKind) (n : Int) : caI 11 [.int k1 k, .int k2 n] = prI k n := rfl
theorem cai_cee (k1 : IntKind) (k : Int) (s : ByteArray) (l : Value) : caI 12 [.int k1 k, .string s, l] = ceI k s (rows l) := rfl
theorem cai_tle (k1 : IntKind) (c : Int) : caI 13 [.int k1 c] = if 0 ≤ c ∧ c ≤ 65535 then 0 else 1 := rfl
theorem cai_dce (c : Value) : caI 14 [c] = dcE (byL (rows c)) := rfl
theorem cai_dck (c : Value) : caI 15 [c] = dcK (byL (rows c)) := rfl
theorem cai_dcn (c : Value) : caI 16 [c] = dcN (byL (rows c)) := rfl
theorem cai_dsz (c : Value) : caI 17 [c] = ((cSz (byL (rows c)) : Nat) : Int) := rfl
theorem cai_hee (c : Value) : caI 19 [c] = heE (rows c) := rfl
theorem cai_hec (c : Value) : caI 20 [c] = heC (rows c) := rfl
theorem cai_hen (c : Value) (k1 : IntKind) (j : Int) : caI 21 [c, .int k1 j] = heN (rows c) j.toNat := rfl
theorem cab_okr (l : Value) : caB 0 [l] = okR (rows l) := rfl
theorem cab_rs (l : Value) (s : Bool) (k1 : IntKind) (k : Int) : caB 1 [l, .bool s, .int k1 k] = getS (byL (rows l)) s k.toNat := rfl
theorem cab_ts (l : Value) (s : Bool) : caB 3 [l, .bool s] = getTS (byL (rows l)) s := rfl
theorem cab_dlp (x : Value) (y : Value) (s : Bool) (c : Value) (k1 : IntKind) (j : Int) : caB 4 [x, y, .bool s, c, .int k1 j] = dlB x y s (byL (rows c)) j.toNat := rfl
theorem cav_rl (l : Value) (k1 : IntKind) (k : Int) : caV 0 [l, .int k1 k] = Value.tuple ((getL (byL (rows l)) k.toNat).map bV).toArray := rfl
theorem cav_p2 (l : Value) (k1 : IntKind) (v : Int) : caV 4 [l, .int k1 v] = putV (rows l) v 2 := rfl
theorem cav_p8 (l : Value) (k1 : IntKind) (v : Int) : caV 6 [l, .int k1 v] = putV (rows l) v 8 := rfl
theorem cav_tx (l : Value) : caV 9 [l] = .string ⟨(getT (byL (rows l))).toArray⟩ := rfl
theorem cav_tl (l : Value) : caV 10 [l] = Value.tuple ((getTL (byL (rows l))).map bV).toArray := rfl
theorem cav_ptq (l : Value) (s : ByteArray) : caV 12 [l, .string s] = ptqV (rows l) s := rfl
theorem cav_cev (k1 : IntKind) (k : Int) (s : ByteArray) (l : Value) (k2 : IntKind) (n : Int) : caV 13 [.int k1 k, .string s, l, .int k2 n] = ceV k s (rows l) n := rfl
theorem cav_tlv (t : Value) : caV 14 [t] = tlT (rows t) := rfl
theorem cav_dcs (c : Value) : caV 15 [c] = .string (dcS (byL (rows c))) := rfl
theorem cav_dcb (c : Value) : caV 16 [c] = dcB (byL (rows c)) := rfl
abbrev cac_num : Con := ⟨14, [(.err (.var 0))], (.tt true), (.int .i64 (.var 0)), ⟨1, 0, 0, 0⟩, none⟩
theorem cag_num : cac_num.Good Tryd.prog syG (caE [] [] [] []) := good_flat rfl rfl rfl (by
 intro n hc β ok w hG
 have hc' := hc
 simp only [Tree.holds, Sy.holds, AllN, Env.more, caE, List.cons_append, List.nil_append, List.append_nil, denV, denI, denB, denL, I2.den, VOp.den, List.getD_cons_zero, List.getD_cons_succ, Cst.den, syso, syse, syio, sybo, List.map_nil, List.map_cons, B2.ofInts, B2.denI, B2.denB, if_true, Bool.false_eq_true, if_false, Nat.div_one, Nat.mul_one, Nat.add_zero, holds] at hc
 exact num44_all n w (hG _ (List.mem_singleton.2 rfl)).2.2)
def cenc_tree : Tree :=
 (.br (.b2 .lt (.var 0) (.lit (0)))
 (.ret (.tup (.cons (.hs .no (.cons (.int .u8) .nil) (.tup .nil)) (.cons (.iface 61 (.int .i64 (.lit (1)))) .nil))))
 (.br (.b2 .lt (.lit (255)) (.var 0))
 (.ret (.tup (.cons (.hs .no (.cons (.int .u8) .nil) (.tup .nil)) (.cons (.iface 61 (.int .i64 (.lit (1)))) .nil))))
 (.br (.b2 .lt (.lit (1024)) (.ofI (.vop (.len 1) (.cons (.opq 0) .nil))))
 (.ret (.tup (.cons (.hs .no (.cons (.int .u8) .nil) (.tup .nil)) (.cons (.iface 61 (.int .i64 (.lit (1)))) .nil))))
 (.need (.b2 .and (.bapp 0 (.cons (.tup (.cons (.int .u8 (.lit (63))) (.cons (.int .u8 (.wrap .u8 (.var 0))) .nil))) .nil)) (.b2 .and (.b2 .le (.ofI (.vop (.len 1) (.cons (.tup (.cons (.int .u8 (.lit (63))) (.cons (.int .u8 (.wrap .u8 (.var 0))) .nil))) .nil))) (.lit (70368744177664))) (.b2 .le (.blen (.str 0)) (.lit (9223372036854775807)))))
 (.br (.not (.b2 .eq (.iapp 10 (.cons (.str 0) .nil)) (.lit (0))))
 (.ret (.tup (.cons (.hs .no (.cons (.int .u8) .nil) (.tup .nil)) (.cons (.iface 61 (.int .i64 (.lit (1)))) .nil))))
 (.need (.b2 .and (.b2 .le (.ofI (.vop (.len 1) (.cons (.vapp 12 (.cons (.tup (.cons (.int .u8 (.lit (63))) (.cons (.int .u8 (.wrap .u8 (.var 0))) .nil))) (.cons (.str 0) .nil))) .nil))) (.lit (70368744177664))) (.b2 .and (.b2 .le (.lit (-9223372036854775808)) (.var 1)) (.b2 .le (.var 1) (.lit (9223372036854775807)))))
 (.need (.b2 .and (.b2 .le (.ofI (.vop (.len 1) (.cons (.vapp 6 (.cons (.vapp 12 (.cons (.tup (.cons (.int .u8 (.lit (63))) (.cons (.int .u8 (.wrap .u8 (.var 0))) .nil))) (.cons (.str 0) .nil))) (.cons (.int .i64 (.var 1)) .nil))) .nil))) (.lit (140737488355000))) (.b2 .and (.b2 .le (.lit (0)) (.wrap .u16 (.ofI (.vop (.len 1) (.cons (.opq 0) .nil))))) (.b2 .le (.wrap .u16 (.ofI (.vop (.len 1) (.cons (.opq 0) .nil)))) (.lit (65535)))))
 (.need (.b2 .le (.i2 .add (.ofI (.vop (.len 1) (.cons (.vapp 4 (.cons (.vapp 6 (.cons (.vapp 12 (.cons (.tup (.cons (.int .u8 (.lit (63))) (.cons (.int .u8 (.wrap .u8 (.var 0))) .nil))) (.cons (.str 0) .nil))) (.cons (.int .i64 (.var 1)) .nil))) (.cons (.int .i64 (.wrap .u16 (.ofI (.vop (.len 1) (.cons (.opq 0) .nil))))) .nil))) .nil))) (.ofI (.vop (.len 1) (.cons (.opq 0) .nil)))) (.lit (140737488355328)))
 (.ret (.tup (.cons (.hs .no (.cons (.int .u8) .nil) (.vop .cat (.cons (.vapp 4 (.cons (.vapp 6 (.cons (.vapp 12 (.cons (.tup (.cons (.int .u8 (.lit (63))) (.cons (.int .u8 (.wrap .u8 (.var 0))) .nil))) (.cons (.str 0) .nil))) (.cons (.int .i64 (.var 1)) .nil))) (.cons (.int .i64 (.wrap .u16 (.ofI (.vop (.len 1) (.cons (.opq 0) .nil))))) .nil))) (.cons (.opq 0) .nil)))) (.cons (.cst .nilI) .nil))))))))))))
abbrev cac_cenc : Con := ⟨6, [(.agg (.cons (.int .i64 (.var 0)) (.cons (.str 0) (.cons (.hs .no (.cons (.int .u8) .nil) (.opq 0)) (.cons (.int .i64 (.var 1)) .nil)))))], (.b2 .and (.b2 .and (.b2 .le (.lit (-9223372036854775808)) (.var 0)) (.b2 .le (.var 0) (.lit (9223372036854775807)))) (.b2 .and (.b2 .and (.b2 .le (.lit (-9223372036854775808)) (.var 1)) (.b2 .le (.var 1) (.lit (9223372036854775807)))) (.b2 .le (.blen (.str 0)) (.lit (400))))), (.tup (.cons (.hs .no (.cons (.int .u8) .nil) (.vapp 13 (.cons (.int .i64 (.var 0)) (.cons (.str 0) (.cons (.opq 0) (.cons (.int .i64 (.var 1)) .nil)))))) (.cons (.err (.iapp 12 (.cons (.int .i64 (.var 0)) (.cons (.str 0) (.cons (.opq 0) .nil))))) .nil))), ⟨2, 0, 1, 1⟩, none⟩
theorem cenc_w : walk Tryd.prog 61 ⟨[tcc_textq, tcc_i64p, z6c_u16p], syG, [], [], []⟩ [] (.tup (.cons (.s (.cons (.int .u8) .nil)) (.cons .v .nil))) cac_cenc cac_cenc.n 3000 = some cenc_tree := by kernel_rfl
theorem cenc_h (k n : Int) (l : Value) (s : ByteArray) : Hyp_ cac_cenc cenc_tree (caE [k, n] [] [l] [s]) := by
 intro hc hty
 simp only [cac_cenc, Sy.holds, caE, denV, denI, denB, denL, I2.den, VOp.den, List.getD_cons_zero, List.getD_cons_succ, Cst.den, syso, syse, syio, sybo, B2.ofInts, B2.denI, B2.denB, if_true, Bool.false_eq_true, if_false, Nat.div_one, Nat.mul_one, Nat.add_zero] at hc
 simp only [cac_cenc, patsTyp, patTyp, patTypL, caE, denV, denL, List.getD_cons_zero, List.getD_cons_succ, and_true, true_and] at hty
 have hL_l : typ (.sl (.cons (.int .u8) .nil)) l := by first | exact hty | exact hty.1 | exact hty.2 | exact hty.1.1 | exact hty.1.2 | exact hty.2.1 | exact hty.2.2 | exact hty.2.2.1 | exact hty.2.2.2
 have hN_l := typ_len (n := 1) hL_l rfl (by omega)
 simp only [Nat.div_one, Nat.mul_one] at hN_l
 unfold cenc_tree
 simp only [cac_cenc, Tree.holds, Sy.holds, caE, denV, denI, denB, denL, I2.den, VOp.den, List.getD_cons_zero, List.getD_cons_succ, Cst.den, syso, syse, syio, sybo, cai_pte, cai_cee, cab_okr, cav_p2, cav_p8, cav_ptq, cav_cev, B2.ofInts, B2.denI, B2.denB, if_true, Bool.false_eq_true, if_false, Nat.div_one, Nat.mul_one, Nat.add_zero]
 have q := ce_spec k s (Sy.rows l) n
 have hb : isB [Value.int .u8 63, Value.int .u8 (IntKind.wrap .u8 k)] := isB_2 (by decide) (by decide) (by rw [wrap_u8]; omega) (by rw [wrap_u8]; omega)
 have p := pt_spec [Value.int .u8 63, Value.int .u8 (IntKind.wrap .u8 k)] s
 rw [ptx2 hb] at p
 simp only [rows2, ptx2 hb]
 have wk := wrap_u16 ((Sy.rows l).length : Int)
 have wl := wrap_u64 ((Sy.rows l).length : Int)
 have wn := wrap_u64 n
 refine ⟨fun h0 => ?_, fun h0 => ?_⟩
 refine ?a0; rotate_left
 refine ⟨fun h1 => ?_, fun h1 => ?_⟩
 refine ?a1; rotate_left
 refine ⟨fun h2 => ?_, fun h2 => ?_⟩
 refine ?a2; rotate_left
 refine ⟨?_, fun h3 => ?_⟩
 refine ?a3; rotate_left
 refine ⟨fun h4 => ?_, fun h4 => ?_⟩
 refine ?a4; rotate_left
 refine ⟨?_, fun h5 => ?_⟩
 refine ?a5; rotate_left
 refine ⟨?_, fun h6 => ?_⟩
 refine ?a6; rotate_left
 refine ⟨?_, fun h7 => ?_⟩
 refine ?a7; rotate_left
 refine ?a8; rotate_left
 case a0 | a1 | a2 | a4 | a8 =>
  first
  | (rcases q with ⟨⟨a1, a2, a3, a4⟩, e, z⟩ | ⟨q0, e, z⟩
     · exfalso
       rcases p with ⟨p1, p2, p3⟩ | ⟨p1, p2, p3⟩ <;> omega
     · first
       | (rw [e, z]
          done)
       | (rw [e, z]
          rfl))
  | (rcases q with ⟨⟨a1, a2, a3, a4⟩, e, z⟩ | ⟨q0, e, z⟩
     · rcases p with ⟨p1, p2, p3⟩ | ⟨p1, p2, p3⟩
       · obtain ⟨n1, n2⟩ := numB_len2 (n := (Sy.rows l).length) (by omega)
         simp only [e, z, p3, put_rows, rows_arr, n1, n2, numB_u64 hc.2.1.1 hc.2.1.2, encC, List.append_assoc]
         first | done | rfl
       · exfalso; omega
     · exfalso
       rcases p with ⟨p1, p2, p3⟩ | ⟨p1, p2, p3⟩
       · exact q0 ⟨by omega, by omega, by omega, by omega⟩
       · omega)
 case a3 | a5 | a6 | a7 =>
  first
  | omega
  | exact ⟨okR_isB hb, by simp, by omega⟩
  | (simp only [put_rows, rows_arr, List.length_append, tx_len, numB_len, List.length_cons, List.length_nil]
     omega)
  | (rcases p with ⟨p1, p2, p3⟩ | ⟨p1, p2, p3⟩
     · simp only [p3, put_rows, rows_arr, List.length_append, tx_len, numB_len, List.length_cons, List.length_nil]
       omega
     · exfalso; omega)
theorem cag_cenc : cac_cenc.Good Tryd.prog syG (caE [] [] [] []) := good_of_walk (Γ := ⟨[tcc_textq, tcc_i64p, z6c_u16p], syG, [], [], []⟩) (ρ := caE [] [] [] []) sym cenc_w rfl (fun _ _ _ _ => (ok_cons (Con.Good.env (Con.Good.up tcg_textq caup rfl) _ _ _ _) (ok_cons (Con.Good.env (Con.Good.up tcg_i64p caup rfl) _ _ _ _) (ok_cons (Con.Good.env (Con.Good.up (Con.Good.up (Con.Good.up z6g_u16p zb6up rfl) tcup rfl) caup rfl) _ _ _ _) ok_nil)))) cenc_h
def tell_tree : Tree :=
 (.br (.b2 .lt (.var 0) (.lit (0)))
 (.ret (.tup (.cons (.hs .no (.cons (.int .u8) .nil) (.tup .nil)) (.cons (.iface 61 (.int .i64 (.lit (1)))) .nil))))
 (.br (.b2 .lt (.lit (65535)) (.var 0))
 (.ret (.tup (.cons (.hs .no (.cons (.int .u8) .nil) (.tup .nil)) (.cons (.iface 61 (.int .i64 (.lit (1)))) .nil))))
 (.need (.b2 .and (.b2 .le (.ofI (.vop (.len 1) (.cons (.tup (.cons (.int .u8 (.lit (33))) .nil)) .nil))) (.lit (140737488355000))) (.b2 .and (.b2 .le (.lit (0)) (.wrap .u16 (.var 0))) (.b2 .le (.wrap .u16 (.var 0)) (.lit (65535)))))
 (.need (.b2 .and (.b2 .le (.ofI (.vop (.len 1) (.cons (.vapp 4 (.cons (.tup (.cons (.int .u8 (.lit (33))) .nil)) (.cons (.int .i64 (.wrap .u16 (.var 0))) .nil))) .nil))) (.lit (70368744177664))) (.b2 .and (.b2 .le (.lit (-9223372036854775808)) (.var 1)) (.b2 .le (.var 1) (.lit (9223372036854775807)))))
 (.need (.b2 .and (.b2 .le (.ofI (.vop (.len 1) (.cons (.vapp 6 (.cons (.vapp 4 (.cons (.tup (.cons (.int .u8 (.lit (33))) .nil)) (.cons (.int .i64 (.wrap .u16 (.var 0))) .nil))) (.cons (.int .i64 (.var 1)) .nil))) .nil))) (.lit (70368744177664))) (.b2 .and (.b2 .le (.lit (-9223372036854775808)) (.var 2)) (.b2 .le (.var 2) (.lit (9223372036854775807)))))
 (.need (.b2 .and (.b2 .le (.ofI (.vop (.len 1) (.cons (.vapp 6 (.cons (.vapp 6 (.cons (.vapp 4 (.cons (.tup (.cons (.int .u8 (.lit (33))) .nil)) (.cons (.int .i64 (.wrap .u16 (.var 0))) .nil))) (.cons (.int .i64 (.var 1)) .nil))) (.cons (.int .i64 (.var 2)) .nil))) .nil))) (.lit (70368744177664))) (.b2 .and (.b2 .le (.lit (-9223372036854775808)) (.var 3)) (.b2 .le (.var 3) (.lit (9223372036854775807)))))
 (.need (.b2 .and (.b2 .le (.ofI (.vop (.len 1) (.cons (.vapp 6 (.cons (.vapp 6 (.cons (.vapp 6 (.cons (.vapp 4 (.cons (.tup (.cons (.int .u8 (.lit (33))) .nil)) (.cons (.int .i64 (.wrap .u16 (.var 0))) .nil))) (.cons (.int .i64 (.var 1)) .nil))) (.cons (.int .i64 (.var 2)) .nil))) (.cons (.int .i64 (.var 3)) .nil))) .nil))) (.lit (70368744177664))) (.b2 .and (.b2 .le (.lit (-9223372036854775808)) (.var 4)) (.b2 .le (.var 4) (.lit (9223372036854775807)))))
 (.need (.b2 .and (.b2 .le (.ofI (.vop (.len 1) (.cons (.vapp 6 (.cons (.vapp 6 (.cons (.vapp 6 (.cons (.vapp 6 (.cons (.vapp 4 (.cons (.tup (.cons (.int .u8 (.lit (33))) .nil)) (.cons (.int .i64 (.wrap .u16 (.var 0))) .nil))) (.cons (.int .i64 (.var 1)) .nil))) (.cons (.int .i64 (.var 2)) .nil))) (.cons (.int .i64 (.var 3)) .nil))) (.cons (.int .i64 (.var 4)) .nil))) .nil))) (.lit (70368744177664))) (.b2 .and (.b2 .le (.lit (-9223372036854775808)) (.var 5)) (.b2 .le (.var 5) (.lit (9223372036854775807)))))
 (.need (.b2 .and (.b2 .le (.ofI (.vop (.len 1) (.cons (.vapp 6 (.cons (.vapp 6 (.cons (.vapp 6 (.cons (.vapp 6 (.cons (.vapp 6 (.cons (.vapp 4 (.cons (.tup (.cons (.int .u8 (.lit (33))) .nil)) (.cons (.int .i64 (.wrap .u16 (.var 0))) .nil))) (.cons (.int .i64 (.var 1)) .nil))) (.cons (.int .i64 (.var 2)) .nil))) (.cons (.int .i64 (.var 3)) .nil))) (.cons (.int .i64 (.var 4)) .nil))) (.cons (.int .i64 (.var 5)) .nil))) .nil))) (.lit (70368744177664))) (.b2 .and (.b2 .le (.lit (-9223372036854775808)) (.var 6)) (.b2 .le (.var 6) (.lit (9223372036854775807)))))
 (.ret (.tup (.cons (.hs .no (.cons (.int .u8) .nil) (.vapp 6 (.cons (.vapp 6 (.cons (.vapp 6 (.cons (.vapp 6 (.cons (.vapp 6 (.cons (.vapp 6 (.cons (.vapp 4 (.cons (.tup (.cons (.int .u8 (.lit (33))) .nil)) (.cons (.int .i64 (.wrap .u16 (.var 0))) .nil))) (.cons (.int .i64 (.var 1)) .nil))) (.cons (.int .i64 (.var 2)) .nil))) (.cons (.int .i64 (.var 3)) .nil))) (.cons (.int .i64 (.var 4)) .nil))) (.cons (.int .i64 (.var 5)) .nil))) (.cons (.int .i64 (.var 6)) .nil)))) (.cons (.cst .nilI) .nil)))))))))))))
abbrev cac_tell : Con := ⟨8, [(.agg (.cons (.int .i64 (.var 0)) (.cons (.int .i64 (.var 1)) (.cons (.int .i64 (.var 2)) (.cons (.int .i64 (.var 3)) (.cons (.int .i64 (.var 4)) (.cons (.int .i64 (.var 5)) (.cons (.int .i64 (.var 6)) .nil))))))))], (.b2 .and (.b2 .and (.b2 .le (.lit (-9223372036854775808)) (.var 0)) (.b2 .le (.var 0) (.lit (9223372036854775807)))) (.b2 .and (.b2 .and (.b2 .le (.lit (-9223372036854775808)) (.var 1)) (.b2 .le (.var 1) (.lit (9223372036854775807)))) (.b2 .and (.b2 .and (.b2 .le (.lit (-9223372036854775808)) (.var 2)) (.b2 .le (.var 2) (.lit (9223372036854775807)))) (.b2 .and (.b2 .and (.b2 .le (.lit (-9223372036854775808)) (.var 3)) (.b2 .le (.var 3) (.lit (9223372036854775807)))) (.b2 .and (.b2 .and (.b2 .le (.lit (-9223372036854775808)) (.var 4)) (.b2 .le (.var 4) (.lit (9223372036854775807)))) (.b2 .and (.b2 .and (.b2 .le (.lit (-9223372036854775808)) (.var 5)) (.b2 .le (.var 5) (.lit (9223372036854775807)))) (.b2 .and (.b2 .le (.lit (-9223372036854775808)) (.var 6)) (.b2 .le (.var 6) (.lit (9223372036854775807)))))))))), (.tup (.cons (.hs .no (.cons (.int .u8) .nil) (.vapp 14 (.cons (.tup (.cons (.int .i64 (.var 0)) (.cons (.int .i64 (.var 1)) (.cons (.int .i64 (.var 2)) (.cons (.int .i64 (.var 3)) (.cons (.int .i64 (.var 4)) (.cons (.int .i64 (.var 5)) (.cons (.int .i64 (.var 6)) .nil)))))))) .nil))) (.cons (.err (.iapp 13 (.cons (.int .i64 (.var 0)) .nil))) .nil))), ⟨7, 0, 0, 0⟩, none⟩
theorem tell_w : walk Tryd.prog 61 ⟨[z6c_u16p, tcc_i64p], syG, [], [], []⟩ [] (.tup (.cons (.s (.cons (.int .u8) .nil)) (.cons .v .nil))) cac_tell cac_tell.n 3000 = some tell_tree := by kernel_rfl
theorem tell_h (c a b r h d z : Int) : Hyp_ cac_tell tell_tree (caE [c, a, b, r, h, d, z] [] [] []) := by
 intro hc hty
 simp only [cac_tell, Sy.holds, caE, denV, denI, denB, denL, I2.den, VOp.den, List.getD_cons_zero, List.getD_cons_succ, Cst.den, syso, syse, syio, sybo, B2.ofInts, B2.denI, B2.denB, if_true, Bool.false_eq_true, if_false, Nat.div_one, Nat.mul_one, Nat.add_zero] at hc
 simp only [cac_tell, patsTyp, patTyp, patTypL, caE, denV, denL, List.getD_cons_zero, List.getD_cons_succ, and_true, true_and] at hty
 unfold tell_tree
 simp only [cac_tell, Tree.holds, Sy.holds, caE, denV, denI, denB, denL, I2.den, VOp.den, List.getD_cons_zero, List.getD_cons_succ, Cst.den, syso, syse, syio, sybo, cai_tle, cav_p2, cav_p8, cav_tlv, B2.ofInts, B2.denI, B2.denB, if_true, Bool.false_eq_true, if_false, Nat.div_one, Nat.mul_one, Nat.add_zero]
 rw [tlT_eq]
 have q := tl_spec c a b r h d z
 simp only [rows1]
 have wc := wrap_u64 c
 have wa := wrap_u64 a
 have wb := wrap_u64 b
 have wr := wrap_u64 r
 have wh := wrap_u64 h
 have wd := wrap_u64 d
 have wz := wrap_u64 z
 have wc16 := wrap_u16 c
 refine ⟨fun h0 => ?_, fun h0 => ?_⟩
 refine ?a0; rotate_left
 refine ⟨fun h1 => ?_, fun h1 => ?_⟩
 refine ?a1; rotate_left
 refine ⟨?_, fun h2 => ?_⟩
 refine ?a2; rotate_left
 refine ⟨?_, fun h3 => ?_⟩
 refine ?a3; rotate_left
 refine ⟨?_, fun h4 => ?_⟩
 refine ?a4; rotate_left
 refine ⟨?_, fun h5 => ?_⟩
 refine ?a5; rotate_left
 refine ⟨?_, fun h6 => ?_⟩
 refine ?a6; rotate_left
 refine ⟨?_, fun h7 => ?_⟩
 refine ?a7; rotate_left
 refine ⟨?_, fun h8 => ?_⟩
 refine ?a8; rotate_left
 refine ?a9; rotate_left
 case a0 | a1 | a9 =>
  first
  | (rcases q with ⟨q0, zz⟩ | ⟨q0, zz⟩
     · exfalso; omega
     · first
       | (rw [zz, if_neg q0]
          done)
       | (rw [zz, if_neg q0]
          rfl))
  | (rcases q with ⟨q0, zz⟩ | ⟨q0, zz⟩
     · obtain ⟨n1, n2⟩ := numB_c2 q0.1 q0.2
       rw [zz, if_pos q0]
       simp only [putV, put_rows, rows_arr, n1, n2, numB_u64 (v := a) (by omega) (by omega), numB_u64 (v := b) (by omega) (by omega), numB_u64 (v := r) (by omega) (by omega), numB_u64 (v := h) (by omega) (by omega), numB_u64 (v := d) (by omega) (by omega), numB_u64 (v := z) (by omega) (by omega), encT, List.append_assoc]
       first | done | rfl
     · exfalso; omega)
 case a2 | a3 | a4 | a5 | a6 | a7 | a8 =>
  first
  | omega
  | (simp only [put_rows, rows_arr, List.length_append, numB_len, List.length_cons, List.length_nil]
     omega)
theorem cag_tell : cac_tell.Good Tryd.prog syG (caE [] [] [] []) := good_of_walk (Γ := ⟨[z6c_u16p, tcc_i64p], syG, [], [], []⟩) (ρ := caE [] [] [] []) sym tell_w rfl (fun _ _ _ _ => (ok_cons (Con.Good.env (Con.Good.up (Con.Good.up (Con.Good.up z6g_u16p zb6up rfl) tcup rfl) caup rfl) _ _ _ _) (ok_cons (Con.Good.env (Con.Good.up tcg_i64p caup rfl) _ _ _ _) ok_nil))) tell_h
def price_tree : Tree :=
 (.br (.b2 .eq (.var 0) (.lit (0)))
 (.ret (.int .i64 (.wrap .i64 (.i2 .add (.lit (1)) (.wrap .i64 (.i2 .quo (.wrap .i64 (.i2 .sub (.wrap .i64 (.i2 .add (.ofI (.vop (.len 1) (.cons (.opq 0) .nil))) (.lit (64)))) (.lit (1)))) (.lit (64))))))))
 (.br (.b2 .eq (.var 0) (.lit (1)))
 (.ret (.int .i64 (.wrap .i64 (.i2 .add (.lit (2)) (.wrap .i64 (.i2 .quo (.wrap .i64 (.i2 .sub (.wrap .i64 (.i2 .add (.ofI (.vop (.len 1) (.cons (.opq 0) .nil))) (.lit (64)))) (.lit (1)))) (.lit (64))))))))
 (.br (.b2 .eq (.var 0) (.lit (2)))
 (.ret (.int .i64 (.wrap .i64 (.i2 .add (.lit (8)) (.wrap .i64 (.i2 .quo (.wrap .i64 (.i2 .sub (.wrap .i64 (.i2 .add (.ofI (.vop (.len 1) (.cons (.opq 0) .nil))) (.lit (64)))) (.lit (1)))) (.lit (64))))))))
 (.br (.b2 .eq (.var 0) (.lit (3)))
 (.ret (.int .i64 (.wrap .i64 (.i2 .add (.lit (8)) (.wrap .i64 (.i2 .quo (.wrap .i64 (.i2 .sub (.wrap .i64 (.i2 .add (.ofI (.vop (.len 1) (.cons (.opq 0) .nil))) (.lit (64)))) (.lit (1)))) (.lit (64))))))))
 (.br (.b2 .eq (.var 0) (.lit (4)))
 (.ret (.int .i64 (.wrap .i64 (.i2 .add (.lit (8)) (.wrap .i64 (.i2 .quo (.wrap .i64 (.i2 .sub (.wrap .i64 (.i2 .add (.ofI (.vop (.len 1) (.cons (.opq 0) .nil))) (.lit (64)))) (.lit (1)))) (.lit (64))))))))
 (.br (.b2 .eq (.var 0) (.lit (5)))
 (.ret (.int .i64 (.wrap .i64 (.i2 .add (.lit (8)) (.wrap .i64 (.i2 .quo (.wrap .i64 (.i2 .sub (.wrap .i64 (.i2 .add (.ofI (.vop (.len 1) (.cons (.opq 0) .nil))) (.lit (64)))) (.lit (1)))) (.lit (64))))))))
 (.br (.b2 .eq (.var 0) (.lit (6)))
 (.ret (.int .i64 (.wrap .i64 (.i2 .add (.lit (8)) (.wrap .i64 (.i2 .quo (.wrap .i64 (.i2 .sub (.wrap .i64 (.i2 .add (.ofI (.vop (.len 1) (.cons (.opq 0) .nil))) (.lit (64)))) (.lit (1)))) (.lit (64))))))))
 (.ret (.int .i64 (.lit (0)))))))))))
abbrev cac_price : Con := ⟨17, [(.agg (.cons (.int .i64 (.var 0)) (.cons (.str 0) (.cons (.hs .no (.cons (.int .u8) .nil) (.opq 0)) (.cons (.int .i64 (.var 1)) .nil)))))], (.b2 .and (.b2 .and (.b2 .le (.lit (-9223372036854775808)) (.var 0)) (.b2 .le (.var 0) (.lit (9223372036854775807)))) (.b2 .le (.ofI (.vop (.len 1) (.cons (.opq 0) .nil))) (.lit (4096)))), (.int .i64 (.iapp 11 (.cons (.int .i64 (.var 0)) (.cons (.int .i64 (.ofI (.vop (.len 1) (.cons (.opq 0) .nil)))) .nil)))), ⟨2, 0, 1, 1⟩, none⟩
theorem price_w : walk Tryd.prog 61 ⟨[], syG, [], [], []⟩ [] .v cac_price cac_price.n 3000 = some price_tree := by kernel_rfl
theorem price_h (k n : Int) (l : Value) (s : ByteArray) : Hyp_ cac_price price_tree (caE [k, n] [] [l] [s]) := by
 intro hc hty
 simp only [cac_price, Sy.holds, caE, denV, denI, denB, denL, I2.den, VOp.den, List.getD_cons_zero, List.getD_cons_succ, Cst.den, syso, syse, syio, sybo, B2.ofInts, B2.denI, B2.denB, if_true, Bool.false_eq_true, if_false, Nat.div_one, Nat.mul_one, Nat.add_zero] at hc
 simp only [cac_price, patsTyp, patTyp, patTypL, caE, denV, denL, List.getD_cons_zero, List.getD_cons_succ, and_true, true_and] at hty
 have hL_l : typ (.sl (.cons (.int .u8) .nil)) l := by first | exact hty | exact hty.1 | exact hty.2 | exact hty.1.1 | exact hty.1.2 | exact hty.2.1 | exact hty.2.2 | exact hty.2.2.1 | exact hty.2.2.2
 have hN_l := typ_len (n := 1) hL_l rfl (by omega)
 simp only [Nat.div_one, Nat.mul_one] at hN_l
 unfold price_tree
 simp only [cac_price, Tree.holds, Sy.holds, caE, denV, denI, denB, denL, I2.den, VOp.den, List.getD_cons_zero, List.getD_cons_succ, Cst.den, syso, syse, syio, sybo, cai_prc, B2.ofInts, B2.denI, B2.denB, if_true, Bool.false_eq_true, if_false, Nat.div_one, Nat.mul_one, Nat.add_zero]
 have q := pr_spec k ((Sy.rows l).length : Int)
 have q2 := pb_spec k
 refine ⟨fun h0 => ?_, fun h0 => ?_⟩
 refine ?a0; rotate_left
 refine ⟨fun h1 => ?_, fun h1 => ?_⟩
 refine ?a1; rotate_left
 refine ⟨fun h2 => ?_, fun h2 => ?_⟩
 refine ?a2; rotate_left
 refine ⟨fun h3 => ?_, fun h3 => ?_⟩
 refine ?a3; rotate_left
 refine ⟨fun h4 => ?_, fun h4 => ?_⟩
 refine ?a4; rotate_left
 refine ⟨fun h5 => ?_, fun h5 => ?_⟩
 refine ?a5; rotate_left
 refine ⟨fun h6 => ?_, fun h6 => ?_⟩
 refine ?a6; rotate_left
 refine ?a7; rotate_left
 case a0 | a1 | a2 | a3 | a4 | a5 | a6 | a7 =>
  refine congrArg (Value.int .i64) ?_
  first
  | omega
  | (have e1 : IntKind.wrap .i64 ((((Sy.rows l).length : Nat) : Int) + 64) = (((Sy.rows l).length : Nat) : Int) + 64 := by have := wr_i64 ((((Sy.rows l).length : Nat) : Int) + 64); omega
     have e2 : IntKind.wrap .i64 ((((Sy.rows l).length : Nat) : Int) + 64 - 1) = (((Sy.rows l).length : Nat) : Int) + 63 := by have := wr_i64 ((((Sy.rows l).length : Nat) : Int) + 64 - 1); omega
     have e3 : ((((Sy.rows l).length : Nat) : Int) + 63).tdiv 64 = ((((Sy.rows l).length : Nat) : Int) + 63) / 64 := Int.tdiv_eq_ediv_of_nonneg (by omega)
     have e4 : IntKind.wrap .i64 (((((Sy.rows l).length : Nat) : Int) + 63) / 64) = ((((Sy.rows l).length : Nat) : Int) + 63) / 64 := by have := wr_i64 (((((Sy.rows l).length : Nat) : Int) + 63) / 64); omega
     simp only [e1, e2, e3, e4]
     have w1 := wr_i64 (1 + ((((Sy.rows l).length : Nat) : Int) + 63) / 64)
     have w2 := wr_i64 (2 + ((((Sy.rows l).length : Nat) : Int) + 63) / 64)
     have w8 := wr_i64 (8 + ((((Sy.rows l).length : Nat) : Int) + 63) / 64)
     omega)
theorem cag_price : cac_price.Good Tryd.prog syG (caE [] [] [] []) := good_of_walk (Γ := ⟨[], syG, [], [], []⟩) (ρ := caE [] [] [] []) sym price_w rfl (fun _ _ _ _ => ok_nil) price_h
def cdec_tree : Tree :=
 (.need (.bapp 0 (.cons (.opq 0) .nil))
 (.need (.bapp 0 (.cons (.opq 0) .nil))
 (.need (.bapp 0 (.cons (.vapp 0 (.cons (.opq 0) (.cons (.int .i64 (.lit (1))) .nil))) .nil))
 (.need (.bapp 0 (.cons (.vapp 0 (.cons (.vapp 0 (.cons (.opq 0) (.cons (.int .i64 (.lit (1))) .nil))) (.cons (.int .i64 (.lit (1))) .nil))) .nil))
 (.need (.bapp 0 (.cons (.vapp 10 (.cons (.vapp 0 (.cons (.vapp 0 (.cons (.opq 0) (.cons (.int .i64 (.lit (1))) .nil))) (.cons (.int .i64 (.lit (1))) .nil))) .nil)) .nil))
 (.need (.bapp 0 (.cons (.vapp 0 (.cons (.vapp 10 (.cons (.vapp 0 (.cons (.vapp 0 (.cons (.opq 0) (.cons (.int .i64 (.lit (1))) .nil))) (.cons (.int .i64 (.lit (1))) .nil))) .nil)) (.cons (.int .i64 (.lit (8))) .nil))) .nil))
 (.br (.not (.b2 .eq (.iapp 0 (.cons (.opq 0) (.cons (.int .i64 (.lit (1))) .nil))) (.lit (63))))
 (.ret (.tup (.cons (.agg (.cons (.int .i64 (.lit (0))) (.cons (.cst (.strc [])) (.cons (.hs .no (.cons (.int .u8) .nil) (.tup .nil)) (.cons (.int .i64 (.lit (0))) .nil))))) (.cons (.iface 61 (.int .i64 (.lit (3)))) .nil))))
 (.br (.b2 .lt (.lit (1024)) (.wrap .i64 (.iapp 0 (.cons (.vapp 0 (.cons (.vapp 10 (.cons (.vapp 0 (.cons (.vapp 0 (.cons (.opq 0) (.cons (.int .i64 (.lit (1))) .nil))) (.cons (.int .i64 (.lit (1))) .nil))) .nil)) (.cons (.int .i64 (.lit (8))) .nil))) (.cons (.int .i64 (.lit (2))) .nil)))))
 (.ret (.tup (.cons (.agg (.cons (.int .i64 (.lit (0))) (.cons (.cst (.strc [])) (.cons (.hs .no (.cons (.int .u8) .nil) (.tup .nil)) (.cons (.int .i64 (.lit (0))) .nil))))) (.cons (.iface 61 (.int .i64 (.lit (3)))) .nil))))
 (.need (.bapp 0 (.cons (.vapp 0 (.cons (.vapp 0 (.cons (.vapp 10 (.cons (.vapp 0 (.cons (.vapp 0 (.cons (.opq 0) (.cons (.int .i64 (.lit (1))) .nil))) (.cons (.int .i64 (.lit (1))) .nil))) .nil)) (.cons (.int .i64 (.lit (8))) .nil))) (.cons (.int .i64 (.lit (2))) .nil))) .nil))
 (.br (.not (.b2 .eq (.wrap .i64 (.iapp 0 (.cons (.vapp 0 (.cons (.vapp 10 (.cons (.vapp 0 (.cons (.vapp 0 (.cons (.opq 0) (.cons (.int .i64 (.lit (1))) .nil))) (.cons (.int .i64 (.lit (1))) .nil))) .nil)) (.cons (.int .i64 (.lit (8))) .nil))) (.cons (.int .i64 (.lit (2))) .nil)))) (.ofI (.vop (.len 1) (.cons (.vapp 0 (.cons (.vapp 0 (.cons (.vapp 10 (.cons (.vapp 0 (.cons (.vapp 0 (.cons (.opq 0) (.cons (.int .i64 (.lit (1))) .nil))) (.cons (.int .i64 (.lit (1))) .nil))) .nil)) (.cons (.int .i64 (.lit (8))) .nil))) (.cons (.int .i64 (.lit (2))) .nil))) .nil)))))
 (.ret (.tup (.cons (.agg (.cons (.int .i64 (.lit (0))) (.cons (.cst (.strc [])) (.cons (.hs .no (.cons (.int .u8) .nil) (.tup .nil)) (.cons (.int .i64 (.lit (0))) .nil))))) (.cons (.iface 61 (.int .i64 (.lit (3)))) .nil))))
 (.loop ⟨1, 1, 2, 0⟩ (.b2 .and (.b2 .le (.lit (0)) (.lit (0))) (.b2 .and (.b2 .le (.lit (0)) (.iapp 17 (.cons (.opq 0) .nil))) (.b2 .and (.bapp 0 (.cons (.vapp 0 (.cons (.vapp 0 (.cons (.vapp 10 (.cons (.vapp 0 (.cons (.vapp 0 (.cons (.opq 0) (.cons (.int .i64 (.lit (1))) .nil))) (.cons (.int .i64 (.lit (1))) .nil))) .nil)) (.cons (.int .i64 (.lit (8))) .nil))) (.cons (.int .i64 (.lit (2))) .nil))) .nil)) (.bapp 4 (.cons (.tup .nil) (.cons (.vapp 0 (.cons (.vapp 0 (.cons (.vapp 10 (.cons (.vapp 0 (.cons (.vapp 0 (.cons (.opq 0) (.cons (.int .i64 (.lit (1))) .nil))) (.cons (.int .i64 (.lit (1))) .nil))) .nil)) (.cons (.int .i64 (.lit (8))) .nil))) (.cons (.int .i64 (.lit (2))) .nil))) (.cons (.bool (.bapp 1 (.cons (.vapp 0 (.cons (.vapp 10 (.cons (.vapp 0 (.cons (.vapp 0 (.cons (.opq 0) (.cons (.int .i64 (.lit (1))) .nil))) (.cons (.int .i64 (.lit (1))) .nil))) .nil)) (.cons (.int .i64 (.lit (8))) .nil))) (.cons (.bool (.bapp 1 (.cons (.vapp 10 (.cons (.vapp 0 (.cons (.vapp 0 (.cons (.opq 0) (.cons (.int .i64 (.lit (1))) .nil))) (.cons (.int .i64 (.lit (1))) .nil))) .nil)) (.cons (.bool (.bapp 3 (.cons (.vapp 0 (.cons (.vapp 0 (.cons (.opq 0) (.cons (.int .i64 (.lit (1))) .nil))) (.cons (.int .i64 (.lit (1))) .nil))) (.cons (.bool (.bapp 1 (.cons (.vapp 0 (.cons (.opq 0) (.cons (.int .i64 (.lit (1))) .nil))) (.cons (.bool (.bapp 1 (.cons (.opq 0) (.cons (.bool (.tt false)) (.cons (.int .i64 (.lit (1))) .nil))))) (.cons (.int .i64 (.lit (1))) .nil))))) .nil)))) (.cons (.int .i64 (.lit (8))) .nil))))) (.cons (.int .i64 (.lit (2))) .nil))))) (.cons (.opq 0) (.cons (.int .i64 (.lit (0))) .nil))))))))) (.b2 .and (.b2 .le (.lit (0)) (.var 0)) (.b2 .and (.b2 .le (.var 0) (.iapp 17 (.cons (.opq 0) .nil))) (.b2 .and (.bapp 0 (.cons (.opq 2) .nil)) (.bapp 4 (.cons (.opq 1) (.cons (.opq 2) (.cons (.bool (.bvar 0)) (.cons (.opq 0) (.cons (.int .i64 (.var 0)) .nil)))))))))
 (.br (.b2 .lt (.var 0) (.wrap .i64 (.iapp 0 (.cons (.vapp 0 (.cons (.vapp 10 (.cons (.vapp 0 (.cons (.vapp 0 (.cons (.opq 0) (.cons (.int .i64 (.lit (1))) .nil))) (.cons (.int .i64 (.lit (1))) .nil))) .nil)) (.cons (.int .i64 (.lit (8))) .nil))) (.cons (.int .i64 (.lit (2))) .nil)))))
 (.need (.bapp 0 (.cons (.opq 2) .nil))
 (.need (.b2 .le (.i2 .add (.ofI (.vop (.len 1) (.cons (.opq 1) .nil))) (.lit (1))) (.lit (140737488355328)))
 (.back (.b2 .and (.b2 .le (.lit (0)) (.wrap .i64 (.i2 .add (.var 0) (.lit (1))))) (.b2 .and (.b2 .le (.wrap .i64 (.i2 .add (.var 0) (.lit (1)))) (.iapp 17 (.cons (.opq 0) .nil))) (.b2 .and (.bapp 0 (.cons (.vapp 0 (.cons (.opq 2) (.cons (.int .i64 (.lit (1))) .nil))) .nil)) (.bapp 4 (.cons (.vop .cat (.cons (.opq 1) (.cons (.tup (.cons (.int .u8 (.iapp 0 (.cons (.opq 2) (.cons (.int .i64 (.lit (1))) .nil)))) .nil)) .nil))) (.cons (.vapp 0 (.cons (.opq 2) (.cons (.int .i64 (.lit (1))) .nil))) (.cons (.bool (.bapp 1 (.cons (.opq 2) (.cons (.bool (.bvar 0)) (.cons (.int .i64 (.lit (1))) .nil))))) (.cons (.opq 0) (.cons (.int .i64 (.wrap .i64 (.i2 .add (.var 0) (.lit (1))))) .nil))))))))) (.i2 .sub (.iapp 17 (.cons (.opq 0) .nil)) (.wrap .i64 (.i2 .add (.var 0) (.lit (1))))) (.i2 .sub (.iapp 17 (.cons (.opq 0) .nil)) (.var 0)))))
 (.need (.bapp 0 (.cons (.opq 2) .nil))
 (.br (.not (.b2 .eq (.iapp 2 (.cons (.opq 2) (.cons (.bool (.bvar 0)) .nil))) (.lit (0))))
 (.ret (.tup (.cons (.agg (.cons (.int .i64 (.lit (0))) (.cons (.cst (.strc [])) (.cons (.hs .no (.cons (.int .u8) .nil) (.tup .nil)) (.cons (.int .i64 (.lit (0))) .nil))))) (.cons (.iface 61 (.int .i64 (.lit (3)))) .nil))))
 (.ret (.tup (.cons (.agg (.cons (.int .i64 (.wrap .i64 (.iapp 0 (.cons (.vapp 0 (.cons (.opq 0) (.cons (.int .i64 (.lit (1))) .nil))) (.cons (.int .i64 (.lit (1))) .nil))))) (.cons (.sapp 9 (.cons (.vapp 0 (.cons (.vapp 0 (.cons (.opq 0) (.cons (.int .i64 (.lit (1))) .nil))) (.cons (.int .i64 (.lit (1))) .nil))) .nil)) (.cons (.hs .no (.cons (.int .u8) .nil) (.opq 1)) (.cons (.int .i64 (.iapp 1 (.cons (.vapp 10 (.cons (.vapp 0 (.cons (.vapp 0 (.cons (.opq 0) (.cons (.int .i64 (.lit (1))) .nil))) (.cons (.int .i64 (.lit (1))) .nil))) .nil)) .nil))) .nil))))) (.cons (.cst .nilI) .nil))))))))))))))))))
abbrev cac_cdec : Con := ⟨10, [(.hs .no (.cons (.int .u8) .nil) (.opq 0))], (.b2 .and (.bapp 0 (.cons (.opq 0) .nil)) (.b2 .le (.ofI (.vop (.len 1) (.cons (.opq 0) .nil))) (.lit (4096)))), (.tup (.cons (.agg (.cons (.int .i64 (.iapp 15 (.cons (.opq 0) .nil))) (.cons (.sapp 15 (.cons (.opq 0) .nil)) (.cons (.hs .no (.cons (.int .u8) .nil) (.vapp 16 (.cons (.opq 0) .nil))) (.cons (.int .i64 (.iapp 16 (.cons (.opq 0) .nil))) .nil))))) (.cons (.err (.iapp 14 (.cons (.opq 0) .nil))) .nil))), ⟨0, 0, 1, 0⟩, none⟩
theorem cdec_w : walk Tryd.prog 61 ⟨[], syG, [], [rc_u8, tcc_text, rc_i64, rc_u16, tcc_left, rc_done], [rc_new]⟩ [⟨0, ⟨1, 1, 2, 0⟩, [(38, (.int .i64 (.var 0)))], some [[(.int .i64 (.lit (0))), (.cst (.strc [])), (.cst .nilS), (.int .i64 (.lit (0)))], [(.hs .no (.cons (.int .u8) .nil) (.opq 2)), (.bool (.bvar 0))], [(.int .i64 (.wrap .i64 (.iapp 0 (.cons (.vapp 0 (.cons (.opq 0) (.cons (.int .i64 (.lit (1))) .nil))) (.cons (.int .i64 (.lit (1))) .nil))))), (.sapp 9 (.cons (.vapp 0 (.cons (.vapp 0 (.cons (.opq 0) (.cons (.int .i64 (.lit (1))) .nil))) (.cons (.int .i64 (.lit (1))) .nil))) .nil)), (.hs (.id 1000 5) (.cons (.int .u8) .nil) (.opq 1)), (.int .i64 (.iapp 1 (.cons (.vapp 10 (.cons (.vapp 0 (.cons (.vapp 0 (.cons (.opq 0) (.cons (.int .i64 (.lit (1))) .nil))) (.cons (.int .i64 (.lit (1))) .nil))) .nil)) .nil)))]], (.b2 .and (.b2 .le (.lit (0)) (.var 0)) (.b2 .and (.b2 .le (.var 0) (.iapp 17 (.cons (.opq 0) .nil))) (.b2 .and (.bapp 0 (.cons (.opq 2) .nil)) (.bapp 4 (.cons (.opq 1) (.cons (.opq 2) (.cons (.bool (.bvar 0)) (.cons (.opq 0) (.cons (.int .i64 (.var 0)) .nil))))))))), (.i2 .sub (.iapp 17 (.cons (.opq 0) .nil)) (.var 0)), 1, []⟩] (.tup (.cons (.agg (.cons .v (.cons .v (.cons (.s (.cons (.int .u8) .nil)) (.cons .v .nil))))) (.cons .v .nil))) cac_cdec cac_cdec.n 3000 = some cdec_tree := by kernel_rfl
set_option maxHeartbeats 4000000 in
theorem cdec_h (c : Value) : Hyp_ cac_cdec cdec_tree (caE [] [] [c] []) := by
 intro hc hty
 simp only [cac_cdec, Sy.holds, caE, denV, denI, denB, denL, I2.den, VOp.den, List.getD_cons_zero, List.getD_cons_succ, Cst.den, syso, syse, syio, sybo, cab_okr, List.map_nil, List.map_cons, B2.ofInts, B2.denI, B2.denB, if_true, Bool.false_eq_true, if_false, Nat.div_one, Nat.mul_one, Nat.add_zero] at hc
 simp only [cac_cdec, patsTyp, patTyp, patTypL, caE, denV, denL, List.getD_cons_zero, List.getD_cons_succ, and_true, true_and] at hty
 have hL_c : typ (.sl (.cons (.int .u8) .nil)) c := by first | exact hty | exact hty.1 | exact hty.2 | exact hty.1.1 | exact hty.1.2 | exact hty.2.1 | exact hty.2.2 | exact hty.2.2.1 | exact hty.2.2.2
 have hN_c := typ_len (n := 1) hL_c rfl (by omega)
 simp only [Nat.div_one, Nat.mul_one] at hN_c
 unfold cdec_tree
 simp only [cac_cdec, Tree.holds, Sy.holds, AllN, Env.more, caE, List.cons_append, List.nil_append, List.append_nil, denV, denI, denB, denL, I2.den, VOp.den, List.getD_cons_zero, List.getD_cons_succ, Cst.den, syso, syse, syio, sybo, cai_rn, cai_ri, cai_dn, cai_dce, cai_dck, cai_dcn, cai_dsz, cab_okr, cab_rs, cab_ts, cab_dlp, cav_rl, cav_tx, cav_tl, cav_dcs, cav_dcb, List.map_nil, List.map_cons, B2.ofInts, B2.denI, B2.denB, if_true, Bool.false_eq_true, if_false, Nat.div_one, Nat.mul_one, Nat.add_zero]
 have hB := isB_typ hty hc.1
 have hXl := byL_len (Sy.rows c)
 obtain ⟨X, hX⟩ : ∃ X, byL (Sy.rows c) = X := ⟨_, rfl⟩
 rw [hX] at hXl
 simp only [hX, rl_eq, byL_bV, t8, t2, t1, x2_def, x3_def, x4_def, x5_def, sz_def, sh_def, v1_wr, sz_wr, rows_arr, List.length_map]
 have s1 := dc_spec X
 have n1 := cSz_le X
 have n5 := x5_le X
 have g1 := v1_rng X
 have g2 := v1_rng (getL X 1)
 refine ⟨?_, fun h0 => ?_⟩
 refine ?a0; rotate_left
 refine ⟨?_, fun h1 => ?_⟩
 refine ?a1; rotate_left
 refine ⟨?_, fun h2 => ?_⟩
 refine ?a2; rotate_left
 refine ⟨?_, fun h3 => ?_⟩
 refine ?a3; rotate_left
 refine ⟨?_, fun h4 => ?_⟩
 refine ?a4; rotate_left
 refine ⟨?_, fun h5 => ?_⟩
 refine ?a5; rotate_left
 refine ⟨fun h6 => ?_, fun h6 => ?_⟩
 refine ?a6; rotate_left
 refine ⟨fun h7 => ?_, fun h7 => ?_⟩
 refine ?a7; rotate_left
 refine ⟨?_, fun h8 => ?_⟩
 refine ?a8; rotate_left
 refine ⟨fun h9 => ?_, fun h9 => ?_⟩
 refine ?a9; rotate_left
 refine ⟨?_, ?_⟩
 ·
  exact ⟨by omega, by omega, okR_bV _, dl_iff.2 ⟨rfl, rfl, rfl, by omega⟩⟩
 intro i0a i0b i0c i0d hi0
 refine ⟨fun h10 => ?_, fun h10 => ?_⟩
 refine ⟨?_, fun h11 => ?_⟩
 refine ?a10; rotate_left
 refine ⟨?_, fun h12 => ?_⟩
 refine ?a11; rotate_left
 refine ⟨?_, ?_⟩
 ·
  obtain ⟨q0, q1, q2, q3⟩ := hi0
  obtain ⟨d1, d2, d3, d4⟩ := dl_iff.1 q3
  have hlt : i0a.toNat < (x5 X).length := by omega
  have hw : IntKind.wrap .i64 (i0a + 1) = i0a + 1 := by have := wr_i64 (i0a + 1); omega
  rw [hw, toNat_succ (by omega)]
  refine ⟨by omega, by omega, okR_bV _, dl_iff.2 ⟨?_, ?_, ?_, d4⟩⟩
  · simp only [d1, d2, rl_eq, rows_arr, byL_bV]
    rw [getV1_drop hlt, take_one hlt]
  · rw [d2, rl_eq, getL1_drop hlt]
  · rw [d2, d3, rl_eq, getS1_drop hlt]
 ·
  have := wr_i64 (i0a + 1)
  omega
 refine ⟨?_, fun h13 => ?_⟩
 refine ?a12; rotate_left
 refine ⟨fun h14 => ?_, fun h14 => ?_⟩
 refine ?a13; rotate_left
 refine ?a14; rotate_left
 case a0 | a1 | a2 | a3 | a4 | a5 | a8 =>
  with_reducible first
  | exact okR_mp _
  | exact hc.1
  | omega
 case a6 | a7 | a9 =>
  rcases s1 with ⟨⟨o1, o2, o3, o4⟩, E, K, S, B, N⟩ | ⟨no, E, K, S, B, N⟩
  · exfalso; omega
  · rw [E, K, S, B, N]
    first | done | rfl
 case a10 | a11 | a12 =>
  with_reducible first
  | exact hi0.2.2.1
  | exact okR_mp _
  | omega
  | exact okR_bV _
  | (obtain ⟨d1, d2, d3, d4⟩ := dl_iff.1 hi0.2.2.2
     rw [d1, rows_arr, List.length_map, List.length_take]
     omega)
 case a13 | a14 =>
  obtain ⟨q0, q1, q2, q3⟩ := hi0
  obtain ⟨d1, d2, d3, d4⟩ := dl_iff.1 q3
  have hj : i0a.toNat = (x5 X).length := by omega
  rw [hj] at d1 d2
  rw [List.take_length] at d1
  rw [List.drop_length] at d2
  have hd := dn5 X (sh5 X)
  have hdd : dnE (byL (Sy.rows i0d)) i0b = dnE [] (sh5 X) := by rw [d2, d3, rl_eq]
  rw [hd] at hdd
  rcases s1 with ⟨⟨o1, o2, o3, o4⟩, E, K, S, B, N⟩ | ⟨no, E, K, S, B, N⟩
  · rw [o1] at hdd
    first
    | (exfalso
       simp only [Bool.false_eq_true, if_false] at hdd
       omega)
    | (rw [E, K, S, B, N, d1]
       first | done | rfl)
  · by_cases hs : sh5 X = true
    · rw [hs] at hdd
      simp only [if_true] at hdd
      first
      | (exfalso; omega)
      | (rw [E, K, S, B, N]
         first | done | rfl)
    · exfalso
      exact no ⟨by simpa using hs, by omega, by omega, by omega⟩
theorem cag_cdec : cac_cdec.Good Tryd.prog syG (caE [] [] [] []) := good_of_walk (Γ := ⟨[], syG, [], [rc_u8, tcc_text, rc_i64, rc_u16, tcc_left, rc_done], [rc_new]⟩) (ρ := caE [] [] [] []) sym cdec_w rfl (fun _ _ _ _ => (ok_mcons (MCon.Good.env (MCon.Good.up (MCon.Good.up (MCon.Good.up (MCon.Good.up rg_u8 z6up rfl) zb6up rfl) tcup rfl) caup rfl) _ _ _ _) (ok_mcons (MCon.Good.env (MCon.Good.up tcg_text caup rfl) _ _ _ _) (ok_mcons (MCon.Good.env (MCon.Good.up (MCon.Good.up (MCon.Good.up (MCon.Good.up rg_i64 z6up rfl) zb6up rfl) tcup rfl) caup rfl) _ _ _ _) (ok_mcons (MCon.Good.env (MCon.Good.up (MCon.Good.up (MCon.Good.up (MCon.Good.up rg_u16 z6up rfl) zb6up rfl) tcup rfl) caup rfl) _ _ _ _) (ok_mcons (MCon.Good.env (MCon.Good.up tcg_left caup rfl) _ _ _ _) (ok_mcons (MCon.Good.env (MCon.Good.up (MCon.Good.up (MCon.Good.up (MCon.Good.up rg_done z6up rfl) zb6up rfl) tcup rfl) caup rfl) _ _ _ _) (ok_acons (ACon.Good.env (ACon.Good.up (ACon.Good.up (ACon.Good.up (ACon.Good.up rg_new z6up rfl) zb6up rfl) tcup rfl) caup rfl) _ _ _ _) ok_nil)))))))) cdec_h
def hear_tree : Tree :=
 (.need (.bapp 0 (.cons (.opq 0) .nil))
 (.need (.bapp 0 (.cons (.opq 0) .nil))
 (.need (.bapp 0 (.cons (.vapp 0 (.cons (.opq 0) (.cons (.int .i64 (.lit (1))) .nil))) .nil))
 (.need (.bapp 0 (.cons (.vapp 0 (.cons (.vapp 0 (.cons (.opq 0) (.cons (.int .i64 (.lit (1))) .nil))) (.cons (.int .i64 (.lit (2))) .nil))) .nil))
 (.need (.bapp 0 (.cons (.vapp 0 (.cons (.vapp 0 (.cons (.vapp 0 (.cons (.opq 0) (.cons (.int .i64 (.lit (1))) .nil))) (.cons (.int .i64 (.lit (2))) .nil))) (.cons (.int .i64 (.lit (8))) .nil))) .nil))
 (.need (.bapp 0 (.cons (.vapp 0 (.cons (.vapp 0 (.cons (.vapp 0 (.cons (.vapp 0 (.cons (.opq 0) (.cons (.int .i64 (.lit (1))) .nil))) (.cons (.int .i64 (.lit (2))) .nil))) (.cons (.int .i64 (.lit (8))) .nil))) (.cons (.int .i64 (.lit (8))) .nil))) .nil))
 (.need (.bapp 0 (.cons (.vapp 0 (.cons (.vapp 0 (.cons (.vapp 0 (.cons (.vapp 0 (.cons (.vapp 0 (.cons (.opq 0) (.cons (.int .i64 (.lit (1))) .nil))) (.cons (.int .i64 (.lit (2))) .nil))) (.cons (.int .i64 (.lit (8))) .nil))) (.cons (.int .i64 (.lit (8))) .nil))) (.cons (.int .i64 (.lit (8))) .nil))) .nil))
 (.need (.bapp 0 (.cons (.vapp 0 (.cons (.vapp 0 (.cons (.vapp 0 (.cons (.vapp 0 (.cons (.vapp 0 (.cons (.vapp 0 (.cons (.opq 0) (.cons (.int .i64 (.lit (1))) .nil))) (.cons (.int .i64 (.lit (2))) .nil))) (.cons (.int .i64 (.lit (8))) .nil))) (.cons (.int .i64 (.lit (8))) .nil))) (.cons (.int .i64 (.lit (8))) .nil))) (.cons (.int .i64 (.lit (8))) .nil))) .nil))
 (.need (.bapp 0 (.cons (.vapp 0 (.cons (.vapp 0 (.cons (.vapp 0 (.cons (.vapp 0 (.cons (.vapp 0 (.cons (.vapp 0 (.cons (.vapp 0 (.cons (.opq 0) (.cons (.int .i64 (.lit (1))) .nil))) (.cons (.int .i64 (.lit (2))) .nil))) (.cons (.int .i64 (.lit (8))) .nil))) (.cons (.int .i64 (.lit (8))) .nil))) (.cons (.int .i64 (.lit (8))) .nil))) (.cons (.int .i64 (.lit (8))) .nil))) (.cons (.int .i64 (.lit (8))) .nil))) .nil))
 (.br (.not (.b2 .eq (.iapp 0 (.cons (.opq 0) (.cons (.int .i64 (.lit (1))) .nil))) (.lit (33))))
 (.ret (.tup (.cons (.agg (.cons (.int .i64 (.lit (0))) (.cons (.int .i64 (.lit (0))) (.cons (.int .i64 (.lit (0))) (.cons (.int .i64 (.lit (0))) (.cons (.int .i64 (.lit (0))) (.cons (.int .i64 (.lit (0))) (.cons (.int .i64 (.lit (0))) .nil)))))))) (.cons (.iface 61 (.int .i64 (.lit (3)))) .nil))))
 (.need (.bapp 0 (.cons (.vapp 0 (.cons (.vapp 0 (.cons (.vapp 0 (.cons (.vapp 0 (.cons (.vapp 0 (.cons (.vapp 0 (.cons (.vapp 0 (.cons (.vapp 0 (.cons (.opq 0) (.cons (.int .i64 (.lit (1))) .nil))) (.cons (.int .i64 (.lit (2))) .nil))) (.cons (.int .i64 (.lit (8))) .nil))) (.cons (.int .i64 (.lit (8))) .nil))) (.cons (.int .i64 (.lit (8))) .nil))) (.cons (.int .i64 (.lit (8))) .nil))) (.cons (.int .i64 (.lit (8))) .nil))) (.cons (.int .i64 (.lit (8))) .nil))) .nil))
 (.br (.not (.b2 .eq (.iapp 2 (.cons (.vapp 0 (.cons (.vapp 0 (.cons (.vapp 0 (.cons (.vapp 0 (.cons (.vapp 0 (.cons (.vapp 0 (.cons (.vapp 0 (.cons (.vapp 0 (.cons (.opq 0) (.cons (.int .i64 (.lit (1))) .nil))) (.cons (.int .i64 (.lit (2))) .nil))) (.cons (.int .i64 (.lit (8))) .nil))) (.cons (.int .i64 (.lit (8))) .nil))) (.cons (.int .i64 (.lit (8))) .nil))) (.cons (.int .i64 (.lit (8))) .nil))) (.cons (.int .i64 (.lit (8))) .nil))) (.cons (.int .i64 (.lit (8))) .nil))) (.cons (.bool (.bapp 1 (.cons (.vapp 0 (.cons (.vapp 0 (.cons (.vapp 0 (.cons (.vapp 0 (.cons (.vapp 0 (.cons (.vapp 0 (.cons (.vapp 0 (.cons (.opq 0) (.cons (.int .i64 (.lit (1))) .nil))) (.cons (.int .i64 (.lit (2))) .nil))) (.cons (.int .i64 (.lit (8))) .nil))) (.cons (.int .i64 (.lit (8))) .nil))) (.cons (.int .i64 (.lit (8))) .nil))) (.cons (.int .i64 (.lit (8))) .nil))) (.cons (.int .i64 (.lit (8))) .nil))) (.cons (.bool (.bapp 1 (.cons (.vapp 0 (.cons (.vapp 0 (.cons (.vapp 0 (.cons (.vapp 0 (.cons (.vapp 0 (.cons (.vapp 0 (.cons (.opq 0) (.cons (.int .i64 (.lit (1))) .nil))) (.cons (.int .i64 (.lit (2))) .nil))) (.cons (.int .i64 (.lit (8))) .nil))) (.cons (.int .i64 (.lit (8))) .nil))) (.cons (.int .i64 (.lit (8))) .nil))) (.cons (.int .i64 (.lit (8))) .nil))) (.cons (.bool (.bapp 1 (.cons (.vapp 0 (.cons (.vapp 0 (.cons (.vapp 0 (.cons (.vapp 0 (.cons (.vapp 0 (.cons (.opq 0) (.cons (.int .i64 (.lit (1))) .nil))) (.cons (.int .i64 (.lit (2))) .nil))) (.cons (.int .i64 (.lit (8))) .nil))) (.cons (.int .i64 (.lit (8))) .nil))) (.cons (.int .i64 (.lit (8))) .nil))) (.cons (.bool (.bapp 1 (.cons (.vapp 0 (.cons (.vapp 0 (.cons (.vapp 0 (.cons (.vapp 0 (.cons (.opq 0) (.cons (.int .i64 (.lit (1))) .nil))) (.cons (.int .i64 (.lit (2))) .nil))) (.cons (.int .i64 (.lit (8))) .nil))) (.cons (.int .i64 (.lit (8))) .nil))) (.cons (.bool (.bapp 1 (.cons (.vapp 0 (.cons (.vapp 0 (.cons (.vapp 0 (.cons (.opq 0) (.cons (.int .i64 (.lit (1))) .nil))) (.cons (.int .i64 (.lit (2))) .nil))) (.cons (.int .i64 (.lit (8))) .nil))) (.cons (.bool (.bapp 1 (.cons (.vapp 0 (.cons (.vapp 0 (.cons (.opq 0) (.cons (.int .i64 (.lit (1))) .nil))) (.cons (.int .i64 (.lit (2))) .nil))) (.cons (.bool (.bapp 1 (.cons (.vapp 0 (.cons (.opq 0) (.cons (.int .i64 (.lit (1))) .nil))) (.cons (.bool (.bapp 1 (.cons (.opq 0) (.cons (.bool (.tt false)) (.cons (.int .i64 (.lit (1))) .nil))))) (.cons (.int .i64 (.lit (2))) .nil))))) (.cons (.int .i64 (.lit (8))) .nil))))) (.cons (.int .i64 (.lit (8))) .nil))))) (.cons (.int .i64 (.lit (8))) .nil))))) (.cons (.int .i64 (.lit (8))) .nil))))) (.cons (.int .i64 (.lit (8))) .nil))))) (.cons (.int .i64 (.lit (8))) .nil))))) .nil))) (.lit (0))))
 (.ret (.tup (.cons (.agg (.cons (.int .i64 (.lit (0))) (.cons (.int .i64 (.lit (0))) (.cons (.int .i64 (.lit (0))) (.cons (.int .i64 (.lit (0))) (.cons (.int .i64 (.lit (0))) (.cons (.int .i64 (.lit (0))) (.cons (.int .i64 (.lit (0))) .nil)))))))) (.cons (.iface 61 (.int .i64 (.lit (3)))) .nil))))
 (.ret (.tup (.cons (.agg (.cons (.int .i64 (.wrap .i64 (.iapp 0 (.cons (.vapp 0 (.cons (.opq 0) (.cons (.int .i64 (.lit (1))) .nil))) (.cons (.int .i64 (.lit (2))) .nil))))) (.cons (.int .i64 (.iapp 1 (.cons (.vapp 0 (.cons (.vapp 0 (.cons (.opq 0) (.cons (.int .i64 (.lit (1))) .nil))) (.cons (.int .i64 (.lit (2))) .nil))) .nil))) (.cons (.int .i64 (.iapp 1 (.cons (.vapp 0 (.cons (.vapp 0 (.cons (.vapp 0 (.cons (.opq 0) (.cons (.int .i64 (.lit (1))) .nil))) (.cons (.int .i64 (.lit (2))) .nil))) (.cons (.int .i64 (.lit (8))) .nil))) .nil))) (.cons (.int .i64 (.iapp 1 (.cons (.vapp 0 (.cons (.vapp 0 (.cons (.vapp 0 (.cons (.vapp 0 (.cons (.opq 0) (.cons (.int .i64 (.lit (1))) .nil))) (.cons (.int .i64 (.lit (2))) .nil))) (.cons (.int .i64 (.lit (8))) .nil))) (.cons (.int .i64 (.lit (8))) .nil))) .nil))) (.cons (.int .i64 (.iapp 1 (.cons (.vapp 0 (.cons (.vapp 0 (.cons (.vapp 0 (.cons (.vapp 0 (.cons (.vapp 0 (.cons (.opq 0) (.cons (.int .i64 (.lit (1))) .nil))) (.cons (.int .i64 (.lit (2))) .nil))) (.cons (.int .i64 (.lit (8))) .nil))) (.cons (.int .i64 (.lit (8))) .nil))) (.cons (.int .i64 (.lit (8))) .nil))) .nil))) (.cons (.int .i64 (.iapp 1 (.cons (.vapp 0 (.cons (.vapp 0 (.cons (.vapp 0 (.cons (.vapp 0 (.cons (.vapp 0 (.cons (.vapp 0 (.cons (.opq 0) (.cons (.int .i64 (.lit (1))) .nil))) (.cons (.int .i64 (.lit (2))) .nil))) (.cons (.int .i64 (.lit (8))) .nil))) (.cons (.int .i64 (.lit (8))) .nil))) (.cons (.int .i64 (.lit (8))) .nil))) (.cons (.int .i64 (.lit (8))) .nil))) .nil))) (.cons (.int .i64 (.iapp 1 (.cons (.vapp 0 (.cons (.vapp 0 (.cons (.vapp 0 (.cons (.vapp 0 (.cons (.vapp 0 (.cons (.vapp 0 (.cons (.vapp 0 (.cons (.opq 0) (.cons (.int .i64 (.lit (1))) .nil))) (.cons (.int .i64 (.lit (2))) .nil))) (.cons (.int .i64 (.lit (8))) .nil))) (.cons (.int .i64 (.lit (8))) .nil))) (.cons (.int .i64 (.lit (8))) .nil))) (.cons (.int .i64 (.lit (8))) .nil))) (.cons (.int .i64 (.lit (8))) .nil))) .nil))) .nil)))))))) (.cons (.cst .nilI) .nil))))))))))))))))
abbrev cac_hear : Con := ⟨12, [(.hs .no (.cons (.int .u8) .nil) (.opq 0))], (.b2 .and (.bapp 0 (.cons (.opq 0) .nil)) (.b2 .le (.ofI (.vop (.len 1) (.cons (.opq 0) .nil))) (.lit (4096)))), (.tup (.cons (.agg (.cons (.int .i64 (.iapp 20 (.cons (.opq 0) .nil))) (.cons (.int .i64 (.iapp 21 (.cons (.opq 0) (.cons (.int .i64 (.lit (0))) .nil)))) (.cons (.int .i64 (.iapp 21 (.cons (.opq 0) (.cons (.int .i64 (.lit (1))) .nil)))) (.cons (.int .i64 (.iapp 21 (.cons (.opq 0) (.cons (.int .i64 (.lit (2))) .nil)))) (.cons (.int .i64 (.iapp 21 (.cons (.opq 0) (.cons (.int .i64 (.lit (3))) .nil)))) (.cons (.int .i64 (.iapp 21 (.cons (.opq 0) (.cons (.int .i64 (.lit (4))) .nil)))) (.cons (.int .i64 (.iapp 21 (.cons (.opq 0) (.cons (.int .i64 (.lit (5))) .nil)))) .nil)))))))) (.cons (.err (.iapp 19 (.cons (.opq 0) .nil))) .nil))), ⟨0, 0, 1, 0⟩, none⟩
theorem hear_w : walk Tryd.prog 61 ⟨[], syG, [], [rc_u8, rc_u16, rc_i64, rc_done], [rc_new]⟩ [] .v cac_hear cac_hear.n 3000 = some hear_tree := by kernel_rfl
set_option maxHeartbeats 4000000 in
theorem hear_h (c : Value) : Hyp_ cac_hear hear_tree (caE [] [] [c] []) := by
 intro hc hty
 simp only [cac_hear, Sy.holds, caE, denV, denI, denB, denL, I2.den, VOp.den, List.getD_cons_zero, List.getD_cons_succ, Cst.den, syso, syse, syio, sybo, cab_okr, B2.ofInts, B2.denI, B2.denB, if_true, Bool.false_eq_true, if_false, Nat.div_one, Nat.mul_one, Nat.add_zero] at hc
 simp only [cac_hear, patsTyp, patTyp, patTypL, caE, denV, denL, List.getD_cons_zero, List.getD_cons_succ, and_true, true_and] at hty
 have hL_c : typ (.sl (.cons (.int .u8) .nil)) c := by first | exact hty | exact hty.1 | exact hty.2 | exact hty.1.1 | exact hty.1.2 | exact hty.2.1 | exact hty.2.2 | exact hty.2.2.1 | exact hty.2.2.2
 have hN_c := typ_len (n := 1) hL_c rfl (by omega)
 simp only [Nat.div_one, Nat.mul_one] at hN_c
 unfold hear_tree
 simp only [cac_hear, Tree.holds, Sy.holds, caE, denV, denI, denB, denL, I2.den, VOp.den, List.getD_cons_zero, List.getD_cons_succ, Cst.den, syso, syse, syio, sybo, cai_rn, cai_ri, cai_dn, cai_hee, cai_hec, cai_hen, cab_okr, cab_rs, cav_rl, B2.ofInts, B2.denI, B2.denB, if_true, Bool.false_eq_true, if_false, Nat.div_one, Nat.mul_one, Nat.add_zero]
 have hB := isB_typ hty hc.1
 have hXl := byL_len (Sy.rows c)
 have k1 := he_spec (Sy.rows c)
 have hd := hR_done (byL (Sy.rows c))
 obtain ⟨X, hX⟩ : ∃ X, byL (Sy.rows c) = X := ⟨_, rfl⟩
 rw [hX] at hXl hd
 simp only [hX, rl_eq, t8, t2, t1, hr0, hs0, hrS, hsS, v2_wr, Nat.reduceAdd, Nat.zero_add]
 refine ⟨?_, fun h0 => ?_⟩
 refine ?a0; rotate_left
 refine ⟨?_, fun h1 => ?_⟩
 refine ?a1; rotate_left
 refine ⟨?_, fun h2 => ?_⟩
 refine ?a2; rotate_left
 refine ⟨?_, fun h3 => ?_⟩
 refine ?a3; rotate_left
 refine ⟨?_, fun h4 => ?_⟩
 refine ?a4; rotate_left
 refine ⟨?_, fun h5 => ?_⟩
 refine ?a5; rotate_left
 refine ⟨?_, fun h6 => ?_⟩
 refine ?a6; rotate_left
 refine ⟨?_, fun h7 => ?_⟩
 refine ?a7; rotate_left
 refine ⟨?_, fun h8 => ?_⟩
 refine ?a8; rotate_left
 refine ⟨fun h9 => ?_, fun h9 => ?_⟩
 refine ?a9; rotate_left
 refine ⟨?_, fun h10 => ?_⟩
 refine ?a10; rotate_left
 refine ⟨fun h11 => ?_, fun h11 => ?_⟩
 refine ?a11; rotate_left
 refine ?a12; rotate_left
 case a0 | a1 | a2 | a3 | a4 | a5 | a6 | a7 | a8 | a10 =>
  with_reducible first
  | exact okR_bV _
  | exact hc.1
  | omega
 case a9 | a11 | a12 =>
  have u1 := v1_rng X
  by_cases h51 : X.length = 51
  · have m0 := take1_val hB (by omega)
    have m1 := take2_val (hB.drop 1) (by rw [List.length_drop]; omega)
    rw [← getL_byL (by omega), hX, ← gB_drop, ← gB_drop] at m1
    rw [hX] at m0
    rw [if_pos h51] at hd
    rcases k1 with ⟨⟨o1, o2⟩, E, C, N⟩ | ⟨no, E, C, N⟩
    · first
      | (exfalso; omega)
      | (simp only [N, hX, hR_at h51 (show 0 ≤ 5 by omega), hR_at h51 (show 1 ≤ 5 by omega), hR_at h51 (show 2 ≤ 5 by omega), hR_at h51 (show 3 ≤ 5 by omega), hR_at h51 (show 4 ≤ 5 by omega), hR_at h51 (show 5 ≤ 5 by omega), E, C, m1]
         first | done | rfl)
    · first
      | (simp only [E, C, N]
         first | done | rfl)
      | (exfalso
         exact no ⟨by omega, by omega⟩)
  · rw [if_neg h51] at hd
    rcases k1 with ⟨⟨o1, o2⟩, E, C, N⟩ | ⟨no, E, C, N⟩
    · exfalso; omega
    · first
      | (exfalso; omega)
      | (simp only [E, C, N]
         first | done | rfl)
theorem cag_hear : cac_hear.Good Tryd.prog syG (caE [] [] [] []) := good_of_walk (Γ := ⟨[], syG, [], [rc_u8, rc_u16, rc_i64, rc_done], [rc_new]⟩) (ρ := caE [] [] [] []) sym hear_w rfl (fun _ _ _ _ => (ok_mcons (MCon.Good.env (MCon.Good.up (MCon.Good.up (MCon.Good.up (MCon.Good.up rg_u8 z6up rfl) zb6up rfl) tcup rfl) caup rfl) _ _ _ _) (ok_mcons (MCon.Good.env (MCon.Good.up (MCon.Good.up (MCon.Good.up (MCon.Good.up rg_u16 z6up rfl) zb6up rfl) tcup rfl) caup rfl) _ _ _ _) (ok_mcons (MCon.Good.env (MCon.Good.up (MCon.Good.up (MCon.Good.up (MCon.Good.up rg_i64 z6up rfl) zb6up rfl) tcup rfl) caup rfl) _ _ _ _) (ok_mcons (MCon.Good.env (MCon.Good.up (MCon.Good.up (MCon.Good.up (MCon.Good.up rg_done z6up rfl) zb6up rfl) tcup rfl) caup rfl) _ _ _ _) (ok_acons (ACon.Good.env (ACon.Good.up (ACon.Good.up (ACon.Good.up (ACon.Good.up rg_new z6up rfl) zb6up rfl) tcup rfl) caup rfl) _ _ _ _) ok_nil)))))) hear_h
def csame_tree : Tree :=
 (.br (.b2 .eq (.var 0) (.var 2))
 (.br (.veq (.str 0) (.str 1))
 (.br (.veq (.vop .b2s (.cons (.opq 0) .nil)) (.vop .b2s (.cons (.opq 1) .nil)))
 (.ret (.bool (.b2 .eq (.var 1) (.var 3))))
 (.ret (.bool (.tt false))))
 (.ret (.bool (.tt false))))
 (.ret (.bool (.tt false))))
abbrev cac_csame : Con := ⟨15, [(.agg (.cons (.int .i64 (.var 0)) (.cons (.str 0) (.cons (.hs .no (.cons (.int .u8) .nil) (.opq 0)) (.cons (.int .i64 (.var 1)) .nil))))), (.agg (.cons (.int .i64 (.var 2)) (.cons (.str 1) (.cons (.hs .no (.cons (.int .u8) .nil) (.opq 1)) (.cons (.int .i64 (.var 3)) .nil)))))], (.tt true), (.bool (.b2 .and (.b2 .eq (.var 0) (.var 2)) (.b2 .and (.veq (.str 0) (.str 1)) (.b2 .and (.veq (.vop .b2s (.cons (.opq 0) .nil)) (.vop .b2s (.cons (.opq 1) .nil))) (.b2 .eq (.var 1) (.var 3)))))), ⟨4, 0, 2, 2⟩, none⟩
theorem csame_w : walk Tryd.prog 61 ⟨[], syG, [], [], []⟩ [] .v cac_csame cac_csame.n 3000 = some csame_tree := by kernel_rfl
theorem csame_h (k n k2 n2 : Int) (l l2 : Value) (s s2 : ByteArray) : Hyp_ cac_csame csame_tree (caE [k, n, k2, n2] [] [l, l2] [s, s2]) := by
 intro hc hty
 simp only [cac_csame, Sy.holds, caE, denV, denI, denB, denL, I2.den, VOp.den, List.getD_cons_zero, List.getD_cons_succ, Cst.den, syso, syse, syio, sybo, B2.ofInts, B2.denI, B2.denB, if_true, Bool.false_eq_true, if_false, Nat.div_one, Nat.mul_one, Nat.add_zero] at hc
 simp only [cac_csame, patsTyp, patTyp, patTypL, caE, denV, denL, List.getD_cons_zero, List.getD_cons_succ, and_true, true_and] at hty
 have hL_l : typ (.sl (.cons (.int .u8) .nil)) l := by first | exact hty | exact hty.1 | exact hty.2 | exact hty.1.1 | exact hty.1.2 | exact hty.2.1 | exact hty.2.2 | exact hty.2.2.1 | exact hty.2.2.2
 have hN_l := typ_len (n := 1) hL_l rfl (by omega)
 simp only [Nat.div_one, Nat.mul_one] at hN_l
 have hL_l2 : typ (.sl (.cons (.int .u8) .nil)) l2 := by first | exact hty | exact hty.1 | exact hty.2 | exact hty.1.1 | exact hty.1.2 | exact hty.2.1 | exact hty.2.2 | exact hty.2.2.1 | exact hty.2.2.2
 have hN_l2 := typ_len (n := 1) hL_l2 rfl (by omega)
 simp only [Nat.div_one, Nat.mul_one] at hN_l2
 unfold csame_tree
 simp only [cac_csame, Tree.holds, Sy.holds, caE, denV, denI, denB, denL, I2.den, VOp.den, List.getD_cons_zero, List.getD_cons_succ, Cst.den, syso, syse, syio, sybo, B2.ofInts, B2.denI, B2.denB, if_true, Bool.false_eq_true, if_false, Nat.div_one, Nat.mul_one, Nat.add_zero]
 refine ⟨fun h0 => ?_, fun h0 => ?_⟩
 refine ⟨fun h1 => ?_, fun h1 => ?_⟩
 refine ⟨fun h2 => ?_, fun h2 => ?_⟩
 ·
  refine congrArg Value.bool ?_
  simp_all
 ·
  refine congrArg Value.bool ?_
  simp_all
 ·
  refine congrArg Value.bool ?_
  simp_all
 ·
  refine congrArg Value.bool ?_
  simp_all
theorem cag_csame : cac_csame.Good Tryd.prog syG (caE [] [] [] []) := good_of_walk (Γ := ⟨[], syG, [], [], []⟩) (ρ := caE [] [] [] []) sym csame_w rfl (fun _ _ _ _ => ok_nil) csame_h
end Go.Proofs.YtmlidfpjeomcmaaDoor
