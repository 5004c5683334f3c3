/-
 Layer 10: ZoneForms.
-/
import Derived.Test.YtikfgnmljpjnbaaDoorSycpob
import Derived.Test.YtikfgnmljpjnbaaDoorZlpob
import Derived.Test.YtikfgnmljpjnbaaDoorNumpob
import Derived.Test.YtikfgnmljpjnbaaDoorW05gpob
namespace Go.Proofs.YtikfgnmljpjnbaaDoor
open Go.RowKit Go.Extern.Stop Go.Stop Go.Extern Go.Proofs.YtikfgnmljpjnbaaDoor.Sy
set_option linter.unusedVariables false
set_option linter.unusedSimpArgs false
theorem byL_txV (s : ByteArray) : byL (txV s) = txt s := by
 have := ptx_eq isB.nil s
 rw [show byL ([] : List Value) = [] from rfl, List.nil_append, List.nil_append] at this
 rw [← this, byL_bV]
theorem zgl_app {a r : List UInt8} {k : Nat} (h : a.length = k) : getL (a ++ r) k = r := by
 subst h
 unfold getL
 rw [if_pos (by rw [List.length_append]; omega), List.drop_left]
theorem zgs_app {a r : List UInt8} {s : Bool} {k : Nat} (h : a.length = k) : getS (a ++ r) s k = s := by
 subst h
 unfold getS
 rw [if_pos (by rw [List.length_append]; omega)]
theorem byN (v : Int) : (byL (numB v 8)).length = 8 := by rw [byL_len, numB_len]
def tlV (L : List Value) (n k : Nat) : List Value := ((List.range n).drop k).flatMap (rulV L)
theorem tl_step (L : List Value) {n k : Nat} (h : k < n) : tlV L n k = rulV L k ++ tlV L n (k + 1) := by
 unfold tlV
 rw [List.drop_eq_getElem_cons (by rw [List.length_range]; exact h), List.flatMap_cons, List.getElem_range]
theorem tl_end (L : List Value) (n : Nat) : tlV L n n = [] := by
 unfold tlV
 rw [List.drop_of_length_le (by simp)]
 rfl
def row3 (L : List Value) (k : Nat) : List Value := [.int .i64 (atR L k), .int .i64 (offR L k), .string (nmR L k)]
theorem by_rul (L : List Value) (k : Nat) (T : List Value) : byL (rulV L k ++ T) = byL (numB (atR L k) 8) ++ (byL (numB (offR L k) 8) ++ (txt (nmR L k) ++ byL T)) := by
 unfold rulV
 simp only [byL_app, byL_txV, List.append_assoc]
theorem head_enc {s : ByteArray} {f : Int} {L : List Value} (hs : s.size ≤ 255) (h0 : -9223372036854775808 ≤ f) (h1 : f ≤ 9223372036854775807) (hn : L.length / 3 ≤ 255) :
   getT (byL (encZ s f L (L.length / 3))) = sB s ∧ rdI (getTL (byL (encZ s f L (L.length / 3)))) = f ∧ zCnt (byL (encZ s f L (L.length / 3))) = L.length / 3 ∧ restZ (byL (encZ s f L (L.length / 3))) 0 = (byL (tlV L (L.length / 3) 0), false) := by
 obtain ⟨T, hT⟩ : ∃ T, T = byL (tlV L (L.length / 3) 0) := ⟨_, rfl⟩
 have e : byL (encZ s f L (L.length / 3)) = txt s ++ (byL (numB f 8) ++ ([UInt8.ofNat (L.length / 3)] ++ T)) := by
   rw [hT]
   unfold encZ tlV
   rw [List.drop_zero]
   simp only [byL_app, byL_txV]
   have : byL [Value.int .u8 (((L.length / 3 : Nat) : Int) % 256)] = [UInt8.ofNat (L.length / 3)] := by
     show [UInt8.ofNat ((((L.length / 3 : Nat) : Int) % 256)).toNat] = _
     rw [show (((L.length / 3 : Nat) : Int) % 256).toNat = L.length / 3 by omega]
   rw [this]
 obtain ⟨t1, t2, t3⟩ := get_txt s (byL (numB f 8) ++ ([UInt8.ofNat (L.length / 3)] ++ T)) false hs
 rw [e]
 have e2 : getL (byL (numB f 8) ++ ([UInt8.ofNat (L.length / 3)] ++ T)) 8 = [UInt8.ofNat (L.length / 3)] ++ T := zgl_app (byN f)
 refine ⟨t1, by rw [t2]; exact rdI_app h0 h1 _, ?_, ?_⟩
 · unfold zCnt
   rw [t2, e2]
   have h := getV_app [UInt8.ofNat (L.length / 3)] T
   rw [show [UInt8.ofNat (L.length / 3)].length = 1 from rfl] at h
   rw [h]
   show (0 * 256 + (UInt8.ofNat (L.length / 3)).toNat) = _
   rw [UInt8.toNat_ofNat']
   omega
 · show (getL (getL (getTL _) 8) 1, getS (getL (getTL _) 8) (getS (getTL _) (getTS _ false) 8) 1) = _
   rw [t2, t3, e2, zgs_app (byN f), zgl_app (a := [UInt8.ofNat (L.length / 3)]) (k := 1) rfl, zgs_app (a := [UInt8.ofNat (L.length / 3)]) (k := 1) rfl, hT]
theorem rest_enc {X : List UInt8} {L : List Value} {n : Nat} (h : restZ X 0 = (byL (tlV L n 0), false)) (hr : ∀ k, k < n → -9223372036854775808 ≤ atR L k ∧ atR L k ≤ 9223372036854775807 ∧ -9223372036854775808 ≤ offR L k ∧ offR L k ≤ 9223372036854775807 ∧ (nmR L k).size ≤ 255) : ∀ k, k ≤ n → restZ X k = (byL (tlV L n k), false) ∧ rowsX X k = (List.range k).flatMap (row3 L)
 | 0, _ => ⟨h, rfl⟩
 | k + 1, hk => by
   obtain ⟨i1, i2⟩ := rest_enc h hr k (by omega)
   obtain ⟨r1, r2, r3, r4, r5⟩ := hr k (by omega)
   have e : (restZ X k).1 = byL (numB (atR L k) 8) ++ (byL (numB (offR L k) 8) ++ (txt (nmR L k) ++ byL (tlV L n (k + 1)))) := by
     rw [i1, tl_step L (by omega : k < n), by_rul]
   have e0 : (restZ X k).2 = false := by rw [i1]
   have e1 : getL (restZ X k).1 8 = byL (numB (offR L k) 8) ++ (txt (nmR L k) ++ byL (tlV L n (k + 1))) := by rw [e]; exact zgl_app (byN _)
   have e2 : getL (getL (restZ X k).1 8) 8 = txt (nmR L k) ++ byL (tlV L n (k + 1)) := by rw [e1]; exact zgl_app (byN _)
   obtain ⟨t1, t2, t3⟩ := get_txt (nmR L k) (byL (tlV L n (k + 1))) false r5
   refine ⟨?_, ?_⟩
   · refine Prod.ext ?_ ?_
     · rw [(restS X k).1, e2, t2]
     · rw [(restS X k).2, e2, e0, e1, zgs_app (byN _), e, zgs_app (byN _), t3]
   · rw [rowsS, i2, List.range_succ, List.flatMap_append, List.flatMap_cons, List.flatMap_nil, List.append_nil]
     congr 1
     have a1 : rdI (restZ X k).1 = atR L k := by rw [e]; exact rdI_app r1 r2 _
     have a2 : rdI (getL (restZ X k).1 8) = offR L k := by rw [e1]; exact rdI_app r3 r4 _
     have a3 : (⟨(getT (getL (getL (restZ X k).1 8) 8)).toArray⟩ : ByteArray) = nmR L k := by
       rw [e2, t1]
       unfold sB
       simp
     rw [a1, a2, a3]
     rfl
theorem rows3 {L : List Value} (hl : L.length = L.length / 3 * 3) (hr : ∀ k, k < L.length / 3 → L.getD (k * 3) Go.undef = .int .i64 (atR L k) ∧ L.getD (k * 3 + 1) Go.undef = .int .i64 (offR L k) ∧ L.getD (k * 3 + 2) Go.undef = .string (nmR L k)) : (List.range (L.length / 3)).flatMap (row3 L) = L := by
 have g : ∀ j, j < L.length → L[j]? = some (L.getD j Go.undef) := fun j hj => by
   rw [List.getD_eq_getElem?_getD, List.getElem?_eq_getElem hj]; rfl
 have key : ∀ m, m ≤ L.length / 3 → (List.range m).flatMap (row3 L) = L.take (m * 3) := by
   intro m
   induction m with
   | zero => intro _; rw [Nat.zero_mul, List.take_zero]; rfl
   | succ m ih =>
     intro hm
     obtain ⟨h1, h2, h3⟩ := hr m (by omega)
     rw [List.range_succ, List.flatMap_append, ih (by omega), List.flatMap_cons, List.flatMap_nil, List.append_nil, show (m + 1) * 3 = m * 3 + 1 + 1 + 1 by omega, List.take_add_one, List.take_add_one, List.take_add_one, g _ (by omega), g _ (by omega), g _ (by omega), h1, h2, show m * 3 + 1 + 1 = m * 3 + 2 by omega, h3]
     simp [row3]
 rw [key _ (Nat.le_refl _), ← hl, List.take_length]
theorem typ_rows {l : Value} (h : typ (.sl (.cons (.int .i64) (.cons (.int .i64) (.cons .str .nil)))) l) : l = .tuple (Sy.rows l).toArray ∧ (Sy.rows l).length = (Sy.rows l).length / 3 * 3 ∧ ∀ k, k < (Sy.rows l).length / 3 → (Sy.rows l).getD (k * 3) Go.undef = .int .i64 (atR (Sy.rows l) k) ∧ (Sy.rows l).getD (k * 3 + 1) Go.undef = .int .i64 (offR (Sy.rows l) k) ∧ (Sy.rows l).getD (k * 3 + 2) Go.undef = .string (nmR (Sy.rows l) k) := by
 obtain ⟨h1, n, _, h2, h3⟩ := h
 have e : ∀ i, i * (Sy.SK.cons (.int .i64) (.cons (.int .i64) (.cons .str .nil))).wd = i * 3 := fun i => rfl
 rw [e] at h2
 refine ⟨h1, by omega, fun k hk => ?_⟩
 obtain ⟨g1, g2, g3, _⟩ := h3 k (by omega)
 rw [e] at g1 g2 g3
 exact ⟨g1, g2, g3⟩
theorem zk_back {s : ByteArray} {f : Int} {l : Value} (hty : typ (.sl (.cons (.int .i64) (.cons (.int .i64) (.cons .str .nil)))) l) (h : zoneB s f (Sy.rows l) = true) : isB (Sy.rows (zkV s f (Sy.rows l))) ∧ (Sy.rows (zkV s f (Sy.rows l))).length ≤ 1000 ∧ dzE (Sy.rows (zkV s f (Sy.rows l))) = 0 ∧ dzF (Sy.rows (zkV s f (Sy.rows l))) = f ∧ dzN (Sy.rows (zkV s f (Sy.rows l))) = s ∧ dzL (Sy.rows (zkV s f (Sy.rows l))) = l := by
 obtain ⟨y1, y2, y3⟩ := typ_rows hty
 obtain ⟨z1, z2, z3, z4⟩ := (zone_iff s f (Sy.rows l)).1 h
 have z1' := name_len z1
 have hEl := encZ_len h (Nat.le_refl ((Sy.rows l).length / 3))
 have hs : slE (encZ s f (Sy.rows l) ((Sy.rows l).length / 3)) 6 = 0 := by rcases sl_spec (encZ s f (Sy.rows l) ((Sy.rows l).length / 3)) 6 with h | h | h <;> omega
 have e : zkV s f (Sy.rows l) = slV (encZ s f (Sy.rows l) ((Sy.rows l).length / 3)) 6 := by unfold zkV; rw [if_pos h]
 obtain ⟨s1, s2, s3, s4⟩ := seal_back (isB_encZ s f (Sy.rows l) _) hs
 have hbx : bx6 (Sy.rows (slV (encZ s f (Sy.rows l) ((Sy.rows l).length / 3)) 6)) = byL (encZ s f (Sy.rows l) ((Sy.rows l).length / 3)) := by
   unfold bx6
   rw [s4]
   rfl
 have hoff : -86399 ≤ f ∧ f ≤ 86399 := by
   rcases zk_spec s f (Sy.rows l) with ⟨_, x, _⟩ | ⟨_, _, _, _, a, b, _⟩
   · rw [x] at h; cases h
   · exact ⟨a, b⟩
 have hn32 : (Sy.rows l).length / 3 ≤ 32 := by
   rcases zk_spec s f (Sy.rows l) with ⟨_, x, _⟩ | ⟨_, _, _, _, _, _, c⟩
   · rw [x] at h; cases h
   · exact c
 obtain ⟨e1, e2, e3, e4⟩ := head_enc (s := s) (f := f) (L := Sy.rows l) (by omega) (by omega) (by omega) (by omega)
 obtain ⟨e5, e6⟩ := rest_enc e4 (fun k hk => by
   have := rul_at h hk
   omega) _ (Nat.le_refl _)
 rw [rows3 y2 y3] at e6
 have hz : zNm (byL (encZ s f (Sy.rows l) ((Sy.rows l).length / 3))) = s := by
   unfold zNm
   rw [e1]
   unfold sB
   simp
 have hd := dz_spec (Sy.rows (slV (encZ s f (Sy.rows l) ((Sy.rows l).length / 3)) 6))
 have hT : dzTab (bx6 (Sy.rows (slV (encZ s f (Sy.rows l) ((Sy.rows l).length / 3)) 6))) = true := by
   unfold dzTab
   rw [hbx, e3, e5, e6, hz, e2, h, tl_end]
   rfl
 rw [hbx] at hd hT
 rw [e2, e3, e6, hz, hT] at hd
 rw [e]
 refine ⟨s1, by omega, ?_⟩
 rcases hd with ⟨_, x, _⟩ | ⟨_, _, x, _⟩ | ⟨_, E, _, F0, N0, L0⟩
 · exact absurd s3 x
 · cases x
 · exact ⟨E, F0, N0, by rw [L0, ← y1]⟩
end Go.Proofs.YtikfgnmljpjnbaaDoor
