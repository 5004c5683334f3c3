/-
 Layer 44: CallsBack.
-/
import Derived.Test.YtmlidfpjeomcmaaDoorSycclb
import Derived.Test.YtmlidfpjeomcmaaDoorCbclb
import Derived.Test.YtmlidfpjeomcmaaDoorW05gclb
namespace Go.Proofs.YtmlidfpjeomcmaaDoor
open Go.RowKit Go.Extern.Stop Go.Stop Go.Extern Go.Proofs.YtmlidfpjeomcmaaDoor.Sy
set_option linter.unusedVariables false
set_option linter.unusedSimpArgs false
theorem gl_ap {a r : List UInt8} {k : Nat} (h : a.length = k) : getL (a ++ r) k = r := by
 subst h
 unfold getL
 rw [if_pos (by rw [List.length_append]; omega), List.drop_left]
theorem gs_ap {a r : List UInt8} {s : Bool} {k : Nat} (h : a.length = k) : getS (a ++ r) s k = s := by
 subst h
 unfold getS
 rw [if_pos (by rw [List.length_append]; omega)]
theorem gv_ap {a r : List UInt8} {k : Nat} (h : a.length = k) : getV (a ++ r) k = leV a := by
 subst h
 exact getV_app a r
theorem by_tx (s : ByteArray) : byL (txV s) = txt s := by
 have := ptx_eq isB.nil s
 rw [show byL ([] : List Value) = [] from rfl, List.nil_append, List.nil_append] at this
 rw [← this, byL_bV]
theorem le1 (x : UInt8) : leV [x] = x.toNat := by
 rw [leV_cons, show leV [] = 0 from rfl]
 omega
theorem by_n (v : Int) (k : Nat) : (byL (numB v k)).length = k := by rw [byL_len, numB_len]
theorem enc_reads {k n : Int} {s : ByteArray} {l : List Value} (hp : ceP k s l) (h0 : -9223372036854775808 ≤ n) (h1 : n ≤ 9223372036854775807) :
   okC (byL (encC k s l n)) ∧ (getV (getL (byL (encC k s l n)) 1) 1 : Int) = k ∧ getT (x2 (byL (encC k s l n))) = sB s ∧ x5 (byL (encC k s l n)) = byL l ∧ rdI (x3 (byL (encC k s l n))) = n := by
 obtain ⟨p1, p2, p3, p4⟩ := hp
 have e : byL (encC k s l n) = [UInt8.ofNat 63] ++ ([UInt8.ofNat (k % 256).toNat] ++ (txt s ++ (byL (numB n 8) ++ (byL (numB l.length 2) ++ byL l)))) := by
   unfold encC
   simp only [byL_app, by_tx]
   rfl
 rw [e]
 obtain ⟨T, hT⟩ : ∃ T, T = byL (numB n 8) ++ (byL (numB l.length 2) ++ byL l) := ⟨_, rfl⟩
 rw [← hT]
 obtain ⟨g1, g2, g3⟩ := get_txt s T false p4
 have a1 : getL ([UInt8.ofNat 63] ++ ([UInt8.ofNat (k % 256).toNat] ++ (txt s ++ T))) 1 = [UInt8.ofNat (k % 256).toNat] ++ (txt s ++ T) := gl_ap rfl
 have a2 : x2 ([UInt8.ofNat 63] ++ ([UInt8.ofNat (k % 256).toNat] ++ (txt s ++ T))) = txt s ++ T := by
   unfold x2
   rw [a1]
   exact gl_ap rfl
 have a3 : x3 ([UInt8.ofNat 63] ++ ([UInt8.ofNat (k % 256).toNat] ++ (txt s ++ T))) = T := by
   unfold x3
   rw [a2, g2]
 have a4 : x4 ([UInt8.ofNat 63] ++ ([UInt8.ofNat (k % 256).toNat] ++ (txt s ++ T))) = byL (numB l.length 2) ++ byL l := by
   unfold x4
   rw [a3, hT]
   exact gl_ap (by_n n 8)
 have a5 : x5 ([UInt8.ofNat 63] ++ ([UInt8.ofNat (k % 256).toNat] ++ (txt s ++ T))) = byL l := by
   unfold x5
   rw [a4]
   exact gl_ap (by_n _ 2)
 have a6 : (cSz ([UInt8.ofNat 63] ++ ([UInt8.ofNat (k % 256).toNat] ++ (txt s ++ T))) : Int) = l.length := by
   unfold cSz
   rw [a4, gv_ap (by_n _ 2)]
   exact leV_numB 2 _ (by omega) (by omega)
 have a7 : sh5 ([UInt8.ofNat 63] ++ ([UInt8.ofNat (k % 256).toNat] ++ (txt s ++ T))) = false := by
   unfold sh5
   rw [a4, gs_ap (by_n _ 2), a3, a2, a1, gs_ap (a := [UInt8.ofNat 63]) (k := 1) rfl, gs_ap (a := [UInt8.ofNat (k % 256).toNat]) (k := 1) rfl, g3]
   rw [hT, gs_ap (by_n n 8)]
 refine ⟨⟨a7, ?_, by omega, by rw [a5, byL_len]; omega⟩, ?_, by rw [a2, g1], a5, by rw [a3, hT]; exact rdI_app h0 h1 _⟩
 · rw [gv_ap (a := [UInt8.ofNat 63]) (k := 1) rfl]
   rfl
 · rw [a1, gv_ap (a := [UInt8.ofNat (k % 256).toNat]) (k := 1) rfl, le1, u8_toNat (by omega) (by omega)]
   omega
theorem gs_f {l : List UInt8} {s : Bool} {k : Nat} (h : getS l s k = false) : k ≤ l.length ∧ s = false := by
 unfold getS at h
 split at h
 · exact ⟨by assumption, h⟩
 · cases h
theorem gl_pre {l : List UInt8} {k : Nat} (R : List UInt8) (h : k ≤ l.length) : getL (l ++ R) k = getL l k ++ R := by
 unfold getL
 rw [if_pos (by rw [List.length_append]; omega), if_pos h, List.drop_append_of_le_length h]
theorem gv_pre {l : List UInt8} {k : Nat} (R : List UInt8) (h : k ≤ l.length) : getV (l ++ R) k = getV l k := by
 unfold getV
 rw [if_pos (by rw [List.length_append]; omega), if_pos h, List.take_append_of_le_length h]
theorem ok_more {Y R : List UInt8} (h : okC Y) (hR : R ≠ []) : ¬ okC (Y ++ R) := by
 obtain ⟨o1, _, _, o4⟩ := h
 obtain ⟨f5, o1⟩ := gs_f o1
 obtain ⟨f4, o1⟩ := gs_f o1
 obtain ⟨f3, o1⟩ := gs_f o1
 obtain ⟨f2', o1⟩ := gs_f o1
 obtain ⟨f2, o1⟩ := gs_f o1
 obtain ⟨f1, _⟩ := gs_f o1
 have e2 : x2 (Y ++ R) = x2 Y ++ R := by
   unfold x2
   rw [gl_pre R f1, gl_pre R f2]
 have e3 : x3 (Y ++ R) = x3 Y ++ R := by
   unfold x3
   rw [e2]
   unfold getTL
   rw [gl_pre R f2', gv_pre R f2', gl_pre R f3]
 have e4 : x4 (Y ++ R) = x4 Y ++ R := by
   unfold x4
   rw [e3, gl_pre R f4]
 have e5 : x5 (Y ++ R) = x5 Y ++ R := by
   unfold x5
   rw [e4, gl_pre R f5]
 have ez : cSz (Y ++ R) = cSz Y := by
   unfold cSz
   rw [e4, gv_pre R f5]
 intro ⟨_, _, _, k4⟩
 rw [ez, e5, List.length_append] at k4
 exact hR (List.eq_nil_of_length_eq_zero (by omega))
theorem dcE_no {X : List UInt8} (h : ¬ okC X) : dcE X = 3 := by
 unfold dcE
 rw [if_neg h]
theorem isB_encC {k n : Int} {s : ByteArray} {l : List Value} (h : isB l) : isB (encC k s l n) := .app (.cons (by decide) (by decide) (.cons (by omega) (by omega) .nil)) (.app (isB_tx s) (.app (isB_numB _ _) (.app (isB_numB _ _) h)))
theorem encC_len (k n : Int) (s : ByteArray) (l : List Value) : (encC k s l n).length = 13 + s.size + l.length := by
 unfold encC
 simp only [List.length_append, tx_len, numB_len, List.length_cons, List.length_nil]
 omega
theorem tmod_in {q : Int} {n : Nat} (h0 : 0 ≤ q) (hn : 2 ≤ n) : (if (n : Int) > 1 then (n : Int) else 1) = n ∧ 0 ≤ q.tmod n ∧ q.tmod n < n :=
 ⟨if_pos (by omega), Int.tmod_nonneg _ h0, Int.tmod_lt_of_pos _ (by omega)⟩
theorem c_all {k n q : Int} {s : ByteArray} {l : Value} (hty : typ (.sl KB) l) (hk : okR (Sy.rows l) = true) (h0 : -9223372036854775808 ≤ n) (h1 : n ≤ 9223372036854775807) (hq : 0 ≤ q) :
   ceI k s (Sy.rows l) = 1 ∨ (ceI k s (Sy.rows l) = 0 ∧ isB (Sy.rows (ceV k s (Sy.rows l) n)) ∧ (13 ≤ (Sy.rows (ceV k s (Sy.rows l) n)).length ∧ (Sy.rows (ceV k s (Sy.rows l) n)).length ≤ 2000) ∧ dcE (byL (Sy.rows (ceV k s (Sy.rows l) n))) = 0 ∧ dcK (byL (Sy.rows (ceV k s (Sy.rows l) n))) = k ∧ dcS (byL (Sy.rows (ceV k s (Sy.rows l) n))) = s ∧ dcB (byL (Sy.rows (ceV k s (Sy.rows l) n))) = l ∧ dcN (byL (Sy.rows (ceV k s (Sy.rows l) n))) = n ∧
     dcE (byL ((Sy.rows (ceV k s (Sy.rows l) n)).take (q.tmod ((Sy.rows (ceV k s (Sy.rows l) n)).length : Int)).toNat)) = 3 ∧ dcE (byL (Sy.rows (ceV k s (Sy.rows l) n) ++ [Value.int .u8 0])) = 3 ∧ ((if ((Sy.rows (ceV k s (Sy.rows l) n)).length : Int) > 1 then ((Sy.rows (ceV k s (Sy.rows l) n)).length : Int) else 1) = ((Sy.rows (ceV k s (Sy.rows l) n)).length : Int)) ∧ 0 ≤ q.tmod ((Sy.rows (ceV k s (Sy.rows l) n)).length : Int) ∧ q.tmod ((Sy.rows (ceV k s (Sy.rows l) n)).length : Int) < ((Sy.rows (ceV k s (Sy.rows l) n)).length : Int)) := by
 rcases ce_spec k s (Sy.rows l) n with ⟨hp, e, z⟩ | ⟨_, e, _⟩
 · right
   have hB : isB (Sy.rows l) := isB_typ hty hk
   obtain ⟨r1, r2, r3, r4, r5⟩ := enc_reads (l := Sy.rows l) hp h0 h1
   have hE := isB_encC (k := k) (n := n) (s := s) hB
   have hl := encC_len k n s (Sy.rows l)
   obtain ⟨p1, p2, p3, p4⟩ := hp
   rw [z, rows_arr]
   obtain ⟨t1, t2, t3⟩ := tmod_in (n := (encC k s (Sy.rows l) n).length) hq (by omega)
   rcases dc_spec (byL (encC k s (Sy.rows l) n)) with ⟨_, E, K, S, B, N⟩ | ⟨no, _⟩
   · refine ⟨e, hE, by omega, E, by rw [K]; exact r2, ?_, ?_, by rw [N, r5], dcE_no fun hY => ?_, dcE_no ?_, t1, t2, t3⟩
     · rw [S, r3]
       unfold sB
       simp
     · rw [B, r4, hB.by]
       exact tup_rows hty
     · have := ok_more hY (R := byL ((encC k s (Sy.rows l) n).drop (q.tmod ((encC k s (Sy.rows l) n).length : Int)).toNat)) (fun h => by
         have hz := congrArg List.length h
         rw [byL_len, List.length_drop, List.length_nil] at hz
         omega)
       rw [← byL_app, List.take_append_drop] at this
       exact this r1
     · rw [byL_app]
       exact ok_more r1 (by decide)
   · exact absurd r1 no
 · exact .inl e
theorem encT_len (c a b r h d z : Int) : (encT c a b r h d z).length = 51 := by
 unfold encT
 simp only [List.length_append, numB_len, List.length_cons, List.length_nil]
theorem isB_encT (c a b r h d z : Int) : isB (encT c a b r h d z) := .app (.cons (by decide) (by decide) .nil) (.app (isB_numB _ _) (.app (isB_numB _ _) (.app (isB_numB _ _) (.app (isB_numB _ _) (.app (isB_numB _ _) (.app (isB_numB _ _) (isB_numB _ _)))))))
def i6 (v : Int) : Prop := -9223372036854775808 ≤ v ∧ v ≤ 9223372036854775807
theorem rd_at {P : List Value} {v : Int} {T : List Value} {k : Nat} (h : i6 v) (hP : P.length = k) : rdI ((byL (P ++ (numB v 8 ++ T))).drop k) = v := by
 rw [byL_app, List.drop_left' (by rw [byL_len]; exact hP), byL_app]
 exact rdI_app h.1 h.2 _
theorem t_all {c a b r h d z q : Int} (ha : i6 a) (hb : i6 b) (hr : i6 r) (hh : i6 h) (hd : i6 d) (hz : i6 z) (hq : 0 ≤ q) :
   (if 0 ≤ c ∧ c ≤ 65535 then (0 : Int) else 1) = 1 ∨ ((if 0 ≤ c ∧ c ≤ 65535 then (0 : Int) else 1) = 0 ∧ isB (Sy.rows (tlV c a b r h d z)) ∧ (Sy.rows (tlV c a b r h d z)).length = 51 ∧ heE (Sy.rows (tlV c a b r h d z)) = 0 ∧ heC (Sy.rows (tlV c a b r h d z)) = c ∧
     heN (Sy.rows (tlV c a b r h d z)) (Int.toNat 0) = a ∧ heN (Sy.rows (tlV c a b r h d z)) (Int.toNat 1) = b ∧ heN (Sy.rows (tlV c a b r h d z)) (Int.toNat 2) = r ∧ heN (Sy.rows (tlV c a b r h d z)) (Int.toNat 3) = h ∧ heN (Sy.rows (tlV c a b r h d z)) (Int.toNat 4) = d ∧ heN (Sy.rows (tlV c a b r h d z)) (Int.toNat 5) = z ∧
     heE ((Sy.rows (tlV c a b r h d z)).take (q.tmod ((Sy.rows (tlV c a b r h d z)).length : Int)).toNat) = 3 ∧ ((if ((Sy.rows (tlV c a b r h d z)).length : Int) > 1 then ((Sy.rows (tlV c a b r h d z)).length : Int) else 1) = ((Sy.rows (tlV c a b r h d z)).length : Int)) ∧ 0 ≤ q.tmod ((Sy.rows (tlV c a b r h d z)).length : Int) ∧ q.tmod ((Sy.rows (tlV c a b r h d z)).length : Int) < ((Sy.rows (tlV c a b r h d z)).length : Int)) := by
 rcases tl_spec c a b r h d z with ⟨hp, e⟩ | ⟨hp, _⟩
 · right
   have hl := encT_len c a b r h d z
   rw [e, rows_arr]
   obtain ⟨t1, t2, t3⟩ := tmod_in (n := (encT c a b r h d z).length) hq (by omega)
   have hP : heP (encT c a b r h d z) := ⟨hl, rfl⟩
   rcases he_spec (encT c a b r h d z) with ⟨_, E, C, N⟩ | ⟨no, _⟩
   · refine ⟨if_pos hp, isB_encT c a b r h d z, hl, E, ?_, ?_, ?_, ?_, ?_, ?_, ?_, ?_, t1, t2, t3⟩
     · rw [C]
       show c % 256 + 256 * (c / 256 % 256) = c
       omega
     · rw [N]
       unfold encT
       rw [show ([Value.int .u8 33] ++ (numB c 2 ++ (numB a 8 ++ (numB b 8 ++ (numB r 8 ++ (numB h 8 ++ (numB d 8 ++ numB z 8))))))) = ([Value.int .u8 33] ++ numB c 2) ++ (numB a 8 ++ (numB b 8 ++ (numB r 8 ++ (numB h 8 ++ (numB d 8 ++ numB z 8))))) by simp only [List.append_assoc]]
       exact rd_at ha (by simp only [List.length_append, numB_len, List.length_cons, List.length_nil]; rfl)
     · rw [N]
       unfold encT
       rw [show ([Value.int .u8 33] ++ (numB c 2 ++ (numB a 8 ++ (numB b 8 ++ (numB r 8 ++ (numB h 8 ++ (numB d 8 ++ numB z 8))))))) = ([Value.int .u8 33] ++ numB c 2 ++ numB a 8) ++ (numB b 8 ++ (numB r 8 ++ (numB h 8 ++ (numB d 8 ++ numB z 8)))) by simp only [List.append_assoc]]
       exact rd_at hb (by simp only [List.length_append, numB_len, List.length_cons, List.length_nil]; rfl)
     · rw [N]
       unfold encT
       rw [show ([Value.int .u8 33] ++ (numB c 2 ++ (numB a 8 ++ (numB b 8 ++ (numB r 8 ++ (numB h 8 ++ (numB d 8 ++ numB z 8))))))) = ([Value.int .u8 33] ++ numB c 2 ++ numB a 8 ++ numB b 8) ++ (numB r 8 ++ (numB h 8 ++ (numB d 8 ++ numB z 8))) by simp only [List.append_assoc]]
       exact rd_at hr (by simp only [List.length_append, numB_len, List.length_cons, List.length_nil]; rfl)
     · rw [N]
       unfold encT
       rw [show ([Value.int .u8 33] ++ (numB c 2 ++ (numB a 8 ++ (numB b 8 ++ (numB r 8 ++ (numB h 8 ++ (numB d 8 ++ numB z 8))))))) = ([Value.int .u8 33] ++ numB c 2 ++ numB a 8 ++ numB b 8 ++ numB r 8) ++ (numB h 8 ++ (numB d 8 ++ numB z 8)) by simp only [List.append_assoc]]
       exact rd_at hh (by simp only [List.length_append, numB_len, List.length_cons, List.length_nil]; rfl)
     · rw [N]
       unfold encT
       rw [show ([Value.int .u8 33] ++ (numB c 2 ++ (numB a 8 ++ (numB b 8 ++ (numB r 8 ++ (numB h 8 ++ (numB d 8 ++ numB z 8))))))) = ([Value.int .u8 33] ++ numB c 2 ++ numB a 8 ++ numB b 8 ++ numB r 8 ++ numB h 8) ++ (numB d 8 ++ numB z 8) by simp only [List.append_assoc]]
       exact rd_at hd (by simp only [List.length_append, numB_len, List.length_cons, List.length_nil]; rfl)
     · rw [N]
       unfold encT
       rw [show ([Value.int .u8 33] ++ (numB c 2 ++ (numB a 8 ++ (numB b 8 ++ (numB r 8 ++ (numB h 8 ++ (numB d 8 ++ numB z 8))))))) = ([Value.int .u8 33] ++ numB c 2 ++ numB a 8 ++ numB b 8 ++ numB r 8 ++ numB h 8 ++ numB d 8) ++ (numB z 8 ++ []) by simp only [List.append_assoc, List.append_nil]]
       exact rd_at hz (by simp only [List.length_append, numB_len, List.length_cons, List.length_nil]; rfl)
     · unfold heE
       rw [if_neg]
       rintro ⟨x, _⟩
       rw [List.length_take] at x
       omega
   · exact absurd hP no
 · left
   exact if_neg hp
theorem dr0 (l : List Value) : List.drop (Int.toNat 0) l = l := rfl
theorem t_allT {c a b r h d z q : Int} (ha : i6 a) (hb : i6 b) (hr : i6 r) (hh : i6 h) (hd : i6 d) (hz : i6 z) (hq : 0 ≤ q) :
   (if 0 ≤ c ∧ c ≤ 65535 then (0 : Int) else 1) = 1 ∨ ((if 0 ≤ c ∧ c ≤ 65535 then (0 : Int) else 1) = 0 ∧ isB (Sy.rows (tlT (Sy.rows (Value.tuple #[.int .i64 c, .int .i64 a, .int .i64 b, .int .i64 r, .int .i64 h, .int .i64 d, .int .i64 z])))) ∧ (Sy.rows (tlT (Sy.rows (Value.tuple #[.int .i64 c, .int .i64 a, .int .i64 b, .int .i64 r, .int .i64 h, .int .i64 d, .int .i64 z])))).length = 51 ∧ heE (Sy.rows (tlT (Sy.rows (Value.tuple #[.int .i64 c, .int .i64 a, .int .i64 b, .int .i64 r, .int .i64 h, .int .i64 d, .int .i64 z])))) = 0 ∧ heC (Sy.rows (tlT (Sy.rows (Value.tuple #[.int .i64 c, .int .i64 a, .int .i64 b, .int .i64 r, .int .i64 h, .int .i64 d, .int .i64 z])))) = c ∧
     heN (Sy.rows (tlT (Sy.rows (Value.tuple #[.int .i64 c, .int .i64 a, .int .i64 b, .int .i64 r, .int .i64 h, .int .i64 d, .int .i64 z])))) (Int.toNat 0) = a ∧ heN (Sy.rows (tlT (Sy.rows (Value.tuple #[.int .i64 c, .int .i64 a, .int .i64 b, .int .i64 r, .int .i64 h, .int .i64 d, .int .i64 z])))) (Int.toNat 1) = b ∧ heN (Sy.rows (tlT (Sy.rows (Value.tuple #[.int .i64 c, .int .i64 a, .int .i64 b, .int .i64 r, .int .i64 h, .int .i64 d, .int .i64 z])))) (Int.toNat 2) = r ∧ heN (Sy.rows (tlT (Sy.rows (Value.tuple #[.int .i64 c, .int .i64 a, .int .i64 b, .int .i64 r, .int .i64 h, .int .i64 d, .int .i64 z])))) (Int.toNat 3) = h ∧ heN (Sy.rows (tlT (Sy.rows (Value.tuple #[.int .i64 c, .int .i64 a, .int .i64 b, .int .i64 r, .int .i64 h, .int .i64 d, .int .i64 z])))) (Int.toNat 4) = d ∧ heN (Sy.rows (tlT (Sy.rows (Value.tuple #[.int .i64 c, .int .i64 a, .int .i64 b, .int .i64 r, .int .i64 h, .int .i64 d, .int .i64 z])))) (Int.toNat 5) = z ∧
     heE ((Sy.rows (tlT (Sy.rows (Value.tuple #[.int .i64 c, .int .i64 a, .int .i64 b, .int .i64 r, .int .i64 h, .int .i64 d, .int .i64 z])))).take (q.tmod ((Sy.rows (tlT (Sy.rows (Value.tuple #[.int .i64 c, .int .i64 a, .int .i64 b, .int .i64 r, .int .i64 h, .int .i64 d, .int .i64 z])))).length : Int)).toNat) = 3 ∧ ((if ((Sy.rows (tlT (Sy.rows (Value.tuple #[.int .i64 c, .int .i64 a, .int .i64 b, .int .i64 r, .int .i64 h, .int .i64 d, .int .i64 z])))).length : Int) > 1 then ((Sy.rows (tlT (Sy.rows (Value.tuple #[.int .i64 c, .int .i64 a, .int .i64 b, .int .i64 r, .int .i64 h, .int .i64 d, .int .i64 z])))).length : Int) else 1) = ((Sy.rows (tlT (Sy.rows (Value.tuple #[.int .i64 c, .int .i64 a, .int .i64 b, .int .i64 r, .int .i64 h, .int .i64 d, .int .i64 z])))).length : Int)) ∧ 0 ≤ q.tmod ((Sy.rows (tlT (Sy.rows (Value.tuple #[.int .i64 c, .int .i64 a, .int .i64 b, .int .i64 r, .int .i64 h, .int .i64 d, .int .i64 z])))).length : Int) ∧ q.tmod ((Sy.rows (tlT (Sy.rows (Value.tuple #[.int .i64 c, .int .i64 a, .int .i64 b, .int .i64 r, .int .i64 h, .int .i64 d, .int .i64 z])))).length : Int) < ((Sy.rows (tlT (Sy.rows (Value.tuple #[.int .i64 c, .int .i64 a, .int .i64 b, .int .i64 r, .int .i64 h, .int .i64 d, .int .i64 z])))).length : Int)) := t_all ha hb hr hh hd hz hq
noncomputable def cdI : Nat → List Value → Int
 | i, l => cbI i l
noncomputable def cdB : Nat → List Value → Bool
 | i, l => cbB i l
noncomputable def cdV : Nat → List Value → Value
 | i, l => cbV i l
noncomputable abbrev cdE (iv : List Int) (bv : List Bool) (vv : List Value) (sv : List ByteArray) : Env := { iv := iv, bv := bv, vv := vv, sv := sv, fi := cdI, fb := cdB, fv := cdV, et := 61 }
set_option maxHeartbeats 8000000 in
theorem cdup : Agree 22 5 17 (cbE [] [] [] []) (cdE [] [] [] []) := ⟨rfl, (by
   intro f hf
   funext l
   show cdI f l = cbI f l
   unfold cdI
   split <;> first | omega | rfl), (by
   intro f hf
   funext l
   show cdB f l = cbB f l
   unfold cdB
   split <;> first | omega | rfl), (by
   intro f hf
   funext l
   show cdV f l = cbV f l
   unfold cdV
   split <;> first | omega | rfl)⟩
theorem cdi_cee (k1 : IntKind) (k : Int) (s : ByteArray) (l : Value) : cdI 12 [.int k1 k, .string s, l] = ceI k s (rows l) := rfl
theorem cdi_tle (k1 : IntKind) (c : Int) : cdI 13 [.int k1 c] = if 0 ≤ c ∧ c ≤ 65535 then 0 else 1 := rfl
theorem cdi_dce (c : Value) : cdI 14 [c] = dcE (byL (rows c)) := rfl
theorem cdi_dck (c : Value) : cdI 15 [c] = dcK (byL (rows c)) := rfl
theorem cdi_dcn (c : Value) : cdI 16 [c] = dcN (byL (rows c)) := rfl
theorem cdi_hee (c : Value) : cdI 19 [c] = heE (rows c) := rfl
theorem cdi_hec (c : Value) : cdI 20 [c] = heC (rows c) := rfl
theorem cdi_hen (c : Value) (k1 : IntKind) (j : Int) : cdI 21 [c, .int k1 j] = heN (rows c) j.toNat := rfl
theorem cdb_okr (l : Value) : cdB 0 [l] = okR (rows l) := rfl
theorem cdv_cev (k1 : IntKind) (k : Int) (s : ByteArray) (l : Value) (k2 : IntKind) (n : Int) : cdV 13 [.int k1 k, .string s, l, .int k2 n] = ceV k s (rows l) n := rfl
theorem cdv_tlv (t : Value) : cdV 14 [t] = tlT (rows t) := rfl
theorem cdv_dcs (c : Value) : cdV 15 [c] = .string (dcS (byL (rows c))) := rfl
theorem cdv_dcb (c : Value) : cdV 16 [c] = dcB (byL (rows c)) := rfl
def wBack_tree : Tree :=
 (.br (.b2 .lt (.lit (400)) (.blen (.str 0)))
 (.ret (.bool (.tt true)))
 (.br (.b2 .lt (.lit (2000)) (.ofI (.vop (.len 1) (.cons (.opq 0) .nil))))
 (.ret (.bool (.tt true)))
 (.need (.b2 .and (.b2 .and (.b2 .le (.lit (-9223372036854775808)) (.var 0)) (.b2 .le (.var 0) (.lit (9223372036854775807)))) (.b2 .and (.b2 .and (.b2 .le (.lit (-9223372036854775808)) (.var 1)) (.b2 .le (.var 1) (.lit (9223372036854775807)))) (.b2 .le (.blen (.str 0)) (.lit (400)))))
 (.need (.b2 .and (.b2 .and (.b2 .le (.lit (-9223372036854775808)) (.var 2)) (.b2 .le (.var 2) (.lit (9223372036854775807)))) (.b2 .and (.b2 .and (.b2 .le (.lit (-9223372036854775808)) (.var 3)) (.b2 .le (.var 3) (.lit (9223372036854775807)))) (.b2 .and (.b2 .and (.b2 .le (.lit (-9223372036854775808)) (.var 4)) (.b2 .le (.var 4) (.lit (9223372036854775807)))) (.b2 .and (.b2 .and (.b2 .le (.lit (-9223372036854775808)) (.var 5)) (.b2 .le (.var 5) (.lit (9223372036854775807)))) (.b2 .and (.b2 .and (.b2 .le (.lit (-9223372036854775808)) (.var 6)) (.b2 .le (.var 6) (.lit (9223372036854775807)))) (.b2 .and (.b2 .and (.b2 .le (.lit (-9223372036854775808)) (.var 7)) (.b2 .le (.var 7) (.lit (9223372036854775807)))) (.b2 .and (.b2 .le (.lit (-9223372036854775808)) (.var 8)) (.b2 .le (.var 8) (.lit (9223372036854775807))))))))))
 (.br (.b2 .eq (.iapp 12 (.cons (.int .i64 (.var 0)) (.cons (.str 0) (.cons (.opq 0) .nil)))) (.lit (0)))
 (.need (.b2 .and (.bapp 0 (.cons (.vapp 13 (.cons (.int .i64 (.var 0)) (.cons (.str 0) (.cons (.opq 0) (.cons (.int .i64 (.var 1)) .nil))))) .nil)) (.b2 .le (.ofI (.vop (.len 1) (.cons (.vapp 13 (.cons (.int .i64 (.var 0)) (.cons (.str 0) (.cons (.opq 0) (.cons (.int .i64 (.var 1)) .nil))))) .nil))) (.lit (4096))))
 (.need (.not (.b2 .eq (.i2 .max (.lit (1)) (.ofI (.vop (.len 1) (.cons (.vapp 13 (.cons (.int .i64 (.var 0)) (.cons (.str 0) (.cons (.opq 0) (.cons (.int .i64 (.var 1)) .nil))))) .nil)))) (.lit (0))))
 (.need (.b2 .and (.b2 .le (.lit (0)) (.i2 .rem (.wrap .i64 (.var 9)) (.i2 .max (.lit (1)) (.ofI (.vop (.len 1) (.cons (.vapp 13 (.cons (.int .i64 (.var 0)) (.cons (.str 0) (.cons (.opq 0) (.cons (.int .i64 (.var 1)) .nil))))) .nil)))))) (.b2 .le (.i2 .rem (.wrap .i64 (.var 9)) (.i2 .max (.lit (1)) (.ofI (.vop (.len 1) (.cons (.vapp 13 (.cons (.int .i64 (.var 0)) (.cons (.str 0) (.cons (.opq 0) (.cons (.int .i64 (.var 1)) .nil))))) .nil))))) (.ofI (.vop (.len 1) (.cons (.vapp 13 (.cons (.int .i64 (.var 0)) (.cons (.str 0) (.cons (.opq 0) (.cons (.int .i64 (.var 1)) .nil))))) .nil)))))
 (.need (.b2 .and (.bapp 0 (.cons (.vop (.sub 1) (.cons (.vapp 13 (.cons (.int .i64 (.var 0)) (.cons (.str 0) (.cons (.opq 0) (.cons (.int .i64 (.var 1)) .nil))))) (.cons (.int .i64 (.lit (0))) (.cons (.int .i64 (.i2 .rem (.wrap .i64 (.var 9)) (.i2 .max (.lit (1)) (.ofI (.vop (.len 1) (.cons (.vapp 13 (.cons (.int .i64 (.var 0)) (.cons (.str 0) (.cons (.opq 0) (.cons (.int .i64 (.var 1)) .nil))))) .nil)))))) .nil)))) .nil)) (.b2 .le (.ofI (.vop (.len 1) (.cons (.vop (.sub 1) (.cons (.vapp 13 (.cons (.int .i64 (.var 0)) (.cons (.str 0) (.cons (.opq 0) (.cons (.int .i64 (.var 1)) .nil))))) (.cons (.int .i64 (.lit (0))) (.cons (.int .i64 (.i2 .rem (.wrap .i64 (.var 9)) (.i2 .max (.lit (1)) (.ofI (.vop (.len 1) (.cons (.vapp 13 (.cons (.int .i64 (.var 0)) (.cons (.str 0) (.cons (.opq 0) (.cons (.int .i64 (.var 1)) .nil))))) .nil)))))) .nil)))) .nil))) (.lit (4096))))
 (.need (.b2 .le (.i2 .add (.lit (0)) (.ofI (.vop (.len 1) (.cons (.vapp 13 (.cons (.int .i64 (.var 0)) (.cons (.str 0) (.cons (.opq 0) (.cons (.int .i64 (.var 1)) .nil))))) .nil)))) (.lit (140737488355328)))
 (.need (.b2 .le (.i2 .add (.ofI (.vop (.len 1) (.cons (.vapp 13 (.cons (.int .i64 (.var 0)) (.cons (.str 0) (.cons (.opq 0) (.cons (.int .i64 (.var 1)) .nil))))) .nil))) (.lit (1))) (.lit (140737488355328)))
 (.need (.b2 .and (.bapp 0 (.cons (.vop .cat (.cons (.vapp 13 (.cons (.int .i64 (.var 0)) (.cons (.str 0) (.cons (.opq 0) (.cons (.int .i64 (.var 1)) .nil))))) (.cons (.tup (.cons (.int .u8 (.lit (0))) .nil)) .nil))) .nil)) (.b2 .le (.ofI (.vop (.len 1) (.cons (.vop .cat (.cons (.vapp 13 (.cons (.int .i64 (.var 0)) (.cons (.str 0) (.cons (.opq 0) (.cons (.int .i64 (.var 1)) .nil))))) (.cons (.tup (.cons (.int .u8 (.lit (0))) .nil)) .nil))) .nil))) (.lit (4096))))
 (.br (.not (.b2 .eq (.iapp 14 (.cons (.vapp 13 (.cons (.int .i64 (.var 0)) (.cons (.str 0) (.cons (.opq 0) (.cons (.int .i64 (.var 1)) .nil))))) .nil)) (.lit (0))))
 (.ret (.bool (.tt false)))
 (.br (.not (.b2 .and (.b2 .eq (.iapp 15 (.cons (.vapp 13 (.cons (.int .i64 (.var 0)) (.cons (.str 0) (.cons (.opq 0) (.cons (.int .i64 (.var 1)) .nil))))) .nil)) (.var 0)) (.b2 .and (.veq (.sapp 15 (.cons (.vapp 13 (.cons (.int .i64 (.var 0)) (.cons (.str 0) (.cons (.opq 0) (.cons (.int .i64 (.var 1)) .nil))))) .nil)) (.str 0)) (.b2 .and (.veq (.vop .b2s (.cons (.vapp 16 (.cons (.vapp 13 (.cons (.int .i64 (.var 0)) (.cons (.str 0) (.cons (.opq 0) (.cons (.int .i64 (.var 1)) .nil))))) .nil)) .nil)) (.vop .b2s (.cons (.opq 0) .nil))) (.b2 .eq (.iapp 16 (.cons (.vapp 13 (.cons (.int .i64 (.var 0)) (.cons (.str 0) (.cons (.opq 0) (.cons (.int .i64 (.var 1)) .nil))))) .nil)) (.var 1))))))
 (.ret (.bool (.tt false)))
 (.br (.not (.b2 .eq (.iapp 14 (.cons (.vop (.sub 1) (.cons (.vapp 13 (.cons (.int .i64 (.var 0)) (.cons (.str 0) (.cons (.opq 0) (.cons (.int .i64 (.var 1)) .nil))))) (.cons (.int .i64 (.lit (0))) (.cons (.int .i64 (.i2 .rem (.wrap .i64 (.var 9)) (.i2 .max (.lit (1)) (.ofI (.vop (.len 1) (.cons (.vapp 13 (.cons (.int .i64 (.var 0)) (.cons (.str 0) (.cons (.opq 0) (.cons (.int .i64 (.var 1)) .nil))))) .nil)))))) .nil)))) .nil)) (.lit (3))))
 (.ret (.bool (.tt false)))
 (.br (.not (.b2 .eq (.iapp 14 (.cons (.vop .cat (.cons (.vapp 13 (.cons (.int .i64 (.var 0)) (.cons (.str 0) (.cons (.opq 0) (.cons (.int .i64 (.var 1)) .nil))))) (.cons (.tup (.cons (.int .u8 (.lit (0))) .nil)) .nil))) .nil)) (.lit (3))))
 (.ret (.bool (.tt false)))
 (.br (.b2 .eq (.iapp 13 (.cons (.int .i64 (.var 2)) .nil)) (.lit (0)))
 (.need (.b2 .and (.bapp 0 (.cons (.vapp 14 (.cons (.tup (.cons (.int .i64 (.var 2)) (.cons (.int .i64 (.var 3)) (.cons (.int .i64 (.var 4)) (.cons (.int .i64 (.var 5)) (.cons (.int .i64 (.var 6)) (.cons (.int .i64 (.var 7)) (.cons (.int .i64 (.var 8)) .nil)))))))) .nil)) .nil)) (.b2 .le (.ofI (.vop (.len 1) (.cons (.vapp 14 (.cons (.tup (.cons (.int .i64 (.var 2)) (.cons (.int .i64 (.var 3)) (.cons (.int .i64 (.var 4)) (.cons (.int .i64 (.var 5)) (.cons (.int .i64 (.var 6)) (.cons (.int .i64 (.var 7)) (.cons (.int .i64 (.var 8)) .nil)))))))) .nil)) .nil))) (.lit (4096))))
 (.need (.not (.b2 .eq (.i2 .max (.lit (1)) (.ofI (.vop (.len 1) (.cons (.vapp 14 (.cons (.tup (.cons (.int .i64 (.var 2)) (.cons (.int .i64 (.var 3)) (.cons (.int .i64 (.var 4)) (.cons (.int .i64 (.var 5)) (.cons (.int .i64 (.var 6)) (.cons (.int .i64 (.var 7)) (.cons (.int .i64 (.var 8)) .nil)))))))) .nil)) .nil)))) (.lit (0))))
 (.need (.b2 .and (.b2 .le (.lit (0)) (.i2 .rem (.wrap .i64 (.var 9)) (.i2 .max (.lit (1)) (.ofI (.vop (.len 1) (.cons (.vapp 14 (.cons (.tup (.cons (.int .i64 (.var 2)) (.cons (.int .i64 (.var 3)) (.cons (.int .i64 (.var 4)) (.cons (.int .i64 (.var 5)) (.cons (.int .i64 (.var 6)) (.cons (.int .i64 (.var 7)) (.cons (.int .i64 (.var 8)) .nil)))))))) .nil)) .nil)))))) (.b2 .le (.i2 .rem (.wrap .i64 (.var 9)) (.i2 .max (.lit (1)) (.ofI (.vop (.len 1) (.cons (.vapp 14 (.cons (.tup (.cons (.int .i64 (.var 2)) (.cons (.int .i64 (.var 3)) (.cons (.int .i64 (.var 4)) (.cons (.int .i64 (.var 5)) (.cons (.int .i64 (.var 6)) (.cons (.int .i64 (.var 7)) (.cons (.int .i64 (.var 8)) .nil)))))))) .nil)) .nil))))) (.ofI (.vop (.len 1) (.cons (.vapp 14 (.cons (.tup (.cons (.int .i64 (.var 2)) (.cons (.int .i64 (.var 3)) (.cons (.int .i64 (.var 4)) (.cons (.int .i64 (.var 5)) (.cons (.int .i64 (.var 6)) (.cons (.int .i64 (.var 7)) (.cons (.int .i64 (.var 8)) .nil)))))))) .nil)) .nil)))))
 (.need (.b2 .and (.bapp 0 (.cons (.vop (.sub 1) (.cons (.vapp 14 (.cons (.tup (.cons (.int .i64 (.var 2)) (.cons (.int .i64 (.var 3)) (.cons (.int .i64 (.var 4)) (.cons (.int .i64 (.var 5)) (.cons (.int .i64 (.var 6)) (.cons (.int .i64 (.var 7)) (.cons (.int .i64 (.var 8)) .nil)))))))) .nil)) (.cons (.int .i64 (.lit (0))) (.cons (.int .i64 (.i2 .rem (.wrap .i64 (.var 9)) (.i2 .max (.lit (1)) (.ofI (.vop (.len 1) (.cons (.vapp 14 (.cons (.tup (.cons (.int .i64 (.var 2)) (.cons (.int .i64 (.var 3)) (.cons (.int .i64 (.var 4)) (.cons (.int .i64 (.var 5)) (.cons (.int .i64 (.var 6)) (.cons (.int .i64 (.var 7)) (.cons (.int .i64 (.var 8)) .nil)))))))) .nil)) .nil)))))) .nil)))) .nil)) (.b2 .le (.ofI (.vop (.len 1) (.cons (.vop (.sub 1) (.cons (.vapp 14 (.cons (.tup (.cons (.int .i64 (.var 2)) (.cons (.int .i64 (.var 3)) (.cons (.int .i64 (.var 4)) (.cons (.int .i64 (.var 5)) (.cons (.int .i64 (.var 6)) (.cons (.int .i64 (.var 7)) (.cons (.int .i64 (.var 8)) .nil)))))))) .nil)) (.cons (.int .i64 (.lit (0))) (.cons (.int .i64 (.i2 .rem (.wrap .i64 (.var 9)) (.i2 .max (.lit (1)) (.ofI (.vop (.len 1) (.cons (.vapp 14 (.cons (.tup (.cons (.int .i64 (.var 2)) (.cons (.int .i64 (.var 3)) (.cons (.int .i64 (.var 4)) (.cons (.int .i64 (.var 5)) (.cons (.int .i64 (.var 6)) (.cons (.int .i64 (.var 7)) (.cons (.int .i64 (.var 8)) .nil)))))))) .nil)) .nil)))))) .nil)))) .nil))) (.lit (4096))))
 (.br (.not (.b2 .eq (.iapp 19 (.cons (.vapp 14 (.cons (.tup (.cons (.int .i64 (.var 2)) (.cons (.int .i64 (.var 3)) (.cons (.int .i64 (.var 4)) (.cons (.int .i64 (.var 5)) (.cons (.int .i64 (.var 6)) (.cons (.int .i64 (.var 7)) (.cons (.int .i64 (.var 8)) .nil)))))))) .nil)) .nil)) (.lit (0))))
 (.ret (.bool (.tt false)))
 (.br (.not (.b2 .and (.b2 .eq (.iapp 20 (.cons (.vapp 14 (.cons (.tup (.cons (.int .i64 (.var 2)) (.cons (.int .i64 (.var 3)) (.cons (.int .i64 (.var 4)) (.cons (.int .i64 (.var 5)) (.cons (.int .i64 (.var 6)) (.cons (.int .i64 (.var 7)) (.cons (.int .i64 (.var 8)) .nil)))))))) .nil)) .nil)) (.var 2)) (.b2 .and (.b2 .and (.b2 .eq (.iapp 21 (.cons (.vapp 14 (.cons (.tup (.cons (.int .i64 (.var 2)) (.cons (.int .i64 (.var 3)) (.cons (.int .i64 (.var 4)) (.cons (.int .i64 (.var 5)) (.cons (.int .i64 (.var 6)) (.cons (.int .i64 (.var 7)) (.cons (.int .i64 (.var 8)) .nil)))))))) .nil)) (.cons (.int .i64 (.lit (0))) .nil))) (.var 3)) (.b2 .and (.b2 .eq (.iapp 21 (.cons (.vapp 14 (.cons (.tup (.cons (.int .i64 (.var 2)) (.cons (.int .i64 (.var 3)) (.cons (.int .i64 (.var 4)) (.cons (.int .i64 (.var 5)) (.cons (.int .i64 (.var 6)) (.cons (.int .i64 (.var 7)) (.cons (.int .i64 (.var 8)) .nil)))))))) .nil)) (.cons (.int .i64 (.lit (1))) .nil))) (.var 4)) (.b2 .and (.b2 .eq (.iapp 21 (.cons (.vapp 14 (.cons (.tup (.cons (.int .i64 (.var 2)) (.cons (.int .i64 (.var 3)) (.cons (.int .i64 (.var 4)) (.cons (.int .i64 (.var 5)) (.cons (.int .i64 (.var 6)) (.cons (.int .i64 (.var 7)) (.cons (.int .i64 (.var 8)) .nil)))))))) .nil)) (.cons (.int .i64 (.lit (2))) .nil))) (.var 5)) (.b2 .eq (.iapp 21 (.cons (.vapp 14 (.cons (.tup (.cons (.int .i64 (.var 2)) (.cons (.int .i64 (.var 3)) (.cons (.int .i64 (.var 4)) (.cons (.int .i64 (.var 5)) (.cons (.int .i64 (.var 6)) (.cons (.int .i64 (.var 7)) (.cons (.int .i64 (.var 8)) .nil)))))))) .nil)) (.cons (.int .i64 (.lit (3))) .nil))) (.var 6))))) (.b2 .and (.b2 .eq (.iapp 21 (.cons (.vapp 14 (.cons (.tup (.cons (.int .i64 (.var 2)) (.cons (.int .i64 (.var 3)) (.cons (.int .i64 (.var 4)) (.cons (.int .i64 (.var 5)) (.cons (.int .i64 (.var 6)) (.cons (.int .i64 (.var 7)) (.cons (.int .i64 (.var 8)) .nil)))))))) .nil)) (.cons (.int .i64 (.lit (4))) .nil))) (.var 7)) (.b2 .eq (.iapp 21 (.cons (.vapp 14 (.cons (.tup (.cons (.int .i64 (.var 2)) (.cons (.int .i64 (.var 3)) (.cons (.int .i64 (.var 4)) (.cons (.int .i64 (.var 5)) (.cons (.int .i64 (.var 6)) (.cons (.int .i64 (.var 7)) (.cons (.int .i64 (.var 8)) .nil)))))))) .nil)) (.cons (.int .i64 (.lit (5))) .nil))) (.var 8))))))
 (.ret (.bool (.tt false)))
 (.br (.not (.b2 .eq (.iapp 19 (.cons (.vop (.sub 1) (.cons (.vapp 14 (.cons (.tup (.cons (.int .i64 (.var 2)) (.cons (.int .i64 (.var 3)) (.cons (.int .i64 (.var 4)) (.cons (.int .i64 (.var 5)) (.cons (.int .i64 (.var 6)) (.cons (.int .i64 (.var 7)) (.cons (.int .i64 (.var 8)) .nil)))))))) .nil)) (.cons (.int .i64 (.lit (0))) (.cons (.int .i64 (.i2 .rem (.wrap .i64 (.var 9)) (.i2 .max (.lit (1)) (.ofI (.vop (.len 1) (.cons (.vapp 14 (.cons (.tup (.cons (.int .i64 (.var 2)) (.cons (.int .i64 (.var 3)) (.cons (.int .i64 (.var 4)) (.cons (.int .i64 (.var 5)) (.cons (.int .i64 (.var 6)) (.cons (.int .i64 (.var 7)) (.cons (.int .i64 (.var 8)) .nil)))))))) .nil)) .nil)))))) .nil)))) .nil)) (.lit (3))))
 (.ret (.bool (.tt false)))
 (.ret (.bool (.tt true))))))))))
 (.ret (.bool (.tt true)))))))))))))))
 (.br (.b2 .eq (.iapp 13 (.cons (.int .i64 (.var 2)) .nil)) (.lit (0)))
 (.need (.b2 .and (.bapp 0 (.cons (.vapp 14 (.cons (.tup (.cons (.int .i64 (.var 2)) (.cons (.int .i64 (.var 3)) (.cons (.int .i64 (.var 4)) (.cons (.int .i64 (.var 5)) (.cons (.int .i64 (.var 6)) (.cons (.int .i64 (.var 7)) (.cons (.int .i64 (.var 8)) .nil)))))))) .nil)) .nil)) (.b2 .le (.ofI (.vop (.len 1) (.cons (.vapp 14 (.cons (.tup (.cons (.int .i64 (.var 2)) (.cons (.int .i64 (.var 3)) (.cons (.int .i64 (.var 4)) (.cons (.int .i64 (.var 5)) (.cons (.int .i64 (.var 6)) (.cons (.int .i64 (.var 7)) (.cons (.int .i64 (.var 8)) .nil)))))))) .nil)) .nil))) (.lit (4096))))
 (.need (.not (.b2 .eq (.i2 .max (.lit (1)) (.ofI (.vop (.len 1) (.cons (.vapp 14 (.cons (.tup (.cons (.int .i64 (.var 2)) (.cons (.int .i64 (.var 3)) (.cons (.int .i64 (.var 4)) (.cons (.int .i64 (.var 5)) (.cons (.int .i64 (.var 6)) (.cons (.int .i64 (.var 7)) (.cons (.int .i64 (.var 8)) .nil)))))))) .nil)) .nil)))) (.lit (0))))
 (.need (.b2 .and (.b2 .le (.lit (0)) (.i2 .rem (.wrap .i64 (.var 9)) (.i2 .max (.lit (1)) (.ofI (.vop (.len 1) (.cons (.vapp 14 (.cons (.tup (.cons (.int .i64 (.var 2)) (.cons (.int .i64 (.var 3)) (.cons (.int .i64 (.var 4)) (.cons (.int .i64 (.var 5)) (.cons (.int .i64 (.var 6)) (.cons (.int .i64 (.var 7)) (.cons (.int .i64 (.var 8)) .nil)))))))) .nil)) .nil)))))) (.b2 .le (.i2 .rem (.wrap .i64 (.var 9)) (.i2 .max (.lit (1)) (.ofI (.vop (.len 1) (.cons (.vapp 14 (.cons (.tup (.cons (.int .i64 (.var 2)) (.cons (.int .i64 (.var 3)) (.cons (.int .i64 (.var 4)) (.cons (.int .i64 (.var 5)) (.cons (.int .i64 (.var 6)) (.cons (.int .i64 (.var 7)) (.cons (.int .i64 (.var 8)) .nil)))))))) .nil)) .nil))))) (.ofI (.vop (.len 1) (.cons (.vapp 14 (.cons (.tup (.cons (.int .i64 (.var 2)) (.cons (.int .i64 (.var 3)) (.cons (.int .i64 (.var 4)) (.cons (.int .i64 (.var 5)) (.cons (.int .i64 (.var 6)) (.cons (.int .i64 (.var 7)) (.cons (.int .i64 (.var 8)) .nil)))))))) .nil)) .nil)))))
 (.need (.b2 .and (.bapp 0 (.cons (.vop (.sub 1) (.cons (.vapp 14 (.cons (.tup (.cons (.int .i64 (.var 2)) (.cons (.int .i64 (.var 3)) (.cons (.int .i64 (.var 4)) (.cons (.int .i64 (.var 5)) (.cons (.int .i64 (.var 6)) (.cons (.int .i64 (.var 7)) (.cons (.int .i64 (.var 8)) .nil)))))))) .nil)) (.cons (.int .i64 (.lit (0))) (.cons (.int .i64 (.i2 .rem (.wrap .i64 (.var 9)) (.i2 .max (.lit (1)) (.ofI (.vop (.len 1) (.cons (.vapp 14 (.cons (.tup (.cons (.int .i64 (.var 2)) (.cons (.int .i64 (.var 3)) (.cons (.int .i64 (.var 4)) (.cons (.int .i64 (.var 5)) (.cons (.int .i64 (.var 6)) (.cons (.int .i64 (.var 7)) (.cons (.int .i64 (.var 8)) .nil)))))))) .nil)) .nil)))))) .nil)))) .nil)) (.b2 .le (.ofI (.vop (.len 1) (.cons (.vop (.sub 1) (.cons (.vapp 14 (.cons (.tup (.cons (.int .i64 (.var 2)) (.cons (.int .i64 (.var 3)) (.cons (.int .i64 (.var 4)) (.cons (.int .i64 (.var 5)) (.cons (.int .i64 (.var 6)) (.cons (.int .i64 (.var 7)) (.cons (.int .i64 (.var 8)) .nil)))))))) .nil)) (.cons (.int .i64 (.lit (0))) (.cons (.int .i64 (.i2 .rem (.wrap .i64 (.var 9)) (.i2 .max (.lit (1)) (.ofI (.vop (.len 1) (.cons (.vapp 14 (.cons (.tup (.cons (.int .i64 (.var 2)) (.cons (.int .i64 (.var 3)) (.cons (.int .i64 (.var 4)) (.cons (.int .i64 (.var 5)) (.cons (.int .i64 (.var 6)) (.cons (.int .i64 (.var 7)) (.cons (.int .i64 (.var 8)) .nil)))))))) .nil)) .nil)))))) .nil)))) .nil))) (.lit (4096))))
 (.br (.not (.b2 .eq (.iapp 19 (.cons (.vapp 14 (.cons (.tup (.cons (.int .i64 (.var 2)) (.cons (.int .i64 (.var 3)) (.cons (.int .i64 (.var 4)) (.cons (.int .i64 (.var 5)) (.cons (.int .i64 (.var 6)) (.cons (.int .i64 (.var 7)) (.cons (.int .i64 (.var 8)) .nil)))))))) .nil)) .nil)) (.lit (0))))
 (.ret (.bool (.tt false)))
 (.br (.not (.b2 .and (.b2 .eq (.iapp 20 (.cons (.vapp 14 (.cons (.tup (.cons (.int .i64 (.var 2)) (.cons (.int .i64 (.var 3)) (.cons (.int .i64 (.var 4)) (.cons (.int .i64 (.var 5)) (.cons (.int .i64 (.var 6)) (.cons (.int .i64 (.var 7)) (.cons (.int .i64 (.var 8)) .nil)))))))) .nil)) .nil)) (.var 2)) (.b2 .and (.b2 .and (.b2 .eq (.iapp 21 (.cons (.vapp 14 (.cons (.tup (.cons (.int .i64 (.var 2)) (.cons (.int .i64 (.var 3)) (.cons (.int .i64 (.var 4)) (.cons (.int .i64 (.var 5)) (.cons (.int .i64 (.var 6)) (.cons (.int .i64 (.var 7)) (.cons (.int .i64 (.var 8)) .nil)))))))) .nil)) (.cons (.int .i64 (.lit (0))) .nil))) (.var 3)) (.b2 .and (.b2 .eq (.iapp 21 (.cons (.vapp 14 (.cons (.tup (.cons (.int .i64 (.var 2)) (.cons (.int .i64 (.var 3)) (.cons (.int .i64 (.var 4)) (.cons (.int .i64 (.var 5)) (.cons (.int .i64 (.var 6)) (.cons (.int .i64 (.var 7)) (.cons (.int .i64 (.var 8)) .nil)))))))) .nil)) (.cons (.int .i64 (.lit (1))) .nil))) (.var 4)) (.b2 .and (.b2 .eq (.iapp 21 (.cons (.vapp 14 (.cons (.tup (.cons (.int .i64 (.var 2)) (.cons (.int .i64 (.var 3)) (.cons (.int .i64 (.var 4)) (.cons (.int .i64 (.var 5)) (.cons (.int .i64 (.var 6)) (.cons (.int .i64 (.var 7)) (.cons (.int .i64 (.var 8)) .nil)))))))) .nil)) (.cons (.int .i64 (.lit (2))) .nil))) (.var 5)) (.b2 .eq (.iapp 21 (.cons (.vapp 14 (.cons (.tup (.cons (.int .i64 (.var 2)) (.cons (.int .i64 (.var 3)) (.cons (.int .i64 (.var 4)) (.cons (.int .i64 (.var 5)) (.cons (.int .i64 (.var 6)) (.cons (.int .i64 (.var 7)) (.cons (.int .i64 (.var 8)) .nil)))))))) .nil)) (.cons (.int .i64 (.lit (3))) .nil))) (.var 6))))) (.b2 .and (.b2 .eq (.iapp 21 (.cons (.vapp 14 (.cons (.tup (.cons (.int .i64 (.var 2)) (.cons (.int .i64 (.var 3)) (.cons (.int .i64 (.var 4)) (.cons (.int .i64 (.var 5)) (.cons (.int .i64 (.var 6)) (.cons (.int .i64 (.var 7)) (.cons (.int .i64 (.var 8)) .nil)))))))) .nil)) (.cons (.int .i64 (.lit (4))) .nil))) (.var 7)) (.b2 .eq (.iapp 21 (.cons (.vapp 14 (.cons (.tup (.cons (.int .i64 (.var 2)) (.cons (.int .i64 (.var 3)) (.cons (.int .i64 (.var 4)) (.cons (.int .i64 (.var 5)) (.cons (.int .i64 (.var 6)) (.cons (.int .i64 (.var 7)) (.cons (.int .i64 (.var 8)) .nil)))))))) .nil)) (.cons (.int .i64 (.lit (5))) .nil))) (.var 8))))))
 (.ret (.bool (.tt false)))
 (.br (.not (.b2 .eq (.iapp 19 (.cons (.vop (.sub 1) (.cons (.vapp 14 (.cons (.tup (.cons (.int .i64 (.var 2)) (.cons (.int .i64 (.var 3)) (.cons (.int .i64 (.var 4)) (.cons (.int .i64 (.var 5)) (.cons (.int .i64 (.var 6)) (.cons (.int .i64 (.var 7)) (.cons (.int .i64 (.var 8)) .nil)))))))) .nil)) (.cons (.int .i64 (.lit (0))) (.cons (.int .i64 (.i2 .rem (.wrap .i64 (.var 9)) (.i2 .max (.lit (1)) (.ofI (.vop (.len 1) (.cons (.vapp 14 (.cons (.tup (.cons (.int .i64 (.var 2)) (.cons (.int .i64 (.var 3)) (.cons (.int .i64 (.var 4)) (.cons (.int .i64 (.var 5)) (.cons (.int .i64 (.var 6)) (.cons (.int .i64 (.var 7)) (.cons (.int .i64 (.var 8)) .nil)))))))) .nil)) .nil)))))) .nil)))) .nil)) (.lit (3))))
 (.ret (.bool (.tt false)))
 (.ret (.bool (.tt true))))))))))
 (.ret (.bool (.tt true)))))))))
abbrev cdc_wBack : Con := ⟨4, [(.agg (.cons (.int .i64 (.var 0)) (.cons (.str 0) (.cons (.hs .no (.cons (.int .u8) .nil) (.opq 0)) (.cons (.int .i64 (.var 1)) .nil))))), (.agg (.cons (.int .i64 (.var 2)) (.cons (.int .i64 (.var 3)) (.cons (.int .i64 (.var 4)) (.cons (.int .i64 (.var 5)) (.cons (.int .i64 (.var 6)) (.cons (.int .i64 (.var 7)) (.cons (.int .i64 (.var 8)) .nil)))))))), (.int .u16 (.var 9))], (.b2 .and (.b2 .and (.b2 .le (.lit (-9223372036854775808)) (.var 0)) (.b2 .le (.var 0) (.lit (9223372036854775807)))) (.b2 .and (.b2 .and (.b2 .le (.lit (-9223372036854775808)) (.var 1)) (.b2 .le (.var 1) (.lit (9223372036854775807)))) (.b2 .and (.b2 .and (.b2 .le (.lit (-9223372036854775808)) (.var 2)) (.b2 .le (.var 2) (.lit (9223372036854775807)))) (.b2 .and (.b2 .and (.b2 .le (.lit (-9223372036854775808)) (.var 3)) (.b2 .le (.var 3) (.lit (9223372036854775807)))) (.b2 .and (.b2 .and (.b2 .le (.lit (-9223372036854775808)) (.var 4)) (.b2 .le (.var 4) (.lit (9223372036854775807)))) (.b2 .and (.b2 .and (.b2 .le (.lit (-9223372036854775808)) (.var 5)) (.b2 .le (.var 5) (.lit (9223372036854775807)))) (.b2 .and (.b2 .and (.b2 .le (.lit (-9223372036854775808)) (.var 6)) (.b2 .le (.var 6) (.lit (9223372036854775807)))) (.b2 .and (.b2 .and (.b2 .le (.lit (-9223372036854775808)) (.var 7)) (.b2 .le (.var 7) (.lit (9223372036854775807)))) (.b2 .and (.b2 .and (.b2 .le (.lit (-9223372036854775808)) (.var 8)) (.b2 .le (.var 8) (.lit (9223372036854775807)))) (.b2 .and (.bapp 0 (.cons (.opq 0) .nil)) (.b2 .and (.b2 .le (.lit (0)) (.var 9)) (.b2 .le (.var 9) (.lit (65535)))))))))))))), (.bool (.tt true)), ⟨10, 0, 1, 1⟩, none⟩
theorem wBack_w : walk Tryd.prog 61 ⟨[cbc_sure44, cac_cenc, cac_tell, cac_cdec, cac_hear, cac_csame, cac_num], syG, [], [], []⟩ [] .v cdc_wBack cdc_wBack.n 3000 = some wBack_tree := by kernel_rfl
set_option maxHeartbeats 4000000 in
theorem wBack_h (k n c a b r h d z q : Int) (l : Value) (s : ByteArray) : Hyp_ cdc_wBack wBack_tree (cdE [k, n, c, a, b, r, h, d, z, q] [] [l] [s]) := by
 intro hc hty
 simp only [cdc_wBack, Sy.holds, cdE, denV, denI, denB, denL, I2.den, VOp.den, List.getD_cons_zero, List.getD_cons_succ, Cst.den, syso, syse, syio, sybo, cdb_okr, B2.ofInts, B2.denI, B2.denB, if_true, Bool.false_eq_true, if_false, Nat.div_one, Nat.mul_one, Nat.add_zero] at hc
 simp only [cdc_wBack, patsTyp, patTyp, patTypL, cdE, denV, denL, List.getD_cons_zero, List.getD_cons_succ, and_true, true_and] at hty
 have hL_l : typ (.sl (.cons (.int .u8) .nil)) l := by first | exact hty | exact hty.1 | exact hty.2 | exact hty.1.1 | exact hty.1.2 | exact hty.2.1 | exact hty.2.2 | exact hty.2.2.1 | exact hty.2.2.2
 have hN_l := typ_len (n := 1) hL_l rfl (by omega)
 simp only [Nat.div_one, Nat.mul_one] at hN_l
 unfold wBack_tree
 simp only [cdc_wBack, Tree.holds, Sy.holds, cdE, denV, denI, denB, denL, I2.den, VOp.den, List.getD_cons_zero, List.getD_cons_succ, Cst.den, syso, syse, syio, sybo, cdi_cee, cdi_tle, cdi_dce, cdi_dck, cdi_dcn, cdi_hee, cdi_hec, cdi_hen, cdb_okr, cdv_cev, cdv_tlv, cdv_dcs, cdv_dcb, B2.ofInts, B2.denI, B2.denB, if_true, Bool.false_eq_true, if_false, Nat.div_one, Nat.mul_one, Nat.add_zero]
 obtain ⟨c0, c1, c2, c3, c4, c5, c6, c7, c8, ok0, q0, q1⟩ := hc
 have hq : IntKind.wrap .i64 q = q := by have := wr_i64 q; omega
 have qc := c_all (k := k) (s := s) hL_l ok0 c1.1 c1.2 q0
 have qt := t_allT (c := c) c3 c4 c5 c6 c7 c8 q0
 generalize tlT (Sy.rows (Value.tuple #[.int .i64 c, .int .i64 a, .int .i64 b, .int .i64 r, .int .i64 h, .int .i64 d, .int .i64 z])) = TV at qt ⊢
 simp only [hq]
 simp only [rows_arr, rows1]
 rcases qc with e1 | ⟨e0, b0, b1, b2, b3, b4, b5, b6, b7, b8, b9, ba, bb⟩ <;> rcases qt with f1 | ⟨f0, d0, d1, d2, d3, d4, d5, d6, d7, d8, d9, da, db, dc, dd⟩
 all_goals
  try simp only [b9]
  try simp only [db]
  try simp only [dr0]
  try simp only [f1]
  try simp only [e1]
  try simp only [b2, b3, b4, b5, b6, b7, b8, e0]
  try simp only [d2, d3, d4, d5, d6, d7, d8, d9, da, f0]
  refine ⟨fun h0 => ?_, fun h0 => ?_⟩
  rotate_left
  refine ⟨fun h1 => ?_, fun h1 => ?_⟩
  rotate_left
  refine ⟨?_, fun h2 => ?_⟩
  rotate_left
  refine ⟨?_, fun h3 => ?_⟩
  rotate_left
  refine ⟨fun h4 => ?_, fun h4 => ?_⟩
  refine ⟨?_, fun h5 => ?_⟩
  rotate_left
  refine ⟨?_, fun h6 => ?_⟩
  rotate_left
  refine ⟨?_, fun h7 => ?_⟩
  rotate_left
  refine ⟨?_, fun h8 => ?_⟩
  rotate_left
  refine ⟨?_, fun h9 => ?_⟩
  rotate_left
  refine ⟨?_, fun h10 => ?_⟩
  rotate_left
  refine ⟨?_, fun h11 => ?_⟩
  rotate_left
  refine ⟨fun h12 => ?_, fun h12 => ?_⟩
  rotate_left
  refine ⟨fun h13 => ?_, fun h13 => ?_⟩
  rotate_left
  refine ⟨fun h14 => ?_, fun h14 => ?_⟩
  rotate_left
  refine ⟨fun h15 => ?_, fun h15 => ?_⟩
  rotate_left
  refine ⟨fun h16 => ?_, fun h16 => ?_⟩
  refine ⟨?_, fun h17 => ?_⟩
  rotate_left
  refine ⟨?_, fun h18 => ?_⟩
  rotate_left
  refine ⟨?_, fun h19 => ?_⟩
  rotate_left
  refine ⟨?_, fun h20 => ?_⟩
  rotate_left
  refine ⟨fun h21 => ?_, fun h21 => ?_⟩
  rotate_left
  refine ⟨fun h22 => ?_, fun h22 => ?_⟩
  rotate_left
  refine ⟨fun h23 => ?_, fun h23 => ?_⟩
  rotate_left
  rotate_left
  rotate_left
  refine ⟨fun h24 => ?_, fun h24 => ?_⟩
  refine ⟨?_, fun h25 => ?_⟩
  rotate_left
  refine ⟨?_, fun h26 => ?_⟩
  rotate_left
  refine ⟨?_, fun h27 => ?_⟩
  rotate_left
  refine ⟨?_, fun h28 => ?_⟩
  rotate_left
  refine ⟨fun h29 => ?_, fun h29 => ?_⟩
  rotate_left
  refine ⟨fun h30 => ?_, fun h30 => ?_⟩
  rotate_left
  refine ⟨fun h31 => ?_, fun h31 => ?_⟩
  rotate_left
  rotate_left
  rotate_left
 all_goals first
 | exact True.intro
 | (show @Eq Value _ _
    first
    | exact True.intro
    | rfl
    | (exfalso; omega)
    | (exfalso; exact absurd True.intro (by assumption))
    | (exfalso; simp only [Sy.bytes_self, eq_self_iff_true, and_self, not_true_eq_false] at *; done)
    | skip
    done)
 | (skip
    first
    | exact True.intro
    | exact ⟨c0, c1, by omega⟩
    | exact ⟨c2, c3, c4, c5, c6, c7, c8⟩
    | omega
    | (exfalso; omega)
    | exact ⟨okR_isB b0, by omega⟩
    | exact ⟨okR_isB d0, by omega⟩
    | (refine ⟨okR_isB (b0.take _), ?_⟩
       rw [List.length_take]
       omega)
    | (refine ⟨okR_isB (d0.take _), ?_⟩
       rw [List.length_take]
       omega)
    | (refine ⟨okR_isB (b0.app (.cons (by decide) (by decide) .nil)), ?_⟩
       simp only [List.length_append, List.length_cons, List.length_nil]
       omega)
    | skip
    done)
theorem cdg_wBack : cdc_wBack.Good Tryd.prog syG (cdE [] [] [] []) := good_of_walk (Γ := ⟨[cbc_sure44, cac_cenc, cac_tell, cac_cdec, cac_hear, cac_csame, cac_num], syG, [], [], []⟩) (ρ := cdE [] [] [] []) sym wBack_w rfl (fun _ _ _ _ => (ok_cons (Con.Good.env (Con.Good.up cbg_sure44 cdup rfl) _ _ _ _) (ok_cons (Con.Good.env (Con.Good.up (Con.Good.up cag_cenc cbup rfl) cdup rfl) _ _ _ _) (ok_cons (Con.Good.env (Con.Good.up (Con.Good.up cag_tell cbup rfl) cdup rfl) _ _ _ _) (ok_cons (Con.Good.env (Con.Good.up (Con.Good.up cag_cdec cbup rfl) cdup rfl) _ _ _ _) (ok_cons (Con.Good.env (Con.Good.up (Con.Good.up cag_hear cbup rfl) cdup rfl) _ _ _ _) (ok_cons (Con.Good.env (Con.Good.up (Con.Good.up cag_csame cbup rfl) cdup rfl) _ _ _ _) (ok_cons (Con.Good.env (Con.Good.up (Con.Good.up cag_num cbup rfl) cdup rfl) _ _ _ _) ok_nil)))))))) wBack_h
end Go.Proofs.YtmlidfpjeomcmaaDoor
