/-
  Plain mathematics: stamps are ordered as texts as the times are that they tell.
-/
import Derived.Test.YtengchkiejpglaaDoorV08
import Derived.Laws.Strings
namespace Go.Proofs.YtengchkiejpglaaDoor
open Go
set_option linter.unusedVariables false
set_option linter.unusedSimpArgs false
theorem bl_same (a : List UInt8) : Op.bytesLess a a = false := by
  induction a with
  | nil => rfl
  | cons c l ih => simp [Op.bytesLess, ih]
theorem bl_append (a b c d : List UInt8) (h : a.length = b.length) : Op.bytesLess (a ++ c) (b ++ d) = (Op.bytesLess a b || (decide (a = b) && Op.bytesLess c d)) := by
  induction a generalizing b with
  | nil => cases b with
    | nil => simp [bl_same]
    | cons x l => simp at h
  | cons y a ih => cases b with
    | nil => simp at h
    | cons x b =>
      simp at h
      have := ih b h
      simp only [List.cons_append, Op.bytesLess]
      by_cases h1 : y < x
      · simp [h1]
      · by_cases h2 : y = x
        · subst h2; simp [this]
        · have h3 : (y == x) = false := beq_false_of_ne h2
          simp [h1, h2, h3]
theorem bl_cons (c : UInt8) (l m : List UInt8) : Op.bytesLess (c :: l) (c :: m) = Op.bytesLess l m := by simp [Op.bytesLess]
theorem digs_inj {k a b : Nat} (ha : a < 10 ^ k) (hb : b < 10 ^ k) (h : Dig.digs k a = Dig.digs k b) : a = b := by
  have h1 := Dig.val_digs k a ha
  have h2 := Dig.val_digs k b hb
  rw [h] at h1; omega
theorem bl_digs (k a b : Nat) (ha : a < 10 ^ k) (hb : b < 10 ^ k) : Op.bytesLess (Dig.digs k a) (Dig.digs k b) = decide (a < b) := by
  induction k generalizing a b with
  | zero =>
    have h1 : a = 0 := by simpa using ha
    have h2 : b = 0 := by simpa using hb
    subst h1 h2; rfl
  | succ k ih =>
    have ha' : a / 10 < 10 ^ k := by rw [Nat.pow_succ] at ha; omega
    have hb' : b / 10 < 10 ^ k := by rw [Nat.pow_succ] at hb; omega
    show Op.bytesLess (Dig.digs k (a / 10) ++ [UInt8.ofNat (48 + a % 10)]) (Dig.digs k (b / 10) ++ [UInt8.ofNat (48 + b % 10)]) = _
    rw [bl_append _ _ _ _ (by rw [Dig.digs_length, Dig.digs_length]), ih _ _ ha' hb']
    have hs : Op.bytesLess [UInt8.ofNat (48 + a % 10)] [UInt8.ofNat (48 + b % 10)] = decide (a % 10 < b % 10) := by
      have e1 : (UInt8.ofNat (48 + a % 10)).toNat = 48 + a % 10 := by simp; omega
      have e2 : (UInt8.ofNat (48 + b % 10)).toNat = 48 + b % 10 := by simp; omega
      simp only [Op.bytesLess, Bool.and_false, Bool.or_false, UInt8.lt_iff_toNat_lt, e1, e2]
      exact decide_eq_decide.2 (by omega)
    rw [hs]
    by_cases h1 : a / 10 < b / 10
    · have : a < b := by omega
      simp [h1, this]
    · by_cases h2 : a / 10 = b / 10
      · rw [h2]; simp only [Nat.lt_irrefl, decide_false, Bool.false_or, decide_true, Bool.true_and]
        exact decide_eq_decide.2 (by omega)
      · have h3 : ¬ Dig.digs k (a / 10) = Dig.digs k (b / 10) := fun h => h2 (digs_inj ha' hb' h)
        have : ¬ a < b := by omega
        simp [h1, h3, this]
/-- the order of what is told -/
theorem bl_step (k : Nat) (a b : Int) (c : UInt8) (l m : List UInt8) (ha0 : 0 ≤ a) (hb0 : 0 ≤ b) (ha : a.toNat < 10 ^ k) (hb : b.toNat < 10 ^ k) :
    Op.bytesLess (Dig.digs k a.toNat ++ c :: l) (Dig.digs k b.toNat ++ c :: m) = (decide (a < b) || (decide (a = b) && Op.bytesLess l m)) := by
  rw [bl_append _ _ _ _ (by rw [Dig.digs_length, Dig.digs_length]), bl_digs k _ _ ha hb, bl_cons]
  have e1 : decide (a.toNat < b.toNat) = decide (a < b) := decide_eq_decide.2 (by omega)
  have e2 : decide (Dig.digs k a.toNat = Dig.digs k b.toNat) = decide (a = b) := decide_eq_decide.2 ⟨fun h => by have := digs_inj ha hb h; omega, fun h => by rw [h]⟩
  rw [e1, e2]
theorem bl_date {y m d y' m' d' : Int} (h : Cal.may y m d) (h' : Cal.may y' m' d') : Op.bytesLess (dateL y m d) (dateL y' m' d') = decide (Cal.num y m d < Cal.num y' m' d') := by
  have g := h; have g' := h'
  obtain ⟨a1, a2, a3, a4, a5, a6⟩ := g
  obtain ⟨b1, b2, b3, b4, b5, b6⟩ := g'
  have dl := Cal.dim_lo y m; have dl' := Cal.dim_lo y' m'
  unfold dateL
  rw [bl_step 4 y y' _ _ _ (by omega) (by omega) (by show y.toNat < 10000; omega) (by show y'.toNat < 10000; omega), bl_step 2 m m' _ _ _ (by omega) (by omega) (by show m.toNat < 100; omega) (by show m'.toNat < 100; omega), bl_digs 2 _ _ (by show d.toNat < 100; omega) (by show d'.toNat < 100; omega)]
  have key : ∀ y m d y' m' d' : Int, Cal.may y m d → Cal.may y' m' d' → y < y' → Cal.num y m d < Cal.num y' m' d' := by
    intro y m d y' m' d' ⟨h1, h2, h3, h4, h5, h6⟩ ⟨g1, g2, g3, g4, g5, g6⟩ hlt
    have b := Cal.dby_mono (y + 1) y' (by omega); have c := Cal.dby_succ y; have d2 := Cal.cum_mono y (m + 1) 13 (by omega) (by omega) (by omega)
    have e := Cal.cum_succ y m h3 h4; have e2 := Cal.cum_last y; have f := Cal.cum_bd y' m'
    unfold Cal.num; omega
  have key2 : ∀ y m d m' d' : Int, Cal.may y m d → Cal.may y m' d' → m < m' → Cal.num y m d < Cal.num y m' d' := by
    intro y m d m' d' ⟨h1, h2, h3, h4, h5, h6⟩ ⟨g1, g2, g3, g4, g5, g6⟩ hlt
    have d2 := Cal.cum_mono y (m + 1) m' (by omega) (by omega) (by omega)
    have e := Cal.cum_succ y m h3 h4
    unfold Cal.num; omega
  rcases Int.lt_trichotomy y y' with hy | hy | hy
  · have := key _ _ _ _ _ _ h h' hy; simp [hy, this]
  · subst hy
    rcases Int.lt_trichotomy m m' with hm | hm | hm
    · have := key2 _ _ _ _ _ h h' hm; simp [hm, this]
    · subst hm
      simp only [Int.lt_irrefl, decide_false, Bool.false_or, decide_true, Bool.true_and]
      exact decide_eq_decide.2 (by unfold Cal.num; omega)
    · have h1 := key2 _ _ _ _ _ h' h hm
      have h2 : ¬ m < m' := by omega
      have h3 : ¬ m = m' := by omega
      have h4 : ¬ Cal.num y m d < Cal.num y m' d' := by omega
      simp [h2, h3, h4]
  · have h1 := key _ _ _ _ _ _ h' h hy
    have h2 : ¬ y < y' := by omega
    have h3 : ¬ y = y' := by omega
    have h4 : ¬ Cal.num y m d < Cal.num y' m' d' := by omega
    simp [h2, h3, h4]
theorem date_inj {y m d y' m' d' : Int} (h : Cal.may y m d) (h' : Cal.may y' m' d') (e : dateL y m d = dateL y' m' d') : Cal.num y m d = Cal.num y' m' d' := by
  have h1 := bl_date h h'
  have h2 := bl_date h' h
  rw [e, bl_same] at h1
  rw [e, bl_same] at h2
  have a1 := of_decide_eq_false h1.symm
  have a2 := of_decide_eq_false h2.symm
  omega
/-- the second of a day, out of its time -/
theorem ofT_sec {n h m s : Int} (g : OfT n h m s 0) : secF h m s = n := by
  unfold secF
  rcases g with ⟨_, a, b, c, d, e⟩ | ⟨_, a, b, c, d⟩ | ⟨a, _⟩ <;> omega
theorem bl_time {n n' h m s h' m' s' : Int} {l l' : List UInt8} (g : OfT n h m s 0) (g' : OfT n' h' m' s' 0) :
    Op.bytesLess (Dig.digs 2 h.toNat ++ 58 :: (Dig.digs 2 m.toNat ++ 58 :: (Dig.digs 2 s.toNat ++ 46 :: l))) (Dig.digs 2 h'.toNat ++ 58 :: (Dig.digs 2 m'.toNat ++ 58 :: (Dig.digs 2 s'.toNat ++ 46 :: l'))) = (decide (n < n') || (decide (n = n') && Op.bytesLess l l')) := by
  have b := ofT_bd g; have b' := ofT_bd g'
  rw [bl_step 2 h h' _ _ _ (by omega) (by omega) (by show h.toNat < 100; omega) (by show h'.toNat < 100; omega), bl_step 2 m m' _ _ _ (by omega) (by omega) (by show m.toNat < 100; omega) (by show m'.toNat < 100; omega), bl_step 2 s s' _ _ _ (by omega) (by omega) (by show s.toNat < 100; omega) (by show s'.toNat < 100; omega)]
  have e := ofT_sec g; have e' := ofT_sec g'
  have hq : (h = 23 ∧ m = 59 ∧ s = 60) ∨ s ≤ 59 := by
    rcases g with ⟨_, a, b, c, d, e⟩ | ⟨_, a, b, c, d⟩ | ⟨a, _⟩
    · right; omega
    · left; exact ⟨b, c, d⟩
    · omega
  have hq' : (h' = 23 ∧ m' = 59 ∧ s' = 60) ∨ s' ≤ 59 := by
    rcases g' with ⟨_, a, b, c, d, e⟩ | ⟨_, a, b, c, d⟩ | ⟨a, _⟩
    · right; omega
    · left; exact ⟨b, c, d⟩
    · omega
  unfold secF at e e'
  have k1 : (h < h' ∨ h = h' ∧ (m < m' ∨ m = m' ∧ s < s')) ↔ n < n' := by omega
  have k2 : (h = h' ∧ m = m' ∧ s = s') ↔ n = n' := by omega
  have e1 : decide (n < n') = decide (h < h' ∨ h = h' ∧ (m < m' ∨ m = m' ∧ s < s')) := decide_eq_decide.2 k1.symm
  have e2 : decide (n = n') = decide (h = h' ∧ m = m' ∧ s = s') := decide_eq_decide.2 k2.symm
  rw [e1, e2]
  cases hl : Op.bytesLess l l'
  · by_cases x1 : h < h' <;> by_cases x2 : h = h' <;> by_cases x3 : m < m' <;> by_cases x4 : m = m' <;> by_cases x5 : s < s' <;> by_cases x6 : s = s' <;> simp [x1, x2, x3, x4, x5, x6] <;> omega
  · by_cases x1 : h < h' <;> by_cases x2 : h = h' <;> by_cases x3 : m < m' <;> by_cases x4 : m = m' <;> by_cases x5 : s < s' <;> by_cases x6 : s = s' <;> simp [x1, x2, x3, x4, x5, x6] <;> omega
theorem ldigs4 (n : Nat) : ∃ a b c d, Dig.digs 4 n = [a, b, c, d] := ⟨_, _, _, _, rfl⟩
theorem ldigs2 (n : Nat) : ∃ a b, Dig.digs 2 n = [a, b] := ⟨_, _, rfl⟩
theorem lnumS_digs (k n : Nat) (h : n < 10 ^ k) : Dig.numS 0 ⟨(Dig.digs k n).toArray⟩ = n := by
  unfold Dig.numS Dig.numOr
  rw [if_pos (Dig.allD_digs k n)]
  exact Dig.val_digs k n h
theorem ldigB_digs (k n : Nat) (h : 1 ≤ k) : Dig.digB ⟨(Dig.digs k n).toArray⟩ = true := by
  rw [digB_eq]
  have : (Dig.digs k n).isEmpty = false := by
    have hl := Dig.digs_length k n
    cases h : Dig.digs k n with
    | nil => rw [h] at hl; simp at hl; omega
    | cons a b => rfl
  show (Dig.allD (Dig.digs k n) && !(Dig.digs k n).isEmpty) = true
  rw [Dig.allD_digs, this]; rfl
theorem lisParse_date {y m d : Int} (h : Cal.may y m d) : IsParse ⟨(dateL y m d).toArray⟩ y m d 0 := by
  have h' := h
  obtain ⟨y1, y2, m1, m2, d1, d2⟩ := h'
  have dl := Cal.dim_lo y m
  have e1 : (⟨(dateL y m d).toArray⟩ : ByteArray).extract 0 4 = ⟨(Dig.digs 4 y.toNat).toArray⟩ := by
    obtain ⟨a, b, c, e, h4⟩ := ldigs4 y.toNat
    obtain ⟨f, g, h2⟩ := ldigs2 m.toNat
    obtain ⟨i, j, h2'⟩ := ldigs2 d.toNat
    unfold dateL; rw [h4, h2, h2']; rfl
  have e2 : (⟨(dateL y m d).toArray⟩ : ByteArray).extract 5 7 = ⟨(Dig.digs 2 m.toNat).toArray⟩ := by
    obtain ⟨a, b, c, e, h4⟩ := ldigs4 y.toNat
    obtain ⟨f, g, h2⟩ := ldigs2 m.toNat
    obtain ⟨i, j, h2'⟩ := ldigs2 d.toNat
    unfold dateL; rw [h4, h2, h2']; rfl
  have e3 : (⟨(dateL y m d).toArray⟩ : ByteArray).extract 8 10 = ⟨(Dig.digs 2 d.toNat).toArray⟩ := by
    obtain ⟨a, b, c, e, h4⟩ := ldigs4 y.toNat
    obtain ⟨f, g, h2⟩ := ldigs2 m.toNat
    obtain ⟨i, j, h2'⟩ := ldigs2 d.toNat
    unfold dateL; rw [h4, h2, h2']; rfl
  have v1 : Dig.numS 0 ((⟨(dateL y m d).toArray⟩ : ByteArray).extract 0 4) = y := by rw [e1, lnumS_digs 4 _ (by show y.toNat < 10000; omega)]; omega
  have v2 : Dig.numS 0 ((⟨(dateL y m d).toArray⟩ : ByteArray).extract 5 7) = m := by rw [e2, lnumS_digs 2 _ (by show m.toNat < 100; omega)]; omega
  have v3 : Dig.numS 0 ((⟨(dateL y m d).toArray⟩ : ByteArray).extract 8 10) = d := by rw [e3, lnumS_digs 2 _ (by show d.toNat < 100; omega)]; omega
  left
  refine ⟨⟨?_, ?_, ?_, by rw [e1]; exact ldigB_digs _ _ (by omega), by rw [e2]; exact ldigB_digs _ _ (by omega), by rw [e3]; exact ldigB_digs _ _ (by omega), by rw [v1, v2, v3]; exact h⟩, rfl, v1.symm, v2.symm, v3.symm⟩
  · show (dateL y m d).length = 10
    unfold dateL; simp [Dig.digs_length]
  · obtain ⟨a, b, c, e, h4⟩ := ldigs4 y.toNat
    obtain ⟨f, g, h2⟩ := ldigs2 m.toNat
    obtain ⟨i, j, h2'⟩ := ldigs2 d.toNat
    simp only [dateL, h4, h2, h2']; rfl
  · obtain ⟨a, b, c, e, h4⟩ := ldigs4 y.toNat
    obtain ⟨f, g, h2⟩ := ldigs2 m.toNat
    obtain ⟨i, j, h2'⟩ := ldigs2 d.toNat
    simp only [dateL, h4, h2, h2']; rfl
theorem ldigs9 (n : Nat) : ∃ a b c d e f g h i, Dig.digs 9 n = [a, b, c, d, e, f, g, h, i] := ⟨_, _, _, _, _, _, _, _, _, rfl⟩
theorem ldate (y m d : Int) : ∃ a b c e f g h i j k, dateL y m d = [a, b, c, e, f, g, h, i, j, k] := by
  obtain ⟨a, b, c, e, h4⟩ := ldigs4 y.toNat
  obtain ⟨f, g, h2⟩ := ldigs2 m.toNat
  obtain ⟨i, j, h2'⟩ := ldigs2 d.toNat
  exact ⟨_, _, _, _, _, _, _, _, _, _, by unfold dateL; rw [h4, h2, h2']; rfl⟩
theorem bl_stamp {y mo d h m s n y' mo' d' h' m' s' n' sec sec' : Int} (hM : Cal.may y mo d) (hM' : Cal.may y' mo' d') (g : OfT sec h m s 0) (g' : OfT sec' h' m' s' 0) (hn : 0 ≤ n ∧ n ≤ 999999999) (hn' : 0 ≤ n' ∧ n' ≤ 999999999) :
    Op.bytesLess (stampL y mo d h m s n) (stampL y' mo' d' h' m' s' n') = (decide (Cal.num y mo d < Cal.num y' mo' d') || (decide (Cal.num y mo d = Cal.num y' mo' d') && (decide (sec < sec') || (decide (sec = sec') && decide (n < n'))))) := by
  unfold stampL
  rw [bl_append _ _ _ _ (by rw [dateL_length, dateL_length]), bl_date hM hM', bl_cons, bl_time g g', bl_digs 9 _ _ (by show n.toNat < 1000000000; omega) (by show n'.toNat < 1000000000; omega)]
  have e1 : decide (n.toNat < n'.toNat) = decide (n < n') := decide_eq_decide.2 (by omega)
  have e2 : decide (dateL y mo d = dateL y' mo' d') = decide (Cal.num y mo d = Cal.num y' mo' d') := decide_eq_decide.2 ⟨date_inj hM hM', fun h => by
    obtain ⟨rfl, rfl, rfl⟩ := Cal.num_inj hM hM' h; rfl⟩
  rw [e1, e2]
theorem stamp_inj {y mo d h m s n y' mo' d' h' m' s' n' sec sec' : Int} (hM : Cal.may y mo d) (hM' : Cal.may y' mo' d') (g : OfT sec h m s 0) (g' : OfT sec' h' m' s' 0) (hn : 0 ≤ n ∧ n ≤ 999999999) (hn' : 0 ≤ n' ∧ n' ≤ 999999999) (e : stampL y mo d h m s n = stampL y' mo' d' h' m' s' n') : Cal.num y mo d = Cal.num y' mo' d' ∧ sec = sec' ∧ n = n' := by
  have h1 := bl_stamp hM hM' g g' hn hn'
  have h2 := bl_stamp hM' hM g' g hn' hn
  rw [e, bl_same] at h1
  rw [e, bl_same] at h2
  rcases Int.lt_trichotomy (Cal.num y mo d) (Cal.num y' mo' d') with a | a | a
  · simp [a] at h1
  · refine ⟨a, ?_⟩
    rcases Int.lt_trichotomy sec sec' with b | b | b
    · simp [a, b] at h1
    · refine ⟨b, ?_⟩
      rcases Int.lt_trichotomy n n' with c | c | c
      · simp [a, b, c] at h1
      · exact c
      · simp [a.symm, b.symm, c] at h2
    · simp [a.symm, b] at h2
  · simp [a] at h2
theorem ofT_ok {n h m s : Int} (g : OfT n h m s 0) : TimeOK h m s := by
  rcases g with ⟨_, a, b, c, d, e⟩ | ⟨_, a, b, c, d⟩ | ⟨a, _⟩
  · left; omega
  · right; exact ⟨b, c, d⟩
  · omega
set_option maxHeartbeats 4000000 in
theorem isP8_stamp {day sec n y mo d h m s : Int} (hM : Cal.may y mo d) (hN : Cal.num y mo d = day) (g : OfT sec h m s 0) (hn : 0 ≤ n ∧ n ≤ 999999999) : IsP8 ⟨(stampL y mo d h m s n).toArray⟩ day sec n 0 := by
  have tb := ofT_bd g
  have e0 : (⟨(stampL y mo d h m s n).toArray⟩ : ByteArray).extract 0 10 = ⟨(dateL y mo d).toArray⟩ := by
    obtain ⟨a0, a1, a2, a3, a4, a5, a6, a7, a8, a9, ha⟩ := ldate y mo d
    obtain ⟨b0, b1, hb⟩ := ldigs2 h.toNat
    obtain ⟨c0, c1, hc⟩ := ldigs2 m.toNat
    obtain ⟨d0, d1, hd⟩ := ldigs2 s.toNat
    obtain ⟨f0, f1, f2, f3, f4, f5, f6, f7, f8, hf⟩ := ldigs9 n.toNat
    unfold stampL; rw [ha, hb, hc, hd, hf]; rfl
  have e1 : (⟨(stampL y mo d h m s n).toArray⟩ : ByteArray).extract 11 13 = ⟨(Dig.digs 2 h.toNat).toArray⟩ := by
    obtain ⟨a0, a1, a2, a3, a4, a5, a6, a7, a8, a9, ha⟩ := ldate y mo d
    obtain ⟨b0, b1, hb⟩ := ldigs2 h.toNat
    obtain ⟨c0, c1, hc⟩ := ldigs2 m.toNat
    obtain ⟨d0, d1, hd⟩ := ldigs2 s.toNat
    obtain ⟨f0, f1, f2, f3, f4, f5, f6, f7, f8, hf⟩ := ldigs9 n.toNat
    unfold stampL; rw [ha, hb, hc, hd, hf]; rfl
  have e2 : (⟨(stampL y mo d h m s n).toArray⟩ : ByteArray).extract 14 16 = ⟨(Dig.digs 2 m.toNat).toArray⟩ := by
    obtain ⟨a0, a1, a2, a3, a4, a5, a6, a7, a8, a9, ha⟩ := ldate y mo d
    obtain ⟨b0, b1, hb⟩ := ldigs2 h.toNat
    obtain ⟨c0, c1, hc⟩ := ldigs2 m.toNat
    obtain ⟨d0, d1, hd⟩ := ldigs2 s.toNat
    obtain ⟨f0, f1, f2, f3, f4, f5, f6, f7, f8, hf⟩ := ldigs9 n.toNat
    unfold stampL; rw [ha, hb, hc, hd, hf]; rfl
  have e3 : (⟨(stampL y mo d h m s n).toArray⟩ : ByteArray).extract 17 19 = ⟨(Dig.digs 2 s.toNat).toArray⟩ := by
    obtain ⟨a0, a1, a2, a3, a4, a5, a6, a7, a8, a9, ha⟩ := ldate y mo d
    obtain ⟨b0, b1, hb⟩ := ldigs2 h.toNat
    obtain ⟨c0, c1, hc⟩ := ldigs2 m.toNat
    obtain ⟨d0, d1, hd⟩ := ldigs2 s.toNat
    obtain ⟨f0, f1, f2, f3, f4, f5, f6, f7, f8, hf⟩ := ldigs9 n.toNat
    unfold stampL; rw [ha, hb, hc, hd, hf]; rfl
  have e4 : (⟨(stampL y mo d h m s n).toArray⟩ : ByteArray).extract 20 29 = ⟨(Dig.digs 9 n.toNat).toArray⟩ := by
    obtain ⟨a0, a1, a2, a3, a4, a5, a6, a7, a8, a9, ha⟩ := ldate y mo d
    obtain ⟨b0, b1, hb⟩ := ldigs2 h.toNat
    obtain ⟨c0, c1, hc⟩ := ldigs2 m.toNat
    obtain ⟨d0, d1, hd⟩ := ldigs2 s.toNat
    obtain ⟨f0, f1, f2, f3, f4, f5, f6, f7, f8, hf⟩ := ldigs9 n.toNat
    unfold stampL; rw [ha, hb, hc, hd, hf]; rfl
  have v1 : Dig.numS 0 ((⟨(stampL y mo d h m s n).toArray⟩ : ByteArray).extract 11 13) = h := by rw [e1, lnumS_digs 2 _ (by show h.toNat < 100; omega)]; omega
  have v2 : Dig.numS 0 ((⟨(stampL y mo d h m s n).toArray⟩ : ByteArray).extract 14 16) = m := by rw [e2, lnumS_digs 2 _ (by show m.toNat < 100; omega)]; omega
  have v3 : Dig.numS 0 ((⟨(stampL y mo d h m s n).toArray⟩ : ByteArray).extract 17 19) = s := by rw [e3, lnumS_digs 2 _ (by show s.toNat < 100; omega)]; omega
  have v4 : Dig.numS 0 ((⟨(stampL y mo d h m s n).toArray⟩ : ByteArray).extract 20 29) = n := by rw [e4, lnumS_digs 9 _ (by show n.toNat < 1000000000; omega)]; omega
  rcases lisParse_date hM with ⟨hP, _, q1, q2, q3⟩ | ⟨_, q, _⟩
  · left
    refine ⟨⟨?_, ?_, ?_, ?_, ?_, by rw [e0]; exact hP, by rw [e1]; exact ldigB_digs _ _ (by omega), by rw [e2]; exact ldigB_digs _ _ (by omega), by rw [e3]; exact ldigB_digs _ _ (by omega), by rw [e4]; exact ldigB_digs _ _ (by omega), by rw [v1, v2, v3]; exact ofT_ok g⟩, rfl, by rw [e0, ← q1, ← q2, ← q3, hN], by rw [v1, v2, v3, ofT_sec g], v4.symm⟩
    · show (stampL y mo d h m s n).length = 29
      unfold stampL; simp [dateL_length, Dig.digs_length]
    all_goals
      obtain ⟨a0, a1, a2, a3, a4, a5, a6, a7, a8, a9, ha⟩ := ldate y mo d
      obtain ⟨b0, b1, hb⟩ := ldigs2 h.toNat
      obtain ⟨c0, c1, hc⟩ := ldigs2 m.toNat
      obtain ⟨d0, d1, hd⟩ := ldigs2 s.toNat
      obtain ⟨f0, f1, f2, f3, f4, f5, f6, f7, f8, hf⟩ := ldigs9 n.toNat
      simp only [stampL, ha, hb, hc, hd, hf]; rfl
  · omega
end Go.Proofs.YtengchkiejpglaaDoor
