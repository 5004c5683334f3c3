/-
  Layer 10 by the second engine: ZoneSpans.
-/
import Derived.Test.YtehiienjodicpaaDoorSyc
import Derived.Test.YtehiienjodicpaaDoorZ10e
namespace Go.Proofs.YtehiienjodicpaaDoor
open Go.RowKit Go.Extern.Stop Go.Stop Go.Extern Go.Proofs.YtehiienjodicpaaDoor.Sy
set_option linter.unusedVariables false
set_option linter.unusedSimpArgs false
def hasB (l : List Value) (n b : Int) (k : Nat) : Bool := (List.range k).any fun i => decide (Go.RowKit.intOf (l.getD (i * 3) Go.undef) = n) && decide (Go.RowKit.intOf (l.getD (i * 3 + 1) Go.undef) = b)
theorem hasB_succ (l : List Value) (n b : Int) (k : Nat) : hasB l n b (k + 1) = (hasB l n b k || (decide (Go.RowKit.intOf (l.getD (k * 3) Go.undef) = n) && decide (Go.RowKit.intOf (l.getD (k * 3 + 1) Go.undef) = b))) := by
  unfold hasB; rw [List.range_succ, List.any_append]; simp
theorem hasB_of {l : List Value} {n b : Int} {k i : Nat} (hi : i < k) (h1 : Go.RowKit.intOf (l.getD (i * 3) Go.undef) = n) (h2 : Go.RowKit.intOf (l.getD (i * 3 + 1) Go.undef) = b) : hasB l n b k = true := by
  refine List.any_eq_true.2 ⟨i, List.mem_range.2 hi, ?_⟩
  simp only [h1, h2, decide_true, Bool.and_self]
theorem cntN_le (l : List Value) (d : Int) (n : Nat) : cntN l d n ≤ n := by
  unfold cntN
  exact Nat.le_trans List.countP_le_length (by simp)
theorem cntN_mono (l : List Value) (d : Int) {a : Nat} : ∀ {b : Nat}, a ≤ b → cntN l d a ≤ cntN l d b
  | 0, h => by rw [show a = 0 by omega]; exact Nat.le_refl _
  | b + 1, h => by
    rcases Nat.lt_or_ge b a with h1 | h1
    · rw [show a = b + 1 by omega]; exact Nat.le_refl _
    · rw [cntN_succ]; exact Nat.le_trans (cntN_mono l d h1) (Nat.le_add_right _ _)
theorem srch_iff {l : List Value} {d : Int} (ho : okR l (l.length / 3) = true) {k : Nat} (hk : k < l.length / 3) : Go.RowKit.intOf (l.getD (k * 3) Go.undef) ≤ d ↔ k < srchN l d := by
  rw [srch_cnt]
  constructor
  · intro h
    have h1 := cntN_low ho hk h
    have h2 := cntN_mono l d (show k + 1 ≤ l.length / 3 from hk)
    rw [cntN_succ, if_neg (by omega), h1] at h2
    omega
  · intro h
    by_cases hd : Go.RowKit.intOf (l.getD (k * 3) Go.undef) ≤ d
    · exact hd
    · have h1 := cntN_high ho (d := d) (k := k) (by omega) (n := l.length / 3) (by omega) (Nat.le_refl _)
      have h2 := cntN_le l d k
      omega
theorem srch_uniq {l : List Value} {d : Int} (ho : okR l (l.length / 3) = true) {c : Nat} (hc : c ≤ l.length / 3) (h : ∀ k, k < l.length / 3 → (Go.RowKit.intOf (l.getD (k * 3) Go.undef) ≤ d ↔ k < c)) : srchN l d = c := by
  have hle := srch_le l d
  rcases Nat.lt_trichotomy (srchN l d) c with h1 | h1 | h1
  · have h2 := (h (srchN l d) (by omega)).2 h1
    have h3 := (srch_iff (d := d) ho (k := srchN l d) (by omega)).1 h2
    omega
  · exact h1
  · have h2 := (srch_iff (d := d) ho (k := c) (by omega)).2 h1
    have h3 := (h c (by omega)).1 h2
    omega
theorem at_strict {l : List Value} {N : Nat} (ho : okR l N = true) {a b : Nat} (hab : a < b) (hb : b < N) : Go.RowKit.intOf (l.getD (a * 3) Go.undef) < Go.RowKit.intOf (l.getD (b * 3) Go.undef) := by
  have h2 := ((rul_iff _ _).1 (okR_get ho hb)).1
  rw [least_pos (by omega)] at h2
  have h3 := at_mono ho (a := a) (b := b - 1) (by omega) (by omega)
  omega
theorem span_none {l : List Value} {d t : Int} (ho : okR l (l.length / 3) = true) (h : srchN l d = l.length / 3) (ht : d ≤ t) : srchN l t = srchN l d :=
  srch_uniq ho (srch_le l d) fun k hk => ⟨fun _ => by omega, fun _ => by
    have := (srch_iff (d := d) ho hk).2 (by omega)
    omega⟩
theorem span_next {l : List Value} {d : Int} (ho : okR l (l.length / 3) = true) (h : ¬ srchN l d = l.length / 3) : d < Go.RowKit.intOf (l.getD (srchN l d * 3) Go.undef) ∧ srchN l d < l.length / 3 := by
  have hle := srch_le l d
  refine ⟨?_, by omega⟩
  have := fun h1 => (srch_iff (d := d) ho (k := srchN l d) (by omega)).1 h1
  omega
theorem span_some {l : List Value} {d t : Int} (ho : okR l (l.length / 3) = true) (h : ¬ srchN l d = l.length / 3) (ht : d ≤ t) (ht2 : t < Go.RowKit.intOf (l.getD (srchN l d * 3) Go.undef)) : srchN l t = srchN l d :=
  srch_uniq ho (srch_le l d) fun k hk => ⟨fun h1 => by
    rcases Nat.lt_or_ge k (srchN l d) with h2 | h2
    · exact h2
    · have := at_mono ho h2 hk
      omega, fun h1 => by
    have := (srch_iff (d := d) ho hk).2 h1
    omega⟩
theorem span_at {l : List Value} {d : Int} (ho : okR l (l.length / 3) = true) (h : ¬ srchN l d = l.length / 3) : srchN l (Go.RowKit.intOf (l.getD (srchN l d * 3) Go.undef)) = srchN l d + 1 := by
  have hs := span_next ho h
  refine srch_uniq ho (by omega) fun k hk => ⟨fun h1 => ?_, fun h1 => at_mono ho (by omega) hs.2⟩
  rcases Nat.lt_or_ge (srchN l d) k with h2 | h2
  · have := at_strict ho h2 hk
    omega
  · omega
theorem okR_le {l : List Value} {m : Nat} : ∀ {n : Nat}, okR l n = true → m ≤ n → okR l m = true
  | 0, h, hm => by rw [show m = 0 by omega]; rfl
  | n + 1, h, hm => by
    rcases Nat.lt_or_ge n m with h1 | h1
    · rw [show m = n + 1 by omega]; exact h
    · simp only [okR, Bool.and_eq_true] at h
      exact okR_le h.1 h1
theorem span_cases {s : ByteArray} {f : Int} {l : List Value} (hz : zoneB s f l = true) (d : Int) :
    (nxtE s f l d = 6 ∧ ∀ t, d ≤ t → atO s f l t = atO s f l d ∧ atN s f l t = atN s f l d) ∨
    (nxtE s f l d = 0 ∧ d < nxtI s f l d ∧ -1099511627776 ≤ nxtI s f l d ∧ nxtI s f l d ≤ 1099511627776 ∧ (∀ t, d ≤ t → t < nxtI s f l d → atO s f l t = atO s f l d ∧ atN s f l t = atN s f l d) ∧ hasB l (nxtI s f l d) (atO s f l (nxtI s f l d)) (l.length / 3) = true) := by
  have ho := ((zone_iff _ _ _).1 hz).2.2.2
  by_cases hc : srchN l d = l.length / 3
  · refine .inl ⟨by simp only [nxtE, hz, if_true, if_pos hc], fun t ht => ?_⟩
    have e := span_none ho hc ht
    simp only [atO, atN, hz, if_true, e]
    exact ⟨trivial, trivial⟩
  · have e1 : nxtI s f l d = Go.RowKit.intOf (l.getD (srchN l d * 3) Go.undef) := by simp only [nxtI, hz, if_true, if_neg hc]
    have hn := span_next ho hc
    have hr := (rul_iff _ _).1 (okR_get ho hn.2)
    have hg := least_ge ho
    have hg2 := least_ge (n := srchN l d) (l := l) (okR_le ho (by omega))
    rw [e1]
    refine .inr ⟨by simp only [nxtE, hz, if_true, if_neg hc], hn.1, by omega, by omega, fun t ht ht2 => ?_, ?_⟩
    · have e := span_some ho hc ht ht2
      simp only [atO, atN, hz, if_true, e]
      exact ⟨trivial, trivial⟩
    · have e := span_at ho hc
      refine hasB_of hn.2 rfl ?_
      simp only [atO, hz, if_true, e, Nat.succ_ne_zero, if_false, Nat.add_sub_cancel]
noncomputable def zfI : Nat → List Value → Int
  | i, l => zeI i l
noncomputable def zfB : Nat → List Value → Bool
  | 10, [l, .int _ n, .int _ b, .int _ k] => hasB (rows l) n b k.toNat
  | i, l => zeB i l
noncomputable def zfV : Nat → List Value → Value
  | i, l => zeV i l
noncomputable abbrev zfE (iv : List Int) (bv : List Bool) (vv : List Value) (sv : List ByteArray) : Env := { iv := iv, bv := bv, vv := vv, sv := sv, fi := zfI, fb := zfB, fv := zfV, et := 108 }
theorem zfup : Agree 9 10 2 (zeE [] [] [] []) (zfE [] [] [] []) := ⟨rfl, (by
    intro f hf
    funext l
    show zfI f l = zeI f l
    unfold zfI
    split <;> first | rfl | omega), (by
    intro f hf
    funext l
    show zfB f l = zeB f l
    unfold zfB
    split <;> first | rfl | omega), (by
    intro f hf
    funext l
    show zfV f l = zeV f l
    unfold zfV
    split <;> first | rfl | omega)⟩
theorem zfi_ixl (l : Value) : zfI 0 [l] = ixL (intsV l) := rfl
theorem zfi_lst (l : Value) (k1 : IntKind) (n : Int) : zfI 1 [l, .int k1 n] = leastR (rows l) n.toNat := rfl
theorem zfi_chk (s : ByteArray) (k1 : IntKind) (f : Int) (l : Value) : zfI 2 [.string s, .int k1 f, l] = chkI s f (rows l) := rfl
theorem zfi_srch (l : Value) (k1 : IntKind) (d : Int) : zfI 3 [l, .int k1 d] = ((srchN (rows l) d : Nat) : Int) := rfl
theorem zfi_ato (s : ByteArray) (k1 : IntKind) (f : Int) (l : Value) (k2 : IntKind) (d : Int) : zfI 4 [.string s, .int k1 f, l, .int k2 d] = atO s f (rows l) d := rfl
theorem zfi_nxt (s : ByteArray) (k1 : IntKind) (f : Int) (l : Value) (k2 : IntKind) (d : Int) : zfI 5 [.string s, .int k1 f, l, .int k2 d] = nxtI s f (rows l) d := rfl
theorem zfi_nxe (s : ByteArray) (k1 : IntKind) (f : Int) (l : Value) (k2 : IntKind) (d : Int) : zfI 6 [.string s, .int k1 f, l, .int k2 d] = nxtE s f (rows l) d := rfl
theorem zfi_cn (l : Value) (k1 : IntKind) (d : Int) (k2 : IntKind) (n : Int) : zfI 7 [l, .int k1 d, .int k2 n] = ((cntN (rows l) d n.toNat : Nat) : Int) := rfl
theorem zfi_ro (k1 : IntKind) (f : Int) (l : Value) (k2 : IntKind) (d : Int) (k3 : IntKind) (n : Int) : zfI 8 [.int k1 f, l, .int k2 d, .int k3 n] = roI f (rows l) d n.toNat := rfl
theorem zfb_let (k1 : IntKind) (c : Int) : zfB 0 [.int k1 c] = letC c := rfl
theorem zfb_rok (l : Value) (k1 : IntKind) (n : Int) : zfB 1 [l, .int k1 n] = okR (rows l) n.toNat := rfl
theorem zfb_zon (s : ByteArray) (k1 : IntKind) (f : Int) (l : Value) : zfB 2 [.string s, .int k1 f, l] = zoneB s f (rows l) := rfl
theorem zfb_shr (l : Value) : zfB 3 [l] = shortR (rows l) := rfl
theorem zfb_pre (l : Value) (k1 : IntKind) (n : Int) : zfB 4 [l, .int k1 n] = preL (intsV l) n.toNat := rfl
theorem zfb_nm (s : ByteArray) : zfB 5 [.string s] = nameB s := rfl
theorem zfb_shn (l : Value) (k1 : IntKind) (n : Int) : zfB 6 [l, .int k1 n] = shN (rows l) n.toNat := rfl
theorem zfb_big (s : ByteArray) (l : Value) : zfB 7 [.string s, l] = bigB s (rows l) := rfl
theorem zfb_eqv (x : Value) (y : Value) : zfB 8 [x, y] = eqV x y := rfl
theorem zfb_tk (x : Value) (y : Value) (k1 : IntKind) (n : Int) : zfB 9 [x, y, .int k1 n] = eqV x (tkV y n.toNat) := rfl
theorem zfb_has (l : Value) (k1 : IntKind) (n : Int) (k2 : IntKind) (b : Int) (k3 : IntKind) (k : Int) : zfB 10 [l, .int k1 n, .int k2 b, .int k3 k] = hasB (rows l) n b k.toNat := rfl
theorem zfv_atn (s : ByteArray) (k1 : IntKind) (f : Int) (l : Value) (k2 : IntKind) (d : Int) : zfV 0 [.string s, .int k1 f, l, .int k2 d] = .string (atN s f (rows l) d) := rfl
theorem zfv_rn (s : ByteArray) (l : Value) (k1 : IntKind) (d : Int) (k2 : IntKind) (n : Int) : zfV 1 [.string s, l, .int k1 d, .int k2 n] = .string (rnS s (rows l) d n.toNat) := rfl
def wSpans_tree : Tree :=
 (.need (.b2 .le (.ofI (.vop (.len 3) (.cons (.opq 0) .nil))) (.lit (4398046511103)))
 (.br (.bapp 7 (.cons (.str 0) (.cons (.opq 0) .nil)))
 (.ret (.bool (.tt true)))
 (.br (.not (.b2 .eq (.iapp 2 (.cons (.str 0) (.cons (.int .i64 (.var 0)) (.cons (.opq 0) .nil)))) (.lit (0))))
 (.ret (.bool (.tt true)))
 (.br (.b2 .lt (.var 1) (.lit (-1125899906842624)))
 (.ret (.bool (.tt true)))
 (.br (.b2 .lt (.lit (1125899906842624)) (.var 1))
 (.ret (.bool (.tt true)))
 (.br (.b2 .eq (.iapp 6 (.cons (.str 0) (.cons (.int .i64 (.var 0)) (.cons (.opq 0) (.cons (.int .i64 (.var 1)) .nil))))) (.lit (0)))
 (.br (.b2 .le (.iapp 5 (.cons (.str 0) (.cons (.int .i64 (.var 0)) (.cons (.opq 0) (.cons (.int .i64 (.var 1)) .nil))))) (.var 1))
 (.ret (.bool (.tt false)))
 (.loop ⟨1, 1, 0, 0⟩ (.b2 .and (.b2 .le (.lit (0)) (.lit (0))) (.b2 .and (.b2 .le (.lit (0)) (.ofI (.vop (.len 3) (.cons (.opq 0) .nil)))) (.b2 .beq (.tt false) (.bapp 10 (.cons (.opq 0) (.cons (.int .i64 (.iapp 5 (.cons (.str 0) (.cons (.int .i64 (.var 0)) (.cons (.opq 0) (.cons (.int .i64 (.var 1)) .nil)))))) (.cons (.int .i64 (.iapp 4 (.cons (.str 0) (.cons (.int .i64 (.var 0)) (.cons (.opq 0) (.cons (.int .i64 (.iapp 5 (.cons (.str 0) (.cons (.int .i64 (.var 0)) (.cons (.opq 0) (.cons (.int .i64 (.var 1)) .nil)))))) .nil)))))) (.cons (.int .i64 (.lit (0))) .nil)))))))) (.b2 .and (.b2 .le (.lit (0)) (.var 3)) (.b2 .and (.b2 .le (.var 3) (.ofI (.vop (.len 3) (.cons (.opq 0) .nil)))) (.b2 .beq (.bvar 0) (.bapp 10 (.cons (.opq 0) (.cons (.int .i64 (.iapp 5 (.cons (.str 0) (.cons (.int .i64 (.var 0)) (.cons (.opq 0) (.cons (.int .i64 (.var 1)) .nil)))))) (.cons (.int .i64 (.iapp 4 (.cons (.str 0) (.cons (.int .i64 (.var 0)) (.cons (.opq 0) (.cons (.int .i64 (.iapp 5 (.cons (.str 0) (.cons (.int .i64 (.var 0)) (.cons (.opq 0) (.cons (.int .i64 (.var 1)) .nil)))))) .nil)))))) (.cons (.int .i64 (.var 3)) .nil))))))))
 (.br (.b2 .lt (.var 3) (.ofI (.vop (.len 3) (.cons (.opq 0) .nil))))
 (.br (.bvar 0)
 (.back (.b2 .and (.b2 .le (.lit (0)) (.wrap .i64 (.i2 .add (.var 3) (.lit (1))))) (.b2 .and (.b2 .le (.wrap .i64 (.i2 .add (.var 3) (.lit (1)))) (.ofI (.vop (.len 3) (.cons (.opq 0) .nil)))) (.b2 .beq (.tt true) (.bapp 10 (.cons (.opq 0) (.cons (.int .i64 (.iapp 5 (.cons (.str 0) (.cons (.int .i64 (.var 0)) (.cons (.opq 0) (.cons (.int .i64 (.var 1)) .nil)))))) (.cons (.int .i64 (.iapp 4 (.cons (.str 0) (.cons (.int .i64 (.var 0)) (.cons (.opq 0) (.cons (.int .i64 (.iapp 5 (.cons (.str 0) (.cons (.int .i64 (.var 0)) (.cons (.opq 0) (.cons (.int .i64 (.var 1)) .nil)))))) .nil)))))) (.cons (.int .i64 (.wrap .i64 (.i2 .add (.var 3) (.lit (1))))) .nil)))))))) (.i2 .sub (.ofI (.vop (.len 3) (.cons (.opq 0) .nil))) (.wrap .i64 (.i2 .add (.var 3) (.lit (1))))) (.i2 .sub (.ofI (.vop (.len 3) (.cons (.opq 0) .nil))) (.var 3)))
 (.need (.b2 .and (.b2 .le (.lit (0)) (.var 3)) (.b2 .lt (.var 3) (.ofI (.vop (.len 3) (.cons (.opq 0) .nil)))))
 (.br (.b2 .eq (.ofI (.vop (.sel 3 0) (.cons (.opq 0) (.cons (.int .i64 (.var 3)) .nil)))) (.iapp 5 (.cons (.str 0) (.cons (.int .i64 (.var 0)) (.cons (.opq 0) (.cons (.int .i64 (.var 1)) .nil))))))
 (.need (.b2 .and (.b2 .le (.lit (0)) (.var 3)) (.b2 .lt (.var 3) (.ofI (.vop (.len 3) (.cons (.opq 0) .nil)))))
 (.back (.b2 .and (.b2 .le (.lit (0)) (.wrap .i64 (.i2 .add (.var 3) (.lit (1))))) (.b2 .and (.b2 .le (.wrap .i64 (.i2 .add (.var 3) (.lit (1)))) (.ofI (.vop (.len 3) (.cons (.opq 0) .nil)))) (.b2 .beq (.b2 .eq (.ofI (.vop (.sel 3 1) (.cons (.opq 0) (.cons (.int .i64 (.var 3)) .nil)))) (.iapp 4 (.cons (.str 0) (.cons (.int .i64 (.var 0)) (.cons (.opq 0) (.cons (.int .i64 (.iapp 5 (.cons (.str 0) (.cons (.int .i64 (.var 0)) (.cons (.opq 0) (.cons (.int .i64 (.var 1)) .nil)))))) .nil)))))) (.bapp 10 (.cons (.opq 0) (.cons (.int .i64 (.iapp 5 (.cons (.str 0) (.cons (.int .i64 (.var 0)) (.cons (.opq 0) (.cons (.int .i64 (.var 1)) .nil)))))) (.cons (.int .i64 (.iapp 4 (.cons (.str 0) (.cons (.int .i64 (.var 0)) (.cons (.opq 0) (.cons (.int .i64 (.iapp 5 (.cons (.str 0) (.cons (.int .i64 (.var 0)) (.cons (.opq 0) (.cons (.int .i64 (.var 1)) .nil)))))) .nil)))))) (.cons (.int .i64 (.wrap .i64 (.i2 .add (.var 3) (.lit (1))))) .nil)))))))) (.i2 .sub (.ofI (.vop (.len 3) (.cons (.opq 0) .nil))) (.wrap .i64 (.i2 .add (.var 3) (.lit (1))))) (.i2 .sub (.ofI (.vop (.len 3) (.cons (.opq 0) .nil))) (.var 3))))
 (.back (.b2 .and (.b2 .le (.lit (0)) (.wrap .i64 (.i2 .add (.var 3) (.lit (1))))) (.b2 .and (.b2 .le (.wrap .i64 (.i2 .add (.var 3) (.lit (1)))) (.ofI (.vop (.len 3) (.cons (.opq 0) .nil)))) (.b2 .beq (.tt false) (.bapp 10 (.cons (.opq 0) (.cons (.int .i64 (.iapp 5 (.cons (.str 0) (.cons (.int .i64 (.var 0)) (.cons (.opq 0) (.cons (.int .i64 (.var 1)) .nil)))))) (.cons (.int .i64 (.iapp 4 (.cons (.str 0) (.cons (.int .i64 (.var 0)) (.cons (.opq 0) (.cons (.int .i64 (.iapp 5 (.cons (.str 0) (.cons (.int .i64 (.var 0)) (.cons (.opq 0) (.cons (.int .i64 (.var 1)) .nil)))))) .nil)))))) (.cons (.int .i64 (.wrap .i64 (.i2 .add (.var 3) (.lit (1))))) .nil)))))))) (.i2 .sub (.ofI (.vop (.len 3) (.cons (.opq 0) .nil))) (.wrap .i64 (.i2 .add (.var 3) (.lit (1))))) (.i2 .sub (.ofI (.vop (.len 3) (.cons (.opq 0) .nil))) (.var 3))))))
 (.br (.not (.bvar 0))
 (.ret (.bool (.tt false)))
 (.br (.b2 .eq (.iapp 4 (.cons (.str 0) (.cons (.int .i64 (.var 0)) (.cons (.opq 0) (.cons (.int .i64 (.var 1)) .nil))))) (.iapp 4 (.cons (.str 0) (.cons (.int .i64 (.var 0)) (.cons (.opq 0) (.cons (.int .i64 (.i2 .min (.wrap .i64 (.i2 .add (.var 1) (.wrap .i64 (.var 2)))) (.wrap .i64 (.i2 .sub (.iapp 5 (.cons (.str 0) (.cons (.int .i64 (.var 0)) (.cons (.opq 0) (.cons (.int .i64 (.var 1)) .nil))))) (.lit (1)))))) .nil))))))
 (.br (.veq (.sapp 0 (.cons (.str 0) (.cons (.int .i64 (.var 0)) (.cons (.opq 0) (.cons (.int .i64 (.var 1)) .nil))))) (.sapp 0 (.cons (.str 0) (.cons (.int .i64 (.var 0)) (.cons (.opq 0) (.cons (.int .i64 (.i2 .min (.wrap .i64 (.i2 .add (.var 1) (.wrap .i64 (.var 2)))) (.wrap .i64 (.i2 .sub (.iapp 5 (.cons (.str 0) (.cons (.int .i64 (.var 0)) (.cons (.opq 0) (.cons (.int .i64 (.var 1)) .nil))))) (.lit (1)))))) .nil))))))
 (.ret (.bool (.tt true)))
 (.ret (.bool (.tt false))))
 (.ret (.bool (.tt false))))))))
 (.br (.b2 .eq (.iapp 4 (.cons (.str 0) (.cons (.int .i64 (.var 0)) (.cons (.opq 0) (.cons (.int .i64 (.var 1)) .nil))))) (.iapp 4 (.cons (.str 0) (.cons (.int .i64 (.var 0)) (.cons (.opq 0) (.cons (.int .i64 (.wrap .i64 (.i2 .add (.var 1) (.wrap .i64 (.var 2))))) .nil))))))
 (.br (.veq (.sapp 0 (.cons (.str 0) (.cons (.int .i64 (.var 0)) (.cons (.opq 0) (.cons (.int .i64 (.var 1)) .nil))))) (.sapp 0 (.cons (.str 0) (.cons (.int .i64 (.var 0)) (.cons (.opq 0) (.cons (.int .i64 (.wrap .i64 (.i2 .add (.var 1) (.wrap .i64 (.var 2))))) .nil))))))
 (.ret (.bool (.tt true)))
 (.ret (.bool (.tt false))))
 (.ret (.bool (.tt false))))))))))
abbrev zfc_wSpans : Con := ⟨10, [(.agg (.cons (.str 0) (.cons (.int .i64 (.var 0)) (.cons (.hs .no (.cons (.int .i64) (.cons (.int .i64) (.cons .str .nil))) (.opq 0)) .nil)))), (.int .i64 (.var 1)), (.int .u32 (.var 2))], (.b2 .and (.b2 .le (.ofI (.vop (.len 3) (.cons (.opq 0) .nil))) (.lit (4398046511103))) (.b2 .and (.b2 .le (.lit (0)) (.var 2)) (.b2 .le (.var 2) (.lit (4294967295))))), (.bool (.tt true)), ⟨3, 0, 1, 1⟩, none⟩
theorem wSpans_w : walk Tryd.prog 108 ⟨[zc_c_lbig, zec_sure10, zdc_give, zbc_zat, zbc_znx, zc_zck, zdc_num], syG⟩ [⟨0, ⟨1, 1, 0, 0⟩, [(17, (.bool (.bvar 0))), (18, (.int .i64 (.var 3)))], none, (.b2 .and (.b2 .le (.lit (0)) (.var 3)) (.b2 .and (.b2 .le (.var 3) (.ofI (.vop (.len 3) (.cons (.opq 0) .nil)))) (.b2 .beq (.bvar 0) (.bapp 10 (.cons (.opq 0) (.cons (.int .i64 (.iapp 5 (.cons (.str 0) (.cons (.int .i64 (.var 0)) (.cons (.opq 0) (.cons (.int .i64 (.var 1)) .nil)))))) (.cons (.int .i64 (.iapp 4 (.cons (.str 0) (.cons (.int .i64 (.var 0)) (.cons (.opq 0) (.cons (.int .i64 (.iapp 5 (.cons (.str 0) (.cons (.int .i64 (.var 0)) (.cons (.opq 0) (.cons (.int .i64 (.var 1)) .nil)))))) .nil)))))) (.cons (.int .i64 (.var 3)) .nil)))))))), (.i2 .sub (.ofI (.vop (.len 3) (.cons (.opq 0) .nil))) (.var 3)), 0, []⟩] .v zfc_wSpans zfc_wSpans.n 3000 = some wSpans_tree := by kernel_rfl
theorem wSpans_h (fst : Int) (sec : Int) (by_ : Int) (l : Value) (nm : ByteArray) (hc : holds (zfE [fst, sec, by_] [] [l] [nm]) (.b2 .and (.b2 .le (.ofI (.vop (.len 3) (.cons (.opq 0) .nil))) (.lit (4398046511103))) (.b2 .and (.b2 .le (.lit (0)) (.var 2)) (.b2 .le (.var 2) (.lit (4294967295)))))) (hty : patsTyp (zfE [fst, sec, by_] [] [l] [nm]) [(.agg (.cons (.str 0) (.cons (.int .i64 (.var 0)) (.cons (.hs .no (.cons (.int .i64) (.cons (.int .i64) (.cons .str .nil))) (.opq 0)) .nil)))), (.int .i64 (.var 1)), (.int .u32 (.var 2))]) : wSpans_tree.holds (fun d => d = denV (zfE [fst, sec, by_] [] [l] [nm]) b0 (.bool (.tt true))) (zfE [fst, sec, by_] [] [l] [nm]) := by
  simp only [Tree.holds, Sy.holds, AllN, Env.more, zfE, List.cons_append, List.nil_append, List.append_nil, denV, denI, denB, denL, I2.den, VOp.den, List.getD_cons_zero, List.getD_cons_succ, Cst.den, syso, syse, syio, sybo, zfi_ixl, zfi_lst, zfi_chk, zfi_srch, zfi_ato, zfi_nxt, zfi_nxe, zfi_cn, zfi_ro, zfb_let, zfb_rok, zfb_zon, zfb_shr, zfb_pre, zfb_nm, zfb_shn, zfb_big, zfb_eqv, zfb_tk, zfb_has, zfv_atn, zfv_rn, List.map_nil, List.map_cons, B2.ofInts, B2.denI, B2.denB, if_true, Bool.false_eq_true, if_false, Nat.div_one, Nat.mul_one, Nat.add_zero, holds] at hc
  simp only [patsTyp, patTyp, patTypL, zfE, denV, denL, List.getD_cons_zero, List.getD_cons_succ, and_true, true_and] at hty
  have hL_l : typ (.sl (.cons (.int .i64) (.cons (.int .i64) (.cons .str .nil)))) l := by first | exact hty | exact hty.1 | exact hty.2 | exact hty.1.1 | exact hty.1.2 | exact hty.2.1 | exact hty.2.2 | exact hty.2.2.1 | exact hty.2.2.2
  have hN_l := typ_len (n := 3) hL_l rfl (by omega)
  unfold wSpans_tree
  simp only [Tree.holds, Sy.holds, AllN, Env.more, zfE, List.cons_append, List.nil_append, List.append_nil, denV, denI, denB, denL, I2.den, VOp.den, List.getD_cons_zero, List.getD_cons_succ, Cst.den, syso, syse, syio, sybo, zfi_ixl, zfi_lst, zfi_chk, zfi_srch, zfi_ato, zfi_nxt, zfi_nxe, zfi_cn, zfi_ro, zfb_let, zfb_rok, zfb_zon, zfb_shr, zfb_pre, zfb_nm, zfb_shn, zfb_big, zfb_eqv, zfb_tk, zfb_has, zfv_atn, zfv_rn, List.map_nil, List.map_cons, B2.ofInts, B2.denI, B2.denB, if_true, Bool.false_eq_true, if_false, Nat.div_one, Nat.mul_one, Nat.add_zero]
  refine ⟨?_, fun h0 => ?_⟩
  ·
    first | trivial | omega | skip
  ·
    refine ⟨fun h1 => ?_, fun h1 => ?_⟩
    ·
      first
      | trivial
      | rfl
      | (have hz := chk_good h2
         rcases span_cases hz sec with ⟨e1, e2⟩ | ⟨e1, e2, e3, e4, e5, e6⟩
         · exfalso
           first
           | omega
           | (have g := e2 (IntKind.wrap .i64 (sec + IntKind.wrap .i64 by_)) (by omega)
              first
              | exact h13 g.1.symm
              | exact h14 (ba_beq.2 g.2.symm)
              | exact h15 g.1.symm
              | exact h16 (ba_beq.2 g.2.symm)
              | exact h6 g.1.symm
              | exact h7 (ba_beq.2 g.2.symm))
         · exfalso
           first
           | omega
           | (obtain ⟨hi1, hi2, hi3⟩ := hi0
              rw [show i0a.toNat = (Sy.rows l).length / 3 by omega] at hi3
              exact h12 (hi3.2 e6))
           | (have g := e5 (if IntKind.wrap .i64 (nxtI nm fst (Sy.rows l) sec - 1) < IntKind.wrap .i64 (sec + IntKind.wrap .i64 by_) then IntKind.wrap .i64 (nxtI nm fst (Sy.rows l) sec - 1) else IntKind.wrap .i64 (sec + IntKind.wrap .i64 by_)) (by split <;> omega) (by split <;> omega)
              first
              | exact h13 g.1.symm
              | exact h14 (ba_beq.2 g.2.symm)))
      | skip
    ·
      refine ⟨fun h2 => ?_, fun h2 => ?_⟩
      ·
        first
        | trivial
        | rfl
        | (have hz := chk_good h2
           rcases span_cases hz sec with ⟨e1, e2⟩ | ⟨e1, e2, e3, e4, e5, e6⟩
           · exfalso
             first
             | omega
             | (have g := e2 (IntKind.wrap .i64 (sec + IntKind.wrap .i64 by_)) (by omega)
                first
                | exact h13 g.1.symm
                | exact h14 (ba_beq.2 g.2.symm)
                | exact h15 g.1.symm
                | exact h16 (ba_beq.2 g.2.symm)
                | exact h6 g.1.symm
                | exact h7 (ba_beq.2 g.2.symm))
           · exfalso
             first
             | omega
             | (obtain ⟨hi1, hi2, hi3⟩ := hi0
                rw [show i0a.toNat = (Sy.rows l).length / 3 by omega] at hi3
                exact h12 (hi3.2 e6))
             | (have g := e5 (if IntKind.wrap .i64 (nxtI nm fst (Sy.rows l) sec - 1) < IntKind.wrap .i64 (sec + IntKind.wrap .i64 by_) then IntKind.wrap .i64 (nxtI nm fst (Sy.rows l) sec - 1) else IntKind.wrap .i64 (sec + IntKind.wrap .i64 by_)) (by split <;> omega) (by split <;> omega)
                first
                | exact h13 g.1.symm
                | exact h14 (ba_beq.2 g.2.symm)))
        | skip
      ·
        refine ⟨fun h3 => ?_, fun h3 => ?_⟩
        ·
          first
          | trivial
          | rfl
          | (have hz := chk_good h2
             rcases span_cases hz sec with ⟨e1, e2⟩ | ⟨e1, e2, e3, e4, e5, e6⟩
             · exfalso
               first
               | omega
               | (have g := e2 (IntKind.wrap .i64 (sec + IntKind.wrap .i64 by_)) (by omega)
                  first
                  | exact h13 g.1.symm
                  | exact h14 (ba_beq.2 g.2.symm)
                  | exact h15 g.1.symm
                  | exact h16 (ba_beq.2 g.2.symm)
                  | exact h6 g.1.symm
                  | exact h7 (ba_beq.2 g.2.symm))
             · exfalso
               first
               | omega
               | (obtain ⟨hi1, hi2, hi3⟩ := hi0
                  rw [show i0a.toNat = (Sy.rows l).length / 3 by omega] at hi3
                  exact h12 (hi3.2 e6))
               | (have g := e5 (if IntKind.wrap .i64 (nxtI nm fst (Sy.rows l) sec - 1) < IntKind.wrap .i64 (sec + IntKind.wrap .i64 by_) then IntKind.wrap .i64 (nxtI nm fst (Sy.rows l) sec - 1) else IntKind.wrap .i64 (sec + IntKind.wrap .i64 by_)) (by split <;> omega) (by split <;> omega)
                  first
                  | exact h13 g.1.symm
                  | exact h14 (ba_beq.2 g.2.symm)))
          | skip
        ·
          refine ⟨fun h4 => ?_, fun h4 => ?_⟩
          ·
            first
            | trivial
            | rfl
            | (have hz := chk_good h2
               rcases span_cases hz sec with ⟨e1, e2⟩ | ⟨e1, e2, e3, e4, e5, e6⟩
               · exfalso
                 first
                 | omega
                 | (have g := e2 (IntKind.wrap .i64 (sec + IntKind.wrap .i64 by_)) (by omega)
                    first
                    | exact h13 g.1.symm
                    | exact h14 (ba_beq.2 g.2.symm)
                    | exact h15 g.1.symm
                    | exact h16 (ba_beq.2 g.2.symm)
                    | exact h6 g.1.symm
                    | exact h7 (ba_beq.2 g.2.symm))
               · exfalso
                 first
                 | omega
                 | (obtain ⟨hi1, hi2, hi3⟩ := hi0
                    rw [show i0a.toNat = (Sy.rows l).length / 3 by omega] at hi3
                    exact h12 (hi3.2 e6))
                 | (have g := e5 (if IntKind.wrap .i64 (nxtI nm fst (Sy.rows l) sec - 1) < IntKind.wrap .i64 (sec + IntKind.wrap .i64 by_) then IntKind.wrap .i64 (nxtI nm fst (Sy.rows l) sec - 1) else IntKind.wrap .i64 (sec + IntKind.wrap .i64 by_)) (by split <;> omega) (by split <;> omega)
                    first
                    | exact h13 g.1.symm
                    | exact h14 (ba_beq.2 g.2.symm)))
            | skip
          ·
            refine ⟨fun h5 => ?_, fun h5 => ?_⟩
            ·
              refine ⟨fun h6 => ?_, fun h6 => ?_⟩
              ·
                first
                | trivial
                | rfl
                | (have hz := chk_good h2
                   rcases span_cases hz sec with ⟨e1, e2⟩ | ⟨e1, e2, e3, e4, e5, e6⟩
                   · exfalso
                     first
                     | omega
                     | (have g := e2 (IntKind.wrap .i64 (sec + IntKind.wrap .i64 by_)) (by omega)
                        first
                        | exact h13 g.1.symm
                        | exact h14 (ba_beq.2 g.2.symm)
                        | exact h15 g.1.symm
                        | exact h16 (ba_beq.2 g.2.symm)
                        | exact h6 g.1.symm
                        | exact h7 (ba_beq.2 g.2.symm))
                   · exfalso
                     first
                     | omega
                     | (obtain ⟨hi1, hi2, hi3⟩ := hi0
                        rw [show i0a.toNat = (Sy.rows l).length / 3 by omega] at hi3
                        exact h12 (hi3.2 e6))
                     | (have g := e5 (if IntKind.wrap .i64 (nxtI nm fst (Sy.rows l) sec - 1) < IntKind.wrap .i64 (sec + IntKind.wrap .i64 by_) then IntKind.wrap .i64 (nxtI nm fst (Sy.rows l) sec - 1) else IntKind.wrap .i64 (sec + IntKind.wrap .i64 by_)) (by split <;> omega) (by split <;> omega)
                        first
                        | exact h13 g.1.symm
                        | exact h14 (ba_beq.2 g.2.symm)))
                | skip
              ·
                refine ⟨?_, ?_⟩
                ·
                  exact ⟨by omega, by omega, by simp [hasB]⟩
                ·
                  intro i0a i0b hi0
                  refine ⟨fun h7 => ?_, fun h7 => ?_⟩
                  ·
                    refine ⟨fun h8 => ?_, fun h8 => ?_⟩
                    ·
                      have wf0 := wr_i64 (i0a + 1)
                      refine ⟨?_, ?_⟩
                      ·
                        obtain ⟨hi1, hi2, hi3⟩ := hi0
                        have e : IntKind.wrap .i64 (i0a + 1) = i0a + 1 := by omega
                        rw [e, show (i0a + 1).toNat = i0a.toNat + 1 by omega, hasB_succ]
                        refine ⟨by omega, by omega, ?_⟩
                        simp only [Bool.or_eq_true, Bool.and_eq_true, decide_eq_true_eq, ← hi3]
                        first
                        | (simp only [h8, true_or, true_iff]; done)
                        | (have h8' : i0b = false := Bool.eq_false_iff.2 h8
                           simp only [h8', h10, Bool.false_eq_true, false_or, true_and, false_and]
                           done)
                      ·
                        omega
                    ·
                      refine ⟨?_, fun h9 => ?_⟩
                      ·
                        first | trivial | omega | skip
                      ·
                        refine ⟨fun h10 => ?_, fun h10 => ?_⟩
                        ·
                          refine ⟨?_, fun h11 => ?_⟩
                          ·
                            first | trivial | omega | skip
                          ·
                            have wf1 := wr_i64 (i0a + 1)
                            refine ⟨?_, ?_⟩
                            ·
                              obtain ⟨hi1, hi2, hi3⟩ := hi0
                              have e : IntKind.wrap .i64 (i0a + 1) = i0a + 1 := by omega
                              rw [e, show (i0a + 1).toNat = i0a.toNat + 1 by omega, hasB_succ]
                              refine ⟨by omega, by omega, ?_⟩
                              simp only [Bool.or_eq_true, Bool.and_eq_true, decide_eq_true_eq, ← hi3]
                              first
                              | (simp only [h8, true_or, true_iff]; done)
                              | (have h8' : i0b = false := Bool.eq_false_iff.2 h8
                                 simp only [h8', h10, Bool.false_eq_true, false_or, true_and, false_and]
                                 done)
                            ·
                              omega
                        ·
                          have wf2 := wr_i64 (i0a + 1)
                          refine ⟨?_, ?_⟩
                          ·
                            obtain ⟨hi1, hi2, hi3⟩ := hi0
                            have e : IntKind.wrap .i64 (i0a + 1) = i0a + 1 := by omega
                            rw [e, show (i0a + 1).toNat = i0a.toNat + 1 by omega, hasB_succ]
                            refine ⟨by omega, by omega, ?_⟩
                            simp only [Bool.or_eq_true, Bool.and_eq_true, decide_eq_true_eq, ← hi3]
                            first
                            | (simp only [h8, true_or, true_iff]; done)
                            | (have h8' : i0b = false := Bool.eq_false_iff.2 h8
                               simp only [h8', h10, Bool.false_eq_true, false_or, true_and, false_and]
                               done)
                          ·
                            omega
                  ·
                    refine ⟨fun h12 => ?_, fun h12 => ?_⟩
                    ·
                      first
                      | trivial
                      | rfl
                      | (have hz := chk_good h2
                         rcases span_cases hz sec with ⟨e1, e2⟩ | ⟨e1, e2, e3, e4, e5, e6⟩
                         · exfalso
                           first
                           | omega
                           | (have g := e2 (IntKind.wrap .i64 (sec + IntKind.wrap .i64 by_)) (by omega)
                              first
                              | exact h13 g.1.symm
                              | exact h14 (ba_beq.2 g.2.symm)
                              | exact h15 g.1.symm
                              | exact h16 (ba_beq.2 g.2.symm)
                              | exact h6 g.1.symm
                              | exact h7 (ba_beq.2 g.2.symm))
                         · exfalso
                           first
                           | omega
                           | (obtain ⟨hi1, hi2, hi3⟩ := hi0
                              rw [show i0a.toNat = (Sy.rows l).length / 3 by omega] at hi3
                              exact h12 (hi3.2 e6))
                           | (have g := e5 (if IntKind.wrap .i64 (nxtI nm fst (Sy.rows l) sec - 1) < IntKind.wrap .i64 (sec + IntKind.wrap .i64 by_) then IntKind.wrap .i64 (nxtI nm fst (Sy.rows l) sec - 1) else IntKind.wrap .i64 (sec + IntKind.wrap .i64 by_)) (by split <;> omega) (by split <;> omega)
                              first
                              | exact h13 g.1.symm
                              | exact h14 (ba_beq.2 g.2.symm)))
                      | skip
                    ·
                      have wf3 := wr_i64 by_
                      have wf4 := wr_i64 (sec + (IntKind.wrap .i64 by_))
                      have wf5 := wr_i64 ((nxtI nm fst (rows l) sec) - 1)
                      refine ⟨fun h13 => ?_, fun h13 => ?_⟩
                      ·
                        try simp only [hw5]
                        try simp only [hw4]
                        try simp only [hw3]
                        refine ⟨fun h14 => ?_, fun h14 => ?_⟩
                        ·
                          first
                          | trivial
                          | rfl
                          | (have hz := chk_good h2
                             rcases span_cases hz sec with ⟨e1, e2⟩ | ⟨e1, e2, e3, e4, e5, e6⟩
                             · exfalso
                               first
                               | omega
                               | (have g := e2 (IntKind.wrap .i64 (sec + IntKind.wrap .i64 by_)) (by omega)
                                  first
                                  | exact h13 g.1.symm
                                  | exact h14 (ba_beq.2 g.2.symm)
                                  | exact h15 g.1.symm
                                  | exact h16 (ba_beq.2 g.2.symm)
                                  | exact h6 g.1.symm
                                  | exact h7 (ba_beq.2 g.2.symm))
                             · exfalso
                               first
                               | omega
                               | (obtain ⟨hi1, hi2, hi3⟩ := hi0
                                  rw [show i0a.toNat = (Sy.rows l).length / 3 by omega] at hi3
                                  exact h12 (hi3.2 e6))
                               | (have g := e5 (if IntKind.wrap .i64 (nxtI nm fst (Sy.rows l) sec - 1) < IntKind.wrap .i64 (sec + IntKind.wrap .i64 by_) then IntKind.wrap .i64 (nxtI nm fst (Sy.rows l) sec - 1) else IntKind.wrap .i64 (sec + IntKind.wrap .i64 by_)) (by split <;> omega) (by split <;> omega)
                                  first
                                  | exact h13 g.1.symm
                                  | exact h14 (ba_beq.2 g.2.symm)))
                          | skip
                        ·
                          first
                          | trivial
                          | rfl
                          | (have hz := chk_good h2
                             rcases span_cases hz sec with ⟨e1, e2⟩ | ⟨e1, e2, e3, e4, e5, e6⟩
                             · exfalso
                               first
                               | omega
                               | (have g := e2 (IntKind.wrap .i64 (sec + IntKind.wrap .i64 by_)) (by omega)
                                  first
                                  | exact h13 g.1.symm
                                  | exact h14 (ba_beq.2 g.2.symm)
                                  | exact h15 g.1.symm
                                  | exact h16 (ba_beq.2 g.2.symm)
                                  | exact h6 g.1.symm
                                  | exact h7 (ba_beq.2 g.2.symm))
                             · exfalso
                               first
                               | omega
                               | (obtain ⟨hi1, hi2, hi3⟩ := hi0
                                  rw [show i0a.toNat = (Sy.rows l).length / 3 by omega] at hi3
                                  exact h12 (hi3.2 e6))
                               | (have g := e5 (if IntKind.wrap .i64 (nxtI nm fst (Sy.rows l) sec - 1) < IntKind.wrap .i64 (sec + IntKind.wrap .i64 by_) then IntKind.wrap .i64 (nxtI nm fst (Sy.rows l) sec - 1) else IntKind.wrap .i64 (sec + IntKind.wrap .i64 by_)) (by split <;> omega) (by split <;> omega)
                                  first
                                  | exact h13 g.1.symm
                                  | exact h14 (ba_beq.2 g.2.symm)))
                          | skip
                      ·
                        first
                        | trivial
                        | rfl
                        | (have hz := chk_good h2
                           rcases span_cases hz sec with ⟨e1, e2⟩ | ⟨e1, e2, e3, e4, e5, e6⟩
                           · exfalso
                             first
                             | omega
                             | (have g := e2 (IntKind.wrap .i64 (sec + IntKind.wrap .i64 by_)) (by omega)
                                first
                                | exact h13 g.1.symm
                                | exact h14 (ba_beq.2 g.2.symm)
                                | exact h15 g.1.symm
                                | exact h16 (ba_beq.2 g.2.symm)
                                | exact h6 g.1.symm
                                | exact h7 (ba_beq.2 g.2.symm))
                           · exfalso
                             first
                             | omega
                             | (obtain ⟨hi1, hi2, hi3⟩ := hi0
                                rw [show i0a.toNat = (Sy.rows l).length / 3 by omega] at hi3
                                exact h12 (hi3.2 e6))
                             | (have g := e5 (if IntKind.wrap .i64 (nxtI nm fst (Sy.rows l) sec - 1) < IntKind.wrap .i64 (sec + IntKind.wrap .i64 by_) then IntKind.wrap .i64 (nxtI nm fst (Sy.rows l) sec - 1) else IntKind.wrap .i64 (sec + IntKind.wrap .i64 by_)) (by split <;> omega) (by split <;> omega)
                                first
                                | exact h13 g.1.symm
                                | exact h14 (ba_beq.2 g.2.symm)))
                        | skip
            ·
              have wf6 := wr_i64 by_
              have wf7 := wr_i64 (sec + (IntKind.wrap .i64 by_))
              refine ⟨fun h15 => ?_, fun h15 => ?_⟩
              ·
                try simp only [hw7]
                try simp only [hw6]
                refine ⟨fun h16 => ?_, fun h16 => ?_⟩
                ·
                  first
                  | trivial
                  | rfl
                  | (have hz := chk_good h2
                     rcases span_cases hz sec with ⟨e1, e2⟩ | ⟨e1, e2, e3, e4, e5, e6⟩
                     · exfalso
                       first
                       | omega
                       | (have g := e2 (IntKind.wrap .i64 (sec + IntKind.wrap .i64 by_)) (by omega)
                          first
                          | exact h13 g.1.symm
                          | exact h14 (ba_beq.2 g.2.symm)
                          | exact h15 g.1.symm
                          | exact h16 (ba_beq.2 g.2.symm)
                          | exact h6 g.1.symm
                          | exact h7 (ba_beq.2 g.2.symm))
                     · exfalso
                       first
                       | omega
                       | (obtain ⟨hi1, hi2, hi3⟩ := hi0
                          rw [show i0a.toNat = (Sy.rows l).length / 3 by omega] at hi3
                          exact h12 (hi3.2 e6))
                       | (have g := e5 (if IntKind.wrap .i64 (nxtI nm fst (Sy.rows l) sec - 1) < IntKind.wrap .i64 (sec + IntKind.wrap .i64 by_) then IntKind.wrap .i64 (nxtI nm fst (Sy.rows l) sec - 1) else IntKind.wrap .i64 (sec + IntKind.wrap .i64 by_)) (by split <;> omega) (by split <;> omega)
                          first
                          | exact h13 g.1.symm
                          | exact h14 (ba_beq.2 g.2.symm)))
                  | skip
                ·
                  first
                  | trivial
                  | rfl
                  | (have hz := chk_good h2
                     rcases span_cases hz sec with ⟨e1, e2⟩ | ⟨e1, e2, e3, e4, e5, e6⟩
                     · exfalso
                       first
                       | omega
                       | (have g := e2 (IntKind.wrap .i64 (sec + IntKind.wrap .i64 by_)) (by omega)
                          first
                          | exact h13 g.1.symm
                          | exact h14 (ba_beq.2 g.2.symm)
                          | exact h15 g.1.symm
                          | exact h16 (ba_beq.2 g.2.symm)
                          | exact h6 g.1.symm
                          | exact h7 (ba_beq.2 g.2.symm))
                     · exfalso
                       first
                       | omega
                       | (obtain ⟨hi1, hi2, hi3⟩ := hi0
                          rw [show i0a.toNat = (Sy.rows l).length / 3 by omega] at hi3
                          exact h12 (hi3.2 e6))
                       | (have g := e5 (if IntKind.wrap .i64 (nxtI nm fst (Sy.rows l) sec - 1) < IntKind.wrap .i64 (sec + IntKind.wrap .i64 by_) then IntKind.wrap .i64 (nxtI nm fst (Sy.rows l) sec - 1) else IntKind.wrap .i64 (sec + IntKind.wrap .i64 by_)) (by split <;> omega) (by split <;> omega)
                          first
                          | exact h13 g.1.symm
                          | exact h14 (ba_beq.2 g.2.symm)))
                  | skip
              ·
                first
                | trivial
                | rfl
                | (have hz := chk_good h2
                   rcases span_cases hz sec with ⟨e1, e2⟩ | ⟨e1, e2, e3, e4, e5, e6⟩
                   · exfalso
                     first
                     | omega
                     | (have g := e2 (IntKind.wrap .i64 (sec + IntKind.wrap .i64 by_)) (by omega)
                        first
                        | exact h13 g.1.symm
                        | exact h14 (ba_beq.2 g.2.symm)
                        | exact h15 g.1.symm
                        | exact h16 (ba_beq.2 g.2.symm)
                        | exact h6 g.1.symm
                        | exact h7 (ba_beq.2 g.2.symm))
                   · exfalso
                     first
                     | omega
                     | (obtain ⟨hi1, hi2, hi3⟩ := hi0
                        rw [show i0a.toNat = (Sy.rows l).length / 3 by omega] at hi3
                        exact h12 (hi3.2 e6))
                     | (have g := e5 (if IntKind.wrap .i64 (nxtI nm fst (Sy.rows l) sec - 1) < IntKind.wrap .i64 (sec + IntKind.wrap .i64 by_) then IntKind.wrap .i64 (nxtI nm fst (Sy.rows l) sec - 1) else IntKind.wrap .i64 (sec + IntKind.wrap .i64 by_)) (by split <;> omega) (by split <;> omega)
                        first
                        | exact h13 g.1.symm
                        | exact h14 (ba_beq.2 g.2.symm)))
                | skip
theorem zfg_wSpans : zfc_wSpans.Good Tryd.prog syG (zfE [] [] [] []) := good_of_walk (Γ := ⟨[zc_c_lbig, zec_sure10, zdc_give, zbc_zat, zbc_znx, zc_zck, zdc_num], syG⟩) (ρ := zfE [] [] [] []) sym wSpans_w rfl (fun _ _ _ _ => (ok_cons (Con.Good.env (Con.Good.up (Con.Good.up (Con.Good.up zc_g_lbig zdup rfl) zeup rfl) zfup rfl) _ _ _ _) (ok_cons (Con.Good.env (Con.Good.up zeg_sure10 zfup rfl) _ _ _ _) (ok_cons (Con.Good.env (Con.Good.up (Con.Good.up zdg_give zeup rfl) zfup rfl) _ _ _ _) (ok_cons (Con.Good.env (Con.Good.up (Con.Good.up (Con.Good.up (Con.Good.up zbg_zat zc_up rfl) zdup rfl) zeup rfl) zfup rfl) _ _ _ _) (ok_cons (Con.Good.env (Con.Good.up (Con.Good.up (Con.Good.up (Con.Good.up zbg_znx zc_up rfl) zdup rfl) zeup rfl) zfup rfl) _ _ _ _) (ok_cons (Con.Good.env (Con.Good.up (Con.Good.up (Con.Good.up (Con.Good.up (Con.Good.up zg_zck zbup rfl) zc_up rfl) zdup rfl) zeup rfl) zfup rfl) _ _ _ _) (ok_cons (Con.Good.env (Con.Good.up (Con.Good.up zdg_num zeup rfl) zfup rfl) _ _ _ _) ok_nil)))))))) (fun fst sec by_ l nm hc hty => wSpans_h fst sec by_ l nm hc hty)
end Go.Proofs.YtehiienjodicpaaDoor
