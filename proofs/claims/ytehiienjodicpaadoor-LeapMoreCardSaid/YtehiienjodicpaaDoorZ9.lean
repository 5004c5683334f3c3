/-
  LeapMore by the second engine.
-/
import Derived.Test.YtehiienjodicpaaDoorSyc
import Derived.Test.YtehiienjodicpaaDoorSyp
import Derived.Test.YtehiienjodicpaaDoorX09c
namespace Go.Proofs.YtehiienjodicpaaDoor
open Go.RowKit Go.Extern.Stop Go.Stop Go.Extern Go.Proofs.YtehiienjodicpaaDoor.Sy
set_option linter.unusedVariables false
set_option linter.unusedSimpArgs false
theorem ctL_app (l : List Int) (x d : Int) : (ctL (l ++ [x]) d : Int) = ctL l d + if x < d then 1 else 0 := by
  unfold ctL
  rw [List.filter_append, List.length_append]
  by_cases h : x < d <;> simp [h]
theorem getD_app {l : List Int} {x : Int} {j : Nat} (h : j < l.length) : (l ++ [x]).getD j 0 = l.getD j 0 := by
  rw [List.getD_eq_getElem?_getD, List.getElem?_append_left h, ← List.getD_eq_getElem?_getD]
theorem okJ_iff (l : List Int) (last : Int) (j : Nat) : okJ l last j = true ↔ leastL l j ≤ l.getD j 0 ∧ l.getD j 0 < last := by simp only [okJ, Bool.and_eq_true, decide_eq_true_eq]
theorem okL_intro {l : List Int} {last : Int} {n : Nat} (h : ∀ j, j < n → okJ l last j = true) : okL l last n = true := List.all_eq_true.2 fun j hj => h j (List.mem_range.1 hj)
theorem may_more {b t : Int} {l : List Int} (hm : mayL b t l = true) (hl : l.length ≤ 31) (ht : -50000 < t) (ht2 : t ≤ 49000) (hlast : 0 < l.length → l.getD (l.length - 1) 0 ≠ t - 1) : mayL b (t + 500) (l ++ [t - 1]) = true ∧ mayL b (t + 500) l = true := by
  have hs := mayL_spec hm
  have hok : okL l t l.length = true := by
    simp only [mayL, Bool.and_eq_true] at hm
    exact hm.2
  have hj : ∀ j, j < l.length → leastL l j ≤ l.getD j 0 ∧ l.getD j 0 < t := fun j hj => (okJ_iff _ _ _).1 (okL_get hok hj)
  have hle : ∀ j, j ≤ l.length → leastL (l ++ [t - 1]) j = leastL l j := fun j hj => by
    unfold leastL
    split
    · rfl
    · rw [getD_app (by omega)]
  refine ⟨mayL_yes hs.1 hs.2.1 (by omega) (by omega) (by simp; omega) (okL_intro fun j h => ?_), mayL_yes hs.1 hs.2.1 (by omega) (by omega) (by omega) (okL_intro fun j h => ?_)⟩
  · rw [okJ_iff]
    rcases Nat.lt_or_ge j l.length with h1 | h1
    · have h2 := hj j h1
      rw [hle j (by omega), getD_app h1]
      omega
    · have e : j = l.length := by simp at h; omega
      subst e
      rw [hle _ (Nat.le_refl _), List.getD_eq_getElem?_getD, List.getElem?_append_right (Nat.le_refl _)]
      simp only [Nat.sub_self, List.getElem?_cons_zero, Option.getD_some]
      refine ⟨?_, by omega⟩
      unfold leastL
      split
      · omega
      · have h2 := hj (l.length - 1) (by omega)
        have h3 := hlast (by omega)
        omega
  · have h2 := hj j h
    rw [okJ_iff]
    omega
theorem wrong_more {b t : Int} {l : List Int} (h1 : mayL b t (l) = true) {l' : List Int} (h2 : mayL b t l' = true) (d : Int) : wrongI b t l' d = wrongI b t l d := by simp only [wrongI, h1, h2, if_true]
theorem beg_more {b t : Int} {l : List Int} (h1 : mayL b (t + 500) (l ++ [t - 1]) = true) (h2 : mayL b (t + 500) l = true) (d : Int) :
    (wrongI b (t + 500) l d = 0 ∧ begI b (t + 500) (l ++ [t - 1]) d = begI b (t + 500) l d + (if t ≤ d then 1000000000 else 0) ∧ -4611686018427387904 ≤ begI b (t + 500) l d ∧ begI b (t + 500) l d ≤ 4611686018427387904) ∨ (wrongI b (t + 500) l d ≠ 0 ∧ begI b (t + 500) (l ++ [t - 1]) d = 0 ∧ begI b (t + 500) l d = 0) := by
  have hw := wrong_more h2 h1 d
  have hs := mayL_spec h2
  have hc := ctL_le l d
  have hw2 := wrongI_spec b (t + 500) l d
  by_cases h : wrongI b (t + 500) l d = 0
  · left
    have hd : -50000 ≤ d ∧ d < t + 500 := by omega
    have ha := ctL_app l (t - 1) d
    refine ⟨h, ?_, ?_, ?_⟩
    · simp only [begI, hw, h, if_true, secL, ha]
      by_cases h3 : t ≤ d
      · rw [if_pos h3, if_pos (by omega)]; omega
      · rw [if_neg h3, if_neg (by omega)]; omega
    · simp only [begI, h, if_true, secL]; omega
    · simp only [begI, h, if_true, secL]; omega
  · right
    refine ⟨h, ?_, ?_⟩
    · simp only [begI, hw, if_neg h]
    · simp only [begI, if_neg h]
theorem utc_more {b t n : Int} {l : List Int} (hl : l.length ≤ 31) (h1 : mayL b (t + 500) (l ++ [t - 1]) = true) (h : utcE b t l n = 0) :
    utcE b (t + 500) (l ++ [t - 1]) n = 0 ∧ utcD b (t + 500) (l ++ [t - 1]) n = utcD b t l n ∧ utcS b (t + 500) (l ++ [t - 1]) n = utcS b t l n ∧ utcN b (t + 500) (l ++ [t - 1]) n = utcN b t l n := by
  have hp := utc_parts h
  have hs := mayL_spec h1
  have e1 := utcE_spec b t l n
  have a1 := ctL_app l (t - 1) (-50000)
  have a2 := ctL_app l (t - 1) (t + 500)
  have m1 := ctL_mono l (show t ≤ t + 500 by omega)
  have hlen : (l ++ [t - 1]).length ≤ 32 := by simp; omega
  rw [if_neg (by omega)] at a1
  rw [if_pos (by omega)] at a2
  have s1 : secL b (l ++ [t - 1]) (-50000) = secL b l (-50000) := by unfold secL; omega
  have s2 : secL b l t ≤ secL b (l ++ [t - 1]) (t + 500) := by unfold secL; omega
  have hE : utcE b (t + 500) (l ++ [t - 1]) n = 0 := by
    rcases utcE_spec b (t + 500) (l ++ [t - 1]) n with ⟨e, _, _⟩ | ⟨_, e2⟩
    · rw [h1] at e; cases e
    · rw [s1] at e2
      omega
  have hin := utcDay_in b l n hp.2.2.2.2.1 hp.2.2.2.2.2.1 (by omega)
  have hu := utc_spec b t l n
  have hD : utcD b t l n = utcDay b l n := by omega
  have hlt : utcDay b l n < t := by omega
  have a3 := ctL_app l (t - 1) (utcDay b l n)
  rw [if_neg (by omega)] at a3
  have a4 := ctL_app l (t - 1) (utcDay b l n + 1)
  have s3 : secL b (l ++ [t - 1]) (utcDay b l n) = secL b l (utcDay b l n) := by unfold secL; omega
  have s4 : secL b l (utcDay b l n + 1) ≤ secL b (l ++ [t - 1]) (utcDay b l n + 1) := by
    unfold secL
    split at a4 <;> omega
  have hday : utcDay b (l ++ [t - 1]) n = utcDay b l n := utcDay_eq hp.2.2.2.2.1 hp.2.2.2.2.2.1 hlen (by rw [s3]; exact hin.1) (by omega)
  refine ⟨hE, ?_, ?_, ?_⟩
  · simp only [utcD, hE, h, if_true, hday]
  · simp only [utcS, hE, h, if_true, hday, s3]
  · simp only [utcN, hE, h, if_true, hday, s3]
theorem rows_vals (v : Value) : Sy.rows v = valsOf v := by cases v <;> rfl
theorem ints_rows (v : Value) : (intsOf v).length = (Sy.rows v).length := by rw [rows_vals]; simp [intsOf]
theorem ints_cat (l : Value) (x : Int) : intsOf (.tuple (Sy.rows l ++ Sy.rows (.tuple #[.int .i64 x])).toArray) = intsOf l ++ [x] := by
  rw [rows_vals l]
  simp [intsOf, valsOf, Sy.rows, Go.RowKit.intOf]
theorem last_eq {l : Value} (h : 0 < (Sy.rows l).length) : (intsOf l).getD ((intsOf l).length - 1) 0 = Go.RowKit.intOf ((Sy.rows l).getD ((Sy.rows l).length - 1) Go.undef) := by
  rw [ints_rows]
  have h2 : (Sy.rows l).length - 1 < (Sy.rows l).length := by omega
  rw [List.getD_eq_getElem?_getD, List.getD_eq_getElem?_getD, List.getElem?_eq_getElem h2]
  unfold intsOf
  rw [List.getElem?_map, ← rows_vals, List.getElem?_eq_getElem h2]
  rfl
def yI : Nat → List Value → Int
  | 0, [.int _ b, .int _ t, l] => mayI b t (intsOf l)
  | 1, [.int _ b, .int _ t, l, .int _ d] => wrongI b t (intsOf l) d
  | 2, [.int _ b, .int _ t, l, .int _ d] => begI b t (intsOf l) d
  | 3, [.int _ b, .int _ t, l, .int _ n] => utcE b t (intsOf l) n
  | 4, [.int _ b, .int _ t, l, .int _ n] => utcD b t (intsOf l) n
  | 5, [.int _ b, .int _ t, l, .int _ n] => utcS b t (intsOf l) n
  | 6, [.int _ b, .int _ t, l, .int _ n] => utcN b t (intsOf l) n
  | _, _ => 0
def yB : Nat → List Value → Bool
  | _, _ => false
def yV : Nat → List Value → Value
  | _, _ => Go.undef
abbrev yE (iv : List Int) (bv : List Bool) (vv : List Value) (sv : List ByteArray) : Env := { iv := iv, bv := bv, vv := vv, sv := sv, fi := yI, fb := yB, fv := yV, et := 108 }
theorem yi_may (k1 : IntKind) (b : Int) (k2 : IntKind) (t : Int) (l : Value) : yI 0 [.int k1 b, .int k2 t, l] = mayI b t (intsOf l) := rfl
theorem yi_wrong (k1 : IntKind) (b : Int) (k2 : IntKind) (t : Int) (l : Value) (k3 : IntKind) (d : Int) : yI 1 [.int k1 b, .int k2 t, l, .int k3 d] = wrongI b t (intsOf l) d := rfl
theorem yi_beg (k1 : IntKind) (b : Int) (k2 : IntKind) (t : Int) (l : Value) (k3 : IntKind) (d : Int) : yI 2 [.int k1 b, .int k2 t, l, .int k3 d] = begI b t (intsOf l) d := rfl
theorem yi_utcE (k1 : IntKind) (b : Int) (k2 : IntKind) (t : Int) (l : Value) (k3 : IntKind) (n : Int) : yI 3 [.int k1 b, .int k2 t, l, .int k3 n] = utcE b t (intsOf l) n := rfl
theorem yi_utcD (k1 : IntKind) (b : Int) (k2 : IntKind) (t : Int) (l : Value) (k3 : IntKind) (n : Int) : yI 4 [.int k1 b, .int k2 t, l, .int k3 n] = utcD b t (intsOf l) n := rfl
theorem yi_utcS (k1 : IntKind) (b : Int) (k2 : IntKind) (t : Int) (l : Value) (k3 : IntKind) (n : Int) : yI 5 [.int k1 b, .int k2 t, l, .int k3 n] = utcS b t (intsOf l) n := rfl
theorem yi_utcN (k1 : IntKind) (b : Int) (k2 : IntKind) (t : Int) (l : Value) (k3 : IntKind) (n : Int) : yI 6 [.int k1 b, .int k2 t, l, .int k3 n] = utcN b t (intsOf l) n := rfl
theorem syso (s : ByteArray) : strOf (.string s) = s := rfl
theorem syse (a b : ByteArray) : strEq (.string a) (.string b) = (a == b) := rfl
theorem syio (k : IntKind) (n : Int) : intOf (.int k n) = n := rfl
theorem sybo (b : Bool) : boolOf (.bool b) = b := rfl
theorem typ_len {r : SK} {v : Value} {n : Nat} (h : typ (.sl r) v) (e : r.wd = n) (e0 : 0 < n) : ((rows v).length / n : Nat) ≤ 140737488355328 ∧ (rows v).length = (rows v).length / n * n := by
  obtain ⟨_, m, h1, h2, _⟩ := h
  rw [e] at h2
  rw [h2, Nat.mul_div_cancel _ e0]
  exact ⟨h1, rfl⟩
theorem sym : Tryd.prog.follows .mixedOrders = true := by kernel_rfl
abbrev syG : Glob := [(0, 0, asHandle)]
abbrev yc_check : Con := ⟨20, [(.agg (.cons (.int .i64 (.var 0)) (.cons (.int .i64 (.var 1)) (.cons (.hs .no (.cons (.int .i64) .nil) (.opq 0)) .nil))))], (.tt true), (.err (.iapp 0 (.cons (.int .i64 (.var 0)) (.cons (.int .i64 (.var 1)) (.cons (.opq 0) .nil))))), ⟨2, 0, 1, 0⟩, none⟩
theorem yg_check : yc_check.Good Tryd.prog syG (yE [] [] [] []) := by
  refine good_rel rfl rfl ?_
  intro b t l hc β ok w xs hx
  cases xs with
  | nil => exact hx.elim
  | cons a xs =>
  cases xs with
  | cons _ _ => exact hx.2.elim
  | nil =>
  obtain ⟨⟨vs, rfl, hv⟩, _⟩ := hx
  cases vs with
  | nil => exact hv.elim
  | cons x0 vs =>
  cases vs with
  | nil => exact hv.2.elim
  | cons x1 vs =>
  cases vs with
  | nil => exact hv.2.2.elim
  | cons x2 vs =>
  obtain ⟨h0, h1, h2, h3⟩ := hv
  obtain rfl : vs = [] := h3
  obtain rfl : x0 = .int .i64 b := h0
  obtain rfl : x1 = .int .i64 t := h1
  obtain ⟨s, hv, hs, hall, hesz, hlen, _⟩ := slc_of h2.1 rfl (by decide)
  obtain rfl := hv
  have hall2 : s.all = l := hall
  have h := lcheck b t s hesz w hs
  rw [hall2] at h
  exact h
abbrev yc_begin : Con := ⟨18, [(.agg (.cons (.int .i64 (.var 0)) (.cons (.int .i64 (.var 1)) (.cons (.hs .no (.cons (.int .i64) .nil) (.opq 0)) .nil)))), (.int .i64 (.var 2))], (.tt true), (.tup (.cons (.int .i64 (.iapp 2 (.cons (.int .i64 (.var 0)) (.cons (.int .i64 (.var 1)) (.cons (.opq 0) (.cons (.int .i64 (.var 2)) .nil)))))) (.cons (.err (.iapp 1 (.cons (.int .i64 (.var 0)) (.cons (.int .i64 (.var 1)) (.cons (.opq 0) (.cons (.int .i64 (.var 2)) .nil)))))) .nil))), ⟨3, 0, 1, 0⟩, none⟩
theorem yg_begin : yc_begin.Good Tryd.prog syG (yE [] [] [] []) := by
  refine good_rel rfl rfl ?_
  intro b t d l hc β ok w xs hx
  cases xs with
  | nil => exact hx.elim
  | cons a xs =>
  cases xs with
  | nil => exact hx.2.elim
  | cons q xs =>
  cases xs with
  | cons _ _ => exact hx.2.2.elim
  | nil =>
  obtain ⟨⟨vs, rfl, hv⟩, hq, _⟩ := hx
  obtain rfl : q = .int .i64 d := hq
  cases vs with
  | nil => exact hv.elim
  | cons x0 vs =>
  cases vs with
  | nil => exact hv.2.elim
  | cons x1 vs =>
  cases vs with
  | nil => exact hv.2.2.elim
  | cons x2 vs =>
  obtain ⟨h0, h1, h2, h3⟩ := hv
  obtain rfl : vs = [] := h3
  obtain rfl : x0 = .int .i64 b := h0
  obtain rfl : x1 = .int .i64 t := h1
  obtain ⟨s, hv, hs, hall, hesz, hlen, _⟩ := slc_of h2.1 rfl (by decide)
  obtain rfl := hv
  have hall2 : s.all = l := hall
  have h := lBegin b t s d hesz w hs
  rw [hall2] at h
  exact h
abbrev yc_utc : Con := ⟨25, [(.agg (.cons (.int .i64 (.var 0)) (.cons (.int .i64 (.var 1)) (.cons (.hs .no (.cons (.int .i64) .nil) (.opq 0)) .nil)))), (.int .i64 (.var 2))], (.b2 .and (.b2 .le (.lit (-9223372036854775808)) (.var 2)) (.b2 .le (.var 2) (.lit (9223372036854775807)))), (.tup (.cons (.agg (.cons (.int .i64 (.iapp 4 (.cons (.int .i64 (.var 0)) (.cons (.int .i64 (.var 1)) (.cons (.opq 0) (.cons (.int .i64 (.var 2)) .nil)))))) (.cons (.int .i64 (.iapp 5 (.cons (.int .i64 (.var 0)) (.cons (.int .i64 (.var 1)) (.cons (.opq 0) (.cons (.int .i64 (.var 2)) .nil)))))) (.cons (.int .i64 (.iapp 6 (.cons (.int .i64 (.var 0)) (.cons (.int .i64 (.var 1)) (.cons (.opq 0) (.cons (.int .i64 (.var 2)) .nil)))))) .nil)))) (.cons (.err (.iapp 3 (.cons (.int .i64 (.var 0)) (.cons (.int .i64 (.var 1)) (.cons (.opq 0) (.cons (.int .i64 (.var 2)) .nil)))))) .nil))), ⟨3, 0, 1, 0⟩, none⟩
theorem yg_utc : yc_utc.Good Tryd.prog syG (yE [] [] [] []) := by
  refine good_rel rfl rfl ?_
  intro b t d l hc β ok w xs hx
  cases xs with
  | nil => exact hx.elim
  | cons a xs =>
  cases xs with
  | nil => exact hx.2.elim
  | cons q xs =>
  cases xs with
  | cons _ _ => exact hx.2.2.elim
  | nil =>
  obtain ⟨⟨vs, rfl, hv⟩, hq, _⟩ := hx
  obtain rfl : q = .int .i64 d := hq
  cases vs with
  | nil => exact hv.elim
  | cons x0 vs =>
  cases vs with
  | nil => exact hv.2.elim
  | cons x1 vs =>
  cases vs with
  | nil => exact hv.2.2.elim
  | cons x2 vs =>
  obtain ⟨h0, h1, h2, h3⟩ := hv
  obtain rfl : vs = [] := h3
  obtain rfl : x0 = .int .i64 b := h0
  obtain rfl : x1 = .int .i64 t := h1
  obtain ⟨s, hv, hs, hall, hesz, hlen, _⟩ := slc_of h2.1 rfl (by decide)
  obtain rfl := hv
  have hall2 : s.all = l := hall
  have h := lutc b t s d hesz hc w hs
  rw [hall2] at h
  exact h
abbrev yc_sure : Con := ⟨15, [], (.tt true), (.bool (.tt true)), ⟨0, 0, 0, 0⟩, none⟩
theorem yg_sure : yc_sure.Good Tryd.prog syG (yE [] [] [] []) := by
  intro iv bv vv sv β ok w xs n1 n2 n3 n4 hcnd hok hG hx _
  cases xs with
  | cons _ _ => exact hx.elim
  | nil =>
  refine (sure09 w (hG _ (List.mem_singleton.2 rfl)).2.2).mono ?_
  rintro e w' ⟨rfl, hb⟩
  exact ⟨_, fun _ => none, ok, rfl, ⟨⟨hb.os, hb.tape, hb.output, hb.size, fun k hk _ => hb.block k hk⟩, ⟨hb.size, fun b off hbl ho => ⟨ho, hb.cell (p := ⟨b, off, none⟩) hbl⟩⟩, fun b off h => .inl h, fun n T hT => by cases hT⟩, rfl, fun hn => by cases hn⟩
def wMore_tree : Tree :=
 (.br (.b2 .lt (.lit (31)) (.ofI (.vop (.len 1) (.cons (.opq 0) .nil))))
 (.ret (.bool (.tt true)))
 (.br (.not (.b2 .eq (.iapp 0 (.cons (.int .i64 (.var 0)) (.cons (.int .i64 (.var 1)) (.cons (.opq 0) .nil)))) (.lit (0))))
 (.ret (.bool (.tt true)))
 (.br (.b2 .le (.var 1) (.lit (-50000)))
 (.ret (.bool (.tt true)))
 (.br (.b2 .lt (.lit (0)) (.ofI (.vop (.len 1) (.cons (.opq 0) .nil))))
 (.need (.b2 .and (.b2 .le (.lit (0)) (.wrap .i64 (.i2 .sub (.ofI (.vop (.len 1) (.cons (.opq 0) .nil))) (.lit (1))))) (.b2 .lt (.wrap .i64 (.i2 .sub (.ofI (.vop (.len 1) (.cons (.opq 0) .nil))) (.lit (1)))) (.ofI (.vop (.len 1) (.cons (.opq 0) .nil)))))
 (.br (.b2 .eq (.ofI (.vop (.sel 1 0) (.cons (.opq 0) (.cons (.int .i64 (.wrap .i64 (.i2 .sub (.ofI (.vop (.len 1) (.cons (.opq 0) .nil))) (.lit (1))))) .nil)))) (.wrap .i64 (.i2 .sub (.var 1) (.lit (1)))))
 (.ret (.bool (.tt true)))
 (.br (.b2 .lt (.lit (49000)) (.var 1))
 (.ret (.bool (.tt true)))
 (.need (.b2 .le (.i2 .add (.lit (0)) (.ofI (.vop (.len 1) (.cons (.opq 0) .nil)))) (.lit (17592186044416)))
 (.need (.b2 .le (.i2 .add (.ofI (.vop (.len 1) (.cons (.opq 0) .nil))) (.lit (1))) (.lit (17592186044416)))
 (.need (.b2 .and (.b2 .le (.lit (-9223372036854775808)) (.var 3)) (.b2 .le (.var 3) (.lit (9223372036854775807))))
 (.need (.b2 .and (.b2 .le (.lit (-9223372036854775808)) (.var 3)) (.b2 .le (.var 3) (.lit (9223372036854775807))))
 (.br (.b2 .eq (.iapp 3 (.cons (.int .i64 (.var 0)) (.cons (.int .i64 (.var 1)) (.cons (.opq 0) (.cons (.int .i64 (.var 3)) .nil))))) (.lit (0)))
 (.br (.not (.b2 .eq (.iapp 3 (.cons (.int .i64 (.var 0)) (.cons (.int .i64 (.wrap .i64 (.i2 .add (.var 1) (.lit (500))))) (.cons (.vop .cat (.cons (.opq 0) (.cons (.tup (.cons (.int .i64 (.wrap .i64 (.i2 .sub (.var 1) (.lit (1))))) .nil)) .nil))) (.cons (.int .i64 (.var 3)) .nil))))) (.lit (0))))
 (.ret (.bool (.tt false)))
 (.br (.not (.b2 .and (.b2 .eq (.iapp 4 (.cons (.int .i64 (.var 0)) (.cons (.int .i64 (.var 1)) (.cons (.opq 0) (.cons (.int .i64 (.var 3)) .nil))))) (.iapp 4 (.cons (.int .i64 (.var 0)) (.cons (.int .i64 (.wrap .i64 (.i2 .add (.var 1) (.lit (500))))) (.cons (.vop .cat (.cons (.opq 0) (.cons (.tup (.cons (.int .i64 (.wrap .i64 (.i2 .sub (.var 1) (.lit (1))))) .nil)) .nil))) (.cons (.int .i64 (.var 3)) .nil)))))) (.b2 .and (.b2 .eq (.iapp 5 (.cons (.int .i64 (.var 0)) (.cons (.int .i64 (.var 1)) (.cons (.opq 0) (.cons (.int .i64 (.var 3)) .nil))))) (.iapp 5 (.cons (.int .i64 (.var 0)) (.cons (.int .i64 (.wrap .i64 (.i2 .add (.var 1) (.lit (500))))) (.cons (.vop .cat (.cons (.opq 0) (.cons (.tup (.cons (.int .i64 (.wrap .i64 (.i2 .sub (.var 1) (.lit (1))))) .nil)) .nil))) (.cons (.int .i64 (.var 3)) .nil)))))) (.b2 .eq (.iapp 6 (.cons (.int .i64 (.var 0)) (.cons (.int .i64 (.var 1)) (.cons (.opq 0) (.cons (.int .i64 (.var 3)) .nil))))) (.iapp 6 (.cons (.int .i64 (.var 0)) (.cons (.int .i64 (.wrap .i64 (.i2 .add (.var 1) (.lit (500))))) (.cons (.vop .cat (.cons (.opq 0) (.cons (.tup (.cons (.int .i64 (.wrap .i64 (.i2 .sub (.var 1) (.lit (1))))) .nil)) .nil))) (.cons (.int .i64 (.var 3)) .nil)))))))))
 (.ret (.bool (.tt false)))
 (.br (.not (.b2 .beq (.b2 .eq (.iapp 1 (.cons (.int .i64 (.var 0)) (.cons (.int .i64 (.wrap .i64 (.i2 .add (.var 1) (.lit (500))))) (.cons (.vop .cat (.cons (.opq 0) (.cons (.tup (.cons (.int .i64 (.wrap .i64 (.i2 .sub (.var 1) (.lit (1))))) .nil)) .nil))) (.cons (.int .i64 (.var 2)) .nil))))) (.lit (0))) (.b2 .eq (.iapp 1 (.cons (.int .i64 (.var 0)) (.cons (.int .i64 (.wrap .i64 (.i2 .add (.var 1) (.lit (500))))) (.cons (.opq 0) (.cons (.int .i64 (.var 2)) .nil))))) (.lit (0)))))
 (.ret (.bool (.tt false)))
 (.br (.b2 .eq (.iapp 1 (.cons (.int .i64 (.var 0)) (.cons (.int .i64 (.wrap .i64 (.i2 .add (.var 1) (.lit (500))))) (.cons (.vop .cat (.cons (.opq 0) (.cons (.tup (.cons (.int .i64 (.wrap .i64 (.i2 .sub (.var 1) (.lit (1))))) .nil)) .nil))) (.cons (.int .i64 (.var 2)) .nil))))) (.lit (0)))
 (.br (.b2 .le (.var 1) (.var 2))
 (.br (.b2 .eq (.iapp 2 (.cons (.int .i64 (.var 0)) (.cons (.int .i64 (.wrap .i64 (.i2 .add (.var 1) (.lit (500))))) (.cons (.vop .cat (.cons (.opq 0) (.cons (.tup (.cons (.int .i64 (.wrap .i64 (.i2 .sub (.var 1) (.lit (1))))) .nil)) .nil))) (.cons (.int .i64 (.var 2)) .nil))))) (.wrap .i64 (.i2 .add (.iapp 2 (.cons (.int .i64 (.var 0)) (.cons (.int .i64 (.wrap .i64 (.i2 .add (.var 1) (.lit (500))))) (.cons (.opq 0) (.cons (.int .i64 (.var 2)) .nil))))) (.lit (1000000000)))))
 (.ret (.bool (.tt true)))
 (.ret (.bool (.tt false))))
 (.br (.b2 .eq (.iapp 2 (.cons (.int .i64 (.var 0)) (.cons (.int .i64 (.wrap .i64 (.i2 .add (.var 1) (.lit (500))))) (.cons (.vop .cat (.cons (.opq 0) (.cons (.tup (.cons (.int .i64 (.wrap .i64 (.i2 .sub (.var 1) (.lit (1))))) .nil)) .nil))) (.cons (.int .i64 (.var 2)) .nil))))) (.wrap .i64 (.i2 .add (.iapp 2 (.cons (.int .i64 (.var 0)) (.cons (.int .i64 (.wrap .i64 (.i2 .add (.var 1) (.lit (500))))) (.cons (.opq 0) (.cons (.int .i64 (.var 2)) .nil))))) (.lit (0)))))
 (.ret (.bool (.tt true)))
 (.ret (.bool (.tt false)))))
 (.br (.b2 .eq (.iapp 2 (.cons (.int .i64 (.var 0)) (.cons (.int .i64 (.wrap .i64 (.i2 .add (.var 1) (.lit (500))))) (.cons (.vop .cat (.cons (.opq 0) (.cons (.tup (.cons (.int .i64 (.wrap .i64 (.i2 .sub (.var 1) (.lit (1))))) .nil)) .nil))) (.cons (.int .i64 (.var 2)) .nil))))) (.wrap .i64 (.i2 .add (.iapp 2 (.cons (.int .i64 (.var 0)) (.cons (.int .i64 (.wrap .i64 (.i2 .add (.var 1) (.lit (500))))) (.cons (.opq 0) (.cons (.int .i64 (.var 2)) .nil))))) (.lit (0)))))
 (.ret (.bool (.tt true)))
 (.ret (.bool (.tt false))))))))
 (.br (.not (.b2 .beq (.b2 .eq (.iapp 1 (.cons (.int .i64 (.var 0)) (.cons (.int .i64 (.wrap .i64 (.i2 .add (.var 1) (.lit (500))))) (.cons (.vop .cat (.cons (.opq 0) (.cons (.tup (.cons (.int .i64 (.wrap .i64 (.i2 .sub (.var 1) (.lit (1))))) .nil)) .nil))) (.cons (.int .i64 (.var 2)) .nil))))) (.lit (0))) (.b2 .eq (.iapp 1 (.cons (.int .i64 (.var 0)) (.cons (.int .i64 (.wrap .i64 (.i2 .add (.var 1) (.lit (500))))) (.cons (.opq 0) (.cons (.int .i64 (.var 2)) .nil))))) (.lit (0)))))
 (.ret (.bool (.tt false)))
 (.br (.b2 .eq (.iapp 1 (.cons (.int .i64 (.var 0)) (.cons (.int .i64 (.wrap .i64 (.i2 .add (.var 1) (.lit (500))))) (.cons (.vop .cat (.cons (.opq 0) (.cons (.tup (.cons (.int .i64 (.wrap .i64 (.i2 .sub (.var 1) (.lit (1))))) .nil)) .nil))) (.cons (.int .i64 (.var 2)) .nil))))) (.lit (0)))
 (.br (.b2 .le (.var 1) (.var 2))
 (.br (.b2 .eq (.iapp 2 (.cons (.int .i64 (.var 0)) (.cons (.int .i64 (.wrap .i64 (.i2 .add (.var 1) (.lit (500))))) (.cons (.vop .cat (.cons (.opq 0) (.cons (.tup (.cons (.int .i64 (.wrap .i64 (.i2 .sub (.var 1) (.lit (1))))) .nil)) .nil))) (.cons (.int .i64 (.var 2)) .nil))))) (.wrap .i64 (.i2 .add (.iapp 2 (.cons (.int .i64 (.var 0)) (.cons (.int .i64 (.wrap .i64 (.i2 .add (.var 1) (.lit (500))))) (.cons (.opq 0) (.cons (.int .i64 (.var 2)) .nil))))) (.lit (1000000000)))))
 (.ret (.bool (.tt true)))
 (.ret (.bool (.tt false))))
 (.br (.b2 .eq (.iapp 2 (.cons (.int .i64 (.var 0)) (.cons (.int .i64 (.wrap .i64 (.i2 .add (.var 1) (.lit (500))))) (.cons (.vop .cat (.cons (.opq 0) (.cons (.tup (.cons (.int .i64 (.wrap .i64 (.i2 .sub (.var 1) (.lit (1))))) .nil)) .nil))) (.cons (.int .i64 (.var 2)) .nil))))) (.wrap .i64 (.i2 .add (.iapp 2 (.cons (.int .i64 (.var 0)) (.cons (.int .i64 (.wrap .i64 (.i2 .add (.var 1) (.lit (500))))) (.cons (.opq 0) (.cons (.int .i64 (.var 2)) .nil))))) (.lit (0)))))
 (.ret (.bool (.tt true)))
 (.ret (.bool (.tt false)))))
 (.br (.b2 .eq (.iapp 2 (.cons (.int .i64 (.var 0)) (.cons (.int .i64 (.wrap .i64 (.i2 .add (.var 1) (.lit (500))))) (.cons (.vop .cat (.cons (.opq 0) (.cons (.tup (.cons (.int .i64 (.wrap .i64 (.i2 .sub (.var 1) (.lit (1))))) .nil)) .nil))) (.cons (.int .i64 (.var 2)) .nil))))) (.wrap .i64 (.i2 .add (.iapp 2 (.cons (.int .i64 (.var 0)) (.cons (.int .i64 (.wrap .i64 (.i2 .add (.var 1) (.lit (500))))) (.cons (.opq 0) (.cons (.int .i64 (.var 2)) .nil))))) (.lit (0)))))
 (.ret (.bool (.tt true)))
 (.ret (.bool (.tt false))))))))))))))
 (.br (.b2 .lt (.lit (49000)) (.var 1))
 (.ret (.bool (.tt true)))
 (.need (.b2 .le (.i2 .add (.lit (0)) (.ofI (.vop (.len 1) (.cons (.opq 0) .nil)))) (.lit (17592186044416)))
 (.need (.b2 .le (.i2 .add (.ofI (.vop (.len 1) (.cons (.opq 0) .nil))) (.lit (1))) (.lit (17592186044416)))
 (.need (.b2 .and (.b2 .le (.lit (-9223372036854775808)) (.var 3)) (.b2 .le (.var 3) (.lit (9223372036854775807))))
 (.need (.b2 .and (.b2 .le (.lit (-9223372036854775808)) (.var 3)) (.b2 .le (.var 3) (.lit (9223372036854775807))))
 (.br (.b2 .eq (.iapp 3 (.cons (.int .i64 (.var 0)) (.cons (.int .i64 (.var 1)) (.cons (.opq 0) (.cons (.int .i64 (.var 3)) .nil))))) (.lit (0)))
 (.br (.not (.b2 .eq (.iapp 3 (.cons (.int .i64 (.var 0)) (.cons (.int .i64 (.wrap .i64 (.i2 .add (.var 1) (.lit (500))))) (.cons (.vop .cat (.cons (.opq 0) (.cons (.tup (.cons (.int .i64 (.wrap .i64 (.i2 .sub (.var 1) (.lit (1))))) .nil)) .nil))) (.cons (.int .i64 (.var 3)) .nil))))) (.lit (0))))
 (.ret (.bool (.tt false)))
 (.br (.not (.b2 .and (.b2 .eq (.iapp 4 (.cons (.int .i64 (.var 0)) (.cons (.int .i64 (.var 1)) (.cons (.opq 0) (.cons (.int .i64 (.var 3)) .nil))))) (.iapp 4 (.cons (.int .i64 (.var 0)) (.cons (.int .i64 (.wrap .i64 (.i2 .add (.var 1) (.lit (500))))) (.cons (.vop .cat (.cons (.opq 0) (.cons (.tup (.cons (.int .i64 (.wrap .i64 (.i2 .sub (.var 1) (.lit (1))))) .nil)) .nil))) (.cons (.int .i64 (.var 3)) .nil)))))) (.b2 .and (.b2 .eq (.iapp 5 (.cons (.int .i64 (.var 0)) (.cons (.int .i64 (.var 1)) (.cons (.opq 0) (.cons (.int .i64 (.var 3)) .nil))))) (.iapp 5 (.cons (.int .i64 (.var 0)) (.cons (.int .i64 (.wrap .i64 (.i2 .add (.var 1) (.lit (500))))) (.cons (.vop .cat (.cons (.opq 0) (.cons (.tup (.cons (.int .i64 (.wrap .i64 (.i2 .sub (.var 1) (.lit (1))))) .nil)) .nil))) (.cons (.int .i64 (.var 3)) .nil)))))) (.b2 .eq (.iapp 6 (.cons (.int .i64 (.var 0)) (.cons (.int .i64 (.var 1)) (.cons (.opq 0) (.cons (.int .i64 (.var 3)) .nil))))) (.iapp 6 (.cons (.int .i64 (.var 0)) (.cons (.int .i64 (.wrap .i64 (.i2 .add (.var 1) (.lit (500))))) (.cons (.vop .cat (.cons (.opq 0) (.cons (.tup (.cons (.int .i64 (.wrap .i64 (.i2 .sub (.var 1) (.lit (1))))) .nil)) .nil))) (.cons (.int .i64 (.var 3)) .nil)))))))))
 (.ret (.bool (.tt false)))
 (.br (.not (.b2 .beq (.b2 .eq (.iapp 1 (.cons (.int .i64 (.var 0)) (.cons (.int .i64 (.wrap .i64 (.i2 .add (.var 1) (.lit (500))))) (.cons (.vop .cat (.cons (.opq 0) (.cons (.tup (.cons (.int .i64 (.wrap .i64 (.i2 .sub (.var 1) (.lit (1))))) .nil)) .nil))) (.cons (.int .i64 (.var 2)) .nil))))) (.lit (0))) (.b2 .eq (.iapp 1 (.cons (.int .i64 (.var 0)) (.cons (.int .i64 (.wrap .i64 (.i2 .add (.var 1) (.lit (500))))) (.cons (.opq 0) (.cons (.int .i64 (.var 2)) .nil))))) (.lit (0)))))
 (.ret (.bool (.tt false)))
 (.br (.b2 .eq (.iapp 1 (.cons (.int .i64 (.var 0)) (.cons (.int .i64 (.wrap .i64 (.i2 .add (.var 1) (.lit (500))))) (.cons (.vop .cat (.cons (.opq 0) (.cons (.tup (.cons (.int .i64 (.wrap .i64 (.i2 .sub (.var 1) (.lit (1))))) .nil)) .nil))) (.cons (.int .i64 (.var 2)) .nil))))) (.lit (0)))
 (.br (.b2 .le (.var 1) (.var 2))
 (.br (.b2 .eq (.iapp 2 (.cons (.int .i64 (.var 0)) (.cons (.int .i64 (.wrap .i64 (.i2 .add (.var 1) (.lit (500))))) (.cons (.vop .cat (.cons (.opq 0) (.cons (.tup (.cons (.int .i64 (.wrap .i64 (.i2 .sub (.var 1) (.lit (1))))) .nil)) .nil))) (.cons (.int .i64 (.var 2)) .nil))))) (.wrap .i64 (.i2 .add (.iapp 2 (.cons (.int .i64 (.var 0)) (.cons (.int .i64 (.wrap .i64 (.i2 .add (.var 1) (.lit (500))))) (.cons (.opq 0) (.cons (.int .i64 (.var 2)) .nil))))) (.lit (1000000000)))))
 (.ret (.bool (.tt true)))
 (.ret (.bool (.tt false))))
 (.br (.b2 .eq (.iapp 2 (.cons (.int .i64 (.var 0)) (.cons (.int .i64 (.wrap .i64 (.i2 .add (.var 1) (.lit (500))))) (.cons (.vop .cat (.cons (.opq 0) (.cons (.tup (.cons (.int .i64 (.wrap .i64 (.i2 .sub (.var 1) (.lit (1))))) .nil)) .nil))) (.cons (.int .i64 (.var 2)) .nil))))) (.wrap .i64 (.i2 .add (.iapp 2 (.cons (.int .i64 (.var 0)) (.cons (.int .i64 (.wrap .i64 (.i2 .add (.var 1) (.lit (500))))) (.cons (.opq 0) (.cons (.int .i64 (.var 2)) .nil))))) (.lit (0)))))
 (.ret (.bool (.tt true)))
 (.ret (.bool (.tt false)))))
 (.br (.b2 .eq (.iapp 2 (.cons (.int .i64 (.var 0)) (.cons (.int .i64 (.wrap .i64 (.i2 .add (.var 1) (.lit (500))))) (.cons (.vop .cat (.cons (.opq 0) (.cons (.tup (.cons (.int .i64 (.wrap .i64 (.i2 .sub (.var 1) (.lit (1))))) .nil)) .nil))) (.cons (.int .i64 (.var 2)) .nil))))) (.wrap .i64 (.i2 .add (.iapp 2 (.cons (.int .i64 (.var 0)) (.cons (.int .i64 (.wrap .i64 (.i2 .add (.var 1) (.lit (500))))) (.cons (.opq 0) (.cons (.int .i64 (.var 2)) .nil))))) (.lit (0)))))
 (.ret (.bool (.tt true)))
 (.ret (.bool (.tt false))))))))
 (.br (.not (.b2 .beq (.b2 .eq (.iapp 1 (.cons (.int .i64 (.var 0)) (.cons (.int .i64 (.wrap .i64 (.i2 .add (.var 1) (.lit (500))))) (.cons (.vop .cat (.cons (.opq 0) (.cons (.tup (.cons (.int .i64 (.wrap .i64 (.i2 .sub (.var 1) (.lit (1))))) .nil)) .nil))) (.cons (.int .i64 (.var 2)) .nil))))) (.lit (0))) (.b2 .eq (.iapp 1 (.cons (.int .i64 (.var 0)) (.cons (.int .i64 (.wrap .i64 (.i2 .add (.var 1) (.lit (500))))) (.cons (.opq 0) (.cons (.int .i64 (.var 2)) .nil))))) (.lit (0)))))
 (.ret (.bool (.tt false)))
 (.br (.b2 .eq (.iapp 1 (.cons (.int .i64 (.var 0)) (.cons (.int .i64 (.wrap .i64 (.i2 .add (.var 1) (.lit (500))))) (.cons (.vop .cat (.cons (.opq 0) (.cons (.tup (.cons (.int .i64 (.wrap .i64 (.i2 .sub (.var 1) (.lit (1))))) .nil)) .nil))) (.cons (.int .i64 (.var 2)) .nil))))) (.lit (0)))
 (.br (.b2 .le (.var 1) (.var 2))
 (.br (.b2 .eq (.iapp 2 (.cons (.int .i64 (.var 0)) (.cons (.int .i64 (.wrap .i64 (.i2 .add (.var 1) (.lit (500))))) (.cons (.vop .cat (.cons (.opq 0) (.cons (.tup (.cons (.int .i64 (.wrap .i64 (.i2 .sub (.var 1) (.lit (1))))) .nil)) .nil))) (.cons (.int .i64 (.var 2)) .nil))))) (.wrap .i64 (.i2 .add (.iapp 2 (.cons (.int .i64 (.var 0)) (.cons (.int .i64 (.wrap .i64 (.i2 .add (.var 1) (.lit (500))))) (.cons (.opq 0) (.cons (.int .i64 (.var 2)) .nil))))) (.lit (1000000000)))))
 (.ret (.bool (.tt true)))
 (.ret (.bool (.tt false))))
 (.br (.b2 .eq (.iapp 2 (.cons (.int .i64 (.var 0)) (.cons (.int .i64 (.wrap .i64 (.i2 .add (.var 1) (.lit (500))))) (.cons (.vop .cat (.cons (.opq 0) (.cons (.tup (.cons (.int .i64 (.wrap .i64 (.i2 .sub (.var 1) (.lit (1))))) .nil)) .nil))) (.cons (.int .i64 (.var 2)) .nil))))) (.wrap .i64 (.i2 .add (.iapp 2 (.cons (.int .i64 (.var 0)) (.cons (.int .i64 (.wrap .i64 (.i2 .add (.var 1) (.lit (500))))) (.cons (.opq 0) (.cons (.int .i64 (.var 2)) .nil))))) (.lit (0)))))
 (.ret (.bool (.tt true)))
 (.ret (.bool (.tt false)))))
 (.br (.b2 .eq (.iapp 2 (.cons (.int .i64 (.var 0)) (.cons (.int .i64 (.wrap .i64 (.i2 .add (.var 1) (.lit (500))))) (.cons (.vop .cat (.cons (.opq 0) (.cons (.tup (.cons (.int .i64 (.wrap .i64 (.i2 .sub (.var 1) (.lit (1))))) .nil)) .nil))) (.cons (.int .i64 (.var 2)) .nil))))) (.wrap .i64 (.i2 .add (.iapp 2 (.cons (.int .i64 (.var 0)) (.cons (.int .i64 (.wrap .i64 (.i2 .add (.var 1) (.lit (500))))) (.cons (.opq 0) (.cons (.int .i64 (.var 2)) .nil))))) (.lit (0)))))
 (.ret (.bool (.tt true)))
 (.ret (.bool (.tt false))))))))))))))))
abbrev yc_wMore : Con := ⟨7, [(.agg (.cons (.int .i64 (.var 0)) (.cons (.int .i64 (.var 1)) (.cons (.hs .no (.cons (.int .i64) .nil) (.opq 0)) .nil)))), (.int .i64 (.var 2)), (.int .i64 (.var 3))], (.b2 .and (.b2 .le (.lit (-9223372036854775808)) (.var 3)) (.b2 .le (.var 3) (.lit (9223372036854775807)))), (.bool (.tt true)), ⟨4, 0, 1, 0⟩, none⟩
theorem wMore_w : walk Tryd.prog 108 ⟨[yc_check, yc_begin, yc_utc, yc_sure], syG⟩ [] .v yc_wMore yc_wMore.n 3000 = some wMore_tree := by kernel_rfl
theorem wMore_h (b : Int) (t : Int) (d : Int) (n : Int) (l : Value) (hc : holds (yE [b, t, d, n] [] [l] []) (.b2 .and (.b2 .le (.lit (-9223372036854775808)) (.var 3)) (.b2 .le (.var 3) (.lit (9223372036854775807))))) (hty : patsTyp (yE [b, t, d, n] [] [l] []) [(.agg (.cons (.int .i64 (.var 0)) (.cons (.int .i64 (.var 1)) (.cons (.hs .no (.cons (.int .i64) .nil) (.opq 0)) .nil)))), (.int .i64 (.var 2)), (.int .i64 (.var 3))]) : wMore_tree.holds (fun v_ => v_ = denV (yE [b, t, d, n] [] [l] []) b0 (.bool (.tt true))) (yE [b, t, d, n] [] [l] []) := by
  simp only [Tree.holds, Sy.holds, AllN, Env.more, yE, List.cons_append, List.nil_append, List.append_nil, denV, denI, denB, denL, I2.den, VOp.den, List.getD_cons_zero, List.getD_cons_succ, Cst.den, syso, syse, syio, sybo, yi_may, yi_wrong, yi_beg, yi_utcE, yi_utcD, yi_utcS, yi_utcN, List.map_nil, List.map_cons, B2.ofInts, B2.denI, B2.denB, if_true, Bool.false_eq_true, if_false, Nat.div_one, Nat.mul_one, Nat.add_zero, holds] at hc
  simp only [patsTyp, patTyp, patTypL, yE, denV, denL, List.getD_cons_zero, List.getD_cons_succ, and_true, true_and] at hty
  have hL_l : typ (.sl (.cons (.int .i64) .nil)) l := by first | exact hty | exact hty.1 | exact hty.2 | exact hty.1.1 | exact hty.1.2 | exact hty.2.1 | exact hty.2.2 | exact hty.2.2.1 | exact hty.2.2.2
  have hN_l := typ_len (n := 1) hL_l rfl (by omega)
  simp only [Nat.div_one, Nat.mul_one] at hN_l
  unfold wMore_tree
  simp only [Tree.holds, Sy.holds, AllN, Env.more, yE, List.cons_append, List.nil_append, List.append_nil, denV, denI, denB, denL, I2.den, VOp.den, List.getD_cons_zero, List.getD_cons_succ, Cst.den, syso, syse, syio, sybo, yi_may, yi_wrong, yi_beg, yi_utcE, yi_utcD, yi_utcS, yi_utcN, List.map_nil, List.map_cons, B2.ofInts, B2.denI, B2.denB, if_true, Bool.false_eq_true, if_false, Nat.div_one, Nat.mul_one, Nat.add_zero]
  refine ⟨fun h0 => ?_, fun h0 => ?_⟩
  ·
    first
    | exact True.intro
    | rfl
    | (have hm : mayL b t (intsOf l) = true := by
         rcases mayI_spec b t (intsOf l) with ⟨a, _⟩ | ⟨_, a, _⟩
         · exfalso; omega
         · exact a
       have hs := mayL_spec hm
       have hlen := ints_rows l
       have e1 : IntKind.wrap .i64 (t - 1) = t - 1 := IntWalk.i64_in _ (by omega)
       have e2 : IntKind.wrap .i64 (t + 500) = t + 500 := IntWalk.i64_in _ (by omega)
       have hl31 : (intsOf l).length ≤ 31 := by omega
       have hlast : 0 < (intsOf l).length → (intsOf l).getD ((intsOf l).length - 1) 0 ≠ t - 1 := fun hpos => by
         first
         | (exfalso; omega)
         | (have e3 : (IntKind.wrap .i64 (((Sy.rows l).length : Int) - 1)).toNat = (Sy.rows l).length - 1 := by
              rw [IntWalk.i64_in _ (by omega)]; omega
            rw [e3, e1] at h5
            rw [last_eq (by omega)]
            exact h5)
       obtain ⟨m1, m2⟩ := may_more hm hl31 (by omega) (by omega) hlast
       have w := wrong_more m2 m1 d
       have g := beg_more m1 m2 d
       have u := fun h => utc_more (n := n) hl31 m1 h
       simp only [e1, e2, ints_cat, w, iff_self, not_true] at * <;> (
         exfalso
         by_cases hu : utcE b t (intsOf l) n = 0
         · obtain ⟨u1, u2, u3, u4⟩ := u hu
           by_cases htd : t ≤ d
           · simp only [if_pos htd] at g
             omega
           · simp only [if_neg htd] at g
             omega
         · by_cases htd : t ≤ d
           · simp only [if_pos htd] at g
             omega
           · simp only [if_neg htd] at g
             omega))
    | skip
  ·
    refine ⟨fun h1 => ?_, fun h1 => ?_⟩
    ·
      first
      | exact True.intro
      | rfl
      | (have hm : mayL b t (intsOf l) = true := by
           rcases mayI_spec b t (intsOf l) with ⟨a, _⟩ | ⟨_, a, _⟩
           · exfalso; omega
           · exact a
         have hs := mayL_spec hm
         have hlen := ints_rows l
         have e1 : IntKind.wrap .i64 (t - 1) = t - 1 := IntWalk.i64_in _ (by omega)
         have e2 : IntKind.wrap .i64 (t + 500) = t + 500 := IntWalk.i64_in _ (by omega)
         have hl31 : (intsOf l).length ≤ 31 := by omega
         have hlast : 0 < (intsOf l).length → (intsOf l).getD ((intsOf l).length - 1) 0 ≠ t - 1 := fun hpos => by
           first
           | (exfalso; omega)
           | (have e3 : (IntKind.wrap .i64 (((Sy.rows l).length : Int) - 1)).toNat = (Sy.rows l).length - 1 := by
                rw [IntWalk.i64_in _ (by omega)]; omega
              rw [e3, e1] at h5
              rw [last_eq (by omega)]
              exact h5)
         obtain ⟨m1, m2⟩ := may_more hm hl31 (by omega) (by omega) hlast
         have w := wrong_more m2 m1 d
         have g := beg_more m1 m2 d
         have u := fun h => utc_more (n := n) hl31 m1 h
         simp only [e1, e2, ints_cat, w, iff_self, not_true] at * <;> (
           exfalso
           by_cases hu : utcE b t (intsOf l) n = 0
           · obtain ⟨u1, u2, u3, u4⟩ := u hu
             by_cases htd : t ≤ d
             · simp only [if_pos htd] at g
               omega
             · simp only [if_neg htd] at g
               omega
           · by_cases htd : t ≤ d
             · simp only [if_pos htd] at g
               omega
             · simp only [if_neg htd] at g
               omega))
      | skip
    ·
      refine ⟨fun h2 => ?_, fun h2 => ?_⟩
      ·
        first
        | exact True.intro
        | rfl
        | (have hm : mayL b t (intsOf l) = true := by
             rcases mayI_spec b t (intsOf l) with ⟨a, _⟩ | ⟨_, a, _⟩
             · exfalso; omega
             · exact a
           have hs := mayL_spec hm
           have hlen := ints_rows l
           have e1 : IntKind.wrap .i64 (t - 1) = t - 1 := IntWalk.i64_in _ (by omega)
           have e2 : IntKind.wrap .i64 (t + 500) = t + 500 := IntWalk.i64_in _ (by omega)
           have hl31 : (intsOf l).length ≤ 31 := by omega
           have hlast : 0 < (intsOf l).length → (intsOf l).getD ((intsOf l).length - 1) 0 ≠ t - 1 := fun hpos => by
             first
             | (exfalso; omega)
             | (have e3 : (IntKind.wrap .i64 (((Sy.rows l).length : Int) - 1)).toNat = (Sy.rows l).length - 1 := by
                  rw [IntWalk.i64_in _ (by omega)]; omega
                rw [e3, e1] at h5
                rw [last_eq (by omega)]
                exact h5)
           obtain ⟨m1, m2⟩ := may_more hm hl31 (by omega) (by omega) hlast
           have w := wrong_more m2 m1 d
           have g := beg_more m1 m2 d
           have u := fun h => utc_more (n := n) hl31 m1 h
           simp only [e1, e2, ints_cat, w, iff_self, not_true] at * <;> (
             exfalso
             by_cases hu : utcE b t (intsOf l) n = 0
             · obtain ⟨u1, u2, u3, u4⟩ := u hu
               by_cases htd : t ≤ d
               · simp only [if_pos htd] at g
                 omega
               · simp only [if_neg htd] at g
                 omega
             · by_cases htd : t ≤ d
               · simp only [if_pos htd] at g
                 omega
               · simp only [if_neg htd] at g
                 omega))
        | skip
      ·
        refine ⟨fun h3 => ?_, fun h3 => ?_⟩
        ·
          have wf0 := wr_i64 (((((rows l).length : Nat)) : Int) - 1)
          refine ⟨?_, fun h4 => ?_⟩
          ·
            first
            | omega
            | exact True.intro
          ·
            have wf1 := wr_i64 (t - 1)
            try simp only [hw0]
            refine ⟨fun h5 => ?_, fun h5 => ?_⟩
            ·
              first
              | exact True.intro
              | rfl
              | (have hm : mayL b t (intsOf l) = true := by
                   rcases mayI_spec b t (intsOf l) with ⟨a, _⟩ | ⟨_, a, _⟩
                   · exfalso; omega
                   · exact a
                 have hs := mayL_spec hm
                 have hlen := ints_rows l
                 have e1 : IntKind.wrap .i64 (t - 1) = t - 1 := IntWalk.i64_in _ (by omega)
                 have e2 : IntKind.wrap .i64 (t + 500) = t + 500 := IntWalk.i64_in _ (by omega)
                 have hl31 : (intsOf l).length ≤ 31 := by omega
                 have hlast : 0 < (intsOf l).length → (intsOf l).getD ((intsOf l).length - 1) 0 ≠ t - 1 := fun hpos => by
                   first
                   | (exfalso; omega)
                   | (have e3 : (IntKind.wrap .i64 (((Sy.rows l).length : Int) - 1)).toNat = (Sy.rows l).length - 1 := by
                        rw [IntWalk.i64_in _ (by omega)]; omega
                      rw [e3, e1] at h5
                      rw [last_eq (by omega)]
                      exact h5)
                 obtain ⟨m1, m2⟩ := may_more hm hl31 (by omega) (by omega) hlast
                 have w := wrong_more m2 m1 d
                 have g := beg_more m1 m2 d
                 have u := fun h => utc_more (n := n) hl31 m1 h
                 simp only [e1, e2, ints_cat, w, iff_self, not_true] at * <;> (
                   exfalso
                   by_cases hu : utcE b t (intsOf l) n = 0
                   · obtain ⟨u1, u2, u3, u4⟩ := u hu
                     by_cases htd : t ≤ d
                     · simp only [if_pos htd] at g
                       omega
                     · simp only [if_neg htd] at g
                       omega
                   · by_cases htd : t ≤ d
                     · simp only [if_pos htd] at g
                       omega
                     · simp only [if_neg htd] at g
                       omega))
              | skip
            ·
              refine ⟨fun h6 => ?_, fun h6 => ?_⟩
              ·
                first
                | exact True.intro
                | rfl
                | (have hm : mayL b t (intsOf l) = true := by
                     rcases mayI_spec b t (intsOf l) with ⟨a, _⟩ | ⟨_, a, _⟩
                     · exfalso; omega
                     · exact a
                   have hs := mayL_spec hm
                   have hlen := ints_rows l
                   have e1 : IntKind.wrap .i64 (t - 1) = t - 1 := IntWalk.i64_in _ (by omega)
                   have e2 : IntKind.wrap .i64 (t + 500) = t + 500 := IntWalk.i64_in _ (by omega)
                   have hl31 : (intsOf l).length ≤ 31 := by omega
                   have hlast : 0 < (intsOf l).length → (intsOf l).getD ((intsOf l).length - 1) 0 ≠ t - 1 := fun hpos => by
                     first
                     | (exfalso; omega)
                     | (have e3 : (IntKind.wrap .i64 (((Sy.rows l).length : Int) - 1)).toNat = (Sy.rows l).length - 1 := by
                          rw [IntWalk.i64_in _ (by omega)]; omega
                        rw [e3, e1] at h5
                        rw [last_eq (by omega)]
                        exact h5)
                   obtain ⟨m1, m2⟩ := may_more hm hl31 (by omega) (by omega) hlast
                   have w := wrong_more m2 m1 d
                   have g := beg_more m1 m2 d
                   have u := fun h => utc_more (n := n) hl31 m1 h
                   simp only [e1, e2, ints_cat, w, iff_self, not_true] at * <;> (
                     exfalso
                     by_cases hu : utcE b t (intsOf l) n = 0
                     · obtain ⟨u1, u2, u3, u4⟩ := u hu
                       by_cases htd : t ≤ d
                       · simp only [if_pos htd] at g
                         omega
                       · simp only [if_neg htd] at g
                         omega
                     · by_cases htd : t ≤ d
                       · simp only [if_pos htd] at g
                         omega
                       · simp only [if_neg htd] at g
                         omega))
                | skip
              ·
                refine ⟨?_, fun h7 => ?_⟩
                ·
                  first
                  | omega
                  | exact True.intro
                ·
                  refine ⟨?_, fun h8 => ?_⟩
                  ·
                    first
                    | omega
                    | exact True.intro
                  ·
                    refine ⟨?_, fun h9 => ?_⟩
                    ·
                      first
                      | omega
                      | exact True.intro
                    ·
                      refine ⟨?_, fun h10 => ?_⟩
                      ·
                        first
                        | omega
                        | exact True.intro
                      ·
                        refine ⟨fun h11 => ?_, fun h11 => ?_⟩
                        ·
                          have wf2 := wr_i64 (t + 500)
                          try simp only [hw1]
                          refine ⟨fun h12 => ?_, fun h12 => ?_⟩
                          ·
                            first
                            | exact True.intro
                            | rfl
                            | (have hm : mayL b t (intsOf l) = true := by
                                 rcases mayI_spec b t (intsOf l) with ⟨a, _⟩ | ⟨_, a, _⟩
                                 · exfalso; omega
                                 · exact a
                               have hs := mayL_spec hm
                               have hlen := ints_rows l
                               have e1 : IntKind.wrap .i64 (t - 1) = t - 1 := IntWalk.i64_in _ (by omega)
                               have e2 : IntKind.wrap .i64 (t + 500) = t + 500 := IntWalk.i64_in _ (by omega)
                               have hl31 : (intsOf l).length ≤ 31 := by omega
                               have hlast : 0 < (intsOf l).length → (intsOf l).getD ((intsOf l).length - 1) 0 ≠ t - 1 := fun hpos => by
                                 first
                                 | (exfalso; omega)
                                 | (have e3 : (IntKind.wrap .i64 (((Sy.rows l).length : Int) - 1)).toNat = (Sy.rows l).length - 1 := by
                                      rw [IntWalk.i64_in _ (by omega)]; omega
                                    rw [e3, e1] at h5
                                    rw [last_eq (by omega)]
                                    exact h5)
                               obtain ⟨m1, m2⟩ := may_more hm hl31 (by omega) (by omega) hlast
                               have w := wrong_more m2 m1 d
                               have g := beg_more m1 m2 d
                               have u := fun h => utc_more (n := n) hl31 m1 h
                               simp only [e1, e2, ints_cat, w, iff_self, not_true] at * <;> (
                                 exfalso
                                 by_cases hu : utcE b t (intsOf l) n = 0
                                 · obtain ⟨u1, u2, u3, u4⟩ := u hu
                                   by_cases htd : t ≤ d
                                   · simp only [if_pos htd] at g
                                     omega
                                   · simp only [if_neg htd] at g
                                     omega
                                 · by_cases htd : t ≤ d
                                   · simp only [if_pos htd] at g
                                     omega
                                   · simp only [if_neg htd] at g
                                     omega))
                            | skip
                          ·
                            try simp only [hw2]
                            try simp only [hw1]
                            refine ⟨fun h13 => ?_, fun h13 => ?_⟩
                            ·
                              first
                              | exact True.intro
                              | rfl
                              | (have hm : mayL b t (intsOf l) = true := by
                                   rcases mayI_spec b t (intsOf l) with ⟨a, _⟩ | ⟨_, a, _⟩
                                   · exfalso; omega
                                   · exact a
                                 have hs := mayL_spec hm
                                 have hlen := ints_rows l
                                 have e1 : IntKind.wrap .i64 (t - 1) = t - 1 := IntWalk.i64_in _ (by omega)
                                 have e2 : IntKind.wrap .i64 (t + 500) = t + 500 := IntWalk.i64_in _ (by omega)
                                 have hl31 : (intsOf l).length ≤ 31 := by omega
                                 have hlast : 0 < (intsOf l).length → (intsOf l).getD ((intsOf l).length - 1) 0 ≠ t - 1 := fun hpos => by
                                   first
                                   | (exfalso; omega)
                                   | (have e3 : (IntKind.wrap .i64 (((Sy.rows l).length : Int) - 1)).toNat = (Sy.rows l).length - 1 := by
                                        rw [IntWalk.i64_in _ (by omega)]; omega
                                      rw [e3, e1] at h5
                                      rw [last_eq (by omega)]
                                      exact h5)
                                 obtain ⟨m1, m2⟩ := may_more hm hl31 (by omega) (by omega) hlast
                                 have w := wrong_more m2 m1 d
                                 have g := beg_more m1 m2 d
                                 have u := fun h => utc_more (n := n) hl31 m1 h
                                 simp only [e1, e2, ints_cat, w, iff_self, not_true] at * <;> (
                                   exfalso
                                   by_cases hu : utcE b t (intsOf l) n = 0
                                   · obtain ⟨u1, u2, u3, u4⟩ := u hu
                                     by_cases htd : t ≤ d
                                     · simp only [if_pos htd] at g
                                       omega
                                     · simp only [if_neg htd] at g
                                       omega
                                   · by_cases htd : t ≤ d
                                     · simp only [if_pos htd] at g
                                       omega
                                     · simp only [if_neg htd] at g
                                       omega))
                              | skip
                            ·
                              try simp only [hw2]
                              try simp only [hw1]
                              refine ⟨fun h14 => ?_, fun h14 => ?_⟩
                              ·
                                first
                                | exact True.intro
                                | rfl
                                | (have hm : mayL b t (intsOf l) = true := by
                                     rcases mayI_spec b t (intsOf l) with ⟨a, _⟩ | ⟨_, a, _⟩
                                     · exfalso; omega
                                     · exact a
                                   have hs := mayL_spec hm
                                   have hlen := ints_rows l
                                   have e1 : IntKind.wrap .i64 (t - 1) = t - 1 := IntWalk.i64_in _ (by omega)
                                   have e2 : IntKind.wrap .i64 (t + 500) = t + 500 := IntWalk.i64_in _ (by omega)
                                   have hl31 : (intsOf l).length ≤ 31 := by omega
                                   have hlast : 0 < (intsOf l).length → (intsOf l).getD ((intsOf l).length - 1) 0 ≠ t - 1 := fun hpos => by
                                     first
                                     | (exfalso; omega)
                                     | (have e3 : (IntKind.wrap .i64 (((Sy.rows l).length : Int) - 1)).toNat = (Sy.rows l).length - 1 := by
                                          rw [IntWalk.i64_in _ (by omega)]; omega
                                        rw [e3, e1] at h5
                                        rw [last_eq (by omega)]
                                        exact h5)
                                   obtain ⟨m1, m2⟩ := may_more hm hl31 (by omega) (by omega) hlast
                                   have w := wrong_more m2 m1 d
                                   have g := beg_more m1 m2 d
                                   have u := fun h => utc_more (n := n) hl31 m1 h
                                   simp only [e1, e2, ints_cat, w, iff_self, not_true] at * <;> (
                                     exfalso
                                     by_cases hu : utcE b t (intsOf l) n = 0
                                     · obtain ⟨u1, u2, u3, u4⟩ := u hu
                                       by_cases htd : t ≤ d
                                       · simp only [if_pos htd] at g
                                         omega
                                       · simp only [if_neg htd] at g
                                         omega
                                     · by_cases htd : t ≤ d
                                       · simp only [if_pos htd] at g
                                         omega
                                       · simp only [if_neg htd] at g
                                         omega))
                                | skip
                              ·
                                try simp only [hw2]
                                try simp only [hw1]
                                refine ⟨fun h15 => ?_, fun h15 => ?_⟩
                                ·
                                  refine ⟨fun h16 => ?_, fun h16 => ?_⟩
                                  ·
                                    have wf3 := wr_i64 ((begI b (IntKind.wrap .i64 (t + 500)) (intsOf l) d) + 1000000000)
                                    try simp only [hw2]
                                    try simp only [hw1]
                                    refine ⟨fun h17 => ?_, fun h17 => ?_⟩
                                    ·
                                      first
                                      | exact True.intro
                                      | rfl
                                      | (have hm : mayL b t (intsOf l) = true := by
                                           rcases mayI_spec b t (intsOf l) with ⟨a, _⟩ | ⟨_, a, _⟩
                                           · exfalso; omega
                                           · exact a
                                         have hs := mayL_spec hm
                                         have hlen := ints_rows l
                                         have e1 : IntKind.wrap .i64 (t - 1) = t - 1 := IntWalk.i64_in _ (by omega)
                                         have e2 : IntKind.wrap .i64 (t + 500) = t + 500 := IntWalk.i64_in _ (by omega)
                                         have hl31 : (intsOf l).length ≤ 31 := by omega
                                         have hlast : 0 < (intsOf l).length → (intsOf l).getD ((intsOf l).length - 1) 0 ≠ t - 1 := fun hpos => by
                                           first
                                           | (exfalso; omega)
                                           | (have e3 : (IntKind.wrap .i64 (((Sy.rows l).length : Int) - 1)).toNat = (Sy.rows l).length - 1 := by
                                                rw [IntWalk.i64_in _ (by omega)]; omega
                                              rw [e3, e1] at h5
                                              rw [last_eq (by omega)]
                                              exact h5)
                                         obtain ⟨m1, m2⟩ := may_more hm hl31 (by omega) (by omega) hlast
                                         have w := wrong_more m2 m1 d
                                         have g := beg_more m1 m2 d
                                         have u := fun h => utc_more (n := n) hl31 m1 h
                                         simp only [e1, e2, ints_cat, w, iff_self, not_true] at * <;> (
                                           exfalso
                                           by_cases hu : utcE b t (intsOf l) n = 0
                                           · obtain ⟨u1, u2, u3, u4⟩ := u hu
                                             by_cases htd : t ≤ d
                                             · simp only [if_pos htd] at g
                                               omega
                                             · simp only [if_neg htd] at g
                                               omega
                                           · by_cases htd : t ≤ d
                                             · simp only [if_pos htd] at g
                                               omega
                                             · simp only [if_neg htd] at g
                                               omega))
                                      | skip
                                    ·
                                      first
                                      | exact True.intro
                                      | rfl
                                      | (have hm : mayL b t (intsOf l) = true := by
                                           rcases mayI_spec b t (intsOf l) with ⟨a, _⟩ | ⟨_, a, _⟩
                                           · exfalso; omega
                                           · exact a
                                         have hs := mayL_spec hm
                                         have hlen := ints_rows l
                                         have e1 : IntKind.wrap .i64 (t - 1) = t - 1 := IntWalk.i64_in _ (by omega)
                                         have e2 : IntKind.wrap .i64 (t + 500) = t + 500 := IntWalk.i64_in _ (by omega)
                                         have hl31 : (intsOf l).length ≤ 31 := by omega
                                         have hlast : 0 < (intsOf l).length → (intsOf l).getD ((intsOf l).length - 1) 0 ≠ t - 1 := fun hpos => by
                                           first
                                           | (exfalso; omega)
                                           | (have e3 : (IntKind.wrap .i64 (((Sy.rows l).length : Int) - 1)).toNat = (Sy.rows l).length - 1 := by
                                                rw [IntWalk.i64_in _ (by omega)]; omega
                                              rw [e3, e1] at h5
                                              rw [last_eq (by omega)]
                                              exact h5)
                                         obtain ⟨m1, m2⟩ := may_more hm hl31 (by omega) (by omega) hlast
                                         have w := wrong_more m2 m1 d
                                         have g := beg_more m1 m2 d
                                         have u := fun h => utc_more (n := n) hl31 m1 h
                                         simp only [e1, e2, ints_cat, w, iff_self, not_true] at * <;> (
                                           exfalso
                                           by_cases hu : utcE b t (intsOf l) n = 0
                                           · obtain ⟨u1, u2, u3, u4⟩ := u hu
                                             by_cases htd : t ≤ d
                                             · simp only [if_pos htd] at g
                                               omega
                                             · simp only [if_neg htd] at g
                                               omega
                                           · by_cases htd : t ≤ d
                                             · simp only [if_pos htd] at g
                                               omega
                                             · simp only [if_neg htd] at g
                                               omega))
                                      | skip
                                  ·
                                    have wf4 := wr_i64 ((begI b (IntKind.wrap .i64 (t + 500)) (intsOf l) d) + 0)
                                    try simp only [hw2]
                                    try simp only [hw1]
                                    refine ⟨fun h18 => ?_, fun h18 => ?_⟩
                                    ·
                                      first
                                      | exact True.intro
                                      | rfl
                                      | (have hm : mayL b t (intsOf l) = true := by
                                           rcases mayI_spec b t (intsOf l) with ⟨a, _⟩ | ⟨_, a, _⟩
                                           · exfalso; omega
                                           · exact a
                                         have hs := mayL_spec hm
                                         have hlen := ints_rows l
                                         have e1 : IntKind.wrap .i64 (t - 1) = t - 1 := IntWalk.i64_in _ (by omega)
                                         have e2 : IntKind.wrap .i64 (t + 500) = t + 500 := IntWalk.i64_in _ (by omega)
                                         have hl31 : (intsOf l).length ≤ 31 := by omega
                                         have hlast : 0 < (intsOf l).length → (intsOf l).getD ((intsOf l).length - 1) 0 ≠ t - 1 := fun hpos => by
                                           first
                                           | (exfalso; omega)
                                           | (have e3 : (IntKind.wrap .i64 (((Sy.rows l).length : Int) - 1)).toNat = (Sy.rows l).length - 1 := by
                                                rw [IntWalk.i64_in _ (by omega)]; omega
                                              rw [e3, e1] at h5
                                              rw [last_eq (by omega)]
                                              exact h5)
                                         obtain ⟨m1, m2⟩ := may_more hm hl31 (by omega) (by omega) hlast
                                         have w := wrong_more m2 m1 d
                                         have g := beg_more m1 m2 d
                                         have u := fun h => utc_more (n := n) hl31 m1 h
                                         simp only [e1, e2, ints_cat, w, iff_self, not_true] at * <;> (
                                           exfalso
                                           by_cases hu : utcE b t (intsOf l) n = 0
                                           · obtain ⟨u1, u2, u3, u4⟩ := u hu
                                             by_cases htd : t ≤ d
                                             · simp only [if_pos htd] at g
                                               omega
                                             · simp only [if_neg htd] at g
                                               omega
                                           · by_cases htd : t ≤ d
                                             · simp only [if_pos htd] at g
                                               omega
                                             · simp only [if_neg htd] at g
                                               omega))
                                      | skip
                                    ·
                                      first
                                      | exact True.intro
                                      | rfl
                                      | (have hm : mayL b t (intsOf l) = true := by
                                           rcases mayI_spec b t (intsOf l) with ⟨a, _⟩ | ⟨_, a, _⟩
                                           · exfalso; omega
                                           · exact a
                                         have hs := mayL_spec hm
                                         have hlen := ints_rows l
                                         have e1 : IntKind.wrap .i64 (t - 1) = t - 1 := IntWalk.i64_in _ (by omega)
                                         have e2 : IntKind.wrap .i64 (t + 500) = t + 500 := IntWalk.i64_in _ (by omega)
                                         have hl31 : (intsOf l).length ≤ 31 := by omega
                                         have hlast : 0 < (intsOf l).length → (intsOf l).getD ((intsOf l).length - 1) 0 ≠ t - 1 := fun hpos => by
                                           first
                                           | (exfalso; omega)
                                           | (have e3 : (IntKind.wrap .i64 (((Sy.rows l).length : Int) - 1)).toNat = (Sy.rows l).length - 1 := by
                                                rw [IntWalk.i64_in _ (by omega)]; omega
                                              rw [e3, e1] at h5
                                              rw [last_eq (by omega)]
                                              exact h5)
                                         obtain ⟨m1, m2⟩ := may_more hm hl31 (by omega) (by omega) hlast
                                         have w := wrong_more m2 m1 d
                                         have g := beg_more m1 m2 d
                                         have u := fun h => utc_more (n := n) hl31 m1 h
                                         simp only [e1, e2, ints_cat, w, iff_self, not_true] at * <;> (
                                           exfalso
                                           by_cases hu : utcE b t (intsOf l) n = 0
                                           · obtain ⟨u1, u2, u3, u4⟩ := u hu
                                             by_cases htd : t ≤ d
                                             · simp only [if_pos htd] at g
                                               omega
                                             · simp only [if_neg htd] at g
                                               omega
                                           · by_cases htd : t ≤ d
                                             · simp only [if_pos htd] at g
                                               omega
                                             · simp only [if_neg htd] at g
                                               omega))
                                      | skip
                                ·
                                  have wf5 := wr_i64 ((begI b (IntKind.wrap .i64 (t + 500)) (intsOf l) d) + 0)
                                  try simp only [hw2]
                                  try simp only [hw1]
                                  refine ⟨fun h19 => ?_, fun h19 => ?_⟩
                                  ·
                                    first
                                    | exact True.intro
                                    | rfl
                                    | (have hm : mayL b t (intsOf l) = true := by
                                         rcases mayI_spec b t (intsOf l) with ⟨a, _⟩ | ⟨_, a, _⟩
                                         · exfalso; omega
                                         · exact a
                                       have hs := mayL_spec hm
                                       have hlen := ints_rows l
                                       have e1 : IntKind.wrap .i64 (t - 1) = t - 1 := IntWalk.i64_in _ (by omega)
                                       have e2 : IntKind.wrap .i64 (t + 500) = t + 500 := IntWalk.i64_in _ (by omega)
                                       have hl31 : (intsOf l).length ≤ 31 := by omega
                                       have hlast : 0 < (intsOf l).length → (intsOf l).getD ((intsOf l).length - 1) 0 ≠ t - 1 := fun hpos => by
                                         first
                                         | (exfalso; omega)
                                         | (have e3 : (IntKind.wrap .i64 (((Sy.rows l).length : Int) - 1)).toNat = (Sy.rows l).length - 1 := by
                                              rw [IntWalk.i64_in _ (by omega)]; omega
                                            rw [e3, e1] at h5
                                            rw [last_eq (by omega)]
                                            exact h5)
                                       obtain ⟨m1, m2⟩ := may_more hm hl31 (by omega) (by omega) hlast
                                       have w := wrong_more m2 m1 d
                                       have g := beg_more m1 m2 d
                                       have u := fun h => utc_more (n := n) hl31 m1 h
                                       simp only [e1, e2, ints_cat, w, iff_self, not_true] at * <;> (
                                         exfalso
                                         by_cases hu : utcE b t (intsOf l) n = 0
                                         · obtain ⟨u1, u2, u3, u4⟩ := u hu
                                           by_cases htd : t ≤ d
                                           · simp only [if_pos htd] at g
                                             omega
                                           · simp only [if_neg htd] at g
                                             omega
                                         · by_cases htd : t ≤ d
                                           · simp only [if_pos htd] at g
                                             omega
                                           · simp only [if_neg htd] at g
                                             omega))
                                    | skip
                                  ·
                                    first
                                    | exact True.intro
                                    | rfl
                                    | (have hm : mayL b t (intsOf l) = true := by
                                         rcases mayI_spec b t (intsOf l) with ⟨a, _⟩ | ⟨_, a, _⟩
                                         · exfalso; omega
                                         · exact a
                                       have hs := mayL_spec hm
                                       have hlen := ints_rows l
                                       have e1 : IntKind.wrap .i64 (t - 1) = t - 1 := IntWalk.i64_in _ (by omega)
                                       have e2 : IntKind.wrap .i64 (t + 500) = t + 500 := IntWalk.i64_in _ (by omega)
                                       have hl31 : (intsOf l).length ≤ 31 := by omega
                                       have hlast : 0 < (intsOf l).length → (intsOf l).getD ((intsOf l).length - 1) 0 ≠ t - 1 := fun hpos => by
                                         first
                                         | (exfalso; omega)
                                         | (have e3 : (IntKind.wrap .i64 (((Sy.rows l).length : Int) - 1)).toNat = (Sy.rows l).length - 1 := by
                                              rw [IntWalk.i64_in _ (by omega)]; omega
                                            rw [e3, e1] at h5
                                            rw [last_eq (by omega)]
                                            exact h5)
                                       obtain ⟨m1, m2⟩ := may_more hm hl31 (by omega) (by omega) hlast
                                       have w := wrong_more m2 m1 d
                                       have g := beg_more m1 m2 d
                                       have u := fun h => utc_more (n := n) hl31 m1 h
                                       simp only [e1, e2, ints_cat, w, iff_self, not_true] at * <;> (
                                         exfalso
                                         by_cases hu : utcE b t (intsOf l) n = 0
                                         · obtain ⟨u1, u2, u3, u4⟩ := u hu
                                           by_cases htd : t ≤ d
                                           · simp only [if_pos htd] at g
                                             omega
                                           · simp only [if_neg htd] at g
                                             omega
                                         · by_cases htd : t ≤ d
                                           · simp only [if_pos htd] at g
                                             omega
                                           · simp only [if_neg htd] at g
                                             omega))
                                    | skip
                        ·
                          have wf6 := wr_i64 (t + 500)
                          try simp only [hw1]
                          refine ⟨fun h20 => ?_, fun h20 => ?_⟩
                          ·
                            first
                            | exact True.intro
                            | rfl
                            | (have hm : mayL b t (intsOf l) = true := by
                                 rcases mayI_spec b t (intsOf l) with ⟨a, _⟩ | ⟨_, a, _⟩
                                 · exfalso; omega
                                 · exact a
                               have hs := mayL_spec hm
                               have hlen := ints_rows l
                               have e1 : IntKind.wrap .i64 (t - 1) = t - 1 := IntWalk.i64_in _ (by omega)
                               have e2 : IntKind.wrap .i64 (t + 500) = t + 500 := IntWalk.i64_in _ (by omega)
                               have hl31 : (intsOf l).length ≤ 31 := by omega
                               have hlast : 0 < (intsOf l).length → (intsOf l).getD ((intsOf l).length - 1) 0 ≠ t - 1 := fun hpos => by
                                 first
                                 | (exfalso; omega)
                                 | (have e3 : (IntKind.wrap .i64 (((Sy.rows l).length : Int) - 1)).toNat = (Sy.rows l).length - 1 := by
                                      rw [IntWalk.i64_in _ (by omega)]; omega
                                    rw [e3, e1] at h5
                                    rw [last_eq (by omega)]
                                    exact h5)
                               obtain ⟨m1, m2⟩ := may_more hm hl31 (by omega) (by omega) hlast
                               have w := wrong_more m2 m1 d
                               have g := beg_more m1 m2 d
                               have u := fun h => utc_more (n := n) hl31 m1 h
                               simp only [e1, e2, ints_cat, w, iff_self, not_true] at * <;> (
                                 exfalso
                                 by_cases hu : utcE b t (intsOf l) n = 0
                                 · obtain ⟨u1, u2, u3, u4⟩ := u hu
                                   by_cases htd : t ≤ d
                                   · simp only [if_pos htd] at g
                                     omega
                                   · simp only [if_neg htd] at g
                                     omega
                                 · by_cases htd : t ≤ d
                                   · simp only [if_pos htd] at g
                                     omega
                                   · simp only [if_neg htd] at g
                                     omega))
                            | skip
                          ·
                            try simp only [hw6]
                            try simp only [hw1]
                            refine ⟨fun h21 => ?_, fun h21 => ?_⟩
                            ·
                              refine ⟨fun h22 => ?_, fun h22 => ?_⟩
                              ·
                                have wf7 := wr_i64 ((begI b (IntKind.wrap .i64 (t + 500)) (intsOf l) d) + 1000000000)
                                try simp only [hw6]
                                try simp only [hw1]
                                refine ⟨fun h23 => ?_, fun h23 => ?_⟩
                                ·
                                  first
                                  | exact True.intro
                                  | rfl
                                  | (have hm : mayL b t (intsOf l) = true := by
                                       rcases mayI_spec b t (intsOf l) with ⟨a, _⟩ | ⟨_, a, _⟩
                                       · exfalso; omega
                                       · exact a
                                     have hs := mayL_spec hm
                                     have hlen := ints_rows l
                                     have e1 : IntKind.wrap .i64 (t - 1) = t - 1 := IntWalk.i64_in _ (by omega)
                                     have e2 : IntKind.wrap .i64 (t + 500) = t + 500 := IntWalk.i64_in _ (by omega)
                                     have hl31 : (intsOf l).length ≤ 31 := by omega
                                     have hlast : 0 < (intsOf l).length → (intsOf l).getD ((intsOf l).length - 1) 0 ≠ t - 1 := fun hpos => by
                                       first
                                       | (exfalso; omega)
                                       | (have e3 : (IntKind.wrap .i64 (((Sy.rows l).length : Int) - 1)).toNat = (Sy.rows l).length - 1 := by
                                            rw [IntWalk.i64_in _ (by omega)]; omega
                                          rw [e3, e1] at h5
                                          rw [last_eq (by omega)]
                                          exact h5)
                                     obtain ⟨m1, m2⟩ := may_more hm hl31 (by omega) (by omega) hlast
                                     have w := wrong_more m2 m1 d
                                     have g := beg_more m1 m2 d
                                     have u := fun h => utc_more (n := n) hl31 m1 h
                                     simp only [e1, e2, ints_cat, w, iff_self, not_true] at * <;> (
                                       exfalso
                                       by_cases hu : utcE b t (intsOf l) n = 0
                                       · obtain ⟨u1, u2, u3, u4⟩ := u hu
                                         by_cases htd : t ≤ d
                                         · simp only [if_pos htd] at g
                                           omega
                                         · simp only [if_neg htd] at g
                                           omega
                                       · by_cases htd : t ≤ d
                                         · simp only [if_pos htd] at g
                                           omega
                                         · simp only [if_neg htd] at g
                                           omega))
                                  | skip
                                ·
                                  first
                                  | exact True.intro
                                  | rfl
                                  | (have hm : mayL b t (intsOf l) = true := by
                                       rcases mayI_spec b t (intsOf l) with ⟨a, _⟩ | ⟨_, a, _⟩
                                       · exfalso; omega
                                       · exact a
                                     have hs := mayL_spec hm
                                     have hlen := ints_rows l
                                     have e1 : IntKind.wrap .i64 (t - 1) = t - 1 := IntWalk.i64_in _ (by omega)
                                     have e2 : IntKind.wrap .i64 (t + 500) = t + 500 := IntWalk.i64_in _ (by omega)
                                     have hl31 : (intsOf l).length ≤ 31 := by omega
                                     have hlast : 0 < (intsOf l).length → (intsOf l).getD ((intsOf l).length - 1) 0 ≠ t - 1 := fun hpos => by
                                       first
                                       | (exfalso; omega)
                                       | (have e3 : (IntKind.wrap .i64 (((Sy.rows l).length : Int) - 1)).toNat = (Sy.rows l).length - 1 := by
                                            rw [IntWalk.i64_in _ (by omega)]; omega
                                          rw [e3, e1] at h5
                                          rw [last_eq (by omega)]
                                          exact h5)
                                     obtain ⟨m1, m2⟩ := may_more hm hl31 (by omega) (by omega) hlast
                                     have w := wrong_more m2 m1 d
                                     have g := beg_more m1 m2 d
                                     have u := fun h => utc_more (n := n) hl31 m1 h
                                     simp only [e1, e2, ints_cat, w, iff_self, not_true] at * <;> (
                                       exfalso
                                       by_cases hu : utcE b t (intsOf l) n = 0
                                       · obtain ⟨u1, u2, u3, u4⟩ := u hu
                                         by_cases htd : t ≤ d
                                         · simp only [if_pos htd] at g
                                           omega
                                         · simp only [if_neg htd] at g
                                           omega
                                       · by_cases htd : t ≤ d
                                         · simp only [if_pos htd] at g
                                           omega
                                         · simp only [if_neg htd] at g
                                           omega))
                                  | skip
                              ·
                                have wf8 := wr_i64 ((begI b (IntKind.wrap .i64 (t + 500)) (intsOf l) d) + 0)
                                try simp only [hw6]
                                try simp only [hw1]
                                refine ⟨fun h24 => ?_, fun h24 => ?_⟩
                                ·
                                  first
                                  | exact True.intro
                                  | rfl
                                  | (have hm : mayL b t (intsOf l) = true := by
                                       rcases mayI_spec b t (intsOf l) with ⟨a, _⟩ | ⟨_, a, _⟩
                                       · exfalso; omega
                                       · exact a
                                     have hs := mayL_spec hm
                                     have hlen := ints_rows l
                                     have e1 : IntKind.wrap .i64 (t - 1) = t - 1 := IntWalk.i64_in _ (by omega)
                                     have e2 : IntKind.wrap .i64 (t + 500) = t + 500 := IntWalk.i64_in _ (by omega)
                                     have hl31 : (intsOf l).length ≤ 31 := by omega
                                     have hlast : 0 < (intsOf l).length → (intsOf l).getD ((intsOf l).length - 1) 0 ≠ t - 1 := fun hpos => by
                                       first
                                       | (exfalso; omega)
                                       | (have e3 : (IntKind.wrap .i64 (((Sy.rows l).length : Int) - 1)).toNat = (Sy.rows l).length - 1 := by
                                            rw [IntWalk.i64_in _ (by omega)]; omega
                                          rw [e3, e1] at h5
                                          rw [last_eq (by omega)]
                                          exact h5)
                                     obtain ⟨m1, m2⟩ := may_more hm hl31 (by omega) (by omega) hlast
                                     have w := wrong_more m2 m1 d
                                     have g := beg_more m1 m2 d
                                     have u := fun h => utc_more (n := n) hl31 m1 h
                                     simp only [e1, e2, ints_cat, w, iff_self, not_true] at * <;> (
                                       exfalso
                                       by_cases hu : utcE b t (intsOf l) n = 0
                                       · obtain ⟨u1, u2, u3, u4⟩ := u hu
                                         by_cases htd : t ≤ d
                                         · simp only [if_pos htd] at g
                                           omega
                                         · simp only [if_neg htd] at g
                                           omega
                                       · by_cases htd : t ≤ d
                                         · simp only [if_pos htd] at g
                                           omega
                                         · simp only [if_neg htd] at g
                                           omega))
                                  | skip
                                ·
                                  first
                                  | exact True.intro
                                  | rfl
                                  | (have hm : mayL b t (intsOf l) = true := by
                                       rcases mayI_spec b t (intsOf l) with ⟨a, _⟩ | ⟨_, a, _⟩
                                       · exfalso; omega
                                       · exact a
                                     have hs := mayL_spec hm
                                     have hlen := ints_rows l
                                     have e1 : IntKind.wrap .i64 (t - 1) = t - 1 := IntWalk.i64_in _ (by omega)
                                     have e2 : IntKind.wrap .i64 (t + 500) = t + 500 := IntWalk.i64_in _ (by omega)
                                     have hl31 : (intsOf l).length ≤ 31 := by omega
                                     have hlast : 0 < (intsOf l).length → (intsOf l).getD ((intsOf l).length - 1) 0 ≠ t - 1 := fun hpos => by
                                       first
                                       | (exfalso; omega)
                                       | (have e3 : (IntKind.wrap .i64 (((Sy.rows l).length : Int) - 1)).toNat = (Sy.rows l).length - 1 := by
                                            rw [IntWalk.i64_in _ (by omega)]; omega
                                          rw [e3, e1] at h5
                                          rw [last_eq (by omega)]
                                          exact h5)
                                     obtain ⟨m1, m2⟩ := may_more hm hl31 (by omega) (by omega) hlast
                                     have w := wrong_more m2 m1 d
                                     have g := beg_more m1 m2 d
                                     have u := fun h => utc_more (n := n) hl31 m1 h
                                     simp only [e1, e2, ints_cat, w, iff_self, not_true] at * <;> (
                                       exfalso
                                       by_cases hu : utcE b t (intsOf l) n = 0
                                       · obtain ⟨u1, u2, u3, u4⟩ := u hu
                                         by_cases htd : t ≤ d
                                         · simp only [if_pos htd] at g
                                           omega
                                         · simp only [if_neg htd] at g
                                           omega
                                       · by_cases htd : t ≤ d
                                         · simp only [if_pos htd] at g
                                           omega
                                         · simp only [if_neg htd] at g
                                           omega))
                                  | skip
                            ·
                              have wf9 := wr_i64 ((begI b (IntKind.wrap .i64 (t + 500)) (intsOf l) d) + 0)
                              try simp only [hw6]
                              try simp only [hw1]
                              refine ⟨fun h25 => ?_, fun h25 => ?_⟩
                              ·
                                first
                                | exact True.intro
                                | rfl
                                | (have hm : mayL b t (intsOf l) = true := by
                                     rcases mayI_spec b t (intsOf l) with ⟨a, _⟩ | ⟨_, a, _⟩
                                     · exfalso; omega
                                     · exact a
                                   have hs := mayL_spec hm
                                   have hlen := ints_rows l
                                   have e1 : IntKind.wrap .i64 (t - 1) = t - 1 := IntWalk.i64_in _ (by omega)
                                   have e2 : IntKind.wrap .i64 (t + 500) = t + 500 := IntWalk.i64_in _ (by omega)
                                   have hl31 : (intsOf l).length ≤ 31 := by omega
                                   have hlast : 0 < (intsOf l).length → (intsOf l).getD ((intsOf l).length - 1) 0 ≠ t - 1 := fun hpos => by
                                     first
                                     | (exfalso; omega)
                                     | (have e3 : (IntKind.wrap .i64 (((Sy.rows l).length : Int) - 1)).toNat = (Sy.rows l).length - 1 := by
                                          rw [IntWalk.i64_in _ (by omega)]; omega
                                        rw [e3, e1] at h5
                                        rw [last_eq (by omega)]
                                        exact h5)
                                   obtain ⟨m1, m2⟩ := may_more hm hl31 (by omega) (by omega) hlast
                                   have w := wrong_more m2 m1 d
                                   have g := beg_more m1 m2 d
                                   have u := fun h => utc_more (n := n) hl31 m1 h
                                   simp only [e1, e2, ints_cat, w, iff_self, not_true] at * <;> (
                                     exfalso
                                     by_cases hu : utcE b t (intsOf l) n = 0
                                     · obtain ⟨u1, u2, u3, u4⟩ := u hu
                                       by_cases htd : t ≤ d
                                       · simp only [if_pos htd] at g
                                         omega
                                       · simp only [if_neg htd] at g
                                         omega
                                     · by_cases htd : t ≤ d
                                       · simp only [if_pos htd] at g
                                         omega
                                       · simp only [if_neg htd] at g
                                         omega))
                                | skip
                              ·
                                first
                                | exact True.intro
                                | rfl
                                | (have hm : mayL b t (intsOf l) = true := by
                                     rcases mayI_spec b t (intsOf l) with ⟨a, _⟩ | ⟨_, a, _⟩
                                     · exfalso; omega
                                     · exact a
                                   have hs := mayL_spec hm
                                   have hlen := ints_rows l
                                   have e1 : IntKind.wrap .i64 (t - 1) = t - 1 := IntWalk.i64_in _ (by omega)
                                   have e2 : IntKind.wrap .i64 (t + 500) = t + 500 := IntWalk.i64_in _ (by omega)
                                   have hl31 : (intsOf l).length ≤ 31 := by omega
                                   have hlast : 0 < (intsOf l).length → (intsOf l).getD ((intsOf l).length - 1) 0 ≠ t - 1 := fun hpos => by
                                     first
                                     | (exfalso; omega)
                                     | (have e3 : (IntKind.wrap .i64 (((Sy.rows l).length : Int) - 1)).toNat = (Sy.rows l).length - 1 := by
                                          rw [IntWalk.i64_in _ (by omega)]; omega
                                        rw [e3, e1] at h5
                                        rw [last_eq (by omega)]
                                        exact h5)
                                   obtain ⟨m1, m2⟩ := may_more hm hl31 (by omega) (by omega) hlast
                                   have w := wrong_more m2 m1 d
                                   have g := beg_more m1 m2 d
                                   have u := fun h => utc_more (n := n) hl31 m1 h
                                   simp only [e1, e2, ints_cat, w, iff_self, not_true] at * <;> (
                                     exfalso
                                     by_cases hu : utcE b t (intsOf l) n = 0
                                     · obtain ⟨u1, u2, u3, u4⟩ := u hu
                                       by_cases htd : t ≤ d
                                       · simp only [if_pos htd] at g
                                         omega
                                       · simp only [if_neg htd] at g
                                         omega
                                     · by_cases htd : t ≤ d
                                       · simp only [if_pos htd] at g
                                         omega
                                       · simp only [if_neg htd] at g
                                         omega))
                                | skip
        ·
          refine ⟨fun h26 => ?_, fun h26 => ?_⟩
          ·
            first
            | exact True.intro
            | rfl
            | (have hm : mayL b t (intsOf l) = true := by
                 rcases mayI_spec b t (intsOf l) with ⟨a, _⟩ | ⟨_, a, _⟩
                 · exfalso; omega
                 · exact a
               have hs := mayL_spec hm
               have hlen := ints_rows l
               have e1 : IntKind.wrap .i64 (t - 1) = t - 1 := IntWalk.i64_in _ (by omega)
               have e2 : IntKind.wrap .i64 (t + 500) = t + 500 := IntWalk.i64_in _ (by omega)
               have hl31 : (intsOf l).length ≤ 31 := by omega
               have hlast : 0 < (intsOf l).length → (intsOf l).getD ((intsOf l).length - 1) 0 ≠ t - 1 := fun hpos => by
                 first
                 | (exfalso; omega)
                 | (have e3 : (IntKind.wrap .i64 (((Sy.rows l).length : Int) - 1)).toNat = (Sy.rows l).length - 1 := by
                      rw [IntWalk.i64_in _ (by omega)]; omega
                    rw [e3, e1] at h5
                    rw [last_eq (by omega)]
                    exact h5)
               obtain ⟨m1, m2⟩ := may_more hm hl31 (by omega) (by omega) hlast
               have w := wrong_more m2 m1 d
               have g := beg_more m1 m2 d
               have u := fun h => utc_more (n := n) hl31 m1 h
               simp only [e1, e2, ints_cat, w, iff_self, not_true] at * <;> (
                 exfalso
                 by_cases hu : utcE b t (intsOf l) n = 0
                 · obtain ⟨u1, u2, u3, u4⟩ := u hu
                   by_cases htd : t ≤ d
                   · simp only [if_pos htd] at g
                     omega
                   · simp only [if_neg htd] at g
                     omega
                 · by_cases htd : t ≤ d
                   · simp only [if_pos htd] at g
                     omega
                   · simp only [if_neg htd] at g
                     omega))
            | skip
          ·
            refine ⟨?_, fun h27 => ?_⟩
            ·
              first
              | omega
              | exact True.intro
            ·
              refine ⟨?_, fun h28 => ?_⟩
              ·
                first
                | omega
                | exact True.intro
              ·
                refine ⟨?_, fun h29 => ?_⟩
                ·
                  first
                  | omega
                  | exact True.intro
                ·
                  refine ⟨?_, fun h30 => ?_⟩
                  ·
                    first
                    | omega
                    | exact True.intro
                  ·
                    refine ⟨fun h31 => ?_, fun h31 => ?_⟩
                    ·
                      have wf10 := wr_i64 (t + 500)
                      have wf11 := wr_i64 (t - 1)
                      refine ⟨fun h32 => ?_, fun h32 => ?_⟩
                      ·
                        first
                        | exact True.intro
                        | rfl
                        | (have hm : mayL b t (intsOf l) = true := by
                             rcases mayI_spec b t (intsOf l) with ⟨a, _⟩ | ⟨_, a, _⟩
                             · exfalso; omega
                             · exact a
                           have hs := mayL_spec hm
                           have hlen := ints_rows l
                           have e1 : IntKind.wrap .i64 (t - 1) = t - 1 := IntWalk.i64_in _ (by omega)
                           have e2 : IntKind.wrap .i64 (t + 500) = t + 500 := IntWalk.i64_in _ (by omega)
                           have hl31 : (intsOf l).length ≤ 31 := by omega
                           have hlast : 0 < (intsOf l).length → (intsOf l).getD ((intsOf l).length - 1) 0 ≠ t - 1 := fun hpos => by
                             first
                             | (exfalso; omega)
                             | (have e3 : (IntKind.wrap .i64 (((Sy.rows l).length : Int) - 1)).toNat = (Sy.rows l).length - 1 := by
                                  rw [IntWalk.i64_in _ (by omega)]; omega
                                rw [e3, e1] at h5
                                rw [last_eq (by omega)]
                                exact h5)
                           obtain ⟨m1, m2⟩ := may_more hm hl31 (by omega) (by omega) hlast
                           have w := wrong_more m2 m1 d
                           have g := beg_more m1 m2 d
                           have u := fun h => utc_more (n := n) hl31 m1 h
                           simp only [e1, e2, ints_cat, w, iff_self, not_true] at * <;> (
                             exfalso
                             by_cases hu : utcE b t (intsOf l) n = 0
                             · obtain ⟨u1, u2, u3, u4⟩ := u hu
                               by_cases htd : t ≤ d
                               · simp only [if_pos htd] at g
                                 omega
                               · simp only [if_neg htd] at g
                                 omega
                             · by_cases htd : t ≤ d
                               · simp only [if_pos htd] at g
                                 omega
                               · simp only [if_neg htd] at g
                                 omega))
                        | skip
                      ·
                        try simp only [hw11]
                        try simp only [hw10]
                        refine ⟨fun h33 => ?_, fun h33 => ?_⟩
                        ·
                          first
                          | exact True.intro
                          | rfl
                          | (have hm : mayL b t (intsOf l) = true := by
                               rcases mayI_spec b t (intsOf l) with ⟨a, _⟩ | ⟨_, a, _⟩
                               · exfalso; omega
                               · exact a
                             have hs := mayL_spec hm
                             have hlen := ints_rows l
                             have e1 : IntKind.wrap .i64 (t - 1) = t - 1 := IntWalk.i64_in _ (by omega)
                             have e2 : IntKind.wrap .i64 (t + 500) = t + 500 := IntWalk.i64_in _ (by omega)
                             have hl31 : (intsOf l).length ≤ 31 := by omega
                             have hlast : 0 < (intsOf l).length → (intsOf l).getD ((intsOf l).length - 1) 0 ≠ t - 1 := fun hpos => by
                               first
                               | (exfalso; omega)
                               | (have e3 : (IntKind.wrap .i64 (((Sy.rows l).length : Int) - 1)).toNat = (Sy.rows l).length - 1 := by
                                    rw [IntWalk.i64_in _ (by omega)]; omega
                                  rw [e3, e1] at h5
                                  rw [last_eq (by omega)]
                                  exact h5)
                             obtain ⟨m1, m2⟩ := may_more hm hl31 (by omega) (by omega) hlast
                             have w := wrong_more m2 m1 d
                             have g := beg_more m1 m2 d
                             have u := fun h => utc_more (n := n) hl31 m1 h
                             simp only [e1, e2, ints_cat, w, iff_self, not_true] at * <;> (
                               exfalso
                               by_cases hu : utcE b t (intsOf l) n = 0
                               · obtain ⟨u1, u2, u3, u4⟩ := u hu
                                 by_cases htd : t ≤ d
                                 · simp only [if_pos htd] at g
                                   omega
                                 · simp only [if_neg htd] at g
                                   omega
                               · by_cases htd : t ≤ d
                                 · simp only [if_pos htd] at g
                                   omega
                                 · simp only [if_neg htd] at g
                                   omega))
                          | skip
                        ·
                          try simp only [hw11]
                          try simp only [hw10]
                          refine ⟨fun h34 => ?_, fun h34 => ?_⟩
                          ·
                            first
                            | exact True.intro
                            | rfl
                            | (have hm : mayL b t (intsOf l) = true := by
                                 rcases mayI_spec b t (intsOf l) with ⟨a, _⟩ | ⟨_, a, _⟩
                                 · exfalso; omega
                                 · exact a
                               have hs := mayL_spec hm
                               have hlen := ints_rows l
                               have e1 : IntKind.wrap .i64 (t - 1) = t - 1 := IntWalk.i64_in _ (by omega)
                               have e2 : IntKind.wrap .i64 (t + 500) = t + 500 := IntWalk.i64_in _ (by omega)
                               have hl31 : (intsOf l).length ≤ 31 := by omega
                               have hlast : 0 < (intsOf l).length → (intsOf l).getD ((intsOf l).length - 1) 0 ≠ t - 1 := fun hpos => by
                                 first
                                 | (exfalso; omega)
                                 | (have e3 : (IntKind.wrap .i64 (((Sy.rows l).length : Int) - 1)).toNat = (Sy.rows l).length - 1 := by
                                      rw [IntWalk.i64_in _ (by omega)]; omega
                                    rw [e3, e1] at h5
                                    rw [last_eq (by omega)]
                                    exact h5)
                               obtain ⟨m1, m2⟩ := may_more hm hl31 (by omega) (by omega) hlast
                               have w := wrong_more m2 m1 d
                               have g := beg_more m1 m2 d
                               have u := fun h => utc_more (n := n) hl31 m1 h
                               simp only [e1, e2, ints_cat, w, iff_self, not_true] at * <;> (
                                 exfalso
                                 by_cases hu : utcE b t (intsOf l) n = 0
                                 · obtain ⟨u1, u2, u3, u4⟩ := u hu
                                   by_cases htd : t ≤ d
                                   · simp only [if_pos htd] at g
                                     omega
                                   · simp only [if_neg htd] at g
                                     omega
                                 · by_cases htd : t ≤ d
                                   · simp only [if_pos htd] at g
                                     omega
                                   · simp only [if_neg htd] at g
                                     omega))
                            | skip
                          ·
                            try simp only [hw11]
                            try simp only [hw10]
                            refine ⟨fun h35 => ?_, fun h35 => ?_⟩
                            ·
                              refine ⟨fun h36 => ?_, fun h36 => ?_⟩
                              ·
                                have wf12 := wr_i64 ((begI b (IntKind.wrap .i64 (t + 500)) (intsOf l) d) + 1000000000)
                                try simp only [hw11]
                                try simp only [hw10]
                                refine ⟨fun h37 => ?_, fun h37 => ?_⟩
                                ·
                                  first
                                  | exact True.intro
                                  | rfl
                                  | (have hm : mayL b t (intsOf l) = true := by
                                       rcases mayI_spec b t (intsOf l) with ⟨a, _⟩ | ⟨_, a, _⟩
                                       · exfalso; omega
                                       · exact a
                                     have hs := mayL_spec hm
                                     have hlen := ints_rows l
                                     have e1 : IntKind.wrap .i64 (t - 1) = t - 1 := IntWalk.i64_in _ (by omega)
                                     have e2 : IntKind.wrap .i64 (t + 500) = t + 500 := IntWalk.i64_in _ (by omega)
                                     have hl31 : (intsOf l).length ≤ 31 := by omega
                                     have hlast : 0 < (intsOf l).length → (intsOf l).getD ((intsOf l).length - 1) 0 ≠ t - 1 := fun hpos => by
                                       first
                                       | (exfalso; omega)
                                       | (have e3 : (IntKind.wrap .i64 (((Sy.rows l).length : Int) - 1)).toNat = (Sy.rows l).length - 1 := by
                                            rw [IntWalk.i64_in _ (by omega)]; omega
                                          rw [e3, e1] at h5
                                          rw [last_eq (by omega)]
                                          exact h5)
                                     obtain ⟨m1, m2⟩ := may_more hm hl31 (by omega) (by omega) hlast
                                     have w := wrong_more m2 m1 d
                                     have g := beg_more m1 m2 d
                                     have u := fun h => utc_more (n := n) hl31 m1 h
                                     simp only [e1, e2, ints_cat, w, iff_self, not_true] at * <;> (
                                       exfalso
                                       by_cases hu : utcE b t (intsOf l) n = 0
                                       · obtain ⟨u1, u2, u3, u4⟩ := u hu
                                         by_cases htd : t ≤ d
                                         · simp only [if_pos htd] at g
                                           omega
                                         · simp only [if_neg htd] at g
                                           omega
                                       · by_cases htd : t ≤ d
                                         · simp only [if_pos htd] at g
                                           omega
                                         · simp only [if_neg htd] at g
                                           omega))
                                  | skip
                                ·
                                  first
                                  | exact True.intro
                                  | rfl
                                  | (have hm : mayL b t (intsOf l) = true := by
                                       rcases mayI_spec b t (intsOf l) with ⟨a, _⟩ | ⟨_, a, _⟩
                                       · exfalso; omega
                                       · exact a
                                     have hs := mayL_spec hm
                                     have hlen := ints_rows l
                                     have e1 : IntKind.wrap .i64 (t - 1) = t - 1 := IntWalk.i64_in _ (by omega)
                                     have e2 : IntKind.wrap .i64 (t + 500) = t + 500 := IntWalk.i64_in _ (by omega)
                                     have hl31 : (intsOf l).length ≤ 31 := by omega
                                     have hlast : 0 < (intsOf l).length → (intsOf l).getD ((intsOf l).length - 1) 0 ≠ t - 1 := fun hpos => by
                                       first
                                       | (exfalso; omega)
                                       | (have e3 : (IntKind.wrap .i64 (((Sy.rows l).length : Int) - 1)).toNat = (Sy.rows l).length - 1 := by
                                            rw [IntWalk.i64_in _ (by omega)]; omega
                                          rw [e3, e1] at h5
                                          rw [last_eq (by omega)]
                                          exact h5)
                                     obtain ⟨m1, m2⟩ := may_more hm hl31 (by omega) (by omega) hlast
                                     have w := wrong_more m2 m1 d
                                     have g := beg_more m1 m2 d
                                     have u := fun h => utc_more (n := n) hl31 m1 h
                                     simp only [e1, e2, ints_cat, w, iff_self, not_true] at * <;> (
                                       exfalso
                                       by_cases hu : utcE b t (intsOf l) n = 0
                                       · obtain ⟨u1, u2, u3, u4⟩ := u hu
                                         by_cases htd : t ≤ d
                                         · simp only [if_pos htd] at g
                                           omega
                                         · simp only [if_neg htd] at g
                                           omega
                                       · by_cases htd : t ≤ d
                                         · simp only [if_pos htd] at g
                                           omega
                                         · simp only [if_neg htd] at g
                                           omega))
                                  | skip
                              ·
                                have wf13 := wr_i64 ((begI b (IntKind.wrap .i64 (t + 500)) (intsOf l) d) + 0)
                                try simp only [hw11]
                                try simp only [hw10]
                                refine ⟨fun h38 => ?_, fun h38 => ?_⟩
                                ·
                                  first
                                  | exact True.intro
                                  | rfl
                                  | (have hm : mayL b t (intsOf l) = true := by
                                       rcases mayI_spec b t (intsOf l) with ⟨a, _⟩ | ⟨_, a, _⟩
                                       · exfalso; omega
                                       · exact a
                                     have hs := mayL_spec hm
                                     have hlen := ints_rows l
                                     have e1 : IntKind.wrap .i64 (t - 1) = t - 1 := IntWalk.i64_in _ (by omega)
                                     have e2 : IntKind.wrap .i64 (t + 500) = t + 500 := IntWalk.i64_in _ (by omega)
                                     have hl31 : (intsOf l).length ≤ 31 := by omega
                                     have hlast : 0 < (intsOf l).length → (intsOf l).getD ((intsOf l).length - 1) 0 ≠ t - 1 := fun hpos => by
                                       first
                                       | (exfalso; omega)
                                       | (have e3 : (IntKind.wrap .i64 (((Sy.rows l).length : Int) - 1)).toNat = (Sy.rows l).length - 1 := by
                                            rw [IntWalk.i64_in _ (by omega)]; omega
                                          rw [e3, e1] at h5
                                          rw [last_eq (by omega)]
                                          exact h5)
                                     obtain ⟨m1, m2⟩ := may_more hm hl31 (by omega) (by omega) hlast
                                     have w := wrong_more m2 m1 d
                                     have g := beg_more m1 m2 d
                                     have u := fun h => utc_more (n := n) hl31 m1 h
                                     simp only [e1, e2, ints_cat, w, iff_self, not_true] at * <;> (
                                       exfalso
                                       by_cases hu : utcE b t (intsOf l) n = 0
                                       · obtain ⟨u1, u2, u3, u4⟩ := u hu
                                         by_cases htd : t ≤ d
                                         · simp only [if_pos htd] at g
                                           omega
                                         · simp only [if_neg htd] at g
                                           omega
                                       · by_cases htd : t ≤ d
                                         · simp only [if_pos htd] at g
                                           omega
                                         · simp only [if_neg htd] at g
                                           omega))
                                  | skip
                                ·
                                  first
                                  | exact True.intro
                                  | rfl
                                  | (have hm : mayL b t (intsOf l) = true := by
                                       rcases mayI_spec b t (intsOf l) with ⟨a, _⟩ | ⟨_, a, _⟩
                                       · exfalso; omega
                                       · exact a
                                     have hs := mayL_spec hm
                                     have hlen := ints_rows l
                                     have e1 : IntKind.wrap .i64 (t - 1) = t - 1 := IntWalk.i64_in _ (by omega)
                                     have e2 : IntKind.wrap .i64 (t + 500) = t + 500 := IntWalk.i64_in _ (by omega)
                                     have hl31 : (intsOf l).length ≤ 31 := by omega
                                     have hlast : 0 < (intsOf l).length → (intsOf l).getD ((intsOf l).length - 1) 0 ≠ t - 1 := fun hpos => by
                                       first
                                       | (exfalso; omega)
                                       | (have e3 : (IntKind.wrap .i64 (((Sy.rows l).length : Int) - 1)).toNat = (Sy.rows l).length - 1 := by
                                            rw [IntWalk.i64_in _ (by omega)]; omega
                                          rw [e3, e1] at h5
                                          rw [last_eq (by omega)]
                                          exact h5)
                                     obtain ⟨m1, m2⟩ := may_more hm hl31 (by omega) (by omega) hlast
                                     have w := wrong_more m2 m1 d
                                     have g := beg_more m1 m2 d
                                     have u := fun h => utc_more (n := n) hl31 m1 h
                                     simp only [e1, e2, ints_cat, w, iff_self, not_true] at * <;> (
                                       exfalso
                                       by_cases hu : utcE b t (intsOf l) n = 0
                                       · obtain ⟨u1, u2, u3, u4⟩ := u hu
                                         by_cases htd : t ≤ d
                                         · simp only [if_pos htd] at g
                                           omega
                                         · simp only [if_neg htd] at g
                                           omega
                                       · by_cases htd : t ≤ d
                                         · simp only [if_pos htd] at g
                                           omega
                                         · simp only [if_neg htd] at g
                                           omega))
                                  | skip
                            ·
                              have wf14 := wr_i64 ((begI b (IntKind.wrap .i64 (t + 500)) (intsOf l) d) + 0)
                              try simp only [hw11]
                              try simp only [hw10]
                              refine ⟨fun h39 => ?_, fun h39 => ?_⟩
                              ·
                                first
                                | exact True.intro
                                | rfl
                                | (have hm : mayL b t (intsOf l) = true := by
                                     rcases mayI_spec b t (intsOf l) with ⟨a, _⟩ | ⟨_, a, _⟩
                                     · exfalso; omega
                                     · exact a
                                   have hs := mayL_spec hm
                                   have hlen := ints_rows l
                                   have e1 : IntKind.wrap .i64 (t - 1) = t - 1 := IntWalk.i64_in _ (by omega)
                                   have e2 : IntKind.wrap .i64 (t + 500) = t + 500 := IntWalk.i64_in _ (by omega)
                                   have hl31 : (intsOf l).length ≤ 31 := by omega
                                   have hlast : 0 < (intsOf l).length → (intsOf l).getD ((intsOf l).length - 1) 0 ≠ t - 1 := fun hpos => by
                                     first
                                     | (exfalso; omega)
                                     | (have e3 : (IntKind.wrap .i64 (((Sy.rows l).length : Int) - 1)).toNat = (Sy.rows l).length - 1 := by
                                          rw [IntWalk.i64_in _ (by omega)]; omega
                                        rw [e3, e1] at h5
                                        rw [last_eq (by omega)]
                                        exact h5)
                                   obtain ⟨m1, m2⟩ := may_more hm hl31 (by omega) (by omega) hlast
                                   have w := wrong_more m2 m1 d
                                   have g := beg_more m1 m2 d
                                   have u := fun h => utc_more (n := n) hl31 m1 h
                                   simp only [e1, e2, ints_cat, w, iff_self, not_true] at * <;> (
                                     exfalso
                                     by_cases hu : utcE b t (intsOf l) n = 0
                                     · obtain ⟨u1, u2, u3, u4⟩ := u hu
                                       by_cases htd : t ≤ d
                                       · simp only [if_pos htd] at g
                                         omega
                                       · simp only [if_neg htd] at g
                                         omega
                                     · by_cases htd : t ≤ d
                                       · simp only [if_pos htd] at g
                                         omega
                                       · simp only [if_neg htd] at g
                                         omega))
                                | skip
                              ·
                                first
                                | exact True.intro
                                | rfl
                                | (have hm : mayL b t (intsOf l) = true := by
                                     rcases mayI_spec b t (intsOf l) with ⟨a, _⟩ | ⟨_, a, _⟩
                                     · exfalso; omega
                                     · exact a
                                   have hs := mayL_spec hm
                                   have hlen := ints_rows l
                                   have e1 : IntKind.wrap .i64 (t - 1) = t - 1 := IntWalk.i64_in _ (by omega)
                                   have e2 : IntKind.wrap .i64 (t + 500) = t + 500 := IntWalk.i64_in _ (by omega)
                                   have hl31 : (intsOf l).length ≤ 31 := by omega
                                   have hlast : 0 < (intsOf l).length → (intsOf l).getD ((intsOf l).length - 1) 0 ≠ t - 1 := fun hpos => by
                                     first
                                     | (exfalso; omega)
                                     | (have e3 : (IntKind.wrap .i64 (((Sy.rows l).length : Int) - 1)).toNat = (Sy.rows l).length - 1 := by
                                          rw [IntWalk.i64_in _ (by omega)]; omega
                                        rw [e3, e1] at h5
                                        rw [last_eq (by omega)]
                                        exact h5)
                                   obtain ⟨m1, m2⟩ := may_more hm hl31 (by omega) (by omega) hlast
                                   have w := wrong_more m2 m1 d
                                   have g := beg_more m1 m2 d
                                   have u := fun h => utc_more (n := n) hl31 m1 h
                                   simp only [e1, e2, ints_cat, w, iff_self, not_true] at * <;> (
                                     exfalso
                                     by_cases hu : utcE b t (intsOf l) n = 0
                                     · obtain ⟨u1, u2, u3, u4⟩ := u hu
                                       by_cases htd : t ≤ d
                                       · simp only [if_pos htd] at g
                                         omega
                                       · simp only [if_neg htd] at g
                                         omega
                                     · by_cases htd : t ≤ d
                                       · simp only [if_pos htd] at g
                                         omega
                                       · simp only [if_neg htd] at g
                                         omega))
                                | skip
                    ·
                      have wf15 := wr_i64 (t + 500)
                      have wf16 := wr_i64 (t - 1)
                      refine ⟨fun h40 => ?_, fun h40 => ?_⟩
                      ·
                        first
                        | exact True.intro
                        | rfl
                        | (have hm : mayL b t (intsOf l) = true := by
                             rcases mayI_spec b t (intsOf l) with ⟨a, _⟩ | ⟨_, a, _⟩
                             · exfalso; omega
                             · exact a
                           have hs := mayL_spec hm
                           have hlen := ints_rows l
                           have e1 : IntKind.wrap .i64 (t - 1) = t - 1 := IntWalk.i64_in _ (by omega)
                           have e2 : IntKind.wrap .i64 (t + 500) = t + 500 := IntWalk.i64_in _ (by omega)
                           have hl31 : (intsOf l).length ≤ 31 := by omega
                           have hlast : 0 < (intsOf l).length → (intsOf l).getD ((intsOf l).length - 1) 0 ≠ t - 1 := fun hpos => by
                             first
                             | (exfalso; omega)
                             | (have e3 : (IntKind.wrap .i64 (((Sy.rows l).length : Int) - 1)).toNat = (Sy.rows l).length - 1 := by
                                  rw [IntWalk.i64_in _ (by omega)]; omega
                                rw [e3, e1] at h5
                                rw [last_eq (by omega)]
                                exact h5)
                           obtain ⟨m1, m2⟩ := may_more hm hl31 (by omega) (by omega) hlast
                           have w := wrong_more m2 m1 d
                           have g := beg_more m1 m2 d
                           have u := fun h => utc_more (n := n) hl31 m1 h
                           simp only [e1, e2, ints_cat, w, iff_self, not_true] at * <;> (
                             exfalso
                             by_cases hu : utcE b t (intsOf l) n = 0
                             · obtain ⟨u1, u2, u3, u4⟩ := u hu
                               by_cases htd : t ≤ d
                               · simp only [if_pos htd] at g
                                 omega
                               · simp only [if_neg htd] at g
                                 omega
                             · by_cases htd : t ≤ d
                               · simp only [if_pos htd] at g
                                 omega
                               · simp only [if_neg htd] at g
                                 omega))
                        | skip
                      ·
                        try simp only [hw16]
                        try simp only [hw15]
                        refine ⟨fun h41 => ?_, fun h41 => ?_⟩
                        ·
                          refine ⟨fun h42 => ?_, fun h42 => ?_⟩
                          ·
                            have wf17 := wr_i64 ((begI b (IntKind.wrap .i64 (t + 500)) (intsOf l) d) + 1000000000)
                            try simp only [hw16]
                            try simp only [hw15]
                            refine ⟨fun h43 => ?_, fun h43 => ?_⟩
                            ·
                              first
                              | exact True.intro
                              | rfl
                              | (have hm : mayL b t (intsOf l) = true := by
                                   rcases mayI_spec b t (intsOf l) with ⟨a, _⟩ | ⟨_, a, _⟩
                                   · exfalso; omega
                                   · exact a
                                 have hs := mayL_spec hm
                                 have hlen := ints_rows l
                                 have e1 : IntKind.wrap .i64 (t - 1) = t - 1 := IntWalk.i64_in _ (by omega)
                                 have e2 : IntKind.wrap .i64 (t + 500) = t + 500 := IntWalk.i64_in _ (by omega)
                                 have hl31 : (intsOf l).length ≤ 31 := by omega
                                 have hlast : 0 < (intsOf l).length → (intsOf l).getD ((intsOf l).length - 1) 0 ≠ t - 1 := fun hpos => by
                                   first
                                   | (exfalso; omega)
                                   | (have e3 : (IntKind.wrap .i64 (((Sy.rows l).length : Int) - 1)).toNat = (Sy.rows l).length - 1 := by
                                        rw [IntWalk.i64_in _ (by omega)]; omega
                                      rw [e3, e1] at h5
                                      rw [last_eq (by omega)]
                                      exact h5)
                                 obtain ⟨m1, m2⟩ := may_more hm hl31 (by omega) (by omega) hlast
                                 have w := wrong_more m2 m1 d
                                 have g := beg_more m1 m2 d
                                 have u := fun h => utc_more (n := n) hl31 m1 h
                                 simp only [e1, e2, ints_cat, w, iff_self, not_true] at * <;> (
                                   exfalso
                                   by_cases hu : utcE b t (intsOf l) n = 0
                                   · obtain ⟨u1, u2, u3, u4⟩ := u hu
                                     by_cases htd : t ≤ d
                                     · simp only [if_pos htd] at g
                                       omega
                                     · simp only [if_neg htd] at g
                                       omega
                                   · by_cases htd : t ≤ d
                                     · simp only [if_pos htd] at g
                                       omega
                                     · simp only [if_neg htd] at g
                                       omega))
                              | skip
                            ·
                              first
                              | exact True.intro
                              | rfl
                              | (have hm : mayL b t (intsOf l) = true := by
                                   rcases mayI_spec b t (intsOf l) with ⟨a, _⟩ | ⟨_, a, _⟩
                                   · exfalso; omega
                                   · exact a
                                 have hs := mayL_spec hm
                                 have hlen := ints_rows l
                                 have e1 : IntKind.wrap .i64 (t - 1) = t - 1 := IntWalk.i64_in _ (by omega)
                                 have e2 : IntKind.wrap .i64 (t + 500) = t + 500 := IntWalk.i64_in _ (by omega)
                                 have hl31 : (intsOf l).length ≤ 31 := by omega
                                 have hlast : 0 < (intsOf l).length → (intsOf l).getD ((intsOf l).length - 1) 0 ≠ t - 1 := fun hpos => by
                                   first
                                   | (exfalso; omega)
                                   | (have e3 : (IntKind.wrap .i64 (((Sy.rows l).length : Int) - 1)).toNat = (Sy.rows l).length - 1 := by
                                        rw [IntWalk.i64_in _ (by omega)]; omega
                                      rw [e3, e1] at h5
                                      rw [last_eq (by omega)]
                                      exact h5)
                                 obtain ⟨m1, m2⟩ := may_more hm hl31 (by omega) (by omega) hlast
                                 have w := wrong_more m2 m1 d
                                 have g := beg_more m1 m2 d
                                 have u := fun h => utc_more (n := n) hl31 m1 h
                                 simp only [e1, e2, ints_cat, w, iff_self, not_true] at * <;> (
                                   exfalso
                                   by_cases hu : utcE b t (intsOf l) n = 0
                                   · obtain ⟨u1, u2, u3, u4⟩ := u hu
                                     by_cases htd : t ≤ d
                                     · simp only [if_pos htd] at g
                                       omega
                                     · simp only [if_neg htd] at g
                                       omega
                                   · by_cases htd : t ≤ d
                                     · simp only [if_pos htd] at g
                                       omega
                                     · simp only [if_neg htd] at g
                                       omega))
                              | skip
                          ·
                            have wf18 := wr_i64 ((begI b (IntKind.wrap .i64 (t + 500)) (intsOf l) d) + 0)
                            try simp only [hw16]
                            try simp only [hw15]
                            refine ⟨fun h44 => ?_, fun h44 => ?_⟩
                            ·
                              first
                              | exact True.intro
                              | rfl
                              | (have hm : mayL b t (intsOf l) = true := by
                                   rcases mayI_spec b t (intsOf l) with ⟨a, _⟩ | ⟨_, a, _⟩
                                   · exfalso; omega
                                   · exact a
                                 have hs := mayL_spec hm
                                 have hlen := ints_rows l
                                 have e1 : IntKind.wrap .i64 (t - 1) = t - 1 := IntWalk.i64_in _ (by omega)
                                 have e2 : IntKind.wrap .i64 (t + 500) = t + 500 := IntWalk.i64_in _ (by omega)
                                 have hl31 : (intsOf l).length ≤ 31 := by omega
                                 have hlast : 0 < (intsOf l).length → (intsOf l).getD ((intsOf l).length - 1) 0 ≠ t - 1 := fun hpos => by
                                   first
                                   | (exfalso; omega)
                                   | (have e3 : (IntKind.wrap .i64 (((Sy.rows l).length : Int) - 1)).toNat = (Sy.rows l).length - 1 := by
                                        rw [IntWalk.i64_in _ (by omega)]; omega
                                      rw [e3, e1] at h5
                                      rw [last_eq (by omega)]
                                      exact h5)
                                 obtain ⟨m1, m2⟩ := may_more hm hl31 (by omega) (by omega) hlast
                                 have w := wrong_more m2 m1 d
                                 have g := beg_more m1 m2 d
                                 have u := fun h => utc_more (n := n) hl31 m1 h
                                 simp only [e1, e2, ints_cat, w, iff_self, not_true] at * <;> (
                                   exfalso
                                   by_cases hu : utcE b t (intsOf l) n = 0
                                   · obtain ⟨u1, u2, u3, u4⟩ := u hu
                                     by_cases htd : t ≤ d
                                     · simp only [if_pos htd] at g
                                       omega
                                     · simp only [if_neg htd] at g
                                       omega
                                   · by_cases htd : t ≤ d
                                     · simp only [if_pos htd] at g
                                       omega
                                     · simp only [if_neg htd] at g
                                       omega))
                              | skip
                            ·
                              first
                              | exact True.intro
                              | rfl
                              | (have hm : mayL b t (intsOf l) = true := by
                                   rcases mayI_spec b t (intsOf l) with ⟨a, _⟩ | ⟨_, a, _⟩
                                   · exfalso; omega
                                   · exact a
                                 have hs := mayL_spec hm
                                 have hlen := ints_rows l
                                 have e1 : IntKind.wrap .i64 (t - 1) = t - 1 := IntWalk.i64_in _ (by omega)
                                 have e2 : IntKind.wrap .i64 (t + 500) = t + 500 := IntWalk.i64_in _ (by omega)
                                 have hl31 : (intsOf l).length ≤ 31 := by omega
                                 have hlast : 0 < (intsOf l).length → (intsOf l).getD ((intsOf l).length - 1) 0 ≠ t - 1 := fun hpos => by
                                   first
                                   | (exfalso; omega)
                                   | (have e3 : (IntKind.wrap .i64 (((Sy.rows l).length : Int) - 1)).toNat = (Sy.rows l).length - 1 := by
                                        rw [IntWalk.i64_in _ (by omega)]; omega
                                      rw [e3, e1] at h5
                                      rw [last_eq (by omega)]
                                      exact h5)
                                 obtain ⟨m1, m2⟩ := may_more hm hl31 (by omega) (by omega) hlast
                                 have w := wrong_more m2 m1 d
                                 have g := beg_more m1 m2 d
                                 have u := fun h => utc_more (n := n) hl31 m1 h
                                 simp only [e1, e2, ints_cat, w, iff_self, not_true] at * <;> (
                                   exfalso
                                   by_cases hu : utcE b t (intsOf l) n = 0
                                   · obtain ⟨u1, u2, u3, u4⟩ := u hu
                                     by_cases htd : t ≤ d
                                     · simp only [if_pos htd] at g
                                       omega
                                     · simp only [if_neg htd] at g
                                       omega
                                   · by_cases htd : t ≤ d
                                     · simp only [if_pos htd] at g
                                       omega
                                     · simp only [if_neg htd] at g
                                       omega))
                              | skip
                        ·
                          have wf19 := wr_i64 ((begI b (IntKind.wrap .i64 (t + 500)) (intsOf l) d) + 0)
                          try simp only [hw16]
                          try simp only [hw15]
                          refine ⟨fun h45 => ?_, fun h45 => ?_⟩
                          ·
                            first
                            | exact True.intro
                            | rfl
                            | (have hm : mayL b t (intsOf l) = true := by
                                 rcases mayI_spec b t (intsOf l) with ⟨a, _⟩ | ⟨_, a, _⟩
                                 · exfalso; omega
                                 · exact a
                               have hs := mayL_spec hm
                               have hlen := ints_rows l
                               have e1 : IntKind.wrap .i64 (t - 1) = t - 1 := IntWalk.i64_in _ (by omega)
                               have e2 : IntKind.wrap .i64 (t + 500) = t + 500 := IntWalk.i64_in _ (by omega)
                               have hl31 : (intsOf l).length ≤ 31 := by omega
                               have hlast : 0 < (intsOf l).length → (intsOf l).getD ((intsOf l).length - 1) 0 ≠ t - 1 := fun hpos => by
                                 first
                                 | (exfalso; omega)
                                 | (have e3 : (IntKind.wrap .i64 (((Sy.rows l).length : Int) - 1)).toNat = (Sy.rows l).length - 1 := by
                                      rw [IntWalk.i64_in _ (by omega)]; omega
                                    rw [e3, e1] at h5
                                    rw [last_eq (by omega)]
                                    exact h5)
                               obtain ⟨m1, m2⟩ := may_more hm hl31 (by omega) (by omega) hlast
                               have w := wrong_more m2 m1 d
                               have g := beg_more m1 m2 d
                               have u := fun h => utc_more (n := n) hl31 m1 h
                               simp only [e1, e2, ints_cat, w, iff_self, not_true] at * <;> (
                                 exfalso
                                 by_cases hu : utcE b t (intsOf l) n = 0
                                 · obtain ⟨u1, u2, u3, u4⟩ := u hu
                                   by_cases htd : t ≤ d
                                   · simp only [if_pos htd] at g
                                     omega
                                   · simp only [if_neg htd] at g
                                     omega
                                 · by_cases htd : t ≤ d
                                   · simp only [if_pos htd] at g
                                     omega
                                   · simp only [if_neg htd] at g
                                     omega))
                            | skip
                          ·
                            first
                            | exact True.intro
                            | rfl
                            | (have hm : mayL b t (intsOf l) = true := by
                                 rcases mayI_spec b t (intsOf l) with ⟨a, _⟩ | ⟨_, a, _⟩
                                 · exfalso; omega
                                 · exact a
                               have hs := mayL_spec hm
                               have hlen := ints_rows l
                               have e1 : IntKind.wrap .i64 (t - 1) = t - 1 := IntWalk.i64_in _ (by omega)
                               have e2 : IntKind.wrap .i64 (t + 500) = t + 500 := IntWalk.i64_in _ (by omega)
                               have hl31 : (intsOf l).length ≤ 31 := by omega
                               have hlast : 0 < (intsOf l).length → (intsOf l).getD ((intsOf l).length - 1) 0 ≠ t - 1 := fun hpos => by
                                 first
                                 | (exfalso; omega)
                                 | (have e3 : (IntKind.wrap .i64 (((Sy.rows l).length : Int) - 1)).toNat = (Sy.rows l).length - 1 := by
                                      rw [IntWalk.i64_in _ (by omega)]; omega
                                    rw [e3, e1] at h5
                                    rw [last_eq (by omega)]
                                    exact h5)
                               obtain ⟨m1, m2⟩ := may_more hm hl31 (by omega) (by omega) hlast
                               have w := wrong_more m2 m1 d
                               have g := beg_more m1 m2 d
                               have u := fun h => utc_more (n := n) hl31 m1 h
                               simp only [e1, e2, ints_cat, w, iff_self, not_true] at * <;> (
                                 exfalso
                                 by_cases hu : utcE b t (intsOf l) n = 0
                                 · obtain ⟨u1, u2, u3, u4⟩ := u hu
                                   by_cases htd : t ≤ d
                                   · simp only [if_pos htd] at g
                                     omega
                                   · simp only [if_neg htd] at g
                                     omega
                                 · by_cases htd : t ≤ d
                                   · simp only [if_pos htd] at g
                                     omega
                                   · simp only [if_neg htd] at g
                                     omega))
                            | skip
theorem yg_wMore : yc_wMore.Good Tryd.prog syG (yE [] [] [] []) := good_of_walk (Γ := ⟨[yc_check, yc_begin, yc_utc, yc_sure], syG⟩) (ρ := yE [] [] [] []) sym wMore_w rfl (fun _ _ _ _ => (ok_cons (Con.Good.env yg_check _ _ _ _) (ok_cons (Con.Good.env yg_begin _ _ _ _) (ok_cons (Con.Good.env yg_utc _ _ _ _) (ok_cons (Con.Good.env yg_sure _ _ _ _) ok_nil))))) (fun b t d n l hc hty => wMore_h b t d n l hc hty)
end Go.Proofs.YtehiienjodicpaaDoor
