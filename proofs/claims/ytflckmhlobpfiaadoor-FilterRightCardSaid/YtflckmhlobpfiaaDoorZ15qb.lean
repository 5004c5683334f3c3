import Derived.Test.YtflckmhlobpfiaaDoorSycqb
import Derived.Test.YtflckmhlobpfiaaDoorZ13fqb
import Derived.Test.YtflckmhlobpfiaaDoorSyoqb
/-
  Layer 15 by the second engine: entries, and how one is put.
-/
namespace Go.Proofs.YtflckmhlobpfiaaDoor
open Go.RowKit Go.Extern.Stop Go.Stop Go.Extern Go.Proofs.YtflckmhlobpfiaaDoor.Sy
set_option linter.unusedVariables false
set_option linter.unusedSimpArgs false
/-- the least source that may come next -/
def leastS (l : List Value) : Nat → Int
  | 0 => 0
  | n + 1 => Go.RowKit.intOf (l.getD (n * 4) Go.undef) + 1
def fineE (l : List Value) (k : Nat) : Bool := decide (leastS l k ≤ Go.RowKit.intOf (l.getD (k * 4) Go.undef) ∧ Go.RowKit.intOf (l.getD (k * 4) Go.undef) < 8 ∧ -4611686018427387904 < Go.RowKit.intOf (l.getD (k * 4 + 1) Go.undef) ∧ Go.RowKit.intOf (l.getD (k * 4 + 1) Go.undef) < 4611686018427387904 ∧ Go.RowKit.intOf (l.getD (k * 4 + 2) Go.undef) ≤ Go.RowKit.intOf (l.getD (k * 4 + 3) Go.undef))
theorem fineE_iff {l : List Value} {k : Nat} : fineE l k = true ↔ leastS l k ≤ Go.RowKit.intOf (l.getD (k * 4) Go.undef) ∧ Go.RowKit.intOf (l.getD (k * 4) Go.undef) < 8 ∧ -4611686018427387904 < Go.RowKit.intOf (l.getD (k * 4 + 1) Go.undef) ∧ Go.RowKit.intOf (l.getD (k * 4 + 1) Go.undef) < 4611686018427387904 ∧ Go.RowKit.intOf (l.getD (k * 4 + 2) Go.undef) ≤ Go.RowKit.intOf (l.getD (k * 4 + 3) Go.undef) := decide_eq_true_iff
/-- the first k may be -/
def okF (l : List Value) : Nat → Bool
  | 0 => true
  | k + 1 => okF l k && fineE l k
theorem okF_get {l : List Value} {j : Nat} : ∀ {k : Nat}, okF l k = true → j < k → fineE l j = true
  | 0, _, h => by omega
  | k + 1, hp, h => by
    simp only [okF, Bool.and_eq_true] at hp
    rcases Nat.lt_succ_iff_lt_or_eq.1 h with h1 | rfl
    · exact okF_get hp.1 h1
    · exact hp.2
theorem okF_le {l : List Value} {m : Nat} : ∀ {k : Nat}, okF l k = true → m ≤ k → okF l m = true
  | 0, _, h => by rw [show m = 0 by omega]; rfl
  | k + 1, hp, h => by
    rcases Nat.lt_or_ge k m with h1 | h1
    · rw [show m = k + 1 by omega]; exact hp
    · simp only [okF, Bool.and_eq_true] at hp
      exact okF_le hp.1 h1
theorem least_ge {l : List Value} : ∀ {k : Nat}, okF l k = true → (k : Int) ≤ leastS l k
  | 0, _ => Int.le_refl _
  | k + 1, hp => by
    simp only [okF, Bool.and_eq_true] at hp
    have h1 := least_ge hp.1
    have h2 := fineE_iff.1 hp.2
    show ((k + 1 : Nat) : Int) ≤ Go.RowKit.intOf (l.getD (k * 4) Go.undef) + 1
    omega
theorem okF_8 {l : List Value} : ∀ {k : Nat}, okF l k = true → k ≤ 8
  | 0, _ => by omega
  | k + 1, hp => by
    simp only [okF, Bool.and_eq_true] at hp
    have h1 := least_ge hp.1
    have h2 := fineE_iff.1 hp.2
    omega
def chkF (l : List Value) : Int := if okF l (l.length / 4) = true then 0 else 1
theorem chkF_yes {l : List Value} (h : okF l (l.length / 4) = true) : chkF l = 0 := by rw [chkF, if_pos h]
theorem chkF_no {l : List Value} (h : ¬ okF l (l.length / 4) = true) : chkF l = 1 := by rw [chkF, if_neg h]
/-- the first whose source is not below, or -1 -/
def ixF (l : List Value) (s : Int) : Nat → Int
  | 0 => -1
  | k + 1 => if ixF l s k = -1 then (if s ≤ Go.RowKit.intOf (l.getD (k * 4) Go.undef) then (k : Int) else -1) else ixF l s k
theorem ixF_no {l : List Value} {s : Int} {k : Nat} (h : ixF l s k = -1) (h2 : ¬ s ≤ Go.RowKit.intOf (l.getD (k * 4) Go.undef)) : ixF l s (k + 1) = -1 := by rw [ixF, if_pos h, if_neg h2]
theorem ixF_at {l : List Value} {s : Int} {k : Nat} (hp : ixF l s k = -1) (hb : s ≤ Go.RowKit.intOf (l.getD (k * 4) Go.undef)) : ∀ {N : Nat}, k < N → ixF l s N = k
  | 0, h => by omega
  | N + 1, h => by
    rcases Nat.lt_succ_iff_lt_or_eq.1 h with h1 | rfl
    · have := ixF_at hp hb h1
      rw [ixF, if_neg (by omega), this]
    · rw [ixF, if_pos hp, if_pos hb]
theorem ixF_spec (l : List Value) (s : Int) : ∀ N, (ixF l s N = -1 ∧ ∀ k, k < N → Go.RowKit.intOf (l.getD (k * 4) Go.undef) < s) ∨ (∃ k : Nat, k < N ∧ ixF l s N = k ∧ s ≤ Go.RowKit.intOf (l.getD (k * 4) Go.undef) ∧ ∀ j, j < k → Go.RowKit.intOf (l.getD (j * 4) Go.undef) < s)
  | 0 => .inl ⟨rfl, fun k h => by omega⟩
  | N + 1 => by
    rcases ixF_spec l s N with ⟨h1, h2⟩ | ⟨k, h1, h2, h3, h4⟩
    · by_cases hs : s ≤ Go.RowKit.intOf (l.getD (N * 4) Go.undef)
      · right
        exact ⟨N, by omega, by rw [ixF, if_pos h1, if_pos hs], hs, h2⟩
      · left
        refine ⟨ixF_no h1 hs, fun k hk => ?_⟩
        rcases Nat.lt_succ_iff_lt_or_eq.1 hk with h | rfl
        · exact h2 k h
        · omega
    · right
      exact ⟨k, by omega, by rw [ixF, if_neg (by omega), h2], h3, h4⟩
def inF (l : List Value) (s : Int) : Nat := if ixF l s (l.length / 4) < 0 then l.length / 4 else (ixF l s (l.length / 4)).toNat
def eqF (l : List Value) (s : Int) : Nat := if inF l s < l.length / 4 ∧ Go.RowKit.intOf (l.getD (inF l s * 4) Go.undef) = s then 1 else 0
abbrev ent (a b c d : Int) : List Value := [.int .i64 a, .int .i64 b, .int .i64 c, .int .i64 d]
def putE (l : List Value) (a b c d : Int) : Int := if chkF l = 0 ∧ chkF (ent a b c d) = 0 then 0 else 1
def putV (l : List Value) (a b c d : Int) : List Value := if putE l a b c d = 0 then l.take (inF l a * 4) ++ ent a b c d ++ l.drop ((inF l a + eqF l a) * 4) else []
theorem chk_ent (a b c d : Int) : chkF (ent a b c d) = if 0 ≤ a ∧ a < 8 ∧ -4611686018427387904 < b ∧ b < 4611686018427387904 ∧ c ≤ d then 0 else 1 := by
  have e : okF (ent a b c d) ((ent a b c d).length / 4) = decide (0 ≤ a ∧ a < 8 ∧ -4611686018427387904 < b ∧ b < 4611686018427387904 ∧ c ≤ d) := by
    have e0 : (ent a b c d).length / 4 = 0 + 1 := by simp
    rw [e0]
    simp only [okF, Bool.true_and]
    unfold fineE
    refine Bool.eq_iff_iff.2 ?_
    rw [decide_eq_true_iff, decide_eq_true_iff]
    exact Iff.rfl
  unfold chkF
  rw [e]
  by_cases h : 0 ≤ a ∧ a < 8 ∧ -4611686018427387904 < b ∧ b < 4611686018427387904 ∧ c ≤ d <;> simp [h]
abbrev KE : SK := .cons (.int .i64) (.cons (.int .i64) (.cons (.int .i64) (.cons (.int .i64) .nil)))
theorem typ_row4 {l : Value} (h : typ (.sl KE) l) {k : Nat} (hk : k < (Sy.rows l).length / 4) : (Sy.rows l).getD (k * 4) Go.undef = .int .i64 (Go.RowKit.intOf ((Sy.rows l).getD (k * 4) Go.undef)) ∧ (Sy.rows l).getD (k * 4 + 1) Go.undef = .int .i64 (Go.RowKit.intOf ((Sy.rows l).getD (k * 4 + 1) Go.undef)) ∧ (Sy.rows l).getD (k * 4 + 2) Go.undef = .int .i64 (Go.RowKit.intOf ((Sy.rows l).getD (k * 4 + 2) Go.undef)) ∧ (Sy.rows l).getD (k * 4 + 3) Go.undef = .int .i64 (Go.RowKit.intOf ((Sy.rows l).getD (k * 4 + 3) Go.undef)) := by
  obtain ⟨_, n, h1, h2, h3⟩ := h
  have : n = (Sy.rows l).length / 4 := by rw [h2]; exact (Nat.mul_div_cancel n (by decide)).symm
  obtain ⟨g1, g2, g3, g4, _⟩ := h3 k (by omega)
  exact ⟨g1, g2, g3, g4⟩
theorem spE_spec (a b : Int) : (spE a b = 1 ∧ b < a) ∨ (spE a b = 0 ∧ a ≤ b) := by unfold spE; split <;> omega
theorem okR_ent {a b c d : Int} (h : ((-9223372036854775808 ≤ a ∧ a ≤ 9223372036854775807) ∧ (-9223372036854775808 ≤ b ∧ b ≤ 9223372036854775807) ∧ (-9223372036854775808 ≤ c ∧ c ≤ 9223372036854775807) ∧ -9223372036854775808 ≤ d ∧ d ≤ 9223372036854775807)) : okR (ent a b c d) = true := okR_iff.2 fun x hx => by
  simp only [List.mem_cons, List.not_mem_nil, or_false] at hx
  rcases hx with rfl | rfl | rfl | rfl <;> (intro k n e; cases e; simp [Lit.wf, IntKind.min, IntKind.max, IntKind.signed, IntKind.bits]; omega)
theorem put_no {l : List Value} {a b c d : Int} (h : ¬ (chkF l = 0 ∧ chkF (ent a b c d) = 0)) : putE l a b c d = 1 ∧ putV l a b c d = [] := by
  have hE : putE l a b c d = 1 := by unfold putE; rw [if_neg h]
  exact ⟨hE, by unfold putV; rw [if_neg (by omega)]⟩
theorem put_yes {l : List Value} {a b c d : Int} (h1 : chkF l = 0) (h2 : chkF (ent a b c d) = 0) : putE l a b c d = 0 ∧ putV l a b c d = l.take (inF l a * 4) ++ ent a b c d ++ l.drop ((inF l a + eqF l a) * 4) := by
  have hE : putE l a b c d = 0 := by unfold putE; rw [if_pos ⟨h1, h2⟩]
  exact ⟨hE, by unfold putV; rw [if_pos hE]⟩
theorem chkF_8 {l : List Value} (h : chkF l = 0) : okF l (l.length / 4) = true ∧ l.length / 4 ≤ 8 := by
  have h1 : okF l (l.length / 4) = true := by
    cases hx : okF l (l.length / 4) with
    | true => rfl
    | false => rw [chkF, hx, if_neg (by decide)] at h; omega
  exact ⟨h1, okF_8 h1⟩
theorem ixF_bd (l : List Value) (s : Int) (N : Nat) : ixF l s N = -1 ∨ (0 ≤ ixF l s N ∧ ixF l s N < N) := by
  rcases ixF_spec l s N with ⟨h, _⟩ | ⟨k, h1, h2, _⟩
  · exact .inl h
  · right; omega
theorem rest_eq {l : List Value} {n N : Nat} (h : l.length = N * 4) : List.drop (Int.toNat 1 * 4) (List.take ((l.length - n * 4) / 4 * 4) (List.drop (n * 4) l)) = List.drop ((n + 1) * 4) l := by
  rw [List.take_of_length_le (by rw [List.length_drop]; omega), List.drop_drop]
  congr 1
  have : Int.toNat 1 = 1 := rfl
  omega
theorem getD_drop' {l : List Value} {n k : Nat} {d : Value} : (l.drop n).getD k d = l.getD (n + k) d := by simp [List.getD_eq_getElem?_getD, List.getElem?_drop]
noncomputable def faI : Nat → List Value → Int
  | 16, [.int _ a] => szE a
  | 17, [l, .int _ k] => leastS (rows l) k.toNat
  | 18, [l] => chkF (rows l)
  | 19, [l, .int _ s, .int _ k] => ixF (rows l) s k.toNat
  | 20, [l, .int _ a, .int _ b, .int _ c, .int _ d] => putE (rows l) a b c d
  | i, l => wfI i l
noncomputable def faB : Nat → List Value → Bool
  | 5, [l, .int _ k] => okF (rows l) k.toNat
  | i, l => wfB i l
noncomputable def faV : Nat → List Value → Value
  | 0, [l, .int _ a, .int _ b, .int _ c, .int _ d] => Value.tuple (putV (rows l) a b c d).toArray
  | i, l => wfV i l
noncomputable abbrev faE (iv : List Int) (bv : List Bool) (vv : List Value) (sv : List ByteArray) : Env := { iv := iv, bv := bv, vv := vv, sv := sv, fi := faI, fb := faB, fv := faV, et := 141 }
theorem faup : Agree 16 5 0 (wfE [] [] [] []) (faE [] [] [] []) := ⟨rfl, (by
    intro f hf
    funext l
    show faI f l = wfI f l
    unfold faI
    split <;> first | rfl | omega), (by
    intro f hf
    funext l
    show faB f l = wfB f l
    unfold faB
    split <;> first | rfl | omega), (by
    intro f hf
    funext l
    show faV f l = wfV f l
    unfold faV
    split <;> first | rfl | omega)⟩
theorem fai_of (l : Value) (k1 : IntKind) (n : Int) (k2 : IntKind) (k : Int) : faI 0 [l, .int k1 n, .int k2 k] = ((ofN (rows l) n k.toNat : Nat) : Int) := rfl
theorem fai_arh (l : Value) (k1 : IntKind) (n : Int) (k2 : IntKind) (k : Int) : faI 1 [l, .int k1 n, .int k2 k] = arH (rows l) n k.toNat := rfl
theorem fai_fb (l : Value) (k1 : IntKind) (k : Int) : faI 2 [l, .int k1 k] = fbW (rows l) k.toNat := rfl
theorem fai_se (k1 : IntKind) (a : Int) (k2 : IntKind) (b : Int) : faI 3 [.int k1 a, .int k2 b] = spE a b := rfl
theorem fai_vm (l : Value) (k1 : IntKind) (k : Int) : faI 4 [l, .int k1 k] = (((vo (rows l) ((rows l).length / 2) k.toNat).1 : Nat) : Int) := rfl
theorem fai_vl (l : Value) (k1 : IntKind) (k : Int) : faI 5 [l, .int k1 k] = (vo (rows l) ((rows l).length / 2) k.toNat).2.1 := rfl
theorem fai_vh (l : Value) (k1 : IntKind) (k : Int) : faI 6 [l, .int k1 k] = (vo (rows l) ((rows l).length / 2) k.toNat).2.2 := rfl
theorem fai_vE (l : Value) : faI 7 [l] = voE (rows l) := rfl
theorem fai_vM (l : Value) : faI 8 [l] = (((voR (rows l)).1 : Nat) : Int) := rfl
theorem fai_vL (l : Value) : faI 9 [l] = (voR (rows l)).2.1 := rfl
theorem fai_vH (l : Value) : faI 10 [l] = (voR (rows l)).2.2 := rfl
theorem fai_aa (l : Value) (k1 : IntKind) (k : Int) : faI 11 [l, .int k1 k] = (atS (rows l) ((rows l).length / 2) k.toNat).2 := rfl
theorem fai_mi (k1 : IntKind) (a : Int) (k2 : IntKind) (b : Int) : faI 12 [.int k1 a, .int k2 b] = midM a b := rfl
theorem fai_sa (k1 : IntKind) (a : Int) : faI 13 [.int k1 a] = satE a := rfl
theorem fai_nv (k1 : IntKind) (a : Int) : faI 14 [.int k1 a] = svE a := rfl
theorem fai_ne (k1 : IntKind) (a : Int) : faI 15 [.int k1 a] = erE a := rfl
theorem fai_sz (k1 : IntKind) (a : Int) : faI 16 [.int k1 a] = szE a := rfl
theorem fai_lst (l : Value) (k1 : IntKind) (k : Int) : faI 17 [l, .int k1 k] = leastS (rows l) k.toNat := rfl
theorem fai_chk (l : Value) : faI 18 [l] = chkF (rows l) := rfl
theorem fai_ix (l : Value) (k1 : IntKind) (s : Int) (k2 : IntKind) (k : Int) : faI 19 [l, .int k1 s, .int k2 k] = ixF (rows l) s k.toNat := rfl
theorem fai_pE (l : Value) (k1 : IntKind) (a : Int) (k2 : IntKind) (b : Int) (k3 : IntKind) (c : Int) (k4 : IntKind) (d : Int) : faI 20 [l, .int k1 a, .int k2 b, .int k3 c, .int k4 d] = putE (rows l) a b c d := rfl
theorem fab_pre (l : Value) (k1 : IntKind) (k : Int) : faB 0 [l, .int k1 k] = preW (rows l) k.toNat := rfl
theorem fab_sm (l : Value) (k1 : IntKind) (a : Int) (k2 : IntKind) (b : Int) (k3 : IntKind) (k : Int) : faB 1 [l, .int k1 a, .int k2 b, .int k3 k] = smB (rows l) a b k.toNat := rfl
theorem fab_ai (l : Value) (k1 : IntKind) (k : Int) : faB 2 [l, .int k1 k] = (atS (rows l) ((rows l).length / 2) k.toNat).1 := rfl
theorem fab_tk (x : Value) (y : Value) (k1 : IntKind) (n : Int) : faB 3 [x, y, .int k1 n] = eqV x (tkV y n.toNat) := rfl
theorem fab_okr (l : Value) : faB 4 [l] = okR (rows l) := rfl
theorem fab_okf (l : Value) (k1 : IntKind) (k : Int) : faB 5 [l, .int k1 k] = okF (rows l) k.toNat := rfl
theorem fav_pV (l : Value) (k1 : IntKind) (a : Int) (k2 : IntKind) (b : Int) (k3 : IntKind) (c : Int) (k4 : IntKind) (d : Int) : faV 0 [l, .int k1 a, .int k2 b, .int k3 c, .int k4 d] = Value.tuple (putV (rows l) a b c d).toArray := rfl
def size_tree : Tree :=
 (.br (.b2 .lt (.var 0) (.lit (0)))
 (.need (.b2 .and (.b2 .le (.lit (-9223372036854775808)) (.var 0)) (.b2 .le (.var 0) (.lit (9223372036854775807))))
 (.ret (.int .i64 (.iapp 13 (.cons (.int .i64 (.i2 .sub (.lit (0)) (.var 0))) .nil)))))
 (.ret (.int .i64 (.var 0))))
abbrev fac_size : Con := ⟨126, [(.int .i64 (.var 0))], (.b2 .and (.b2 .le (.lit (-9223372036854775808)) (.var 0)) (.b2 .le (.var 0) (.lit (9223372036854775807)))), (.int .i64 (.iapp 16 (.cons (.int .i64 (.var 0)) .nil))), ⟨1, 0, 0, 0⟩, none⟩
theorem size_w : walk Tryd.prog 141 ⟨[wec_subsat], syG, [], [], []⟩ [] .v fac_size fac_size.n 3000 = some size_tree := by kernel_rfl
theorem size_h (a : Int) (hc : holds (faE [a] [] [] []) (.b2 .and (.b2 .le (.lit (-9223372036854775808)) (.var 0)) (.b2 .le (.var 0) (.lit (9223372036854775807))))) (hty : patsTyp (faE [a] [] [] []) [(.int .i64 (.var 0))]) : size_tree.holds (fun v_ => v_ = denV (faE [a] [] [] []) b0 (.int .i64 (.iapp 16 (.cons (.int .i64 (.var 0)) .nil)))) (faE [a] [] [] []) := by
  simp only [Tree.holds, Sy.holds, AllN, Env.more, faE, List.cons_append, List.nil_append, List.append_nil, denV, denI, denB, denL, I2.den, VOp.den, List.getD_cons_zero, List.getD_cons_succ, Cst.den, syso, syse, syio, sybo, fai_of, fai_arh, fai_fb, fai_se, fai_vm, fai_vl, fai_vh, fai_vE, fai_vM, fai_vL, fai_vH, fai_aa, fai_mi, fai_sa, fai_nv, fai_ne, fai_sz, fai_lst, fai_chk, fai_ix, fai_pE, fab_pre, fab_sm, fab_ai, fab_tk, fab_okr, fab_okf, fav_pV, List.map_nil, List.map_cons, B2.ofInts, B2.denI, B2.denB, if_true, Bool.false_eq_true, if_false, Nat.div_one, Nat.mul_one, Nat.add_zero, holds] at hc
  simp only [patsTyp, patTyp, patTypL, faE, denV, denL, List.getD_cons_zero, List.getD_cons_succ, and_true, true_and] at hty
  unfold size_tree
  simp only [Tree.holds, Sy.holds, AllN, Env.more, faE, List.cons_append, List.nil_append, List.append_nil, denV, denI, denB, denL, I2.den, VOp.den, List.getD_cons_zero, List.getD_cons_succ, Cst.den, syso, syse, syio, sybo, fai_of, fai_arh, fai_fb, fai_se, fai_vm, fai_vl, fai_vh, fai_vE, fai_vM, fai_vL, fai_vH, fai_aa, fai_mi, fai_sa, fai_nv, fai_ne, fai_sz, fai_lst, fai_chk, fai_ix, fai_pE, fab_pre, fab_sm, fab_ai, fab_tk, fab_okr, fab_okf, fav_pV, List.map_nil, List.map_cons, B2.ofInts, B2.denI, B2.denB, if_true, Bool.false_eq_true, if_false, Nat.div_one, Nat.mul_one, Nat.add_zero]
  refine ⟨fun h0 => ?_, fun h0 => ?_⟩
  ·
   refine ⟨?_, fun h1 => ?_⟩
   ·
    omega
   ·
    have hs := szE_spec a ⟨by omega, by omega⟩
    have ht := satE_spec (0 - a)
    first
    | (exfalso; omega)
    | (rw [show szE a = a by omega]; done)
    | (rw [show szE a = satE (0 - a) by omega]; done)
  ·
   have hs := szE_spec a ⟨by omega, by omega⟩
   have ht := satE_spec (0 - a)
   first
   | (exfalso; omega)
   | (rw [show szE a = a by omega]; done)
   | (rw [show szE a = satE (0 - a) by omega]; done)
theorem fag_size : fac_size.Good Tryd.prog syG (faE [] [] [] []) := good_of_walk (Γ := ⟨[wec_subsat], syG, [], [], []⟩) (ρ := faE [] [] [] []) sym size_w rfl (fun _ _ _ _ => (ok_cons (Con.Good.env (Con.Good.up (Con.Good.up weg_subsat wfup rfl) faup rfl) _ _ _ _) ok_nil)) (fun a hc hty => size_h a hc hty)
def fck_tree : Tree :=
 (.loop ⟨2, 0, 0, 0⟩ (.b2 .and (.b2 .le (.lit (0)) (.lit (0))) (.b2 .and (.b2 .le (.lit (0)) (.ofI (.vop (.len 4) (.cons (.opq 0) .nil)))) (.b2 .and (.bapp 5 (.cons (.opq 0) (.cons (.int .i64 (.lit (0))) .nil))) (.b2 .eq (.lit (0)) (.iapp 17 (.cons (.opq 0) (.cons (.int .i64 (.lit (0))) .nil))))))) (.b2 .and (.b2 .le (.lit (0)) (.var 1)) (.b2 .and (.b2 .le (.var 1) (.ofI (.vop (.len 4) (.cons (.opq 0) .nil)))) (.b2 .and (.bapp 5 (.cons (.opq 0) (.cons (.int .i64 (.var 1)) .nil))) (.b2 .eq (.var 0) (.iapp 17 (.cons (.opq 0) (.cons (.int .i64 (.var 1)) .nil)))))))
 (.br (.b2 .lt (.var 1) (.ofI (.vop (.len 4) (.cons (.opq 0) .nil))))
 (.need (.b2 .and (.b2 .le (.lit (0)) (.var 1)) (.b2 .lt (.var 1) (.ofI (.vop (.len 4) (.cons (.opq 0) .nil)))))
 (.br (.b2 .lt (.ofI (.vop (.sel 4 0) (.cons (.opq 0) (.cons (.int .i64 (.var 1)) .nil)))) (.var 0))
 (.ret (.iface 141 (.int .i64 (.lit (1)))))
 (.br (.b2 .le (.lit (8)) (.ofI (.vop (.sel 4 0) (.cons (.opq 0) (.cons (.int .i64 (.var 1)) .nil)))))
 (.ret (.iface 141 (.int .i64 (.lit (1)))))
 (.need (.b2 .and (.b2 .le (.lit (-9223372036854775808)) (.ofI (.vop (.sel 4 1) (.cons (.opq 0) (.cons (.int .i64 (.var 1)) .nil))))) (.b2 .le (.ofI (.vop (.sel 4 1) (.cons (.opq 0) (.cons (.int .i64 (.var 1)) .nil)))) (.lit (9223372036854775807))))
 (.br (.b2 .le (.lit (4611686018427387904)) (.iapp 16 (.cons (.int .i64 (.ofI (.vop (.sel 4 1) (.cons (.opq 0) (.cons (.int .i64 (.var 1)) .nil))))) .nil)))
 (.ret (.iface 141 (.int .i64 (.lit (1)))))
 (.br (.not (.b2 .eq (.iapp 3 (.cons (.int .i64 (.ofI (.vop (.sel 4 2) (.cons (.opq 0) (.cons (.int .i64 (.var 1)) .nil))))) (.cons (.int .i64 (.ofI (.vop (.sel 4 3) (.cons (.opq 0) (.cons (.int .i64 (.var 1)) .nil))))) .nil))) (.lit (0))))
 (.ret (.iface 141 (.int .i64 (.lit (1)))))
 (.back (.b2 .and (.b2 .le (.lit (0)) (.wrap .i64 (.i2 .add (.var 1) (.lit (1))))) (.b2 .and (.b2 .le (.wrap .i64 (.i2 .add (.var 1) (.lit (1)))) (.ofI (.vop (.len 4) (.cons (.opq 0) .nil)))) (.b2 .and (.bapp 5 (.cons (.opq 0) (.cons (.int .i64 (.wrap .i64 (.i2 .add (.var 1) (.lit (1))))) .nil))) (.b2 .eq (.wrap .i64 (.i2 .add (.ofI (.vop (.sel 4 0) (.cons (.opq 0) (.cons (.int .i64 (.var 1)) .nil)))) (.lit (1)))) (.iapp 17 (.cons (.opq 0) (.cons (.int .i64 (.wrap .i64 (.i2 .add (.var 1) (.lit (1))))) .nil))))))) (.i2 .sub (.ofI (.vop (.len 4) (.cons (.opq 0) .nil))) (.wrap .i64 (.i2 .add (.var 1) (.lit (1))))) (.i2 .sub (.ofI (.vop (.len 4) (.cons (.opq 0) .nil))) (.var 1)))))))))
 (.ret (.cst .nilI))))
abbrev fac_fck : Con := ⟨68, [(.agg (.cons (.hs .no (.cons (.int .i64) (.cons (.int .i64) (.cons (.int .i64) (.cons (.int .i64) .nil)))) (.opq 0)) .nil))], (.bapp 4 (.cons (.opq 0) .nil)), (.err (.iapp 18 (.cons (.opq 0) .nil))), ⟨0, 0, 1, 0⟩, none⟩
theorem fck_w : walk Tryd.prog 141 ⟨[fac_size, wc_check], syG, [], [], []⟩ [⟨0, ⟨2, 0, 0, 0⟩, [(3, (.int .i64 (.var 0))), (9, (.int .i64 (.var 1)))], none, (.b2 .and (.b2 .le (.lit (0)) (.var 1)) (.b2 .and (.b2 .le (.var 1) (.ofI (.vop (.len 4) (.cons (.opq 0) .nil)))) (.b2 .and (.bapp 5 (.cons (.opq 0) (.cons (.int .i64 (.var 1)) .nil))) (.b2 .eq (.var 0) (.iapp 17 (.cons (.opq 0) (.cons (.int .i64 (.var 1)) .nil))))))), (.i2 .sub (.ofI (.vop (.len 4) (.cons (.opq 0) .nil))) (.var 1)), 0, []⟩] .v fac_fck fac_fck.n 3000 = some fck_tree := by kernel_rfl
theorem fck_h (l : Value) (hc : holds (faE [] [] [l] []) (.bapp 4 (.cons (.opq 0) .nil))) (hty : patsTyp (faE [] [] [l] []) [(.agg (.cons (.hs .no (.cons (.int .i64) (.cons (.int .i64) (.cons (.int .i64) (.cons (.int .i64) .nil)))) (.opq 0)) .nil))]) : fck_tree.holds (fun v_ => v_ = denV (faE [] [] [l] []) b0 (.err (.iapp 18 (.cons (.opq 0) .nil)))) (faE [] [] [l] []) := by
  simp only [Tree.holds, Sy.holds, AllN, Env.more, faE, List.cons_append, List.nil_append, List.append_nil, denV, denI, denB, denL, I2.den, VOp.den, List.getD_cons_zero, List.getD_cons_succ, Cst.den, syso, syse, syio, sybo, fai_of, fai_arh, fai_fb, fai_se, fai_vm, fai_vl, fai_vh, fai_vE, fai_vM, fai_vL, fai_vH, fai_aa, fai_mi, fai_sa, fai_nv, fai_ne, fai_sz, fai_lst, fai_chk, fai_ix, fai_pE, fab_pre, fab_sm, fab_ai, fab_tk, fab_okr, fab_okf, fav_pV, List.map_nil, List.map_cons, B2.ofInts, B2.denI, B2.denB, if_true, Bool.false_eq_true, if_false, Nat.div_one, Nat.mul_one, Nat.add_zero, holds] at hc
  simp only [patsTyp, patTyp, patTypL, faE, denV, denL, List.getD_cons_zero, List.getD_cons_succ, and_true, true_and] at hty
  have hL_l : typ (.sl (.cons (.int .i64) (.cons (.int .i64) (.cons (.int .i64) (.cons (.int .i64) .nil))))) l := by first | exact hty | exact hty.1 | exact hty.2 | exact hty.1.1 | exact hty.1.2 | exact hty.2.1 | exact hty.2.2 | exact hty.2.2.1 | exact hty.2.2.2
  have hN_l := typ_len (n := 4) hL_l rfl (by omega)
  unfold fck_tree
  simp only [Tree.holds, Sy.holds, AllN, Env.more, faE, List.cons_append, List.nil_append, List.append_nil, denV, denI, denB, denL, I2.den, VOp.den, List.getD_cons_zero, List.getD_cons_succ, Cst.den, syso, syse, syio, sybo, fai_of, fai_arh, fai_fb, fai_se, fai_vm, fai_vl, fai_vh, fai_vE, fai_vM, fai_vL, fai_vH, fai_aa, fai_mi, fai_sa, fai_nv, fai_ne, fai_sz, fai_lst, fai_chk, fai_ix, fai_pE, fab_pre, fab_sm, fab_ai, fab_tk, fab_okr, fab_okf, fav_pV, List.map_nil, List.map_cons, B2.ofInts, B2.denI, B2.denB, if_true, Bool.false_eq_true, if_false, Nat.div_one, Nat.mul_one, Nat.add_zero]
  refine ⟨?_, ?_⟩
  ·
   exact ⟨by omega, by omega, rfl, rfl⟩
  ·
   intro i0a i0b hi0
   refine ⟨fun h0 => ?_, fun h0 => ?_⟩
   ·
    refine ⟨?_, fun h1 => ?_⟩
    ·
     first
     | omega
     | (have ht := typ_row4 hL_l (k := i0b.toNat) (by omega)
        exact okR_at hc (k := i0b.toNat * 4 + 1) (by omega) ht.2.1)
    ·
     refine ⟨fun h2 => ?_, fun h2 => ?_⟩
     ·
      obtain ⟨g1, g2, g3, g4⟩ := hi0
      first
      | (refine errV0 (chkF_yes ?_)
         rw [show (Sy.rows l).length / 4 = i0b.toNat by omega]
         exact g3)
      | (refine errV1 (chkF_no fun hz => ?_)
         have hf := fineE_iff.1 (okF_get hz (j := i0b.toNat) (by omega))
         have ht := typ_row4 hL_l (k := i0b.toNat) (by omega)
         have hra := okR_at hc (k := i0b.toNat * 4 + 1) (by omega) ht.2.1
         have hs := szE_spec (Go.RowKit.intOf ((Sy.rows l).getD (i0b.toNat * 4 + 1) Go.undef)) hra
         have hsp := spE_spec (Go.RowKit.intOf ((Sy.rows l).getD (i0b.toNat * 4 + 2) Go.undef)) (Go.RowKit.intOf ((Sy.rows l).getD (i0b.toNat * 4 + 3) Go.undef))
         clear ht
         omega)
     ·
      refine ⟨fun h3 => ?_, fun h3 => ?_⟩
      ·
       obtain ⟨g1, g2, g3, g4⟩ := hi0
       first
       | (refine errV0 (chkF_yes ?_)
          rw [show (Sy.rows l).length / 4 = i0b.toNat by omega]
          exact g3)
       | (refine errV1 (chkF_no fun hz => ?_)
          have hf := fineE_iff.1 (okF_get hz (j := i0b.toNat) (by omega))
          have ht := typ_row4 hL_l (k := i0b.toNat) (by omega)
          have hra := okR_at hc (k := i0b.toNat * 4 + 1) (by omega) ht.2.1
          have hs := szE_spec (Go.RowKit.intOf ((Sy.rows l).getD (i0b.toNat * 4 + 1) Go.undef)) hra
          have hsp := spE_spec (Go.RowKit.intOf ((Sy.rows l).getD (i0b.toNat * 4 + 2) Go.undef)) (Go.RowKit.intOf ((Sy.rows l).getD (i0b.toNat * 4 + 3) Go.undef))
          clear ht
          omega)
      ·
       refine ⟨?_, fun h4 => ?_⟩
       ·
        first
        | omega
        | (have ht := typ_row4 hL_l (k := i0b.toNat) (by omega)
           exact okR_at hc (k := i0b.toNat * 4 + 1) (by omega) ht.2.1)
       ·
        refine ⟨fun h5 => ?_, fun h5 => ?_⟩
        ·
         obtain ⟨g1, g2, g3, g4⟩ := hi0
         first
         | (refine errV0 (chkF_yes ?_)
            rw [show (Sy.rows l).length / 4 = i0b.toNat by omega]
            exact g3)
         | (refine errV1 (chkF_no fun hz => ?_)
            have hf := fineE_iff.1 (okF_get hz (j := i0b.toNat) (by omega))
            have ht := typ_row4 hL_l (k := i0b.toNat) (by omega)
            have hra := okR_at hc (k := i0b.toNat * 4 + 1) (by omega) ht.2.1
            have hs := szE_spec (Go.RowKit.intOf ((Sy.rows l).getD (i0b.toNat * 4 + 1) Go.undef)) hra
            have hsp := spE_spec (Go.RowKit.intOf ((Sy.rows l).getD (i0b.toNat * 4 + 2) Go.undef)) (Go.RowKit.intOf ((Sy.rows l).getD (i0b.toNat * 4 + 3) Go.undef))
            clear ht
            omega)
        ·
         refine ⟨fun h6 => ?_, fun h6 => ?_⟩
         ·
          obtain ⟨g1, g2, g3, g4⟩ := hi0
          first
          | (refine errV0 (chkF_yes ?_)
             rw [show (Sy.rows l).length / 4 = i0b.toNat by omega]
             exact g3)
          | (refine errV1 (chkF_no fun hz => ?_)
             have hf := fineE_iff.1 (okF_get hz (j := i0b.toNat) (by omega))
             have ht := typ_row4 hL_l (k := i0b.toNat) (by omega)
             have hra := okR_at hc (k := i0b.toNat * 4 + 1) (by omega) ht.2.1
             have hs := szE_spec (Go.RowKit.intOf ((Sy.rows l).getD (i0b.toNat * 4 + 1) Go.undef)) hra
             have hsp := spE_spec (Go.RowKit.intOf ((Sy.rows l).getD (i0b.toNat * 4 + 2) Go.undef)) (Go.RowKit.intOf ((Sy.rows l).getD (i0b.toNat * 4 + 3) Go.undef))
             clear ht
             omega)
         ·
          have wf0 := wr_i64 (i0b + 1)
          have wf1 := wr_i64 ((Go.RowKit.intOf ((rows l).getD (Int.toNat i0b * 4) Go.undef)) + 1)
          refine ⟨?_, ?_⟩
          ·
           obtain ⟨g1, g2, g3, g4⟩ := hi0
           have hgl := least_ge g3
           have ht := typ_row4 hL_l (k := i0b.toNat) (by omega)
           have hra := okR_at hc (k := i0b.toNat * 4 + 1) (by omega) ht.2.1
           have hs := szE_spec (Go.RowKit.intOf ((Sy.rows l).getD (i0b.toNat * 4 + 1) Go.undef)) hra
           have hsp := spE_spec (Go.RowKit.intOf ((Sy.rows l).getD (i0b.toNat * 4 + 2) Go.undef)) (Go.RowKit.intOf ((Sy.rows l).getD (i0b.toNat * 4 + 3) Go.undef))
           clear ht
           have e : IntKind.wrap .i64 (i0b + 1) = i0b + 1 := by omega
           have e2 : IntKind.wrap .i64 (Go.RowKit.intOf ((Sy.rows l).getD (i0b.toNat * 4) Go.undef) + 1) = Go.RowKit.intOf ((Sy.rows l).getD (i0b.toNat * 4) Go.undef) + 1 := by omega
           rw [e, e2, show (i0b + 1).toNat = i0b.toNat + 1 by omega]
           refine ⟨by omega, by omega, ?_, rfl⟩
           simp only [okF, g3, Bool.true_and]
           exact fineE_iff.2 ⟨by omega, by omega, by omega, by omega, by omega⟩
          ·
           omega
   ·
    obtain ⟨g1, g2, g3, g4⟩ := hi0
    first
    | (refine errV0 (chkF_yes ?_)
       rw [show (Sy.rows l).length / 4 = i0b.toNat by omega]
       exact g3)
    | (refine errV1 (chkF_no fun hz => ?_)
       have hf := fineE_iff.1 (okF_get hz (j := i0b.toNat) (by omega))
       have ht := typ_row4 hL_l (k := i0b.toNat) (by omega)
       have hra := okR_at hc (k := i0b.toNat * 4 + 1) (by omega) ht.2.1
       have hs := szE_spec (Go.RowKit.intOf ((Sy.rows l).getD (i0b.toNat * 4 + 1) Go.undef)) hra
       have hsp := spE_spec (Go.RowKit.intOf ((Sy.rows l).getD (i0b.toNat * 4 + 2) Go.undef)) (Go.RowKit.intOf ((Sy.rows l).getD (i0b.toNat * 4 + 3) Go.undef))
       clear ht
       omega)
theorem fag_fck : fac_fck.Good Tryd.prog syG (faE [] [] [] []) := good_of_walk (Γ := ⟨[fac_size, wc_check], syG, [], [], []⟩) (ρ := faE [] [] [] []) sym fck_w rfl (fun _ _ _ _ => (ok_cons (Con.Good.env fag_size _ _ _ _) (ok_cons (Con.Good.env (Con.Good.up (Con.Good.up (Con.Good.up (Con.Good.up (Con.Good.up (Con.Good.up wg_check wbup rfl) wcup rfl) wdup rfl) weup rfl) wfup rfl) faup rfl) _ _ _ _) ok_nil))) (fun l hc hty => fck_h l hc hty)
def pf_tree : Tree :=
 (.ret (.bool (.b2 .le (.var 4) (.var 0))))
abbrev fac_pf : Con := ⟨125, [(.agg (.cons (.int .i64 (.var 0)) (.cons (.int .i64 (.var 1)) (.cons (.int .i64 (.var 2)) (.cons (.int .i64 (.var 3)) .nil))))), (.ep (.cons (.int .i64) (.cons (.int .i64) (.cons (.int .i64) (.cons (.int .i64) .nil)))) (.tup (.cons (.int .i64 (.var 4)) (.cons (.int .i64 (.var 5)) (.cons (.int .i64 (.var 6)) (.cons (.int .i64 (.var 7)) .nil))))) (.lit 0) 0)], (.tt true), (.bool (.b2 .le (.var 4) (.var 0))), ⟨8, 0, 0, 0⟩, none⟩
theorem pf_w : walk Tryd.prog 141 ⟨[], syG, [], [], []⟩ [] .v fac_pf fac_pf.n 3000 = some pf_tree := by kernel_rfl
theorem pf_h (a : Int) (b : Int) (c : Int) (d : Int) (e : Int) (f : Int) (g : Int) (h : Int) (hc : holds (faE [a, b, c, d, e, f, g, h] [] [] []) (.tt true)) (hty : patsTyp (faE [a, b, c, d, e, f, g, h] [] [] []) [(.agg (.cons (.int .i64 (.var 0)) (.cons (.int .i64 (.var 1)) (.cons (.int .i64 (.var 2)) (.cons (.int .i64 (.var 3)) .nil))))), (.ep (.cons (.int .i64) (.cons (.int .i64) (.cons (.int .i64) (.cons (.int .i64) .nil)))) (.tup (.cons (.int .i64 (.var 4)) (.cons (.int .i64 (.var 5)) (.cons (.int .i64 (.var 6)) (.cons (.int .i64 (.var 7)) .nil))))) (.lit 0) 0)]) : pf_tree.holds (fun v_ => v_ = denV (faE [a, b, c, d, e, f, g, h] [] [] []) b0 (.bool (.b2 .le (.var 4) (.var 0)))) (faE [a, b, c, d, e, f, g, h] [] [] []) := by
  simp only [Tree.holds, Sy.holds, AllN, Env.more, faE, List.cons_append, List.nil_append, List.append_nil, denV, denI, denB, denL, I2.den, VOp.den, List.getD_cons_zero, List.getD_cons_succ, Cst.den, syso, syse, syio, sybo, fai_of, fai_arh, fai_fb, fai_se, fai_vm, fai_vl, fai_vh, fai_vE, fai_vM, fai_vL, fai_vH, fai_aa, fai_mi, fai_sa, fai_nv, fai_ne, fai_sz, fai_lst, fai_chk, fai_ix, fai_pE, fab_pre, fab_sm, fab_ai, fab_tk, fab_okr, fab_okf, fav_pV, List.map_nil, List.map_cons, B2.ofInts, B2.denI, B2.denB, if_true, Bool.false_eq_true, if_false, Nat.div_one, Nat.mul_one, Nat.add_zero, holds] at hc
  simp only [patsTyp, patTyp, patTypL, faE, denV, denL, List.getD_cons_zero, List.getD_cons_succ, and_true, true_and] at hty
  unfold pf_tree
  simp only [Tree.holds, Sy.holds, AllN, Env.more, faE, List.cons_append, List.nil_append, List.append_nil, denV, denI, denB, denL, I2.den, VOp.den, List.getD_cons_zero, List.getD_cons_succ, Cst.den, syso, syse, syio, sybo, fai_of, fai_arh, fai_fb, fai_se, fai_vm, fai_vl, fai_vh, fai_vE, fai_vM, fai_vL, fai_vH, fai_aa, fai_mi, fai_sa, fai_nv, fai_ne, fai_sz, fai_lst, fai_chk, fai_ix, fai_pE, fab_pre, fab_sm, fab_ai, fab_tk, fab_okr, fab_okf, fav_pV, List.map_nil, List.map_cons, B2.ofInts, B2.denI, B2.denB, if_true, Bool.false_eq_true, if_false, Nat.div_one, Nat.mul_one, Nat.add_zero]
  all_goals first | omega | rfl | (simp only [Value.tuple.injEq, Value.agg.injEq, Value.int.injEq, Value.bool.injEq, Array.mk.injEq, List.cons.injEq, true_and, and_true]; omega) | (refine congrArg Value.bool (Bool.eq_iff_iff.2 ?_); simp only [beq_iff_eq, decide_eq_true_eq, true_iff, false_iff, Bool.false_eq_true, Bool.not_eq_true', Bool.and_eq_true, Bool.or_eq_true, decide_eq_false_iff_not]; omega)
theorem fag_pf : fac_pf.Good Tryd.prog syG (faE [] [] [] []) := good_of_walk (Γ := ⟨[], syG, [], [], []⟩) (ρ := faE [] [] [] []) sym pf_w rfl (fun _ _ _ _ => ok_nil) (fun a b c d e f g h hc hty => pf_h a b c d e f g h hc hty)
def fix_tree : Tree :=
 (.loop ⟨1, 0, 0, 0⟩ (.b2 .and (.b2 .le (.lit (0)) (.lit (0))) (.b2 .and (.b2 .le (.lit (0)) (.ofI (.vop (.len 4) (.cons (.opq 0) .nil)))) (.b2 .eq (.iapp 19 (.cons (.opq 0) (.cons (.int .i64 (.var 0)) (.cons (.int .i64 (.lit (0))) .nil)))) (.lit (-1))))) (.b2 .and (.b2 .le (.lit (0)) (.var 4)) (.b2 .and (.b2 .le (.var 4) (.ofI (.vop (.len 4) (.cons (.opq 0) .nil)))) (.b2 .eq (.iapp 19 (.cons (.opq 0) (.cons (.int .i64 (.var 0)) (.cons (.int .i64 (.var 4)) .nil)))) (.lit (-1)))))
 (.br (.b2 .lt (.var 4) (.ofI (.vop (.len 4) (.cons (.opq 0) .nil))))
 (.need (.b2 .and (.b2 .le (.lit (0)) (.var 4)) (.b2 .lt (.var 4) (.ofI (.vop (.len 4) (.cons (.opq 0) .nil)))))
 (.br (.b2 .le (.var 0) (.ofI (.vop (.sel 4 0) (.cons (.opq 0) (.cons (.int .i64 (.var 4)) .nil)))))
 (.ret (.int .i64 (.var 4)))
 (.back (.b2 .and (.b2 .le (.lit (0)) (.wrap .i64 (.i2 .add (.var 4) (.lit (1))))) (.b2 .and (.b2 .le (.wrap .i64 (.i2 .add (.var 4) (.lit (1)))) (.ofI (.vop (.len 4) (.cons (.opq 0) .nil)))) (.b2 .eq (.iapp 19 (.cons (.opq 0) (.cons (.int .i64 (.var 0)) (.cons (.int .i64 (.wrap .i64 (.i2 .add (.var 4) (.lit (1))))) .nil)))) (.lit (-1))))) (.i2 .sub (.ofI (.vop (.len 4) (.cons (.opq 0) .nil))) (.wrap .i64 (.i2 .add (.var 4) (.lit (1))))) (.i2 .sub (.ofI (.vop (.len 4) (.cons (.opq 0) .nil))) (.var 4)))))
 (.ret (.int .i64 (.lit (-1))))))
abbrev fac_fix : Con := ⟨124, [(.hs .no (.cons (.int .i64) (.cons (.int .i64) (.cons (.int .i64) (.cons (.int .i64) .nil)))) (.opq 0)), (.clo 125 (.cons (.ep (.cons (.int .i64) (.cons (.int .i64) (.cons (.int .i64) (.cons (.int .i64) .nil)))) (.tup (.cons (.int .i64 (.var 0)) (.cons (.int .i64 (.var 1)) (.cons (.int .i64 (.var 2)) (.cons (.int .i64 (.var 3)) .nil))))) (.lit 0) 0) .nil))], (.tt true), (.int .i64 (.iapp 19 (.cons (.opq 0) (.cons (.int .i64 (.var 0)) (.cons (.int .i64 (.ofI (.vop (.len 4) (.cons (.opq 0) .nil)))) .nil))))), ⟨4, 0, 1, 0⟩, none⟩
theorem fix_w : walk Tryd.prog 141 ⟨[fac_pf], syG, [], [], []⟩ [⟨0, ⟨1, 0, 0, 0⟩, [(8, (.int .i64 (.var 4)))], none, (.b2 .and (.b2 .le (.lit (0)) (.var 4)) (.b2 .and (.b2 .le (.var 4) (.ofI (.vop (.len 4) (.cons (.opq 0) .nil)))) (.b2 .eq (.iapp 19 (.cons (.opq 0) (.cons (.int .i64 (.var 0)) (.cons (.int .i64 (.var 4)) .nil)))) (.lit (-1))))), (.i2 .sub (.ofI (.vop (.len 4) (.cons (.opq 0) .nil))) (.var 4)), 0, []⟩] .v fac_fix fac_fix.n 3000 = some fix_tree := by kernel_rfl
theorem fix_h (a : Int) (b : Int) (c : Int) (d : Int) (l : Value) (hc : holds (faE [a, b, c, d] [] [l] []) (.tt true)) (hty : patsTyp (faE [a, b, c, d] [] [l] []) [(.hs .no (.cons (.int .i64) (.cons (.int .i64) (.cons (.int .i64) (.cons (.int .i64) .nil)))) (.opq 0)), (.clo 125 (.cons (.ep (.cons (.int .i64) (.cons (.int .i64) (.cons (.int .i64) (.cons (.int .i64) .nil)))) (.tup (.cons (.int .i64 (.var 0)) (.cons (.int .i64 (.var 1)) (.cons (.int .i64 (.var 2)) (.cons (.int .i64 (.var 3)) .nil))))) (.lit 0) 0) .nil))]) : fix_tree.holds (fun v_ => v_ = denV (faE [a, b, c, d] [] [l] []) b0 (.int .i64 (.iapp 19 (.cons (.opq 0) (.cons (.int .i64 (.var 0)) (.cons (.int .i64 (.ofI (.vop (.len 4) (.cons (.opq 0) .nil)))) .nil)))))) (faE [a, b, c, d] [] [l] []) := by
  simp only [Tree.holds, Sy.holds, AllN, Env.more, faE, List.cons_append, List.nil_append, List.append_nil, denV, denI, denB, denL, I2.den, VOp.den, List.getD_cons_zero, List.getD_cons_succ, Cst.den, syso, syse, syio, sybo, fai_of, fai_arh, fai_fb, fai_se, fai_vm, fai_vl, fai_vh, fai_vE, fai_vM, fai_vL, fai_vH, fai_aa, fai_mi, fai_sa, fai_nv, fai_ne, fai_sz, fai_lst, fai_chk, fai_ix, fai_pE, fab_pre, fab_sm, fab_ai, fab_tk, fab_okr, fab_okf, fav_pV, List.map_nil, List.map_cons, B2.ofInts, B2.denI, B2.denB, if_true, Bool.false_eq_true, if_false, Nat.div_one, Nat.mul_one, Nat.add_zero, holds] at hc
  simp only [patsTyp, patTyp, patTypL, faE, denV, denL, List.getD_cons_zero, List.getD_cons_succ, and_true, true_and] at hty
  have hL_l : typ (.sl (.cons (.int .i64) (.cons (.int .i64) (.cons (.int .i64) (.cons (.int .i64) .nil))))) l := by first | exact hty | exact hty.1 | exact hty.2 | exact hty.1.1 | exact hty.1.2 | exact hty.2.1 | exact hty.2.2 | exact hty.2.2.1 | exact hty.2.2.2
  have hN_l := typ_len (n := 4) hL_l rfl (by omega)
  unfold fix_tree
  simp only [Tree.holds, Sy.holds, AllN, Env.more, faE, List.cons_append, List.nil_append, List.append_nil, denV, denI, denB, denL, I2.den, VOp.den, List.getD_cons_zero, List.getD_cons_succ, Cst.den, syso, syse, syio, sybo, fai_of, fai_arh, fai_fb, fai_se, fai_vm, fai_vl, fai_vh, fai_vE, fai_vM, fai_vL, fai_vH, fai_aa, fai_mi, fai_sa, fai_nv, fai_ne, fai_sz, fai_lst, fai_chk, fai_ix, fai_pE, fab_pre, fab_sm, fab_ai, fab_tk, fab_okr, fab_okf, fav_pV, List.map_nil, List.map_cons, B2.ofInts, B2.denI, B2.denB, if_true, Bool.false_eq_true, if_false, Nat.div_one, Nat.mul_one, Nat.add_zero]
  refine ⟨?_, ?_⟩
  ·
   exact ⟨by omega, by omega, rfl⟩
  ·
   intro i0a hi0
   refine ⟨fun h0 => ?_, fun h0 => ?_⟩
   ·
    refine ⟨?_, fun h1 => ?_⟩
    ·
     omega
    ·
     refine ⟨fun h2 => ?_, fun h2 => ?_⟩
     ·
      obtain ⟨g1, g2, g3⟩ := hi0
      rw [Int.toNat_natCast]
      first
      | (rw [ixF_at g3 (by omega) (by omega)]
         exact congrArg (Value.int .i64) (by omega))
      | (rw [← show i0a.toNat = (Sy.rows l).length / 4 by omega, g3])
     ·
      have wf0 := wr_i64 (i0a + 1)
      refine ⟨?_, ?_⟩
      ·
       obtain ⟨g1, g2, g3⟩ := hi0
       have e : IntKind.wrap .i64 (i0a + 1) = i0a + 1 := by omega
       rw [e, show (i0a + 1).toNat = i0a.toNat + 1 by omega]
       exact ⟨by omega, by omega, ixF_no g3 (by omega)⟩
      ·
       omega
   ·
    obtain ⟨g1, g2, g3⟩ := hi0
    rw [Int.toNat_natCast]
    first
    | (rw [ixF_at g3 (by omega) (by omega)]
       exact congrArg (Value.int .i64) (by omega))
    | (rw [← show i0a.toNat = (Sy.rows l).length / 4 by omega, g3])
theorem fag_fix : fac_fix.Good Tryd.prog syG (faE [] [] [] []) := good_of_walk (Γ := ⟨[fac_pf], syG, [], [], []⟩) (ρ := faE [] [] [] []) sym fix_w rfl (fun _ _ _ _ => (ok_cons (Con.Good.env fag_pf _ _ _ _) ok_nil)) (fun a b c d l hc hty => fix_h a b c d l hc hty)
def fput_tree : Tree :=
 (.need (.bapp 4 (.cons (.opq 0) .nil))
 (.br (.not (.b2 .eq (.iapp 18 (.cons (.opq 0) .nil)) (.lit (0))))
 (.ret (.tup (.cons (.agg (.cons (.hs .no (.cons (.int .i64) (.cons (.int .i64) (.cons (.int .i64) (.cons (.int .i64) .nil)))) (.tup .nil)) .nil)) (.cons (.iface 141 (.int .i64 (.lit (1)))) .nil))))
 (.need (.bapp 4 (.cons (.tup (.cons (.int .i64 (.var 0)) (.cons (.int .i64 (.var 1)) (.cons (.int .i64 (.var 2)) (.cons (.int .i64 (.var 3)) .nil))))) .nil))
 (.br (.not (.b2 .eq (.iapp 18 (.cons (.tup (.cons (.int .i64 (.var 0)) (.cons (.int .i64 (.var 1)) (.cons (.int .i64 (.var 2)) (.cons (.int .i64 (.var 3)) .nil))))) .nil)) (.lit (0))))
 (.ret (.tup (.cons (.agg (.cons (.hs .no (.cons (.int .i64) (.cons (.int .i64) (.cons (.int .i64) (.cons (.int .i64) .nil)))) (.tup .nil)) .nil)) (.cons (.iface 141 (.int .i64 (.lit (1)))) .nil))))
 (.br (.b2 .lt (.iapp 19 (.cons (.opq 0) (.cons (.int .i64 (.var 0)) (.cons (.int .i64 (.ofI (.vop (.len 4) (.cons (.opq 0) .nil)))) .nil)))) (.lit (0)))
 (.need (.b2 .le (.lit (0)) (.ofI (.vop (.len 4) (.cons (.opq 0) .nil))))
 (.br (.b2 .lt (.lit (0)) (.ofI (.vop (.len 4) (.cons (.vop (.sub 4) (.cons (.opq 0) (.cons (.int .i64 (.ofI (.vop (.len 4) (.cons (.opq 0) .nil)))) (.cons (.int .i64 (.ofI (.vop (.len 4) (.cons (.opq 0) .nil)))) .nil)))) .nil))))
 (.need (.b2 .lt (.lit (0)) (.ofI (.vop (.len 4) (.cons (.vop (.sub 4) (.cons (.opq 0) (.cons (.int .i64 (.ofI (.vop (.len 4) (.cons (.opq 0) .nil)))) (.cons (.int .i64 (.ofI (.vop (.len 4) (.cons (.opq 0) .nil)))) .nil)))) .nil))))
 (.br (.b2 .eq (.ofI (.vop (.sel 4 0) (.cons (.vop (.sub 4) (.cons (.opq 0) (.cons (.int .i64 (.ofI (.vop (.len 4) (.cons (.opq 0) .nil)))) (.cons (.int .i64 (.ofI (.vop (.len 4) (.cons (.opq 0) .nil)))) .nil)))) (.cons (.int .i64 (.lit (0))) .nil)))) (.var 0))
 (.need (.b2 .le (.lit (1)) (.ofI (.vop (.len 4) (.cons (.vop (.sub 4) (.cons (.opq 0) (.cons (.int .i64 (.ofI (.vop (.len 4) (.cons (.opq 0) .nil)))) (.cons (.int .i64 (.ofI (.vop (.len 4) (.cons (.opq 0) .nil)))) .nil)))) .nil))))
 (.need (.b2 .and (.b2 .le (.lit (0)) (.wrap .i64 (.i2 .add (.ofI (.vop (.len 4) (.cons (.opq 0) .nil))) (.lit (1))))) (.b2 .le (.wrap .i64 (.i2 .add (.ofI (.vop (.len 4) (.cons (.opq 0) .nil))) (.lit (1)))) (.lit (4398046511104))))
 (.need (.b2 .le (.lit (0)) (.ofI (.vop (.len 4) (.cons (.opq 0) .nil))))
 (.need (.b2 .le (.i2 .add (.lit (0)) (.ofI (.vop (.len 4) (.cons (.vop (.sub 4) (.cons (.opq 0) (.cons (.int .i64 (.lit (0))) (.cons (.int .i64 (.ofI (.vop (.len 4) (.cons (.opq 0) .nil)))) .nil)))) .nil)))) (.lit (4398046511104)))
 (.need (.b2 .le (.i2 .add (.ofI (.vop (.len 4) (.cons (.vop (.sub 4) (.cons (.opq 0) (.cons (.int .i64 (.lit (0))) (.cons (.int .i64 (.ofI (.vop (.len 4) (.cons (.opq 0) .nil)))) .nil)))) .nil))) (.lit (1))) (.lit (4398046511104)))
 (.need (.b2 .le (.i2 .add (.ofI (.vop (.len 4) (.cons (.vop .cat (.cons (.vop (.sub 4) (.cons (.opq 0) (.cons (.int .i64 (.lit (0))) (.cons (.int .i64 (.ofI (.vop (.len 4) (.cons (.opq 0) .nil)))) .nil)))) (.cons (.tup (.cons (.int .i64 (.var 0)) (.cons (.int .i64 (.var 1)) (.cons (.int .i64 (.var 2)) (.cons (.int .i64 (.var 3)) .nil))))) .nil))) .nil))) (.ofI (.vop (.len 4) (.cons (.vop (.sub 4) (.cons (.vop (.sub 4) (.cons (.opq 0) (.cons (.int .i64 (.ofI (.vop (.len 4) (.cons (.opq 0) .nil)))) (.cons (.int .i64 (.ofI (.vop (.len 4) (.cons (.opq 0) .nil)))) .nil)))) (.cons (.int .i64 (.lit (1))) (.cons (.int .i64 (.ofI (.vop (.len 4) (.cons (.vop (.sub 4) (.cons (.opq 0) (.cons (.int .i64 (.ofI (.vop (.len 4) (.cons (.opq 0) .nil)))) (.cons (.int .i64 (.ofI (.vop (.len 4) (.cons (.opq 0) .nil)))) .nil)))) .nil)))) .nil)))) .nil)))) (.lit (4398046511104)))
 (.ret (.tup (.cons (.agg (.cons (.hs .no (.cons (.int .i64) (.cons (.int .i64) (.cons (.int .i64) (.cons (.int .i64) .nil)))) (.vop .cat (.cons (.vop .cat (.cons (.vop (.sub 4) (.cons (.opq 0) (.cons (.int .i64 (.lit (0))) (.cons (.int .i64 (.ofI (.vop (.len 4) (.cons (.opq 0) .nil)))) .nil)))) (.cons (.tup (.cons (.int .i64 (.var 0)) (.cons (.int .i64 (.var 1)) (.cons (.int .i64 (.var 2)) (.cons (.int .i64 (.var 3)) .nil))))) .nil))) (.cons (.vop (.sub 4) (.cons (.vop (.sub 4) (.cons (.opq 0) (.cons (.int .i64 (.ofI (.vop (.len 4) (.cons (.opq 0) .nil)))) (.cons (.int .i64 (.ofI (.vop (.len 4) (.cons (.opq 0) .nil)))) .nil)))) (.cons (.int .i64 (.lit (1))) (.cons (.int .i64 (.ofI (.vop (.len 4) (.cons (.vop (.sub 4) (.cons (.opq 0) (.cons (.int .i64 (.ofI (.vop (.len 4) (.cons (.opq 0) .nil)))) (.cons (.int .i64 (.ofI (.vop (.len 4) (.cons (.opq 0) .nil)))) .nil)))) .nil)))) .nil)))) .nil)))) .nil)) (.cons (.cst .nilI) .nil))))))))))
 (.need (.b2 .and (.b2 .le (.lit (0)) (.wrap .i64 (.i2 .add (.ofI (.vop (.len 4) (.cons (.opq 0) .nil))) (.lit (1))))) (.b2 .le (.wrap .i64 (.i2 .add (.ofI (.vop (.len 4) (.cons (.opq 0) .nil))) (.lit (1)))) (.lit (4398046511104))))
 (.need (.b2 .le (.lit (0)) (.ofI (.vop (.len 4) (.cons (.opq 0) .nil))))
 (.need (.b2 .le (.i2 .add (.lit (0)) (.ofI (.vop (.len 4) (.cons (.vop (.sub 4) (.cons (.opq 0) (.cons (.int .i64 (.lit (0))) (.cons (.int .i64 (.ofI (.vop (.len 4) (.cons (.opq 0) .nil)))) .nil)))) .nil)))) (.lit (4398046511104)))
 (.need (.b2 .le (.i2 .add (.ofI (.vop (.len 4) (.cons (.vop (.sub 4) (.cons (.opq 0) (.cons (.int .i64 (.lit (0))) (.cons (.int .i64 (.ofI (.vop (.len 4) (.cons (.opq 0) .nil)))) .nil)))) .nil))) (.lit (1))) (.lit (4398046511104)))
 (.need (.b2 .le (.i2 .add (.ofI (.vop (.len 4) (.cons (.vop .cat (.cons (.vop (.sub 4) (.cons (.opq 0) (.cons (.int .i64 (.lit (0))) (.cons (.int .i64 (.ofI (.vop (.len 4) (.cons (.opq 0) .nil)))) .nil)))) (.cons (.tup (.cons (.int .i64 (.var 0)) (.cons (.int .i64 (.var 1)) (.cons (.int .i64 (.var 2)) (.cons (.int .i64 (.var 3)) .nil))))) .nil))) .nil))) (.ofI (.vop (.len 4) (.cons (.vop (.sub 4) (.cons (.opq 0) (.cons (.int .i64 (.ofI (.vop (.len 4) (.cons (.opq 0) .nil)))) (.cons (.int .i64 (.ofI (.vop (.len 4) (.cons (.opq 0) .nil)))) .nil)))) .nil)))) (.lit (4398046511104)))
 (.ret (.tup (.cons (.agg (.cons (.hs .no (.cons (.int .i64) (.cons (.int .i64) (.cons (.int .i64) (.cons (.int .i64) .nil)))) (.vop .cat (.cons (.vop .cat (.cons (.vop (.sub 4) (.cons (.opq 0) (.cons (.int .i64 (.lit (0))) (.cons (.int .i64 (.ofI (.vop (.len 4) (.cons (.opq 0) .nil)))) .nil)))) (.cons (.tup (.cons (.int .i64 (.var 0)) (.cons (.int .i64 (.var 1)) (.cons (.int .i64 (.var 2)) (.cons (.int .i64 (.var 3)) .nil))))) .nil))) (.cons (.vop (.sub 4) (.cons (.opq 0) (.cons (.int .i64 (.ofI (.vop (.len 4) (.cons (.opq 0) .nil)))) (.cons (.int .i64 (.ofI (.vop (.len 4) (.cons (.opq 0) .nil)))) .nil)))) .nil)))) .nil)) (.cons (.cst .nilI) .nil)))))))))))
 (.need (.b2 .and (.b2 .le (.lit (0)) (.wrap .i64 (.i2 .add (.ofI (.vop (.len 4) (.cons (.opq 0) .nil))) (.lit (1))))) (.b2 .le (.wrap .i64 (.i2 .add (.ofI (.vop (.len 4) (.cons (.opq 0) .nil))) (.lit (1)))) (.lit (4398046511104))))
 (.need (.b2 .le (.lit (0)) (.ofI (.vop (.len 4) (.cons (.opq 0) .nil))))
 (.need (.b2 .le (.i2 .add (.lit (0)) (.ofI (.vop (.len 4) (.cons (.vop (.sub 4) (.cons (.opq 0) (.cons (.int .i64 (.lit (0))) (.cons (.int .i64 (.ofI (.vop (.len 4) (.cons (.opq 0) .nil)))) .nil)))) .nil)))) (.lit (4398046511104)))
 (.need (.b2 .le (.i2 .add (.ofI (.vop (.len 4) (.cons (.vop (.sub 4) (.cons (.opq 0) (.cons (.int .i64 (.lit (0))) (.cons (.int .i64 (.ofI (.vop (.len 4) (.cons (.opq 0) .nil)))) .nil)))) .nil))) (.lit (1))) (.lit (4398046511104)))
 (.need (.b2 .le (.i2 .add (.ofI (.vop (.len 4) (.cons (.vop .cat (.cons (.vop (.sub 4) (.cons (.opq 0) (.cons (.int .i64 (.lit (0))) (.cons (.int .i64 (.ofI (.vop (.len 4) (.cons (.opq 0) .nil)))) .nil)))) (.cons (.tup (.cons (.int .i64 (.var 0)) (.cons (.int .i64 (.var 1)) (.cons (.int .i64 (.var 2)) (.cons (.int .i64 (.var 3)) .nil))))) .nil))) .nil))) (.ofI (.vop (.len 4) (.cons (.vop (.sub 4) (.cons (.opq 0) (.cons (.int .i64 (.ofI (.vop (.len 4) (.cons (.opq 0) .nil)))) (.cons (.int .i64 (.ofI (.vop (.len 4) (.cons (.opq 0) .nil)))) .nil)))) .nil)))) (.lit (4398046511104)))
 (.ret (.tup (.cons (.agg (.cons (.hs .no (.cons (.int .i64) (.cons (.int .i64) (.cons (.int .i64) (.cons (.int .i64) .nil)))) (.vop .cat (.cons (.vop .cat (.cons (.vop (.sub 4) (.cons (.opq 0) (.cons (.int .i64 (.lit (0))) (.cons (.int .i64 (.ofI (.vop (.len 4) (.cons (.opq 0) .nil)))) .nil)))) (.cons (.tup (.cons (.int .i64 (.var 0)) (.cons (.int .i64 (.var 1)) (.cons (.int .i64 (.var 2)) (.cons (.int .i64 (.var 3)) .nil))))) .nil))) (.cons (.vop (.sub 4) (.cons (.opq 0) (.cons (.int .i64 (.ofI (.vop (.len 4) (.cons (.opq 0) .nil)))) (.cons (.int .i64 (.ofI (.vop (.len 4) (.cons (.opq 0) .nil)))) .nil)))) .nil)))) .nil)) (.cons (.cst .nilI) .nil)))))))))))
 (.need (.b2 .and (.b2 .le (.lit (0)) (.iapp 19 (.cons (.opq 0) (.cons (.int .i64 (.var 0)) (.cons (.int .i64 (.ofI (.vop (.len 4) (.cons (.opq 0) .nil)))) .nil))))) (.b2 .le (.iapp 19 (.cons (.opq 0) (.cons (.int .i64 (.var 0)) (.cons (.int .i64 (.ofI (.vop (.len 4) (.cons (.opq 0) .nil)))) .nil)))) (.ofI (.vop (.len 4) (.cons (.opq 0) .nil)))))
 (.br (.b2 .lt (.lit (0)) (.ofI (.vop (.len 4) (.cons (.vop (.sub 4) (.cons (.opq 0) (.cons (.int .i64 (.iapp 19 (.cons (.opq 0) (.cons (.int .i64 (.var 0)) (.cons (.int .i64 (.ofI (.vop (.len 4) (.cons (.opq 0) .nil)))) .nil))))) (.cons (.int .i64 (.ofI (.vop (.len 4) (.cons (.opq 0) .nil)))) .nil)))) .nil))))
 (.need (.b2 .lt (.lit (0)) (.ofI (.vop (.len 4) (.cons (.vop (.sub 4) (.cons (.opq 0) (.cons (.int .i64 (.iapp 19 (.cons (.opq 0) (.cons (.int .i64 (.var 0)) (.cons (.int .i64 (.ofI (.vop (.len 4) (.cons (.opq 0) .nil)))) .nil))))) (.cons (.int .i64 (.ofI (.vop (.len 4) (.cons (.opq 0) .nil)))) .nil)))) .nil))))
 (.br (.b2 .eq (.ofI (.vop (.sel 4 0) (.cons (.vop (.sub 4) (.cons (.opq 0) (.cons (.int .i64 (.iapp 19 (.cons (.opq 0) (.cons (.int .i64 (.var 0)) (.cons (.int .i64 (.ofI (.vop (.len 4) (.cons (.opq 0) .nil)))) .nil))))) (.cons (.int .i64 (.ofI (.vop (.len 4) (.cons (.opq 0) .nil)))) .nil)))) (.cons (.int .i64 (.lit (0))) .nil)))) (.var 0))
 (.need (.b2 .le (.lit (1)) (.ofI (.vop (.len 4) (.cons (.vop (.sub 4) (.cons (.opq 0) (.cons (.int .i64 (.iapp 19 (.cons (.opq 0) (.cons (.int .i64 (.var 0)) (.cons (.int .i64 (.ofI (.vop (.len 4) (.cons (.opq 0) .nil)))) .nil))))) (.cons (.int .i64 (.ofI (.vop (.len 4) (.cons (.opq 0) .nil)))) .nil)))) .nil))))
 (.need (.b2 .and (.b2 .le (.lit (0)) (.wrap .i64 (.i2 .add (.ofI (.vop (.len 4) (.cons (.opq 0) .nil))) (.lit (1))))) (.b2 .le (.wrap .i64 (.i2 .add (.ofI (.vop (.len 4) (.cons (.opq 0) .nil))) (.lit (1)))) (.lit (4398046511104))))
 (.need (.b2 .and (.b2 .le (.lit (0)) (.iapp 19 (.cons (.opq 0) (.cons (.int .i64 (.var 0)) (.cons (.int .i64 (.ofI (.vop (.len 4) (.cons (.opq 0) .nil)))) .nil))))) (.b2 .le (.iapp 19 (.cons (.opq 0) (.cons (.int .i64 (.var 0)) (.cons (.int .i64 (.ofI (.vop (.len 4) (.cons (.opq 0) .nil)))) .nil)))) (.ofI (.vop (.len 4) (.cons (.opq 0) .nil)))))
 (.need (.b2 .le (.i2 .add (.lit (0)) (.ofI (.vop (.len 4) (.cons (.vop (.sub 4) (.cons (.opq 0) (.cons (.int .i64 (.lit (0))) (.cons (.int .i64 (.iapp 19 (.cons (.opq 0) (.cons (.int .i64 (.var 0)) (.cons (.int .i64 (.ofI (.vop (.len 4) (.cons (.opq 0) .nil)))) .nil))))) .nil)))) .nil)))) (.lit (4398046511104)))
 (.need (.b2 .le (.i2 .add (.ofI (.vop (.len 4) (.cons (.vop (.sub 4) (.cons (.opq 0) (.cons (.int .i64 (.lit (0))) (.cons (.int .i64 (.iapp 19 (.cons (.opq 0) (.cons (.int .i64 (.var 0)) (.cons (.int .i64 (.ofI (.vop (.len 4) (.cons (.opq 0) .nil)))) .nil))))) .nil)))) .nil))) (.lit (1))) (.lit (4398046511104)))
 (.need (.b2 .le (.i2 .add (.ofI (.vop (.len 4) (.cons (.vop .cat (.cons (.vop (.sub 4) (.cons (.opq 0) (.cons (.int .i64 (.lit (0))) (.cons (.int .i64 (.iapp 19 (.cons (.opq 0) (.cons (.int .i64 (.var 0)) (.cons (.int .i64 (.ofI (.vop (.len 4) (.cons (.opq 0) .nil)))) .nil))))) .nil)))) (.cons (.tup (.cons (.int .i64 (.var 0)) (.cons (.int .i64 (.var 1)) (.cons (.int .i64 (.var 2)) (.cons (.int .i64 (.var 3)) .nil))))) .nil))) .nil))) (.ofI (.vop (.len 4) (.cons (.vop (.sub 4) (.cons (.vop (.sub 4) (.cons (.opq 0) (.cons (.int .i64 (.iapp 19 (.cons (.opq 0) (.cons (.int .i64 (.var 0)) (.cons (.int .i64 (.ofI (.vop (.len 4) (.cons (.opq 0) .nil)))) .nil))))) (.cons (.int .i64 (.ofI (.vop (.len 4) (.cons (.opq 0) .nil)))) .nil)))) (.cons (.int .i64 (.lit (1))) (.cons (.int .i64 (.ofI (.vop (.len 4) (.cons (.vop (.sub 4) (.cons (.opq 0) (.cons (.int .i64 (.iapp 19 (.cons (.opq 0) (.cons (.int .i64 (.var 0)) (.cons (.int .i64 (.ofI (.vop (.len 4) (.cons (.opq 0) .nil)))) .nil))))) (.cons (.int .i64 (.ofI (.vop (.len 4) (.cons (.opq 0) .nil)))) .nil)))) .nil)))) .nil)))) .nil)))) (.lit (4398046511104)))
 (.ret (.tup (.cons (.agg (.cons (.hs .no (.cons (.int .i64) (.cons (.int .i64) (.cons (.int .i64) (.cons (.int .i64) .nil)))) (.vop .cat (.cons (.vop .cat (.cons (.vop (.sub 4) (.cons (.opq 0) (.cons (.int .i64 (.lit (0))) (.cons (.int .i64 (.iapp 19 (.cons (.opq 0) (.cons (.int .i64 (.var 0)) (.cons (.int .i64 (.ofI (.vop (.len 4) (.cons (.opq 0) .nil)))) .nil))))) .nil)))) (.cons (.tup (.cons (.int .i64 (.var 0)) (.cons (.int .i64 (.var 1)) (.cons (.int .i64 (.var 2)) (.cons (.int .i64 (.var 3)) .nil))))) .nil))) (.cons (.vop (.sub 4) (.cons (.vop (.sub 4) (.cons (.opq 0) (.cons (.int .i64 (.iapp 19 (.cons (.opq 0) (.cons (.int .i64 (.var 0)) (.cons (.int .i64 (.ofI (.vop (.len 4) (.cons (.opq 0) .nil)))) .nil))))) (.cons (.int .i64 (.ofI (.vop (.len 4) (.cons (.opq 0) .nil)))) .nil)))) (.cons (.int .i64 (.lit (1))) (.cons (.int .i64 (.ofI (.vop (.len 4) (.cons (.vop (.sub 4) (.cons (.opq 0) (.cons (.int .i64 (.iapp 19 (.cons (.opq 0) (.cons (.int .i64 (.var 0)) (.cons (.int .i64 (.ofI (.vop (.len 4) (.cons (.opq 0) .nil)))) .nil))))) (.cons (.int .i64 (.ofI (.vop (.len 4) (.cons (.opq 0) .nil)))) .nil)))) .nil)))) .nil)))) .nil)))) .nil)) (.cons (.cst .nilI) .nil))))))))))
 (.need (.b2 .and (.b2 .le (.lit (0)) (.wrap .i64 (.i2 .add (.ofI (.vop (.len 4) (.cons (.opq 0) .nil))) (.lit (1))))) (.b2 .le (.wrap .i64 (.i2 .add (.ofI (.vop (.len 4) (.cons (.opq 0) .nil))) (.lit (1)))) (.lit (4398046511104))))
 (.need (.b2 .and (.b2 .le (.lit (0)) (.iapp 19 (.cons (.opq 0) (.cons (.int .i64 (.var 0)) (.cons (.int .i64 (.ofI (.vop (.len 4) (.cons (.opq 0) .nil)))) .nil))))) (.b2 .le (.iapp 19 (.cons (.opq 0) (.cons (.int .i64 (.var 0)) (.cons (.int .i64 (.ofI (.vop (.len 4) (.cons (.opq 0) .nil)))) .nil)))) (.ofI (.vop (.len 4) (.cons (.opq 0) .nil)))))
 (.need (.b2 .le (.i2 .add (.lit (0)) (.ofI (.vop (.len 4) (.cons (.vop (.sub 4) (.cons (.opq 0) (.cons (.int .i64 (.lit (0))) (.cons (.int .i64 (.iapp 19 (.cons (.opq 0) (.cons (.int .i64 (.var 0)) (.cons (.int .i64 (.ofI (.vop (.len 4) (.cons (.opq 0) .nil)))) .nil))))) .nil)))) .nil)))) (.lit (4398046511104)))
 (.need (.b2 .le (.i2 .add (.ofI (.vop (.len 4) (.cons (.vop (.sub 4) (.cons (.opq 0) (.cons (.int .i64 (.lit (0))) (.cons (.int .i64 (.iapp 19 (.cons (.opq 0) (.cons (.int .i64 (.var 0)) (.cons (.int .i64 (.ofI (.vop (.len 4) (.cons (.opq 0) .nil)))) .nil))))) .nil)))) .nil))) (.lit (1))) (.lit (4398046511104)))
 (.need (.b2 .le (.i2 .add (.ofI (.vop (.len 4) (.cons (.vop .cat (.cons (.vop (.sub 4) (.cons (.opq 0) (.cons (.int .i64 (.lit (0))) (.cons (.int .i64 (.iapp 19 (.cons (.opq 0) (.cons (.int .i64 (.var 0)) (.cons (.int .i64 (.ofI (.vop (.len 4) (.cons (.opq 0) .nil)))) .nil))))) .nil)))) (.cons (.tup (.cons (.int .i64 (.var 0)) (.cons (.int .i64 (.var 1)) (.cons (.int .i64 (.var 2)) (.cons (.int .i64 (.var 3)) .nil))))) .nil))) .nil))) (.ofI (.vop (.len 4) (.cons (.vop (.sub 4) (.cons (.opq 0) (.cons (.int .i64 (.iapp 19 (.cons (.opq 0) (.cons (.int .i64 (.var 0)) (.cons (.int .i64 (.ofI (.vop (.len 4) (.cons (.opq 0) .nil)))) .nil))))) (.cons (.int .i64 (.ofI (.vop (.len 4) (.cons (.opq 0) .nil)))) .nil)))) .nil)))) (.lit (4398046511104)))
 (.ret (.tup (.cons (.agg (.cons (.hs .no (.cons (.int .i64) (.cons (.int .i64) (.cons (.int .i64) (.cons (.int .i64) .nil)))) (.vop .cat (.cons (.vop .cat (.cons (.vop (.sub 4) (.cons (.opq 0) (.cons (.int .i64 (.lit (0))) (.cons (.int .i64 (.iapp 19 (.cons (.opq 0) (.cons (.int .i64 (.var 0)) (.cons (.int .i64 (.ofI (.vop (.len 4) (.cons (.opq 0) .nil)))) .nil))))) .nil)))) (.cons (.tup (.cons (.int .i64 (.var 0)) (.cons (.int .i64 (.var 1)) (.cons (.int .i64 (.var 2)) (.cons (.int .i64 (.var 3)) .nil))))) .nil))) (.cons (.vop (.sub 4) (.cons (.opq 0) (.cons (.int .i64 (.iapp 19 (.cons (.opq 0) (.cons (.int .i64 (.var 0)) (.cons (.int .i64 (.ofI (.vop (.len 4) (.cons (.opq 0) .nil)))) .nil))))) (.cons (.int .i64 (.ofI (.vop (.len 4) (.cons (.opq 0) .nil)))) .nil)))) .nil)))) .nil)) (.cons (.cst .nilI) .nil)))))))))))
 (.need (.b2 .and (.b2 .le (.lit (0)) (.wrap .i64 (.i2 .add (.ofI (.vop (.len 4) (.cons (.opq 0) .nil))) (.lit (1))))) (.b2 .le (.wrap .i64 (.i2 .add (.ofI (.vop (.len 4) (.cons (.opq 0) .nil))) (.lit (1)))) (.lit (4398046511104))))
 (.need (.b2 .and (.b2 .le (.lit (0)) (.iapp 19 (.cons (.opq 0) (.cons (.int .i64 (.var 0)) (.cons (.int .i64 (.ofI (.vop (.len 4) (.cons (.opq 0) .nil)))) .nil))))) (.b2 .le (.iapp 19 (.cons (.opq 0) (.cons (.int .i64 (.var 0)) (.cons (.int .i64 (.ofI (.vop (.len 4) (.cons (.opq 0) .nil)))) .nil)))) (.ofI (.vop (.len 4) (.cons (.opq 0) .nil)))))
 (.need (.b2 .le (.i2 .add (.lit (0)) (.ofI (.vop (.len 4) (.cons (.vop (.sub 4) (.cons (.opq 0) (.cons (.int .i64 (.lit (0))) (.cons (.int .i64 (.iapp 19 (.cons (.opq 0) (.cons (.int .i64 (.var 0)) (.cons (.int .i64 (.ofI (.vop (.len 4) (.cons (.opq 0) .nil)))) .nil))))) .nil)))) .nil)))) (.lit (4398046511104)))
 (.need (.b2 .le (.i2 .add (.ofI (.vop (.len 4) (.cons (.vop (.sub 4) (.cons (.opq 0) (.cons (.int .i64 (.lit (0))) (.cons (.int .i64 (.iapp 19 (.cons (.opq 0) (.cons (.int .i64 (.var 0)) (.cons (.int .i64 (.ofI (.vop (.len 4) (.cons (.opq 0) .nil)))) .nil))))) .nil)))) .nil))) (.lit (1))) (.lit (4398046511104)))
 (.need (.b2 .le (.i2 .add (.ofI (.vop (.len 4) (.cons (.vop .cat (.cons (.vop (.sub 4) (.cons (.opq 0) (.cons (.int .i64 (.lit (0))) (.cons (.int .i64 (.iapp 19 (.cons (.opq 0) (.cons (.int .i64 (.var 0)) (.cons (.int .i64 (.ofI (.vop (.len 4) (.cons (.opq 0) .nil)))) .nil))))) .nil)))) (.cons (.tup (.cons (.int .i64 (.var 0)) (.cons (.int .i64 (.var 1)) (.cons (.int .i64 (.var 2)) (.cons (.int .i64 (.var 3)) .nil))))) .nil))) .nil))) (.ofI (.vop (.len 4) (.cons (.vop (.sub 4) (.cons (.opq 0) (.cons (.int .i64 (.iapp 19 (.cons (.opq 0) (.cons (.int .i64 (.var 0)) (.cons (.int .i64 (.ofI (.vop (.len 4) (.cons (.opq 0) .nil)))) .nil))))) (.cons (.int .i64 (.ofI (.vop (.len 4) (.cons (.opq 0) .nil)))) .nil)))) .nil)))) (.lit (4398046511104)))
 (.ret (.tup (.cons (.agg (.cons (.hs .no (.cons (.int .i64) (.cons (.int .i64) (.cons (.int .i64) (.cons (.int .i64) .nil)))) (.vop .cat (.cons (.vop .cat (.cons (.vop (.sub 4) (.cons (.opq 0) (.cons (.int .i64 (.lit (0))) (.cons (.int .i64 (.iapp 19 (.cons (.opq 0) (.cons (.int .i64 (.var 0)) (.cons (.int .i64 (.ofI (.vop (.len 4) (.cons (.opq 0) .nil)))) .nil))))) .nil)))) (.cons (.tup (.cons (.int .i64 (.var 0)) (.cons (.int .i64 (.var 1)) (.cons (.int .i64 (.var 2)) (.cons (.int .i64 (.var 3)) .nil))))) .nil))) (.cons (.vop (.sub 4) (.cons (.opq 0) (.cons (.int .i64 (.iapp 19 (.cons (.opq 0) (.cons (.int .i64 (.var 0)) (.cons (.int .i64 (.ofI (.vop (.len 4) (.cons (.opq 0) .nil)))) .nil))))) (.cons (.int .i64 (.ofI (.vop (.len 4) (.cons (.opq 0) .nil)))) .nil)))) .nil)))) .nil)) (.cons (.cst .nilI) .nil))))))))))))))))
abbrev fac_fput : Con := ⟨62, [(.agg (.cons (.hs .no (.cons (.int .i64) (.cons (.int .i64) (.cons (.int .i64) (.cons (.int .i64) .nil)))) (.opq 0)) .nil)), (.agg (.cons (.int .i64 (.var 0)) (.cons (.int .i64 (.var 1)) (.cons (.int .i64 (.var 2)) (.cons (.int .i64 (.var 3)) .nil)))))], (.b2 .and (.bapp 4 (.cons (.opq 0) .nil)) (.b2 .and (.b2 .and (.b2 .le (.lit (-9223372036854775808)) (.var 0)) (.b2 .le (.var 0) (.lit (9223372036854775807)))) (.b2 .and (.b2 .and (.b2 .le (.lit (-9223372036854775808)) (.var 1)) (.b2 .le (.var 1) (.lit (9223372036854775807)))) (.b2 .and (.b2 .and (.b2 .le (.lit (-9223372036854775808)) (.var 2)) (.b2 .le (.var 2) (.lit (9223372036854775807)))) (.b2 .and (.b2 .le (.lit (-9223372036854775808)) (.var 3)) (.b2 .le (.var 3) (.lit (9223372036854775807)))))))), (.tup (.cons (.agg (.cons (.hs .no (.cons (.int .i64) (.cons (.int .i64) (.cons (.int .i64) (.cons (.int .i64) .nil)))) (.vapp 0 (.cons (.opq 0) (.cons (.int .i64 (.var 0)) (.cons (.int .i64 (.var 1)) (.cons (.int .i64 (.var 2)) (.cons (.int .i64 (.var 3)) .nil))))))) .nil)) (.cons (.err (.iapp 20 (.cons (.opq 0) (.cons (.int .i64 (.var 0)) (.cons (.int .i64 (.var 1)) (.cons (.int .i64 (.var 2)) (.cons (.int .i64 (.var 3)) .nil))))))) .nil))), ⟨4, 0, 1, 0⟩, none⟩
theorem fput_w : walk Tryd.prog 141 ⟨[fac_fck, fac_fix], syG, [111], [], []⟩ [] (.tup (.cons (.agg (.cons (.s (.cons (.int .i64) (.cons (.int .i64) (.cons (.int .i64) (.cons (.int .i64) .nil))))) .nil)) (.cons .v .nil))) fac_fput fac_fput.n 3000 = some fput_tree := by kernel_rfl
theorem fput_h (a : Int) (b : Int) (c : Int) (d : Int) (l : Value) (hc : holds (faE [a, b, c, d] [] [l] []) (.b2 .and (.bapp 4 (.cons (.opq 0) .nil)) (.b2 .and (.b2 .and (.b2 .le (.lit (-9223372036854775808)) (.var 0)) (.b2 .le (.var 0) (.lit (9223372036854775807)))) (.b2 .and (.b2 .and (.b2 .le (.lit (-9223372036854775808)) (.var 1)) (.b2 .le (.var 1) (.lit (9223372036854775807)))) (.b2 .and (.b2 .and (.b2 .le (.lit (-9223372036854775808)) (.var 2)) (.b2 .le (.var 2) (.lit (9223372036854775807)))) (.b2 .and (.b2 .le (.lit (-9223372036854775808)) (.var 3)) (.b2 .le (.var 3) (.lit (9223372036854775807))))))))) (hty : patsTyp (faE [a, b, c, d] [] [l] []) [(.agg (.cons (.hs .no (.cons (.int .i64) (.cons (.int .i64) (.cons (.int .i64) (.cons (.int .i64) .nil)))) (.opq 0)) .nil)), (.agg (.cons (.int .i64 (.var 0)) (.cons (.int .i64 (.var 1)) (.cons (.int .i64 (.var 2)) (.cons (.int .i64 (.var 3)) .nil)))))]) : fput_tree.holds (fun v_ => v_ = denV (faE [a, b, c, d] [] [l] []) b0 (.tup (.cons (.agg (.cons (.hs .no (.cons (.int .i64) (.cons (.int .i64) (.cons (.int .i64) (.cons (.int .i64) .nil)))) (.vapp 0 (.cons (.opq 0) (.cons (.int .i64 (.var 0)) (.cons (.int .i64 (.var 1)) (.cons (.int .i64 (.var 2)) (.cons (.int .i64 (.var 3)) .nil))))))) .nil)) (.cons (.err (.iapp 20 (.cons (.opq 0) (.cons (.int .i64 (.var 0)) (.cons (.int .i64 (.var 1)) (.cons (.int .i64 (.var 2)) (.cons (.int .i64 (.var 3)) .nil))))))) .nil)))) (faE [a, b, c, d] [] [l] []) := by
  simp only [Tree.holds, Sy.holds, AllN, Env.more, faE, List.cons_append, List.nil_append, List.append_nil, denV, denI, denB, denL, I2.den, VOp.den, List.getD_cons_zero, List.getD_cons_succ, Cst.den, syso, syse, syio, sybo, fai_of, fai_arh, fai_fb, fai_se, fai_vm, fai_vl, fai_vh, fai_vE, fai_vM, fai_vL, fai_vH, fai_aa, fai_mi, fai_sa, fai_nv, fai_ne, fai_sz, fai_lst, fai_chk, fai_ix, fai_pE, fab_pre, fab_sm, fab_ai, fab_tk, fab_okr, fab_okf, fav_pV, List.map_nil, List.map_cons, B2.ofInts, B2.denI, B2.denB, if_true, Bool.false_eq_true, if_false, Nat.div_one, Nat.mul_one, Nat.add_zero, holds] at hc
  simp only [patsTyp, patTyp, patTypL, faE, denV, denL, List.getD_cons_zero, List.getD_cons_succ, and_true, true_and] at hty
  have hL_l : typ (.sl (.cons (.int .i64) (.cons (.int .i64) (.cons (.int .i64) (.cons (.int .i64) .nil))))) l := by first | exact hty | exact hty.1 | exact hty.2 | exact hty.1.1 | exact hty.1.2 | exact hty.2.1 | exact hty.2.2 | exact hty.2.2.1 | exact hty.2.2.2
  have hN_l := typ_len (n := 4) hL_l rfl (by omega)
  unfold fput_tree
  simp only [Tree.holds, Sy.holds, AllN, Env.more, faE, List.cons_append, List.nil_append, List.append_nil, denV, denI, denB, denL, I2.den, VOp.den, List.getD_cons_zero, List.getD_cons_succ, Cst.den, syso, syse, syio, sybo, fai_of, fai_arh, fai_fb, fai_se, fai_vm, fai_vl, fai_vh, fai_vE, fai_vM, fai_vL, fai_vH, fai_aa, fai_mi, fai_sa, fai_nv, fai_ne, fai_sz, fai_lst, fai_chk, fai_ix, fai_pE, fab_pre, fab_sm, fab_ai, fab_tk, fab_okr, fab_okf, fav_pV, List.map_nil, List.map_cons, B2.ofInts, B2.denI, B2.denB, if_true, Bool.false_eq_true, if_false, Nat.div_one, Nat.mul_one, Nat.add_zero]
  refine ⟨?_, fun h0 => ?_⟩
  ·
   first
   | exact hc.1
   | exact okR_ent hc.2
   | (have h8 := (chkF_8 (Decidable.of_not_not h1)).2
      have hall : List.take ((Sy.rows l).length / 4 * 4) (Sy.rows l) = Sy.rows l := List.take_of_length_le (by omega)
      have hix := ixF_bd (Sy.rows l) a ((Sy.rows l).length / 4)
      simp only [Int.toNat_natCast, Int.toNat_zero, Nat.zero_mul, List.drop_zero, rows_tup, hall, List.length_drop, List.length_take, List.length_append, List.length_cons, List.length_nil, getD_drop', Nat.add_zero, Nat.zero_add, Nat.mul_one, Nat.one_mul] at *
      omega)
  ·
   refine ⟨fun h1 => ?_, fun h1 => ?_⟩
   ·
    by_cases hb : chkF (Sy.rows l) = 0 ∧ chkF (ent a b c d) = 0
    · first
      | exact absurd hb.1 h1
      | exact absurd hb.2 h3
      | (obtain ⟨e1, e2⟩ := put_yes (l := Sy.rows l) (a := a) (b := b) (c := c) (d := d) hb.1 hb.2
         rw [e1, e2]
         have h8 := (chkF_8 hb.1).2
         have hall : List.take ((Sy.rows l).length / 4 * 4) (Sy.rows l) = Sy.rows l := List.take_of_length_le (by omega)
         have hix := ixF_bd (Sy.rows l) a ((Sy.rows l).length / 4)
         simp only [Int.toNat_natCast, Int.toNat_zero, Nat.zero_mul, List.drop_zero, rows_tup, hall, List.length_drop, List.length_take, List.length_append, List.length_cons, List.length_nil, getD_drop', Nat.add_zero, Nat.zero_add, Nat.mul_one, Nat.one_mul] at *
         have hin : inF (Sy.rows l) a = if ixF (Sy.rows l) a ((Sy.rows l).length / 4) < 0 then (Sy.rows l).length / 4 else (ixF (Sy.rows l) a ((Sy.rows l).length / 4)).toNat := rfl
         have heq : eqF (Sy.rows l) a = if inF (Sy.rows l) a < (Sy.rows l).length / 4 ∧ Go.RowKit.intOf ((Sy.rows l).getD (inF (Sy.rows l) a * 4) Go.undef) = a then 1 else 0 := rfl
         first
         | (exfalso; omega)
         | (first
            | rw [if_pos (by omega)] at hin
            | rw [if_neg (by omega)] at hin
            rw [hin] at heq
            first
            | rw [if_pos ⟨by omega, by omega⟩] at heq
            | rw [if_neg (by omega)] at heq
            rw [hin, heq]
            try rw [rest_eq hN_l.2]
            try rw [List.take_of_length_le (show (Sy.rows l).length ≤ (Sy.rows l).length / 4 * 4 by omega)]
            rfl))
    · obtain ⟨e1, e2⟩ := put_no hb
      rw [e1, e2]
      first
      | rfl
      | exact absurd ⟨Decidable.of_not_not h1, Decidable.of_not_not h3⟩ hb
   ·
    refine ⟨?_, fun h2 => ?_⟩
    ·
     first
     | exact hc.1
     | exact okR_ent hc.2
     | (have h8 := (chkF_8 (Decidable.of_not_not h1)).2
        have hall : List.take ((Sy.rows l).length / 4 * 4) (Sy.rows l) = Sy.rows l := List.take_of_length_le (by omega)
        have hix := ixF_bd (Sy.rows l) a ((Sy.rows l).length / 4)
        simp only [Int.toNat_natCast, Int.toNat_zero, Nat.zero_mul, List.drop_zero, rows_tup, hall, List.length_drop, List.length_take, List.length_append, List.length_cons, List.length_nil, getD_drop', Nat.add_zero, Nat.zero_add, Nat.mul_one, Nat.one_mul] at *
        omega)
    ·
     refine ⟨fun h3 => ?_, fun h3 => ?_⟩
     ·
      by_cases hb : chkF (Sy.rows l) = 0 ∧ chkF (ent a b c d) = 0
      · first
        | exact absurd hb.1 h1
        | exact absurd hb.2 h3
        | (obtain ⟨e1, e2⟩ := put_yes (l := Sy.rows l) (a := a) (b := b) (c := c) (d := d) hb.1 hb.2
           rw [e1, e2]
           have h8 := (chkF_8 hb.1).2
           have hall : List.take ((Sy.rows l).length / 4 * 4) (Sy.rows l) = Sy.rows l := List.take_of_length_le (by omega)
           have hix := ixF_bd (Sy.rows l) a ((Sy.rows l).length / 4)
           simp only [Int.toNat_natCast, Int.toNat_zero, Nat.zero_mul, List.drop_zero, rows_tup, hall, List.length_drop, List.length_take, List.length_append, List.length_cons, List.length_nil, getD_drop', Nat.add_zero, Nat.zero_add, Nat.mul_one, Nat.one_mul] at *
           have hin : inF (Sy.rows l) a = if ixF (Sy.rows l) a ((Sy.rows l).length / 4) < 0 then (Sy.rows l).length / 4 else (ixF (Sy.rows l) a ((Sy.rows l).length / 4)).toNat := rfl
           have heq : eqF (Sy.rows l) a = if inF (Sy.rows l) a < (Sy.rows l).length / 4 ∧ Go.RowKit.intOf ((Sy.rows l).getD (inF (Sy.rows l) a * 4) Go.undef) = a then 1 else 0 := rfl
           first
           | (exfalso; omega)
           | (first
              | rw [if_pos (by omega)] at hin
              | rw [if_neg (by omega)] at hin
              rw [hin] at heq
              first
              | rw [if_pos ⟨by omega, by omega⟩] at heq
              | rw [if_neg (by omega)] at heq
              rw [hin, heq]
              try rw [rest_eq hN_l.2]
              try rw [List.take_of_length_le (show (Sy.rows l).length ≤ (Sy.rows l).length / 4 * 4 by omega)]
              rfl))
      · obtain ⟨e1, e2⟩ := put_no hb
        rw [e1, e2]
        first
        | rfl
        | exact absurd ⟨Decidable.of_not_not h1, Decidable.of_not_not h3⟩ hb
     ·
      refine ⟨fun h4 => ?_, fun h4 => ?_⟩
      ·
       refine ⟨?_, fun h5 => ?_⟩
       ·
        first
        | exact hc.1
        | exact okR_ent hc.2
        | (have h8 := (chkF_8 (Decidable.of_not_not h1)).2
           have hall : List.take ((Sy.rows l).length / 4 * 4) (Sy.rows l) = Sy.rows l := List.take_of_length_le (by omega)
           have hix := ixF_bd (Sy.rows l) a ((Sy.rows l).length / 4)
           simp only [Int.toNat_natCast, Int.toNat_zero, Nat.zero_mul, List.drop_zero, rows_tup, hall, List.length_drop, List.length_take, List.length_append, List.length_cons, List.length_nil, getD_drop', Nat.add_zero, Nat.zero_add, Nat.mul_one, Nat.one_mul] at *
           omega)
       ·
        refine ⟨fun h6 => ?_, fun h6 => ?_⟩
        ·
         refine ⟨?_, fun h7 => ?_⟩
         ·
          first
          | exact hc.1
          | exact okR_ent hc.2
          | (have h8 := (chkF_8 (Decidable.of_not_not h1)).2
             have hall : List.take ((Sy.rows l).length / 4 * 4) (Sy.rows l) = Sy.rows l := List.take_of_length_le (by omega)
             have hix := ixF_bd (Sy.rows l) a ((Sy.rows l).length / 4)
             simp only [Int.toNat_natCast, Int.toNat_zero, Nat.zero_mul, List.drop_zero, rows_tup, hall, List.length_drop, List.length_take, List.length_append, List.length_cons, List.length_nil, getD_drop', Nat.add_zero, Nat.zero_add, Nat.mul_one, Nat.one_mul] at *
             omega)
         ·
          refine ⟨fun h8 => ?_, fun h8 => ?_⟩
          ·
           refine ⟨?_, fun h9 => ?_⟩
           ·
            first
            | exact hc.1
            | exact okR_ent hc.2
            | (have h8 := (chkF_8 (Decidable.of_not_not h1)).2
               have hall : List.take ((Sy.rows l).length / 4 * 4) (Sy.rows l) = Sy.rows l := List.take_of_length_le (by omega)
               have hix := ixF_bd (Sy.rows l) a ((Sy.rows l).length / 4)
               simp only [Int.toNat_natCast, Int.toNat_zero, Nat.zero_mul, List.drop_zero, rows_tup, hall, List.length_drop, List.length_take, List.length_append, List.length_cons, List.length_nil, getD_drop', Nat.add_zero, Nat.zero_add, Nat.mul_one, Nat.one_mul] at *
               omega)
           ·
            have wf0 := wr_i64 (((((rows l).length / 4 : Nat)) : Int) + 1)
            refine ⟨?_, fun h10 => ?_⟩
            ·
             first
             | exact hc.1
             | exact okR_ent hc.2
             | (have h8 := (chkF_8 (Decidable.of_not_not h1)).2
                have hall : List.take ((Sy.rows l).length / 4 * 4) (Sy.rows l) = Sy.rows l := List.take_of_length_le (by omega)
                have hix := ixF_bd (Sy.rows l) a ((Sy.rows l).length / 4)
                simp only [Int.toNat_natCast, Int.toNat_zero, Nat.zero_mul, List.drop_zero, rows_tup, hall, List.length_drop, List.length_take, List.length_append, List.length_cons, List.length_nil, getD_drop', Nat.add_zero, Nat.zero_add, Nat.mul_one, Nat.one_mul] at *
                omega)
            ·
             refine ⟨?_, fun h11 => ?_⟩
             ·
              first
              | exact hc.1
              | exact okR_ent hc.2
              | (have h8 := (chkF_8 (Decidable.of_not_not h1)).2
                 have hall : List.take ((Sy.rows l).length / 4 * 4) (Sy.rows l) = Sy.rows l := List.take_of_length_le (by omega)
                 have hix := ixF_bd (Sy.rows l) a ((Sy.rows l).length / 4)
                 simp only [Int.toNat_natCast, Int.toNat_zero, Nat.zero_mul, List.drop_zero, rows_tup, hall, List.length_drop, List.length_take, List.length_append, List.length_cons, List.length_nil, getD_drop', Nat.add_zero, Nat.zero_add, Nat.mul_one, Nat.one_mul] at *
                 omega)
             ·
              refine ⟨?_, fun h12 => ?_⟩
              ·
               first
               | exact hc.1
               | exact okR_ent hc.2
               | (have h8 := (chkF_8 (Decidable.of_not_not h1)).2
                  have hall : List.take ((Sy.rows l).length / 4 * 4) (Sy.rows l) = Sy.rows l := List.take_of_length_le (by omega)
                  have hix := ixF_bd (Sy.rows l) a ((Sy.rows l).length / 4)
                  simp only [Int.toNat_natCast, Int.toNat_zero, Nat.zero_mul, List.drop_zero, rows_tup, hall, List.length_drop, List.length_take, List.length_append, List.length_cons, List.length_nil, getD_drop', Nat.add_zero, Nat.zero_add, Nat.mul_one, Nat.one_mul] at *
                  omega)
              ·
               refine ⟨?_, fun h13 => ?_⟩
               ·
                first
                | exact hc.1
                | exact okR_ent hc.2
                | (have h8 := (chkF_8 (Decidable.of_not_not h1)).2
                   have hall : List.take ((Sy.rows l).length / 4 * 4) (Sy.rows l) = Sy.rows l := List.take_of_length_le (by omega)
                   have hix := ixF_bd (Sy.rows l) a ((Sy.rows l).length / 4)
                   simp only [Int.toNat_natCast, Int.toNat_zero, Nat.zero_mul, List.drop_zero, rows_tup, hall, List.length_drop, List.length_take, List.length_append, List.length_cons, List.length_nil, getD_drop', Nat.add_zero, Nat.zero_add, Nat.mul_one, Nat.one_mul] at *
                   omega)
               ·
                refine ⟨?_, fun h14 => ?_⟩
                ·
                 first
                 | exact hc.1
                 | exact okR_ent hc.2
                 | (have h8 := (chkF_8 (Decidable.of_not_not h1)).2
                    have hall : List.take ((Sy.rows l).length / 4 * 4) (Sy.rows l) = Sy.rows l := List.take_of_length_le (by omega)
                    have hix := ixF_bd (Sy.rows l) a ((Sy.rows l).length / 4)
                    simp only [Int.toNat_natCast, Int.toNat_zero, Nat.zero_mul, List.drop_zero, rows_tup, hall, List.length_drop, List.length_take, List.length_append, List.length_cons, List.length_nil, getD_drop', Nat.add_zero, Nat.zero_add, Nat.mul_one, Nat.one_mul] at *
                    omega)
                ·
                 by_cases hb : chkF (Sy.rows l) = 0 ∧ chkF (ent a b c d) = 0
                 · first
                   | exact absurd hb.1 h1
                   | exact absurd hb.2 h3
                   | (obtain ⟨e1, e2⟩ := put_yes (l := Sy.rows l) (a := a) (b := b) (c := c) (d := d) hb.1 hb.2
                      rw [e1, e2]
                      have h8 := (chkF_8 hb.1).2
                      have hall : List.take ((Sy.rows l).length / 4 * 4) (Sy.rows l) = Sy.rows l := List.take_of_length_le (by omega)
                      have hix := ixF_bd (Sy.rows l) a ((Sy.rows l).length / 4)
                      simp only [Int.toNat_natCast, Int.toNat_zero, Nat.zero_mul, List.drop_zero, rows_tup, hall, List.length_drop, List.length_take, List.length_append, List.length_cons, List.length_nil, getD_drop', Nat.add_zero, Nat.zero_add, Nat.mul_one, Nat.one_mul] at *
                      have hin : inF (Sy.rows l) a = if ixF (Sy.rows l) a ((Sy.rows l).length / 4) < 0 then (Sy.rows l).length / 4 else (ixF (Sy.rows l) a ((Sy.rows l).length / 4)).toNat := rfl
                      have heq : eqF (Sy.rows l) a = if inF (Sy.rows l) a < (Sy.rows l).length / 4 ∧ Go.RowKit.intOf ((Sy.rows l).getD (inF (Sy.rows l) a * 4) Go.undef) = a then 1 else 0 := rfl
                      first
                      | (exfalso; omega)
                      | (first
                         | rw [if_pos (by omega)] at hin
                         | rw [if_neg (by omega)] at hin
                         rw [hin] at heq
                         first
                         | rw [if_pos ⟨by omega, by omega⟩] at heq
                         | rw [if_neg (by omega)] at heq
                         rw [hin, heq]
                         try rw [rest_eq hN_l.2]
                         try rw [List.take_of_length_le (show (Sy.rows l).length ≤ (Sy.rows l).length / 4 * 4 by omega)]
                         rfl))
                 · obtain ⟨e1, e2⟩ := put_no hb
                   rw [e1, e2]
                   first
                   | rfl
                   | exact absurd ⟨Decidable.of_not_not h1, Decidable.of_not_not h3⟩ hb
          ·
           have wf1 := wr_i64 (((((rows l).length / 4 : Nat)) : Int) + 1)
           refine ⟨?_, fun h15 => ?_⟩
           ·
            first
            | exact hc.1
            | exact okR_ent hc.2
            | (have h8 := (chkF_8 (Decidable.of_not_not h1)).2
               have hall : List.take ((Sy.rows l).length / 4 * 4) (Sy.rows l) = Sy.rows l := List.take_of_length_le (by omega)
               have hix := ixF_bd (Sy.rows l) a ((Sy.rows l).length / 4)
               simp only [Int.toNat_natCast, Int.toNat_zero, Nat.zero_mul, List.drop_zero, rows_tup, hall, List.length_drop, List.length_take, List.length_append, List.length_cons, List.length_nil, getD_drop', Nat.add_zero, Nat.zero_add, Nat.mul_one, Nat.one_mul] at *
               omega)
           ·
            refine ⟨?_, fun h16 => ?_⟩
            ·
             first
             | exact hc.1
             | exact okR_ent hc.2
             | (have h8 := (chkF_8 (Decidable.of_not_not h1)).2
                have hall : List.take ((Sy.rows l).length / 4 * 4) (Sy.rows l) = Sy.rows l := List.take_of_length_le (by omega)
                have hix := ixF_bd (Sy.rows l) a ((Sy.rows l).length / 4)
                simp only [Int.toNat_natCast, Int.toNat_zero, Nat.zero_mul, List.drop_zero, rows_tup, hall, List.length_drop, List.length_take, List.length_append, List.length_cons, List.length_nil, getD_drop', Nat.add_zero, Nat.zero_add, Nat.mul_one, Nat.one_mul] at *
                omega)
            ·
             refine ⟨?_, fun h17 => ?_⟩
             ·
              first
              | exact hc.1
              | exact okR_ent hc.2
              | (have h8 := (chkF_8 (Decidable.of_not_not h1)).2
                 have hall : List.take ((Sy.rows l).length / 4 * 4) (Sy.rows l) = Sy.rows l := List.take_of_length_le (by omega)
                 have hix := ixF_bd (Sy.rows l) a ((Sy.rows l).length / 4)
                 simp only [Int.toNat_natCast, Int.toNat_zero, Nat.zero_mul, List.drop_zero, rows_tup, hall, List.length_drop, List.length_take, List.length_append, List.length_cons, List.length_nil, getD_drop', Nat.add_zero, Nat.zero_add, Nat.mul_one, Nat.one_mul] at *
                 omega)
             ·
              refine ⟨?_, fun h18 => ?_⟩
              ·
               first
               | exact hc.1
               | exact okR_ent hc.2
               | (have h8 := (chkF_8 (Decidable.of_not_not h1)).2
                  have hall : List.take ((Sy.rows l).length / 4 * 4) (Sy.rows l) = Sy.rows l := List.take_of_length_le (by omega)
                  have hix := ixF_bd (Sy.rows l) a ((Sy.rows l).length / 4)
                  simp only [Int.toNat_natCast, Int.toNat_zero, Nat.zero_mul, List.drop_zero, rows_tup, hall, List.length_drop, List.length_take, List.length_append, List.length_cons, List.length_nil, getD_drop', Nat.add_zero, Nat.zero_add, Nat.mul_one, Nat.one_mul] at *
                  omega)
              ·
               refine ⟨?_, fun h19 => ?_⟩
               ·
                first
                | exact hc.1
                | exact okR_ent hc.2
                | (have h8 := (chkF_8 (Decidable.of_not_not h1)).2
                   have hall : List.take ((Sy.rows l).length / 4 * 4) (Sy.rows l) = Sy.rows l := List.take_of_length_le (by omega)
                   have hix := ixF_bd (Sy.rows l) a ((Sy.rows l).length / 4)
                   simp only [Int.toNat_natCast, Int.toNat_zero, Nat.zero_mul, List.drop_zero, rows_tup, hall, List.length_drop, List.length_take, List.length_append, List.length_cons, List.length_nil, getD_drop', Nat.add_zero, Nat.zero_add, Nat.mul_one, Nat.one_mul] at *
                   omega)
               ·
                by_cases hb : chkF (Sy.rows l) = 0 ∧ chkF (ent a b c d) = 0
                · first
                  | exact absurd hb.1 h1
                  | exact absurd hb.2 h3
                  | (obtain ⟨e1, e2⟩ := put_yes (l := Sy.rows l) (a := a) (b := b) (c := c) (d := d) hb.1 hb.2
                     rw [e1, e2]
                     have h8 := (chkF_8 hb.1).2
                     have hall : List.take ((Sy.rows l).length / 4 * 4) (Sy.rows l) = Sy.rows l := List.take_of_length_le (by omega)
                     have hix := ixF_bd (Sy.rows l) a ((Sy.rows l).length / 4)
                     simp only [Int.toNat_natCast, Int.toNat_zero, Nat.zero_mul, List.drop_zero, rows_tup, hall, List.length_drop, List.length_take, List.length_append, List.length_cons, List.length_nil, getD_drop', Nat.add_zero, Nat.zero_add, Nat.mul_one, Nat.one_mul] at *
                     have hin : inF (Sy.rows l) a = if ixF (Sy.rows l) a ((Sy.rows l).length / 4) < 0 then (Sy.rows l).length / 4 else (ixF (Sy.rows l) a ((Sy.rows l).length / 4)).toNat := rfl
                     have heq : eqF (Sy.rows l) a = if inF (Sy.rows l) a < (Sy.rows l).length / 4 ∧ Go.RowKit.intOf ((Sy.rows l).getD (inF (Sy.rows l) a * 4) Go.undef) = a then 1 else 0 := rfl
                     first
                     | (exfalso; omega)
                     | (first
                        | rw [if_pos (by omega)] at hin
                        | rw [if_neg (by omega)] at hin
                        rw [hin] at heq
                        first
                        | rw [if_pos ⟨by omega, by omega⟩] at heq
                        | rw [if_neg (by omega)] at heq
                        rw [hin, heq]
                        try rw [rest_eq hN_l.2]
                        try rw [List.take_of_length_le (show (Sy.rows l).length ≤ (Sy.rows l).length / 4 * 4 by omega)]
                        rfl))
                · obtain ⟨e1, e2⟩ := put_no hb
                  rw [e1, e2]
                  first
                  | rfl
                  | exact absurd ⟨Decidable.of_not_not h1, Decidable.of_not_not h3⟩ hb
        ·
         have wf2 := wr_i64 (((((rows l).length / 4 : Nat)) : Int) + 1)
         refine ⟨?_, fun h20 => ?_⟩
         ·
          first
          | exact hc.1
          | exact okR_ent hc.2
          | (have h8 := (chkF_8 (Decidable.of_not_not h1)).2
             have hall : List.take ((Sy.rows l).length / 4 * 4) (Sy.rows l) = Sy.rows l := List.take_of_length_le (by omega)
             have hix := ixF_bd (Sy.rows l) a ((Sy.rows l).length / 4)
             simp only [Int.toNat_natCast, Int.toNat_zero, Nat.zero_mul, List.drop_zero, rows_tup, hall, List.length_drop, List.length_take, List.length_append, List.length_cons, List.length_nil, getD_drop', Nat.add_zero, Nat.zero_add, Nat.mul_one, Nat.one_mul] at *
             omega)
         ·
          refine ⟨?_, fun h21 => ?_⟩
          ·
           first
           | exact hc.1
           | exact okR_ent hc.2
           | (have h8 := (chkF_8 (Decidable.of_not_not h1)).2
              have hall : List.take ((Sy.rows l).length / 4 * 4) (Sy.rows l) = Sy.rows l := List.take_of_length_le (by omega)
              have hix := ixF_bd (Sy.rows l) a ((Sy.rows l).length / 4)
              simp only [Int.toNat_natCast, Int.toNat_zero, Nat.zero_mul, List.drop_zero, rows_tup, hall, List.length_drop, List.length_take, List.length_append, List.length_cons, List.length_nil, getD_drop', Nat.add_zero, Nat.zero_add, Nat.mul_one, Nat.one_mul] at *
              omega)
          ·
           refine ⟨?_, fun h22 => ?_⟩
           ·
            first
            | exact hc.1
            | exact okR_ent hc.2
            | (have h8 := (chkF_8 (Decidable.of_not_not h1)).2
               have hall : List.take ((Sy.rows l).length / 4 * 4) (Sy.rows l) = Sy.rows l := List.take_of_length_le (by omega)
               have hix := ixF_bd (Sy.rows l) a ((Sy.rows l).length / 4)
               simp only [Int.toNat_natCast, Int.toNat_zero, Nat.zero_mul, List.drop_zero, rows_tup, hall, List.length_drop, List.length_take, List.length_append, List.length_cons, List.length_nil, getD_drop', Nat.add_zero, Nat.zero_add, Nat.mul_one, Nat.one_mul] at *
               omega)
           ·
            refine ⟨?_, fun h23 => ?_⟩
            ·
             first
             | exact hc.1
             | exact okR_ent hc.2
             | (have h8 := (chkF_8 (Decidable.of_not_not h1)).2
                have hall : List.take ((Sy.rows l).length / 4 * 4) (Sy.rows l) = Sy.rows l := List.take_of_length_le (by omega)
                have hix := ixF_bd (Sy.rows l) a ((Sy.rows l).length / 4)
                simp only [Int.toNat_natCast, Int.toNat_zero, Nat.zero_mul, List.drop_zero, rows_tup, hall, List.length_drop, List.length_take, List.length_append, List.length_cons, List.length_nil, getD_drop', Nat.add_zero, Nat.zero_add, Nat.mul_one, Nat.one_mul] at *
                omega)
            ·
             refine ⟨?_, fun h24 => ?_⟩
             ·
              first
              | exact hc.1
              | exact okR_ent hc.2
              | (have h8 := (chkF_8 (Decidable.of_not_not h1)).2
                 have hall : List.take ((Sy.rows l).length / 4 * 4) (Sy.rows l) = Sy.rows l := List.take_of_length_le (by omega)
                 have hix := ixF_bd (Sy.rows l) a ((Sy.rows l).length / 4)
                 simp only [Int.toNat_natCast, Int.toNat_zero, Nat.zero_mul, List.drop_zero, rows_tup, hall, List.length_drop, List.length_take, List.length_append, List.length_cons, List.length_nil, getD_drop', Nat.add_zero, Nat.zero_add, Nat.mul_one, Nat.one_mul] at *
                 omega)
             ·
              by_cases hb : chkF (Sy.rows l) = 0 ∧ chkF (ent a b c d) = 0
              · first
                | exact absurd hb.1 h1
                | exact absurd hb.2 h3
                | (obtain ⟨e1, e2⟩ := put_yes (l := Sy.rows l) (a := a) (b := b) (c := c) (d := d) hb.1 hb.2
                   rw [e1, e2]
                   have h8 := (chkF_8 hb.1).2
                   have hall : List.take ((Sy.rows l).length / 4 * 4) (Sy.rows l) = Sy.rows l := List.take_of_length_le (by omega)
                   have hix := ixF_bd (Sy.rows l) a ((Sy.rows l).length / 4)
                   simp only [Int.toNat_natCast, Int.toNat_zero, Nat.zero_mul, List.drop_zero, rows_tup, hall, List.length_drop, List.length_take, List.length_append, List.length_cons, List.length_nil, getD_drop', Nat.add_zero, Nat.zero_add, Nat.mul_one, Nat.one_mul] at *
                   have hin : inF (Sy.rows l) a = if ixF (Sy.rows l) a ((Sy.rows l).length / 4) < 0 then (Sy.rows l).length / 4 else (ixF (Sy.rows l) a ((Sy.rows l).length / 4)).toNat := rfl
                   have heq : eqF (Sy.rows l) a = if inF (Sy.rows l) a < (Sy.rows l).length / 4 ∧ Go.RowKit.intOf ((Sy.rows l).getD (inF (Sy.rows l) a * 4) Go.undef) = a then 1 else 0 := rfl
                   first
                   | (exfalso; omega)
                   | (first
                      | rw [if_pos (by omega)] at hin
                      | rw [if_neg (by omega)] at hin
                      rw [hin] at heq
                      first
                      | rw [if_pos ⟨by omega, by omega⟩] at heq
                      | rw [if_neg (by omega)] at heq
                      rw [hin, heq]
                      try rw [rest_eq hN_l.2]
                      try rw [List.take_of_length_le (show (Sy.rows l).length ≤ (Sy.rows l).length / 4 * 4 by omega)]
                      rfl))
              · obtain ⟨e1, e2⟩ := put_no hb
                rw [e1, e2]
                first
                | rfl
                | exact absurd ⟨Decidable.of_not_not h1, Decidable.of_not_not h3⟩ hb
      ·
       refine ⟨?_, fun h25 => ?_⟩
       ·
        first
        | exact hc.1
        | exact okR_ent hc.2
        | (have h8 := (chkF_8 (Decidable.of_not_not h1)).2
           have hall : List.take ((Sy.rows l).length / 4 * 4) (Sy.rows l) = Sy.rows l := List.take_of_length_le (by omega)
           have hix := ixF_bd (Sy.rows l) a ((Sy.rows l).length / 4)
           simp only [Int.toNat_natCast, Int.toNat_zero, Nat.zero_mul, List.drop_zero, rows_tup, hall, List.length_drop, List.length_take, List.length_append, List.length_cons, List.length_nil, getD_drop', Nat.add_zero, Nat.zero_add, Nat.mul_one, Nat.one_mul] at *
           omega)
       ·
        refine ⟨fun h26 => ?_, fun h26 => ?_⟩
        ·
         refine ⟨?_, fun h27 => ?_⟩
         ·
          first
          | exact hc.1
          | exact okR_ent hc.2
          | (have h8 := (chkF_8 (Decidable.of_not_not h1)).2
             have hall : List.take ((Sy.rows l).length / 4 * 4) (Sy.rows l) = Sy.rows l := List.take_of_length_le (by omega)
             have hix := ixF_bd (Sy.rows l) a ((Sy.rows l).length / 4)
             simp only [Int.toNat_natCast, Int.toNat_zero, Nat.zero_mul, List.drop_zero, rows_tup, hall, List.length_drop, List.length_take, List.length_append, List.length_cons, List.length_nil, getD_drop', Nat.add_zero, Nat.zero_add, Nat.mul_one, Nat.one_mul] at *
             omega)
         ·
          refine ⟨fun h28 => ?_, fun h28 => ?_⟩
          ·
           refine ⟨?_, fun h29 => ?_⟩
           ·
            first
            | exact hc.1
            | exact okR_ent hc.2
            | (have h8 := (chkF_8 (Decidable.of_not_not h1)).2
               have hall : List.take ((Sy.rows l).length / 4 * 4) (Sy.rows l) = Sy.rows l := List.take_of_length_le (by omega)
               have hix := ixF_bd (Sy.rows l) a ((Sy.rows l).length / 4)
               simp only [Int.toNat_natCast, Int.toNat_zero, Nat.zero_mul, List.drop_zero, rows_tup, hall, List.length_drop, List.length_take, List.length_append, List.length_cons, List.length_nil, getD_drop', Nat.add_zero, Nat.zero_add, Nat.mul_one, Nat.one_mul] at *
               omega)
           ·
            have wf3 := wr_i64 (((((rows l).length / 4 : Nat)) : Int) + 1)
            refine ⟨?_, fun h30 => ?_⟩
            ·
             first
             | exact hc.1
             | exact okR_ent hc.2
             | (have h8 := (chkF_8 (Decidable.of_not_not h1)).2
                have hall : List.take ((Sy.rows l).length / 4 * 4) (Sy.rows l) = Sy.rows l := List.take_of_length_le (by omega)
                have hix := ixF_bd (Sy.rows l) a ((Sy.rows l).length / 4)
                simp only [Int.toNat_natCast, Int.toNat_zero, Nat.zero_mul, List.drop_zero, rows_tup, hall, List.length_drop, List.length_take, List.length_append, List.length_cons, List.length_nil, getD_drop', Nat.add_zero, Nat.zero_add, Nat.mul_one, Nat.one_mul] at *
                omega)
            ·
             refine ⟨?_, fun h31 => ?_⟩
             ·
              first
              | exact hc.1
              | exact okR_ent hc.2
              | (have h8 := (chkF_8 (Decidable.of_not_not h1)).2
                 have hall : List.take ((Sy.rows l).length / 4 * 4) (Sy.rows l) = Sy.rows l := List.take_of_length_le (by omega)
                 have hix := ixF_bd (Sy.rows l) a ((Sy.rows l).length / 4)
                 simp only [Int.toNat_natCast, Int.toNat_zero, Nat.zero_mul, List.drop_zero, rows_tup, hall, List.length_drop, List.length_take, List.length_append, List.length_cons, List.length_nil, getD_drop', Nat.add_zero, Nat.zero_add, Nat.mul_one, Nat.one_mul] at *
                 omega)
             ·
              refine ⟨?_, fun h32 => ?_⟩
              ·
               first
               | exact hc.1
               | exact okR_ent hc.2
               | (have h8 := (chkF_8 (Decidable.of_not_not h1)).2
                  have hall : List.take ((Sy.rows l).length / 4 * 4) (Sy.rows l) = Sy.rows l := List.take_of_length_le (by omega)
                  have hix := ixF_bd (Sy.rows l) a ((Sy.rows l).length / 4)
                  simp only [Int.toNat_natCast, Int.toNat_zero, Nat.zero_mul, List.drop_zero, rows_tup, hall, List.length_drop, List.length_take, List.length_append, List.length_cons, List.length_nil, getD_drop', Nat.add_zero, Nat.zero_add, Nat.mul_one, Nat.one_mul] at *
                  omega)
              ·
               refine ⟨?_, fun h33 => ?_⟩
               ·
                first
                | exact hc.1
                | exact okR_ent hc.2
                | (have h8 := (chkF_8 (Decidable.of_not_not h1)).2
                   have hall : List.take ((Sy.rows l).length / 4 * 4) (Sy.rows l) = Sy.rows l := List.take_of_length_le (by omega)
                   have hix := ixF_bd (Sy.rows l) a ((Sy.rows l).length / 4)
                   simp only [Int.toNat_natCast, Int.toNat_zero, Nat.zero_mul, List.drop_zero, rows_tup, hall, List.length_drop, List.length_take, List.length_append, List.length_cons, List.length_nil, getD_drop', Nat.add_zero, Nat.zero_add, Nat.mul_one, Nat.one_mul] at *
                   omega)
               ·
                refine ⟨?_, fun h34 => ?_⟩
                ·
                 first
                 | exact hc.1
                 | exact okR_ent hc.2
                 | (have h8 := (chkF_8 (Decidable.of_not_not h1)).2
                    have hall : List.take ((Sy.rows l).length / 4 * 4) (Sy.rows l) = Sy.rows l := List.take_of_length_le (by omega)
                    have hix := ixF_bd (Sy.rows l) a ((Sy.rows l).length / 4)
                    simp only [Int.toNat_natCast, Int.toNat_zero, Nat.zero_mul, List.drop_zero, rows_tup, hall, List.length_drop, List.length_take, List.length_append, List.length_cons, List.length_nil, getD_drop', Nat.add_zero, Nat.zero_add, Nat.mul_one, Nat.one_mul] at *
                    omega)
                ·
                 by_cases hb : chkF (Sy.rows l) = 0 ∧ chkF (ent a b c d) = 0
                 · first
                   | exact absurd hb.1 h1
                   | exact absurd hb.2 h3
                   | (obtain ⟨e1, e2⟩ := put_yes (l := Sy.rows l) (a := a) (b := b) (c := c) (d := d) hb.1 hb.2
                      rw [e1, e2]
                      have h8 := (chkF_8 hb.1).2
                      have hall : List.take ((Sy.rows l).length / 4 * 4) (Sy.rows l) = Sy.rows l := List.take_of_length_le (by omega)
                      have hix := ixF_bd (Sy.rows l) a ((Sy.rows l).length / 4)
                      simp only [Int.toNat_natCast, Int.toNat_zero, Nat.zero_mul, List.drop_zero, rows_tup, hall, List.length_drop, List.length_take, List.length_append, List.length_cons, List.length_nil, getD_drop', Nat.add_zero, Nat.zero_add, Nat.mul_one, Nat.one_mul] at *
                      have hin : inF (Sy.rows l) a = if ixF (Sy.rows l) a ((Sy.rows l).length / 4) < 0 then (Sy.rows l).length / 4 else (ixF (Sy.rows l) a ((Sy.rows l).length / 4)).toNat := rfl
                      have heq : eqF (Sy.rows l) a = if inF (Sy.rows l) a < (Sy.rows l).length / 4 ∧ Go.RowKit.intOf ((Sy.rows l).getD (inF (Sy.rows l) a * 4) Go.undef) = a then 1 else 0 := rfl
                      first
                      | (exfalso; omega)
                      | (first
                         | rw [if_pos (by omega)] at hin
                         | rw [if_neg (by omega)] at hin
                         rw [hin] at heq
                         first
                         | rw [if_pos ⟨by omega, by omega⟩] at heq
                         | rw [if_neg (by omega)] at heq
                         rw [hin, heq]
                         try rw [rest_eq hN_l.2]
                         try rw [List.take_of_length_le (show (Sy.rows l).length ≤ (Sy.rows l).length / 4 * 4 by omega)]
                         rfl))
                 · obtain ⟨e1, e2⟩ := put_no hb
                   rw [e1, e2]
                   first
                   | rfl
                   | exact absurd ⟨Decidable.of_not_not h1, Decidable.of_not_not h3⟩ hb
          ·
           have wf4 := wr_i64 (((((rows l).length / 4 : Nat)) : Int) + 1)
           refine ⟨?_, fun h35 => ?_⟩
           ·
            first
            | exact hc.1
            | exact okR_ent hc.2
            | (have h8 := (chkF_8 (Decidable.of_not_not h1)).2
               have hall : List.take ((Sy.rows l).length / 4 * 4) (Sy.rows l) = Sy.rows l := List.take_of_length_le (by omega)
               have hix := ixF_bd (Sy.rows l) a ((Sy.rows l).length / 4)
               simp only [Int.toNat_natCast, Int.toNat_zero, Nat.zero_mul, List.drop_zero, rows_tup, hall, List.length_drop, List.length_take, List.length_append, List.length_cons, List.length_nil, getD_drop', Nat.add_zero, Nat.zero_add, Nat.mul_one, Nat.one_mul] at *
               omega)
           ·
            refine ⟨?_, fun h36 => ?_⟩
            ·
             first
             | exact hc.1
             | exact okR_ent hc.2
             | (have h8 := (chkF_8 (Decidable.of_not_not h1)).2
                have hall : List.take ((Sy.rows l).length / 4 * 4) (Sy.rows l) = Sy.rows l := List.take_of_length_le (by omega)
                have hix := ixF_bd (Sy.rows l) a ((Sy.rows l).length / 4)
                simp only [Int.toNat_natCast, Int.toNat_zero, Nat.zero_mul, List.drop_zero, rows_tup, hall, List.length_drop, List.length_take, List.length_append, List.length_cons, List.length_nil, getD_drop', Nat.add_zero, Nat.zero_add, Nat.mul_one, Nat.one_mul] at *
                omega)
            ·
             refine ⟨?_, fun h37 => ?_⟩
             ·
              first
              | exact hc.1
              | exact okR_ent hc.2
              | (have h8 := (chkF_8 (Decidable.of_not_not h1)).2
                 have hall : List.take ((Sy.rows l).length / 4 * 4) (Sy.rows l) = Sy.rows l := List.take_of_length_le (by omega)
                 have hix := ixF_bd (Sy.rows l) a ((Sy.rows l).length / 4)
                 simp only [Int.toNat_natCast, Int.toNat_zero, Nat.zero_mul, List.drop_zero, rows_tup, hall, List.length_drop, List.length_take, List.length_append, List.length_cons, List.length_nil, getD_drop', Nat.add_zero, Nat.zero_add, Nat.mul_one, Nat.one_mul] at *
                 omega)
             ·
              refine ⟨?_, fun h38 => ?_⟩
              ·
               first
               | exact hc.1
               | exact okR_ent hc.2
               | (have h8 := (chkF_8 (Decidable.of_not_not h1)).2
                  have hall : List.take ((Sy.rows l).length / 4 * 4) (Sy.rows l) = Sy.rows l := List.take_of_length_le (by omega)
                  have hix := ixF_bd (Sy.rows l) a ((Sy.rows l).length / 4)
                  simp only [Int.toNat_natCast, Int.toNat_zero, Nat.zero_mul, List.drop_zero, rows_tup, hall, List.length_drop, List.length_take, List.length_append, List.length_cons, List.length_nil, getD_drop', Nat.add_zero, Nat.zero_add, Nat.mul_one, Nat.one_mul] at *
                  omega)
              ·
               refine ⟨?_, fun h39 => ?_⟩
               ·
                first
                | exact hc.1
                | exact okR_ent hc.2
                | (have h8 := (chkF_8 (Decidable.of_not_not h1)).2
                   have hall : List.take ((Sy.rows l).length / 4 * 4) (Sy.rows l) = Sy.rows l := List.take_of_length_le (by omega)
                   have hix := ixF_bd (Sy.rows l) a ((Sy.rows l).length / 4)
                   simp only [Int.toNat_natCast, Int.toNat_zero, Nat.zero_mul, List.drop_zero, rows_tup, hall, List.length_drop, List.length_take, List.length_append, List.length_cons, List.length_nil, getD_drop', Nat.add_zero, Nat.zero_add, Nat.mul_one, Nat.one_mul] at *
                   omega)
               ·
                by_cases hb : chkF (Sy.rows l) = 0 ∧ chkF (ent a b c d) = 0
                · first
                  | exact absurd hb.1 h1
                  | exact absurd hb.2 h3
                  | (obtain ⟨e1, e2⟩ := put_yes (l := Sy.rows l) (a := a) (b := b) (c := c) (d := d) hb.1 hb.2
                     rw [e1, e2]
                     have h8 := (chkF_8 hb.1).2
                     have hall : List.take ((Sy.rows l).length / 4 * 4) (Sy.rows l) = Sy.rows l := List.take_of_length_le (by omega)
                     have hix := ixF_bd (Sy.rows l) a ((Sy.rows l).length / 4)
                     simp only [Int.toNat_natCast, Int.toNat_zero, Nat.zero_mul, List.drop_zero, rows_tup, hall, List.length_drop, List.length_take, List.length_append, List.length_cons, List.length_nil, getD_drop', Nat.add_zero, Nat.zero_add, Nat.mul_one, Nat.one_mul] at *
                     have hin : inF (Sy.rows l) a = if ixF (Sy.rows l) a ((Sy.rows l).length / 4) < 0 then (Sy.rows l).length / 4 else (ixF (Sy.rows l) a ((Sy.rows l).length / 4)).toNat := rfl
                     have heq : eqF (Sy.rows l) a = if inF (Sy.rows l) a < (Sy.rows l).length / 4 ∧ Go.RowKit.intOf ((Sy.rows l).getD (inF (Sy.rows l) a * 4) Go.undef) = a then 1 else 0 := rfl
                     first
                     | (exfalso; omega)
                     | (first
                        | rw [if_pos (by omega)] at hin
                        | rw [if_neg (by omega)] at hin
                        rw [hin] at heq
                        first
                        | rw [if_pos ⟨by omega, by omega⟩] at heq
                        | rw [if_neg (by omega)] at heq
                        rw [hin, heq]
                        try rw [rest_eq hN_l.2]
                        try rw [List.take_of_length_le (show (Sy.rows l).length ≤ (Sy.rows l).length / 4 * 4 by omega)]
                        rfl))
                · obtain ⟨e1, e2⟩ := put_no hb
                  rw [e1, e2]
                  first
                  | rfl
                  | exact absurd ⟨Decidable.of_not_not h1, Decidable.of_not_not h3⟩ hb
        ·
         have wf5 := wr_i64 (((((rows l).length / 4 : Nat)) : Int) + 1)
         refine ⟨?_, fun h40 => ?_⟩
         ·
          first
          | exact hc.1
          | exact okR_ent hc.2
          | (have h8 := (chkF_8 (Decidable.of_not_not h1)).2
             have hall : List.take ((Sy.rows l).length / 4 * 4) (Sy.rows l) = Sy.rows l := List.take_of_length_le (by omega)
             have hix := ixF_bd (Sy.rows l) a ((Sy.rows l).length / 4)
             simp only [Int.toNat_natCast, Int.toNat_zero, Nat.zero_mul, List.drop_zero, rows_tup, hall, List.length_drop, List.length_take, List.length_append, List.length_cons, List.length_nil, getD_drop', Nat.add_zero, Nat.zero_add, Nat.mul_one, Nat.one_mul] at *
             omega)
         ·
          refine ⟨?_, fun h41 => ?_⟩
          ·
           first
           | exact hc.1
           | exact okR_ent hc.2
           | (have h8 := (chkF_8 (Decidable.of_not_not h1)).2
              have hall : List.take ((Sy.rows l).length / 4 * 4) (Sy.rows l) = Sy.rows l := List.take_of_length_le (by omega)
              have hix := ixF_bd (Sy.rows l) a ((Sy.rows l).length / 4)
              simp only [Int.toNat_natCast, Int.toNat_zero, Nat.zero_mul, List.drop_zero, rows_tup, hall, List.length_drop, List.length_take, List.length_append, List.length_cons, List.length_nil, getD_drop', Nat.add_zero, Nat.zero_add, Nat.mul_one, Nat.one_mul] at *
              omega)
          ·
           refine ⟨?_, fun h42 => ?_⟩
           ·
            first
            | exact hc.1
            | exact okR_ent hc.2
            | (have h8 := (chkF_8 (Decidable.of_not_not h1)).2
               have hall : List.take ((Sy.rows l).length / 4 * 4) (Sy.rows l) = Sy.rows l := List.take_of_length_le (by omega)
               have hix := ixF_bd (Sy.rows l) a ((Sy.rows l).length / 4)
               simp only [Int.toNat_natCast, Int.toNat_zero, Nat.zero_mul, List.drop_zero, rows_tup, hall, List.length_drop, List.length_take, List.length_append, List.length_cons, List.length_nil, getD_drop', Nat.add_zero, Nat.zero_add, Nat.mul_one, Nat.one_mul] at *
               omega)
           ·
            refine ⟨?_, fun h43 => ?_⟩
            ·
             first
             | exact hc.1
             | exact okR_ent hc.2
             | (have h8 := (chkF_8 (Decidable.of_not_not h1)).2
                have hall : List.take ((Sy.rows l).length / 4 * 4) (Sy.rows l) = Sy.rows l := List.take_of_length_le (by omega)
                have hix := ixF_bd (Sy.rows l) a ((Sy.rows l).length / 4)
                simp only [Int.toNat_natCast, Int.toNat_zero, Nat.zero_mul, List.drop_zero, rows_tup, hall, List.length_drop, List.length_take, List.length_append, List.length_cons, List.length_nil, getD_drop', Nat.add_zero, Nat.zero_add, Nat.mul_one, Nat.one_mul] at *
                omega)
            ·
             refine ⟨?_, fun h44 => ?_⟩
             ·
              first
              | exact hc.1
              | exact okR_ent hc.2
              | (have h8 := (chkF_8 (Decidable.of_not_not h1)).2
                 have hall : List.take ((Sy.rows l).length / 4 * 4) (Sy.rows l) = Sy.rows l := List.take_of_length_le (by omega)
                 have hix := ixF_bd (Sy.rows l) a ((Sy.rows l).length / 4)
                 simp only [Int.toNat_natCast, Int.toNat_zero, Nat.zero_mul, List.drop_zero, rows_tup, hall, List.length_drop, List.length_take, List.length_append, List.length_cons, List.length_nil, getD_drop', Nat.add_zero, Nat.zero_add, Nat.mul_one, Nat.one_mul] at *
                 omega)
             ·
              by_cases hb : chkF (Sy.rows l) = 0 ∧ chkF (ent a b c d) = 0
              · first
                | exact absurd hb.1 h1
                | exact absurd hb.2 h3
                | (obtain ⟨e1, e2⟩ := put_yes (l := Sy.rows l) (a := a) (b := b) (c := c) (d := d) hb.1 hb.2
                   rw [e1, e2]
                   have h8 := (chkF_8 hb.1).2
                   have hall : List.take ((Sy.rows l).length / 4 * 4) (Sy.rows l) = Sy.rows l := List.take_of_length_le (by omega)
                   have hix := ixF_bd (Sy.rows l) a ((Sy.rows l).length / 4)
                   simp only [Int.toNat_natCast, Int.toNat_zero, Nat.zero_mul, List.drop_zero, rows_tup, hall, List.length_drop, List.length_take, List.length_append, List.length_cons, List.length_nil, getD_drop', Nat.add_zero, Nat.zero_add, Nat.mul_one, Nat.one_mul] at *
                   have hin : inF (Sy.rows l) a = if ixF (Sy.rows l) a ((Sy.rows l).length / 4) < 0 then (Sy.rows l).length / 4 else (ixF (Sy.rows l) a ((Sy.rows l).length / 4)).toNat := rfl
                   have heq : eqF (Sy.rows l) a = if inF (Sy.rows l) a < (Sy.rows l).length / 4 ∧ Go.RowKit.intOf ((Sy.rows l).getD (inF (Sy.rows l) a * 4) Go.undef) = a then 1 else 0 := rfl
                   first
                   | (exfalso; omega)
                   | (first
                      | rw [if_pos (by omega)] at hin
                      | rw [if_neg (by omega)] at hin
                      rw [hin] at heq
                      first
                      | rw [if_pos ⟨by omega, by omega⟩] at heq
                      | rw [if_neg (by omega)] at heq
                      rw [hin, heq]
                      try rw [rest_eq hN_l.2]
                      try rw [List.take_of_length_le (show (Sy.rows l).length ≤ (Sy.rows l).length / 4 * 4 by omega)]
                      rfl))
              · obtain ⟨e1, e2⟩ := put_no hb
                rw [e1, e2]
                first
                | rfl
                | exact absurd ⟨Decidable.of_not_not h1, Decidable.of_not_not h3⟩ hb
theorem fag_fput : fac_fput.Good Tryd.prog syG (faE [] [] [] []) := good_of_walk (Γ := ⟨[fac_fck, fac_fix], syG, [111], [], []⟩) (ρ := faE [] [] [] []) sym fput_w rfl (fun _ _ _ _ => (ok_cons (Con.Good.env fag_fck _ _ _ _) (ok_cons (Con.Good.env fag_fix _ _ _ _) ok_nil))) (fun a b c d l hc hty => fput_h a b c d l hc hty)
end Go.Proofs.YtflckmhlobpfiaaDoor
