import Derived.Test.YtflckmhlobpfiaaDoorSycqb
import Derived.Test.YtflckmhlobpfiaaDoorZ15eqb
/-
  Layer 15 by the second engine: FilterOld.
-/
namespace Go.Proofs.YtflckmhlobpfiaaDoor
open Go.RowKit Go.Extern.Stop Go.Stop Go.Extern Go.Proofs.YtflckmhlobpfiaaDoor.Sy
set_option linter.unusedVariables false
set_option linter.unusedSimpArgs false
/-- the entries that count among the first k -/
def smL (l : List Value) (p n : Int) : Nat → List Value
  | 0 => []
  | k + 1 => if cntF l p n k then smL l p n k ++ rowF l k else smL l p n k
theorem sm_yes {l : List Value} {p n : Int} {k : Nat} (h : cntF l p n k) : smL l p n (k + 1) = smL l p n k ++ rowF l k := by rw [smL, if_pos h]
theorem sm_no {l : List Value} {p n : Int} {k : Nat} (h : ¬ cntF l p n k) : smL l p n (k + 1) = smL l p n k := by rw [smL, if_neg h]
theorem sm_len (l : List Value) (p n : Int) : ∀ k, ∃ q, q ≤ k ∧ (smL l p n k).length = q * 4
  | 0 => ⟨0, Nat.le_refl _, rfl⟩
  | k + 1 => by
    obtain ⟨q, h1, h2⟩ := sm_len l p n k
    by_cases h : cntF l p n k
    · rw [sm_yes h]; exact ⟨q + 1, by omega, by rw [List.length_append, h2]; show q * 4 + 4 = _; omega⟩
    · rw [sm_no h]; exact ⟨q, by omega, h2⟩
theorem least_left {A B : List Value} {k : Nat} (h : k * 4 ≤ A.length) : leastS (A ++ B) k = leastS A k := by
  cases k with
  | zero => rfl
  | succ k => simp only [leastS]; rw [getD_left (by omega)]
theorem fineE_left {A B : List Value} {k : Nat} (h : k * 4 + 3 < A.length) : fineE (A ++ B) k = fineE A k := by
  unfold fineE
  rw [least_left (by omega), getD_left (by omega), getD_left (by omega), getD_left (by omega), getD_left (by omega)]
theorem okF_left {A B : List Value} : ∀ {k : Nat}, k * 4 ≤ A.length → okF (A ++ B) k = okF A k
  | 0, _ => rfl
  | k + 1, h => by
    simp only [okF]
    rw [okF_left (by omega), fineE_left (by omega)]
theorem cntF_left {A B : List Value} {p n : Int} {k : Nat} (h : k * 4 + 3 < A.length) : cntF (A ++ B) p n k ↔ cntF A p n k := by
  unfold cntF
  rw [getD_left (by omega)]
theorem spanF_left {A B : List Value} {r n : Int} {k : Nat} (h : k * 4 + 3 < A.length) : spanF (A ++ B) r n k = spanF A r n k := by
  unfold spanF
  rw [getD_left (by omega), getD_left (by omega), getD_left (by omega)]
theorem nowL_left {A B : List Value} {r p n : Int} : ∀ {k : Nat}, k * 4 ≤ A.length → nowL (A ++ B) r p n k = nowL A r p n k
  | 0, _ => rfl
  | k + 1, h => by
    have ih := nowL_left (A := A) (B := B) (r := r) (p := p) (n := n) (k := k) (by omega)
    by_cases hc : cntF A p n k
    · rw [now_yes hc, now_yes ((cntF_left (by omega)).2 hc), ih, spanF_left (by omega)]
    · rw [now_no hc, now_no (fun h2 => hc ((cntF_left (by omega)).1 h2)), ih]
theorem row4_at {A l : List Value} {q k j : Nat} (hq : A.length = q * 4) (hj : j < 4) : (A ++ rowF l k).getD (q * 4 + j) Go.undef = l.getD (k * 4 + j) Go.undef := by
  rw [getD_right (by omega), show q * 4 + j - A.length = j by omega]
  match j, hj with
  | 0, _ => rfl
  | 1, _ => rfl
  | 2, _ => rfl
  | 3, _ => rfl
theorem row4_at0 {A l : List Value} {q k : Nat} (hq : A.length = q * 4) : (A ++ rowF l k).getD (q * 4) Go.undef = l.getD (k * 4) Go.undef := row4_at (j := 0) hq (by decide)
/-- they are a filter, and say the same now -/
theorem sm_spec {l : List Value} (r p n : Int) {N : Nat} (ho : okF l N = true) : ∀ {k : Nat}, k ≤ N → okF (smL l p n k) ((smL l p n k).length / 4) = true ∧ leastS (smL l p n k) ((smL l p n k).length / 4) ≤ leastS l k ∧ nowL (smL l p n k) r p n ((smL l p n k).length / 4) = nowL l r p n k
  | 0, _ => by simp [smL, okF, leastS, nowL]
  | k + 1, hk => by
    obtain ⟨i1, i2, i3⟩ := sm_spec r p n ho (k := k) (by omega)
    have hf := fineE_iff.1 (okF_get ho (j := k) (by omega))
    obtain ⟨q, q1, q2⟩ := sm_len l p n k
    have hd : (smL l p n k).length / 4 = q := by rw [q2]; exact Nat.mul_div_cancel q (by decide)
    rw [hd] at i1 i2 i3
    by_cases h : cntF l p n k
    · rw [sm_yes h]
      have hl : (smL l p n k ++ rowF l k).length / 4 = q + 1 := by rw [List.length_append, q2]; show (q * 4 + 4) / 4 = _; omega
      rw [hl]
      refine ⟨?_, ?_, ?_⟩
      · simp only [okF]
        rw [okF_left (by omega), i1, Bool.true_and, fineE_iff, least_left (by omega), row4_at0 q2, row4_at q2 (by decide), row4_at q2 (by decide), row4_at q2 (by decide)]
        exact ⟨by omega, hf.2.1, hf.2.2.1, hf.2.2.2.1, hf.2.2.2.2⟩
      · simp only [leastS]
        rw [row4_at0 q2]
        exact Int.le_refl _
      · have hc : cntF (smL l p n k ++ rowF l k) p n q := by
          unfold cntF at h ⊢
          rw [row4_at q2 (by decide)]
          exact h
        rw [now_yes hc, now_yes h, nowL_left (by omega), i3]
        unfold spanF
        rw [row4_at q2 (by decide), row4_at q2 (by decide), row4_at q2 (by decide)]
    · rw [sm_no h, now_no h, hd]
      refine ⟨i1, ?_, i3⟩
      have hs : leastS l (k + 1) = Go.RowKit.intOf (l.getD (k * 4) Go.undef) + 1 := rfl
      rw [hs]
      omega
theorem okR_sm {l : List Value} (h : okR l = true) (p n : Int) : ∀ {k : Nat}, k * 4 ≤ l.length → okR (smL l p n k) = true
  | 0, _ => okR_nil
  | k + 1, hk => by
    have ih := okR_sm h p n (k := k) (by omega)
    have hm : ∀ j, j < l.length → l.getD j Go.undef ∈ l := fun j hj => by rw [List.getD_eq_getElem?_getD, List.getElem?_eq_getElem hj]; exact List.getElem_mem hj
    by_cases hc : cntF l p n k
    · rw [sm_yes hc]
      refine okR_iff.2 fun x hx => ?_
      rcases List.mem_append.1 hx with hx | hx
      · exact okR_iff.1 ih x hx
      · simp only [rowF, List.mem_cons, List.not_mem_nil, or_false] at hx
        rcases hx with rfl | rfl | rfl | rfl
        · exact okR_iff.1 h _ (hm _ (by omega))
        · exact okR_iff.1 h _ (hm _ (by omega))
        · exact okR_iff.1 h _ (hm _ (by omega))
        · exact okR_iff.1 h _ (hm _ (by omega))
    · rw [sm_no hc]; exact ih
abbrev smA (l : List Value) (p n : Int) : List Value := smL l p n (l.length / 4)
/-- what doesn't count makes no difference -/
theorem old_same {l : List Value} {r p n : Int} (h : chkF l = 0) : bstE (smA l p n) r p n = bstE l r p n ∧ bstR (smA l p n) r p n = bstR l r p n := by
  obtain ⟨ho, h8⟩ := chkF_8 h
  obtain ⟨i1, _, i3⟩ := sm_spec r p n ho (Nat.le_refl _)
  have hc : chkF (smA l p n) = 0 := chkF_yes i1
  have hn : nowA (smA l p n) r p n = nowA l r p n := i3
  have hE : bstE (smA l p n) r p n = bstE l r p n := by
    unfold bstE
    rw [hc, h, hn]
  exact ⟨hE, by unfold bstR; rw [hE, hn]⟩
theorem old_none {l : List Value} {r p n : Int} (h : chkF l = 0) (hw : ¬ wrgF r p n) (h0 : (smA l p n).length / 4 = 0) : bstE l r p n = 13 := by
  obtain ⟨ho, h8⟩ := chkF_8 h
  obtain ⟨_, _, i3⟩ := sm_spec r p n ho (Nat.le_refl _)
  have hn : nowA l r p n = [] := by
    have h1 : nowA l r p n = nowL (smA l p n) r p n ((smA l p n).length / 4) := i3.symm
    rw [h1, h0]
    rfl
  refine (bst_none (fun hx => hx.elim (fun h2 => h2 h) hw) ?_).1
  rw [hn]
  exact fun hx => absurd hx.1 (by decide)
/-- had a source told? -/
def hadF (l : List Value) (s : Int) : Nat → Int
  | 0 => 0
  | k + 1 => if Go.RowKit.intOf (l.getD (k * 4) Go.undef) = s then 1 else hadF l s k
theorem had_yes {l : List Value} {s : Int} {k : Nat} (h : Go.RowKit.intOf (l.getD (k * 4) Go.undef) = s) : hadF l s (k + 1) = 1 := by rw [hadF, if_pos h]
theorem had_no {l : List Value} {s : Int} {k : Nat} (h : ¬ Go.RowKit.intOf (l.getD (k * 4) Go.undef) = s) : hadF l s (k + 1) = hadF l s k := by rw [hadF, if_neg h]
theorem had_spec (l : List Value) (s : Int) : ∀ k, (hadF l s k = 1 ∧ ∃ j, j < k ∧ Go.RowKit.intOf (l.getD (j * 4) Go.undef) = s) ∨ (hadF l s k = 0 ∧ ∀ j, j < k → ¬ Go.RowKit.intOf (l.getD (j * 4) Go.undef) = s)
  | 0 => .inr ⟨rfl, fun j hj => absurd hj (Nat.not_lt_zero _)⟩
  | k + 1 => by
    by_cases h : Go.RowKit.intOf (l.getD (k * 4) Go.undef) = s
    · exact .inl ⟨had_yes h, k, by omega, h⟩
    · rw [had_no h]
      rcases had_spec l s k with ⟨h1, j, h2, h3⟩ | ⟨h1, h2⟩
      · exact .inl ⟨h1, j, by omega, h3⟩
      · refine .inr ⟨h1, fun j hj => ?_⟩
        rcases Nat.lt_succ_iff_lt_or_eq.1 hj with h3 | rfl
        · exact h2 j h3
        · exact h
theorem had_01 (l : List Value) (s : Int) (k : Nat) : hadF l s k = 0 ∨ hadF l s k = 1 := by
  rcases had_spec l s k with h | h
  · exact .inr h.1
  · exact .inl h.1
theorem had_eq {l : List Value} {s : Int} (ho : okF l (l.length / 4) = true) : ((eqF l s : Nat) : Int) = hadF l s (l.length / 4) := by
  obtain ⟨n1, n2, n3⟩ := inF_spec l s
  rcases had_spec l s (l.length / 4) with ⟨h1, j, h2, h3⟩ | ⟨h1, h2⟩
  · rw [h1]
    have hi : inF l s ≤ j := by
      by_cases hc : j < inF l s
      · have := n2 j hc; omega
      · omega
    have hj : inF l s = j := by
      by_cases hc : inF l s < j
      · have := src_mono ho hc h2
        have := n3 (by omega)
        omega
      · omega
    rcases eqF_spec l s with ⟨e1, _⟩ | ⟨_, e2⟩
    · rw [e1]; rfl
    · exact absurd ⟨by omega, by rw [hj]; exact h3⟩ e2
  · rw [h1]
    rcases eqF_spec l s with ⟨_, e2, e3⟩ | ⟨e1, _⟩
    · exact absurd e3 (h2 _ e2)
    · rw [e1]; rfl
theorem put_len {l : List Value} {a b c d : Int} (hl : l.length = l.length / 4 * 4) (h : putE l a b c d = 0) : (((putV l a b c d).length / 4 : Nat) : Int) = ((l.length / 4 : Nat) : Int) + 1 - hadF l a (l.length / 4) := by
  have hx : chkF l = 0 ∧ chkF (ent a b c d) = 0 := by
    by_cases hc : chkF l = 0 ∧ chkF (ent a b c d) = 0
    · exact hc
    · have := (put_no hc).1; omega
  obtain ⟨ho, _⟩ := chkF_8 hx.1
  rw [← had_eq ho, (put_yes hx.1 hx.2).2]
  obtain ⟨n1, _, _⟩ := inF_spec l a
  have he : eqF l a = 0 ∨ (eqF l a = 1 ∧ inF l a < l.length / 4) := by
    rcases eqF_spec l a with ⟨e1, e2, _⟩ | ⟨e1, _⟩
    · exact .inr ⟨e1, e2⟩
    · exact .inl e1
  simp only [List.length_append, List.length_take, List.length_drop]
  show ((((min (inF l a * 4) l.length + 4 + (l.length - (inF l a + eqF l a) * 4)) / 4 : Nat)) : Int) = _
  omega
theorem putE_2 (l : List Value) (a b c d : Int) : putE l a b c d = 0 ∨ putE l a b c d = 1 := by
  unfold putE; split
  · exact .inl rfl
  · exact .inr rfl
noncomputable def ffI : Nat → List Value → Int
  | 30, [l, .int _ s, .int _ k] => hadF (rows l) s k.toNat
  | i, l => feI i l
noncomputable def ffB : Nat → List Value → Bool
  | 11, [v, l, .int _ n, .int _ k] => eqV v (Value.tuple (smL (rows l) 50 n k.toNat).toArray)
  | i, l => feB i l
noncomputable def ffV : Nat → List Value → Value
  | i, l => feV i l
noncomputable abbrev ffE (iv : List Int) (bv : List Bool) (vv : List Value) (sv : List ByteArray) : Env := { iv := iv, bv := bv, vv := vv, sv := sv, fi := ffI, fb := ffB, fv := ffV, et := 141 }
theorem ffup : Agree 30 11 2 (feE [] [] [] []) (ffE [] [] [] []) := ⟨rfl, (by
    intro f hf
    funext l
    show ffI f l = feI f l
    unfold ffI
    split <;> first | rfl | omega), (by
    intro f hf
    funext l
    show ffB f l = feB f l
    unfold ffB
    split <;> first | rfl | omega), (by
    intro f hf
    funext l
    show ffV f l = feV f l
    unfold ffV
    split <;> first | rfl | omega)⟩
theorem ffi_of (l : Value) (k1 : IntKind) (n : Int) (k2 : IntKind) (k : Int) : ffI 0 [l, .int k1 n, .int k2 k] = ((ofN (rows l) n k.toNat : Nat) : Int) := rfl
theorem ffi_arh (l : Value) (k1 : IntKind) (n : Int) (k2 : IntKind) (k : Int) : ffI 1 [l, .int k1 n, .int k2 k] = arH (rows l) n k.toNat := rfl
theorem ffi_fb (l : Value) (k1 : IntKind) (k : Int) : ffI 2 [l, .int k1 k] = fbW (rows l) k.toNat := rfl
theorem ffi_se (k1 : IntKind) (a : Int) (k2 : IntKind) (b : Int) : ffI 3 [.int k1 a, .int k2 b] = spE a b := rfl
theorem ffi_vm (l : Value) (k1 : IntKind) (k : Int) : ffI 4 [l, .int k1 k] = (((vo (rows l) ((rows l).length / 2) k.toNat).1 : Nat) : Int) := rfl
theorem ffi_vl (l : Value) (k1 : IntKind) (k : Int) : ffI 5 [l, .int k1 k] = (vo (rows l) ((rows l).length / 2) k.toNat).2.1 := rfl
theorem ffi_vh (l : Value) (k1 : IntKind) (k : Int) : ffI 6 [l, .int k1 k] = (vo (rows l) ((rows l).length / 2) k.toNat).2.2 := rfl
theorem ffi_vE (l : Value) : ffI 7 [l] = voE (rows l) := rfl
theorem ffi_vM (l : Value) : ffI 8 [l] = (((voR (rows l)).1 : Nat) : Int) := rfl
theorem ffi_vL (l : Value) : ffI 9 [l] = (voR (rows l)).2.1 := rfl
theorem ffi_vH (l : Value) : ffI 10 [l] = (voR (rows l)).2.2 := rfl
theorem ffi_aa (l : Value) (k1 : IntKind) (k : Int) : ffI 11 [l, .int k1 k] = (atS (rows l) ((rows l).length / 2) k.toNat).2 := rfl
theorem ffi_mi (k1 : IntKind) (a : Int) (k2 : IntKind) (b : Int) : ffI 12 [.int k1 a, .int k2 b] = midM a b := rfl
theorem ffi_sa (k1 : IntKind) (a : Int) : ffI 13 [.int k1 a] = satE a := rfl
theorem ffi_nv (k1 : IntKind) (a : Int) : ffI 14 [.int k1 a] = svE a := rfl
theorem ffi_ne (k1 : IntKind) (a : Int) : ffI 15 [.int k1 a] = erE a := rfl
theorem ffi_sz (k1 : IntKind) (a : Int) : ffI 16 [.int k1 a] = szE a := rfl
theorem ffi_lst (l : Value) (k1 : IntKind) (k : Int) : ffI 17 [l, .int k1 k] = leastS (rows l) k.toNat := rfl
theorem ffi_chk (l : Value) : ffI 18 [l] = chkF (rows l) := rfl
theorem ffi_ix (l : Value) (k1 : IntKind) (s : Int) (k2 : IntKind) (k : Int) : ffI 19 [l, .int k1 s, .int k2 k] = ixF (rows l) s k.toNat := rfl
theorem ffi_pE (l : Value) (k1 : IntKind) (a : Int) (k2 : IntKind) (b : Int) (k3 : IntKind) (c : Int) (k4 : IntKind) (d : Int) : ffI 20 [l, .int k1 a, .int k2 b, .int k3 c, .int k4 d] = putE (rows l) a b c d := rfl
theorem ffi_md (k1 : IntKind) (a : Int) (k2 : IntKind) (b : Int) : ffI 21 [.int k1 a, .int k2 b] = a * b / 1073741824 := rfl
theorem ffi_up (k1 : IntKind) (g : Int) (k2 : IntKind) (r : Int) : ffI 22 [.int k1 g, .int k2 r] = upK (g * r) := rfl
theorem ffi_rsv (k1 : IntKind) (a : Int) : ffI 23 [.int k1 a] = svE a := rfl
theorem ffi_rso (k1 : IntKind) (a : Int) : ffI 24 [.int k1 a] = soE a := rfl
theorem ffi_rbd (k1 : IntKind) (a : Int) (k2 : IntKind) (o : Int) : ffI 25 [.int k1 a, .int k2 o] = bdE a o := rfl
theorem ffi_bE (l : Value) (k1 : IntKind) (r : Int) (k2 : IntKind) (p : Int) (k3 : IntKind) (n : Int) : ffI 26 [l, .int k1 r, .int k2 p, .int k3 n] = bstE (rows l) r p n := rfl
theorem ffi_bL (l : Value) (k1 : IntKind) (r : Int) (k2 : IntKind) (p : Int) (k3 : IntKind) (n : Int) : ffI 27 [l, .int k1 r, .int k2 p, .int k3 n] = (bstR (rows l) r p n).2.1 := rfl
theorem ffi_bH (l : Value) (k1 : IntKind) (r : Int) (k2 : IntKind) (p : Int) (k3 : IntKind) (n : Int) : ffI 28 [l, .int k1 r, .int k2 p, .int k3 n] = (bstR (rows l) r p n).2.2 := rfl
theorem ffi_bM (l : Value) (k1 : IntKind) (r : Int) (k2 : IntKind) (p : Int) (k3 : IntKind) (n : Int) : ffI 29 [l, .int k1 r, .int k2 p, .int k3 n] = (((bstR (rows l) r p n).1 : Nat) : Int) := rfl
theorem ffi_hd (l : Value) (k1 : IntKind) (s : Int) (k2 : IntKind) (k : Int) : ffI 30 [l, .int k1 s, .int k2 k] = hadF (rows l) s k.toNat := rfl
theorem ffb_pre (l : Value) (k1 : IntKind) (k : Int) : ffB 0 [l, .int k1 k] = preW (rows l) k.toNat := rfl
theorem ffb_sm (l : Value) (k1 : IntKind) (a : Int) (k2 : IntKind) (b : Int) (k3 : IntKind) (k : Int) : ffB 1 [l, .int k1 a, .int k2 b, .int k3 k] = smB (rows l) a b k.toNat := rfl
theorem ffb_ai (l : Value) (k1 : IntKind) (k : Int) : ffB 2 [l, .int k1 k] = (atS (rows l) ((rows l).length / 2) k.toNat).1 := rfl
theorem ffb_tk (x : Value) (y : Value) (k1 : IntKind) (n : Int) : ffB 3 [x, y, .int k1 n] = eqV x (tkV y n.toNat) := rfl
theorem ffb_okr (l : Value) : ffB 4 [l] = okR (rows l) := rfl
theorem ffb_okf (l : Value) (k1 : IntKind) (k : Int) : ffB 5 [l, .int k1 k] = okF (rows l) k.toNat := rfl
theorem ffb_rp (v : Value) (l : Value) (k1 : IntKind) (a : Int) (k2 : IntKind) (b : Int) (k3 : IntKind) (c : Int) (k4 : IntKind) (d : Int) (k5 : IntKind) (k : Int) : ffB 6 [v, l, .int k1 a, .int k2 b, .int k3 c, .int k4 d, .int k5 k] = rpB v (rows l) a b c d k.toNat := rfl
theorem ffb_rd (l : Value) (k1 : IntKind) (a : Int) (k2 : IntKind) (k : Int) : ffB 7 [l, .int k1 a, .int k2 k] = decide (inF (rows l) a < k.toNat) := rfl
theorem ffb_nb (v : Value) (l : Value) (k1 : IntKind) (r : Int) (k2 : IntKind) (p : Int) (k3 : IntKind) (n : Int) (k4 : IntKind) (k : Int) : ffB 8 [v, l, .int k1 r, .int k2 p, .int k3 n, .int k4 k] = eqV v (Value.tuple (nowL (rows l) r p n k.toNat).toArray) := rfl
theorem ffb_tk4 (x : Value) (y : Value) (k1 : IntKind) (n : Int) : ffB 9 [x, y, .int k1 n] = eqV x (tk4V y n.toNat) := rfl
theorem ffb_eqv (x : Value) (y : Value) : ffB 10 [x, y] = eqV x y := rfl
theorem ffb_smb (v : Value) (l : Value) (k1 : IntKind) (n : Int) (k2 : IntKind) (k : Int) : ffB 11 [v, l, .int k1 n, .int k2 k] = eqV v (Value.tuple (smL (rows l) 50 n k.toNat).toArray) := rfl
theorem ffv_pV (l : Value) (k1 : IntKind) (a : Int) (k2 : IntKind) (b : Int) (k3 : IntKind) (c : Int) (k4 : IntKind) (d : Int) : ffV 0 [l, .int k1 a, .int k2 b, .int k3 c, .int k4 d] = Value.tuple (putV (rows l) a b c d).toArray := rfl
theorem ffv_nw (l : Value) (k1 : IntKind) (r : Int) (k2 : IntKind) (p : Int) (k3 : IntKind) (n : Int) (k4 : IntKind) (k : Int) : ffV 1 [l, .int k1 r, .int k2 p, .int k3 n, .int k4 k] = Value.tuple (nowL (rows l) r p n k.toNat).toArray := rfl
def wOld_tree : Tree :=
 (.need (.b2 .le (.ofI (.vop (.len 4) (.cons (.opq 0) .nil))) (.lit (4398046511103)))
 (.need (.bapp 4 (.cons (.opq 0) .nil))
 (.br (.not (.b2 .eq (.iapp 18 (.cons (.opq 0) .nil)) (.lit (0))))
 (.ret (.bool (.tt true)))
 (.br (.b2 .lt (.var 4) (.lit (-1152921504606846976)))
 (.ret (.bool (.tt true)))
 (.br (.b2 .lt (.lit (1152921504606846976)) (.var 4))
 (.ret (.bool (.tt true)))
 (.loop ⟨1, 0, 1, 0⟩ (.b2 .and (.b2 .le (.lit (0)) (.lit (0))) (.b2 .and (.b2 .le (.lit (0)) (.ofI (.vop (.len 4) (.cons (.opq 0) .nil)))) (.bapp 11 (.cons (.tup .nil) (.cons (.opq 0) (.cons (.int .i64 (.var 4)) (.cons (.int .i64 (.lit (0))) .nil))))))) (.b2 .and (.b2 .le (.lit (0)) (.var 5)) (.b2 .and (.b2 .le (.var 5) (.ofI (.vop (.len 4) (.cons (.opq 0) .nil)))) (.bapp 11 (.cons (.opq 1) (.cons (.opq 0) (.cons (.int .i64 (.var 4)) (.cons (.int .i64 (.var 5)) .nil)))))))
 (.br (.b2 .lt (.var 5) (.ofI (.vop (.len 4) (.cons (.opq 0) .nil))))
 (.need (.b2 .and (.b2 .le (.lit (0)) (.var 5)) (.b2 .lt (.var 5) (.ofI (.vop (.len 4) (.cons (.opq 0) .nil)))))
 (.br (.b2 .le (.ofI (.vop (.sel 4 1) (.cons (.opq 0) (.cons (.int .i64 (.var 5)) .nil)))) (.var 4))
 (.need (.b2 .and (.b2 .le (.lit (0)) (.var 5)) (.b2 .lt (.var 5) (.ofI (.vop (.len 4) (.cons (.opq 0) .nil)))))
 (.br (.b2 .le (.wrap .i64 (.i2 .sub (.var 4) (.ofI (.vop (.sel 4 1) (.cons (.opq 0) (.cons (.int .i64 (.var 5)) .nil)))))) (.lit (50)))
 (.need (.b2 .and (.b2 .le (.lit (0)) (.var 5)) (.b2 .lt (.var 5) (.ofI (.vop (.len 4) (.cons (.opq 0) .nil)))))
 (.need (.b2 .le (.i2 .add (.ofI (.vop (.len 4) (.cons (.opq 1) .nil))) (.lit (1))) (.lit (4398046511104)))
 (.back (.b2 .and (.b2 .le (.lit (0)) (.wrap .i64 (.i2 .add (.var 5) (.lit (1))))) (.b2 .and (.b2 .le (.wrap .i64 (.i2 .add (.var 5) (.lit (1)))) (.ofI (.vop (.len 4) (.cons (.opq 0) .nil)))) (.bapp 11 (.cons (.vop .cat (.cons (.opq 1) (.cons (.tup (.cons (.int .i64 (.ofI (.vop (.sel 4 0) (.cons (.opq 0) (.cons (.int .i64 (.var 5)) .nil))))) (.cons (.int .i64 (.ofI (.vop (.sel 4 1) (.cons (.opq 0) (.cons (.int .i64 (.var 5)) .nil))))) (.cons (.int .i64 (.ofI (.vop (.sel 4 2) (.cons (.opq 0) (.cons (.int .i64 (.var 5)) .nil))))) (.cons (.int .i64 (.ofI (.vop (.sel 4 3) (.cons (.opq 0) (.cons (.int .i64 (.var 5)) .nil))))) .nil))))) .nil))) (.cons (.opq 0) (.cons (.int .i64 (.var 4)) (.cons (.int .i64 (.wrap .i64 (.i2 .add (.var 5) (.lit (1))))) .nil))))))) (.i2 .sub (.ofI (.vop (.len 4) (.cons (.opq 0) .nil))) (.wrap .i64 (.i2 .add (.var 5) (.lit (1))))) (.i2 .sub (.ofI (.vop (.len 4) (.cons (.opq 0) .nil))) (.var 5)))))
 (.back (.b2 .and (.b2 .le (.lit (0)) (.wrap .i64 (.i2 .add (.var 5) (.lit (1))))) (.b2 .and (.b2 .le (.wrap .i64 (.i2 .add (.var 5) (.lit (1)))) (.ofI (.vop (.len 4) (.cons (.opq 0) .nil)))) (.bapp 11 (.cons (.opq 1) (.cons (.opq 0) (.cons (.int .i64 (.var 4)) (.cons (.int .i64 (.wrap .i64 (.i2 .add (.var 5) (.lit (1))))) .nil))))))) (.i2 .sub (.ofI (.vop (.len 4) (.cons (.opq 0) .nil))) (.wrap .i64 (.i2 .add (.var 5) (.lit (1))))) (.i2 .sub (.ofI (.vop (.len 4) (.cons (.opq 0) .nil))) (.var 5)))))
 (.back (.b2 .and (.b2 .le (.lit (0)) (.wrap .i64 (.i2 .add (.var 5) (.lit (1))))) (.b2 .and (.b2 .le (.wrap .i64 (.i2 .add (.var 5) (.lit (1)))) (.ofI (.vop (.len 4) (.cons (.opq 0) .nil)))) (.bapp 11 (.cons (.opq 1) (.cons (.opq 0) (.cons (.int .i64 (.var 4)) (.cons (.int .i64 (.wrap .i64 (.i2 .add (.var 5) (.lit (1))))) .nil))))))) (.i2 .sub (.ofI (.vop (.len 4) (.cons (.opq 0) .nil))) (.wrap .i64 (.i2 .add (.var 5) (.lit (1))))) (.i2 .sub (.ofI (.vop (.len 4) (.cons (.opq 0) .nil))) (.var 5)))))
 (.need (.b2 .and (.bapp 4 (.cons (.opq 0) .nil)) (.b2 .and (.b2 .le (.lit (-9223372036854775808)) (.var 4)) (.b2 .le (.var 4) (.lit (9223372036854775807)))))
 (.need (.b2 .and (.bapp 4 (.cons (.opq 1) .nil)) (.b2 .and (.b2 .le (.lit (-9223372036854775808)) (.var 4)) (.b2 .le (.var 4) (.lit (9223372036854775807)))))
 (.br (.not (.b2 .and (.b2 .eq (.iapp 27 (.cons (.opq 0) (.cons (.int .i64 (.lit (7))) (.cons (.int .i64 (.lit (50))) (.cons (.int .i64 (.var 4)) .nil))))) (.iapp 27 (.cons (.opq 1) (.cons (.int .i64 (.lit (7))) (.cons (.int .i64 (.lit (50))) (.cons (.int .i64 (.var 4)) .nil)))))) (.b2 .eq (.iapp 28 (.cons (.opq 0) (.cons (.int .i64 (.lit (7))) (.cons (.int .i64 (.lit (50))) (.cons (.int .i64 (.var 4)) .nil))))) (.iapp 28 (.cons (.opq 1) (.cons (.int .i64 (.lit (7))) (.cons (.int .i64 (.lit (50))) (.cons (.int .i64 (.var 4)) .nil))))))))
 (.ret (.bool (.tt false)))
 (.br (.not (.b2 .eq (.iapp 29 (.cons (.opq 0) (.cons (.int .i64 (.lit (7))) (.cons (.int .i64 (.lit (50))) (.cons (.int .i64 (.var 4)) .nil))))) (.iapp 29 (.cons (.opq 1) (.cons (.int .i64 (.lit (7))) (.cons (.int .i64 (.lit (50))) (.cons (.int .i64 (.var 4)) .nil)))))))
 (.ret (.bool (.tt false)))
 (.br (.not (.b2 .eq (.iapp 26 (.cons (.opq 0) (.cons (.int .i64 (.lit (7))) (.cons (.int .i64 (.lit (50))) (.cons (.int .i64 (.var 4)) .nil))))) (.iapp 26 (.cons (.opq 1) (.cons (.int .i64 (.lit (7))) (.cons (.int .i64 (.lit (50))) (.cons (.int .i64 (.var 4)) .nil)))))))
 (.ret (.bool (.tt false)))
 (.br (.b2 .eq (.ofI (.vop (.len 4) (.cons (.opq 1) .nil))) (.lit (0)))
 (.br (.not (.b2 .eq (.iapp 26 (.cons (.opq 0) (.cons (.int .i64 (.lit (7))) (.cons (.int .i64 (.lit (50))) (.cons (.int .i64 (.var 4)) .nil))))) (.lit (13))))
 (.ret (.bool (.tt false)))
 (.need (.b2 .and (.bapp 4 (.cons (.opq 0) .nil)) (.b2 .and (.b2 .and (.b2 .le (.lit (-9223372036854775808)) (.var 0)) (.b2 .le (.var 0) (.lit (9223372036854775807)))) (.b2 .and (.b2 .and (.b2 .le (.lit (-9223372036854775808)) (.var 1)) (.b2 .le (.var 1) (.lit (9223372036854775807)))) (.b2 .and (.b2 .and (.b2 .le (.lit (-9223372036854775808)) (.var 2)) (.b2 .le (.var 2) (.lit (9223372036854775807)))) (.b2 .and (.b2 .le (.lit (-9223372036854775808)) (.var 3)) (.b2 .le (.var 3) (.lit (9223372036854775807))))))))
 (.br (.not (.b2 .eq (.iapp 20 (.cons (.opq 0) (.cons (.int .i64 (.var 0)) (.cons (.int .i64 (.var 1)) (.cons (.int .i64 (.var 2)) (.cons (.int .i64 (.var 3)) .nil)))))) (.lit (0))))
 (.br (.b2 .eq (.iapp 20 (.cons (.opq 0) (.cons (.int .i64 (.var 0)) (.cons (.int .i64 (.var 1)) (.cons (.int .i64 (.var 2)) (.cons (.int .i64 (.var 3)) .nil)))))) (.lit (1)))
 (.ret (.bool (.tt true)))
 (.ret (.bool (.tt false))))
 (.loop ⟨2, 0, 0, 0⟩ (.b2 .and (.b2 .le (.lit (0)) (.lit (0))) (.b2 .and (.b2 .le (.lit (0)) (.ofI (.vop (.len 4) (.cons (.opq 0) .nil)))) (.b2 .eq (.lit (0)) (.iapp 30 (.cons (.opq 0) (.cons (.int .i64 (.var 0)) (.cons (.int .i64 (.lit (0))) .nil))))))) (.b2 .and (.b2 .le (.lit (0)) (.var 7)) (.b2 .and (.b2 .le (.var 7) (.ofI (.vop (.len 4) (.cons (.opq 0) .nil)))) (.b2 .eq (.var 6) (.iapp 30 (.cons (.opq 0) (.cons (.int .i64 (.var 0)) (.cons (.int .i64 (.var 7)) .nil)))))))
 (.br (.b2 .lt (.var 7) (.ofI (.vop (.len 4) (.cons (.opq 0) .nil))))
 (.need (.b2 .and (.b2 .le (.lit (0)) (.var 7)) (.b2 .lt (.var 7) (.ofI (.vop (.len 4) (.cons (.opq 0) .nil)))))
 (.br (.b2 .eq (.ofI (.vop (.sel 4 0) (.cons (.opq 0) (.cons (.int .i64 (.var 7)) .nil)))) (.var 0))
 (.back (.b2 .and (.b2 .le (.lit (0)) (.wrap .i64 (.i2 .add (.var 7) (.lit (1))))) (.b2 .and (.b2 .le (.wrap .i64 (.i2 .add (.var 7) (.lit (1)))) (.ofI (.vop (.len 4) (.cons (.opq 0) .nil)))) (.b2 .eq (.lit (1)) (.iapp 30 (.cons (.opq 0) (.cons (.int .i64 (.var 0)) (.cons (.int .i64 (.wrap .i64 (.i2 .add (.var 7) (.lit (1))))) .nil))))))) (.i2 .sub (.ofI (.vop (.len 4) (.cons (.opq 0) .nil))) (.wrap .i64 (.i2 .add (.var 7) (.lit (1))))) (.i2 .sub (.ofI (.vop (.len 4) (.cons (.opq 0) .nil))) (.var 7)))
 (.back (.b2 .and (.b2 .le (.lit (0)) (.wrap .i64 (.i2 .add (.var 7) (.lit (1))))) (.b2 .and (.b2 .le (.wrap .i64 (.i2 .add (.var 7) (.lit (1)))) (.ofI (.vop (.len 4) (.cons (.opq 0) .nil)))) (.b2 .eq (.var 6) (.iapp 30 (.cons (.opq 0) (.cons (.int .i64 (.var 0)) (.cons (.int .i64 (.wrap .i64 (.i2 .add (.var 7) (.lit (1))))) .nil))))))) (.i2 .sub (.ofI (.vop (.len 4) (.cons (.opq 0) .nil))) (.wrap .i64 (.i2 .add (.var 7) (.lit (1))))) (.i2 .sub (.ofI (.vop (.len 4) (.cons (.opq 0) .nil))) (.var 7)))))
 (.br (.b2 .eq (.ofI (.vop (.len 4) (.cons (.vapp 0 (.cons (.opq 0) (.cons (.int .i64 (.var 0)) (.cons (.int .i64 (.var 1)) (.cons (.int .i64 (.var 2)) (.cons (.int .i64 (.var 3)) .nil)))))) .nil))) (.wrap .i64 (.i2 .sub (.wrap .i64 (.i2 .add (.ofI (.vop (.len 4) (.cons (.opq 0) .nil))) (.lit (1)))) (.var 6))))
 (.ret (.bool (.tt true)))
 (.ret (.bool (.tt false)))))))))
 (.need (.b2 .and (.bapp 4 (.cons (.opq 0) .nil)) (.b2 .and (.b2 .and (.b2 .le (.lit (-9223372036854775808)) (.var 0)) (.b2 .le (.var 0) (.lit (9223372036854775807)))) (.b2 .and (.b2 .and (.b2 .le (.lit (-9223372036854775808)) (.var 1)) (.b2 .le (.var 1) (.lit (9223372036854775807)))) (.b2 .and (.b2 .and (.b2 .le (.lit (-9223372036854775808)) (.var 2)) (.b2 .le (.var 2) (.lit (9223372036854775807)))) (.b2 .and (.b2 .le (.lit (-9223372036854775808)) (.var 3)) (.b2 .le (.var 3) (.lit (9223372036854775807))))))))
 (.br (.not (.b2 .eq (.iapp 20 (.cons (.opq 0) (.cons (.int .i64 (.var 0)) (.cons (.int .i64 (.var 1)) (.cons (.int .i64 (.var 2)) (.cons (.int .i64 (.var 3)) .nil)))))) (.lit (0))))
 (.br (.b2 .eq (.iapp 20 (.cons (.opq 0) (.cons (.int .i64 (.var 0)) (.cons (.int .i64 (.var 1)) (.cons (.int .i64 (.var 2)) (.cons (.int .i64 (.var 3)) .nil)))))) (.lit (1)))
 (.ret (.bool (.tt true)))
 (.ret (.bool (.tt false))))
 (.loop ⟨2, 0, 0, 0⟩ (.b2 .and (.b2 .le (.lit (0)) (.lit (0))) (.b2 .and (.b2 .le (.lit (0)) (.ofI (.vop (.len 4) (.cons (.opq 0) .nil)))) (.b2 .eq (.lit (0)) (.iapp 30 (.cons (.opq 0) (.cons (.int .i64 (.var 0)) (.cons (.int .i64 (.lit (0))) .nil))))))) (.b2 .and (.b2 .le (.lit (0)) (.var 7)) (.b2 .and (.b2 .le (.var 7) (.ofI (.vop (.len 4) (.cons (.opq 0) .nil)))) (.b2 .eq (.var 6) (.iapp 30 (.cons (.opq 0) (.cons (.int .i64 (.var 0)) (.cons (.int .i64 (.var 7)) .nil)))))))
 (.br (.b2 .lt (.var 7) (.ofI (.vop (.len 4) (.cons (.opq 0) .nil))))
 (.need (.b2 .and (.b2 .le (.lit (0)) (.var 7)) (.b2 .lt (.var 7) (.ofI (.vop (.len 4) (.cons (.opq 0) .nil)))))
 (.br (.b2 .eq (.ofI (.vop (.sel 4 0) (.cons (.opq 0) (.cons (.int .i64 (.var 7)) .nil)))) (.var 0))
 (.back (.b2 .and (.b2 .le (.lit (0)) (.wrap .i64 (.i2 .add (.var 7) (.lit (1))))) (.b2 .and (.b2 .le (.wrap .i64 (.i2 .add (.var 7) (.lit (1)))) (.ofI (.vop (.len 4) (.cons (.opq 0) .nil)))) (.b2 .eq (.lit (1)) (.iapp 30 (.cons (.opq 0) (.cons (.int .i64 (.var 0)) (.cons (.int .i64 (.wrap .i64 (.i2 .add (.var 7) (.lit (1))))) .nil))))))) (.i2 .sub (.ofI (.vop (.len 4) (.cons (.opq 0) .nil))) (.wrap .i64 (.i2 .add (.var 7) (.lit (1))))) (.i2 .sub (.ofI (.vop (.len 4) (.cons (.opq 0) .nil))) (.var 7)))
 (.back (.b2 .and (.b2 .le (.lit (0)) (.wrap .i64 (.i2 .add (.var 7) (.lit (1))))) (.b2 .and (.b2 .le (.wrap .i64 (.i2 .add (.var 7) (.lit (1)))) (.ofI (.vop (.len 4) (.cons (.opq 0) .nil)))) (.b2 .eq (.var 6) (.iapp 30 (.cons (.opq 0) (.cons (.int .i64 (.var 0)) (.cons (.int .i64 (.wrap .i64 (.i2 .add (.var 7) (.lit (1))))) .nil))))))) (.i2 .sub (.ofI (.vop (.len 4) (.cons (.opq 0) .nil))) (.wrap .i64 (.i2 .add (.var 7) (.lit (1))))) (.i2 .sub (.ofI (.vop (.len 4) (.cons (.opq 0) .nil))) (.var 7)))))
 (.br (.b2 .eq (.ofI (.vop (.len 4) (.cons (.vapp 0 (.cons (.opq 0) (.cons (.int .i64 (.var 0)) (.cons (.int .i64 (.var 1)) (.cons (.int .i64 (.var 2)) (.cons (.int .i64 (.var 3)) .nil)))))) .nil))) (.wrap .i64 (.i2 .sub (.wrap .i64 (.i2 .add (.ofI (.vop (.len 4) (.cons (.opq 0) .nil))) (.lit (1)))) (.var 6))))
 (.ret (.bool (.tt true)))
 (.ret (.bool (.tt false)))))))))))))))))))))
abbrev ffc_wOld : Con := ⟨13, [(.agg (.cons (.hs .no (.cons (.int .i64) (.cons (.int .i64) (.cons (.int .i64) (.cons (.int .i64) .nil)))) (.opq 0)) .nil)), (.agg (.cons (.int .i64 (.var 0)) (.cons (.int .i64 (.var 1)) (.cons (.int .i64 (.var 2)) (.cons (.int .i64 (.var 3)) .nil))))), (.int .i64 (.var 4))], (.b2 .and (.bapp 4 (.cons (.opq 0) .nil)) (.b2 .and (.b2 .and (.b2 .le (.lit (-9223372036854775808)) (.var 0)) (.b2 .le (.var 0) (.lit (9223372036854775807)))) (.b2 .and (.b2 .and (.b2 .le (.lit (-9223372036854775808)) (.var 1)) (.b2 .le (.var 1) (.lit (9223372036854775807)))) (.b2 .and (.b2 .and (.b2 .le (.lit (-9223372036854775808)) (.var 2)) (.b2 .le (.var 2) (.lit (9223372036854775807)))) (.b2 .and (.b2 .and (.b2 .le (.lit (-9223372036854775808)) (.var 3)) (.b2 .le (.var 3) (.lit (9223372036854775807)))) (.b2 .and (.b2 .and (.b2 .le (.lit (-9223372036854775808)) (.var 4)) (.b2 .le (.var 4) (.lit (9223372036854775807)))) (.b2 .le (.ofI (.vop (.len 4) (.cons (.opq 0) .nil))) (.lit (4398046511103))))))))), (.bool (.tt true)), ⟨5, 0, 1, 0⟩, none⟩
theorem wOld_w : walk Tryd.prog 141 ⟨[fec_sure15, fec_givef, fac_fput, fdc_best, fac_fck, fec_num], syG, [], [], []⟩ [⟨0, ⟨1, 0, 1, 0⟩, [(10, (.int .i64 (.var 5)))], some [[(.hs .no (.cons (.int .i64) (.cons (.int .i64) (.cons (.int .i64) (.cons (.int .i64) .nil)))) (.opq 0))], [(.int .i64 (.var 0)), (.int .i64 (.var 1)), (.int .i64 (.var 2)), (.int .i64 (.var 3))], [], [(.hs (.id 2 111) (.cons (.int .i64) (.cons (.int .i64) (.cons (.int .i64) (.cons (.int .i64) .nil)))) (.opq 0))], [], [(.int .i64 (.lit (7))), (.int .i64 (.lit (50)))], [(.hs (.id 1000 111) (.cons (.int .i64) (.cons (.int .i64) (.cons (.int .i64) (.cons (.int .i64) .nil)))) (.opq 1))]], (.b2 .and (.b2 .le (.lit (0)) (.var 5)) (.b2 .and (.b2 .le (.var 5) (.ofI (.vop (.len 4) (.cons (.opq 0) .nil)))) (.bapp 11 (.cons (.opq 1) (.cons (.opq 0) (.cons (.int .i64 (.var 4)) (.cons (.int .i64 (.var 5)) .nil))))))), (.i2 .sub (.ofI (.vop (.len 4) (.cons (.opq 0) .nil))) (.var 5)), 1, [2]⟩, ⟨2, ⟨2, 0, 0, 0⟩, [(19, (.int .i64 (.var 6))), (20, (.int .i64 (.var 7)))], none, (.b2 .and (.b2 .le (.lit (0)) (.var 7)) (.b2 .and (.b2 .le (.var 7) (.ofI (.vop (.len 4) (.cons (.opq 0) .nil)))) (.b2 .eq (.var 6) (.iapp 30 (.cons (.opq 0) (.cons (.int .i64 (.var 0)) (.cons (.int .i64 (.var 7)) .nil))))))), (.i2 .sub (.ofI (.vop (.len 4) (.cons (.opq 0) .nil))) (.var 7)), 0, []⟩] .v ffc_wOld ffc_wOld.n 3000 = some wOld_tree := by kernel_rfl
theorem wOld_h (a : Int) (b : Int) (c : Int) (d : Int) (n : Int) (l : Value) (hc : holds (ffE [a, b, c, d, n] [] [l] []) (.b2 .and (.bapp 4 (.cons (.opq 0) .nil)) (.b2 .and (.b2 .and (.b2 .le (.lit (-9223372036854775808)) (.var 0)) (.b2 .le (.var 0) (.lit (9223372036854775807)))) (.b2 .and (.b2 .and (.b2 .le (.lit (-9223372036854775808)) (.var 1)) (.b2 .le (.var 1) (.lit (9223372036854775807)))) (.b2 .and (.b2 .and (.b2 .le (.lit (-9223372036854775808)) (.var 2)) (.b2 .le (.var 2) (.lit (9223372036854775807)))) (.b2 .and (.b2 .and (.b2 .le (.lit (-9223372036854775808)) (.var 3)) (.b2 .le (.var 3) (.lit (9223372036854775807)))) (.b2 .and (.b2 .and (.b2 .le (.lit (-9223372036854775808)) (.var 4)) (.b2 .le (.var 4) (.lit (9223372036854775807)))) (.b2 .le (.ofI (.vop (.len 4) (.cons (.opq 0) .nil))) (.lit (4398046511103)))))))))) (hty : patsTyp (ffE [a, b, c, d, n] [] [l] []) [(.agg (.cons (.hs .no (.cons (.int .i64) (.cons (.int .i64) (.cons (.int .i64) (.cons (.int .i64) .nil)))) (.opq 0)) .nil)), (.agg (.cons (.int .i64 (.var 0)) (.cons (.int .i64 (.var 1)) (.cons (.int .i64 (.var 2)) (.cons (.int .i64 (.var 3)) .nil))))), (.int .i64 (.var 4))]) : wOld_tree.holds (fun v_ => v_ = denV (ffE [a, b, c, d, n] [] [l] []) b0 (.bool (.tt true))) (ffE [a, b, c, d, n] [] [l] []) := by
  simp only [Tree.holds, Sy.holds, AllN, Env.more, ffE, List.cons_append, List.nil_append, List.append_nil, denV, denI, denB, denL, I2.den, VOp.den, List.getD_cons_zero, List.getD_cons_succ, Cst.den, syso, syse, syio, sybo, ffi_of, ffi_arh, ffi_fb, ffi_se, ffi_vm, ffi_vl, ffi_vh, ffi_vE, ffi_vM, ffi_vL, ffi_vH, ffi_aa, ffi_mi, ffi_sa, ffi_nv, ffi_ne, ffi_sz, ffi_lst, ffi_chk, ffi_ix, ffi_pE, ffi_md, ffi_up, ffi_rsv, ffi_rso, ffi_rbd, ffi_bE, ffi_bL, ffi_bH, ffi_bM, ffi_hd, ffb_pre, ffb_sm, ffb_ai, ffb_tk, ffb_okr, ffb_okf, ffb_rp, ffb_rd, ffb_nb, ffb_tk4, ffb_eqv, ffb_smb, ffv_pV, ffv_nw, List.map_nil, List.map_cons, B2.ofInts, B2.denI, B2.denB, if_true, Bool.false_eq_true, if_false, Nat.div_one, Nat.mul_one, Nat.add_zero, holds] at hc
  simp only [patsTyp, patTyp, patTypL, ffE, denV, denL, List.getD_cons_zero, List.getD_cons_succ, and_true, true_and] at hty
  have hL_l : typ (.sl (.cons (.int .i64) (.cons (.int .i64) (.cons (.int .i64) (.cons (.int .i64) .nil))))) l := by first | exact hty | exact hty.1 | exact hty.2 | exact hty.1.1 | exact hty.1.2 | exact hty.2.1 | exact hty.2.2 | exact hty.2.2.1 | exact hty.2.2.2
  have hN_l := typ_len (n := 4) hL_l rfl (by omega)
  unfold wOld_tree
  simp only [Tree.holds, Sy.holds, AllN, Env.more, ffE, List.cons_append, List.nil_append, List.append_nil, denV, denI, denB, denL, I2.den, VOp.den, List.getD_cons_zero, List.getD_cons_succ, Cst.den, syso, syse, syio, sybo, ffi_of, ffi_arh, ffi_fb, ffi_se, ffi_vm, ffi_vl, ffi_vh, ffi_vE, ffi_vM, ffi_vL, ffi_vH, ffi_aa, ffi_mi, ffi_sa, ffi_nv, ffi_ne, ffi_sz, ffi_lst, ffi_chk, ffi_ix, ffi_pE, ffi_md, ffi_up, ffi_rsv, ffi_rso, ffi_rbd, ffi_bE, ffi_bL, ffi_bH, ffi_bM, ffi_hd, ffb_pre, ffb_sm, ffb_ai, ffb_tk, ffb_okr, ffb_okf, ffb_rp, ffb_rd, ffb_nb, ffb_tk4, ffb_eqv, ffb_smb, ffv_pV, ffv_nw, List.map_nil, List.map_cons, B2.ofInts, B2.denI, B2.denB, if_true, Bool.false_eq_true, if_false, Nat.div_one, Nat.mul_one, Nat.add_zero]
  refine ⟨?_, fun h0 => ?_⟩
  ·
   first
   | omega
   | exact True.intro
   | exact hc.1
   | exact ⟨hc.1, by omega, by omega⟩
   | exact ⟨hc.1, by omega, by omega, by omega, by omega⟩
   | (obtain ⟨g1, g2, g3⟩ := hi0
      have hv := eqV_iff.1 g3
      have hr : Sy.rows i0b = smL (Sy.rows l) 50 n i0a.toNat := by rw [hv]; simp only [rows_tup, List.toList_toArray]
      rw [hr]
      exact ⟨okR_sm hc.1 50 n (by omega), by omega, by omega⟩)
   | (obtain ⟨g1, g2, g3⟩ := hi0
      have hv := eqV_iff.1 g3
      have hr : Sy.rows i0b = smL (Sy.rows l) 50 n i0a.toNat := by rw [hv]; simp only [rows_tup, List.toList_toArray]
      obtain ⟨q, q1, q2⟩ := sm_len (Sy.rows l) 50 n i0a.toNat
      rw [hr]
      omega)
  ·
   refine ⟨?_, fun h1 => ?_⟩
   ·
    first
    | omega
    | exact True.intro
    | exact hc.1
    | exact ⟨hc.1, by omega, by omega⟩
    | exact ⟨hc.1, by omega, by omega, by omega, by omega⟩
    | (obtain ⟨g1, g2, g3⟩ := hi0
       have hv := eqV_iff.1 g3
       have hr : Sy.rows i0b = smL (Sy.rows l) 50 n i0a.toNat := by rw [hv]; simp only [rows_tup, List.toList_toArray]
       rw [hr]
       exact ⟨okR_sm hc.1 50 n (by omega), by omega, by omega⟩)
    | (obtain ⟨g1, g2, g3⟩ := hi0
       have hv := eqV_iff.1 g3
       have hr : Sy.rows i0b = smL (Sy.rows l) 50 n i0a.toNat := by rw [hv]; simp only [rows_tup, List.toList_toArray]
       obtain ⟨q, q1, q2⟩ := sm_len (Sy.rows l) 50 n i0a.toNat
       rw [hr]
       omega)
   ·
    refine ⟨fun h2 => ?_, fun h2 => ?_⟩
    ·
     first
     | exact True.intro
     | rfl
     | (exfalso
        have c2 : chkF (Sy.rows l) = 0 := by omega
        have hw : ¬ wrgF 7 50 n := by unfold wrgF; omega
        obtain ⟨g1, g2, g3⟩ := hi0
        have hv := eqV_iff.1 g3
        rw [show i0a.toNat = (Sy.rows l).length / 4 by omega] at hv
        have hr : Sy.rows i0b = smA (Sy.rows l) 50 n := by rw [hv]; simp only [rows_tup, List.toList_toArray]
        obtain ⟨o1, o2⟩ := old_same (r := 7) (p := 50) (n := n) c2
        rw [← hr] at o1 o2
        have o3 : (bstR (Sy.rows i0b) 7 50 n).1 = (bstR (Sy.rows l) 7 50 n).1 := by rw [o2]
        have o4 : (bstR (Sy.rows i0b) 7 50 n).2.1 = (bstR (Sy.rows l) 7 50 n).2.1 := by rw [o2]
        have o5 : (bstR (Sy.rows i0b) 7 50 n).2.2 = (bstR (Sy.rows l) 7 50 n).2.2 := by rw [o2]
        have o6 : (Sy.rows i0b).length / 4 = 0 → bstE (Sy.rows l) 7 50 n = 13 := fun h => old_none c2 hw (by rw [← hr]; exact h)
        have hp := putE_2 (Sy.rows l) a b c d
        clear hv g3 hr o2 hty hL_l
        omega)
     | (exfalso
        have c2 : chkF (Sy.rows l) = 0 := by omega
        have hw : ¬ wrgF 7 50 n := by unfold wrgF; omega
        obtain ⟨g1, g2, g3⟩ := hi0
        have hv := eqV_iff.1 g3
        rw [show i0a.toNat = (Sy.rows l).length / 4 by omega] at hv
        have hr : Sy.rows i0b = smA (Sy.rows l) 50 n := by rw [hv]; simp only [rows_tup, List.toList_toArray]
        obtain ⟨o1, o2⟩ := old_same (r := 7) (p := 50) (n := n) c2
        rw [← hr] at o1 o2
        have o3 : (bstR (Sy.rows i0b) 7 50 n).1 = (bstR (Sy.rows l) 7 50 n).1 := by rw [o2]
        have o4 : (bstR (Sy.rows i0b) 7 50 n).2.1 = (bstR (Sy.rows l) 7 50 n).2.1 := by rw [o2]
        have o5 : (bstR (Sy.rows i0b) 7 50 n).2.2 = (bstR (Sy.rows l) 7 50 n).2.2 := by rw [o2]
        have o6 : (Sy.rows i0b).length / 4 = 0 → bstE (Sy.rows l) 7 50 n = 13 := fun h => old_none c2 hw (by rw [← hr]; exact h)
        have hp := putE_2 (Sy.rows l) a b c d
        clear hv g3 hr o2 hty hL_l
        have o7 : putE (Sy.rows l) a b c d = 0 → (((Sy.rows (Value.tuple (putV (Sy.rows l) a b c d).toArray)).length / 4 : Nat) : Int) = (((Sy.rows l).length / 4 : Nat) : Int) + 1 - hadF (Sy.rows l) a ((Sy.rows l).length / 4) := fun h => put_len hN_l.2 h
        have o8 : hadF (Sy.rows l) a i1b.toNat = hadF (Sy.rows l) a ((Sy.rows l).length / 4) := by rw [show i1b.toNat = (Sy.rows l).length / 4 by omega]
        have o9 := had_01 (Sy.rows l) a ((Sy.rows l).length / 4)
        have w0 := wr_i64 ((((Sy.rows l).length / 4 : Nat) : Int) + 1 - i1a)
        have w9 : IntKind.wrap .i64 ((((Sy.rows l).length / 4 : Nat) : Int) + 1) = (((Sy.rows l).length / 4 : Nat) : Int) + 1 := by omega
        simp only [w9] at *
        omega)
     | (exfalso
        have c2 : chkF (Sy.rows l) = 0 := by omega
        have hw : ¬ wrgF 7 50 n := by unfold wrgF; omega
        obtain ⟨g1, g2, g3⟩ := hi0
        have hv := eqV_iff.1 g3
        rw [show i0a.toNat = (Sy.rows l).length / 4 by omega] at hv
        have hr : Sy.rows i0b = smA (Sy.rows l) 50 n := by rw [hv]; simp only [rows_tup, List.toList_toArray]
        obtain ⟨o1, o2⟩ := old_same (r := 7) (p := 50) (n := n) c2
        rw [← hr] at o1 o2
        have o3 : (bstR (Sy.rows i0b) 7 50 n).1 = (bstR (Sy.rows l) 7 50 n).1 := by rw [o2]
        have o4 : (bstR (Sy.rows i0b) 7 50 n).2.1 = (bstR (Sy.rows l) 7 50 n).2.1 := by rw [o2]
        have o5 : (bstR (Sy.rows i0b) 7 50 n).2.2 = (bstR (Sy.rows l) 7 50 n).2.2 := by rw [o2]
        have o6 : (Sy.rows i0b).length / 4 = 0 → bstE (Sy.rows l) 7 50 n = 13 := fun h => old_none c2 hw (by rw [← hr]; exact h)
        have hp := putE_2 (Sy.rows l) a b c d
        clear hv g3 hr o2 hty hL_l
        have o7 : putE (Sy.rows l) a b c d = 0 → (((Sy.rows (Value.tuple (putV (Sy.rows l) a b c d).toArray)).length / 4 : Nat) : Int) = (((Sy.rows l).length / 4 : Nat) : Int) + 1 - hadF (Sy.rows l) a ((Sy.rows l).length / 4) := fun h => put_len hN_l.2 h
        have o8 : hadF (Sy.rows l) a i2b.toNat = hadF (Sy.rows l) a ((Sy.rows l).length / 4) := by rw [show i2b.toNat = (Sy.rows l).length / 4 by omega]
        have o9 := had_01 (Sy.rows l) a ((Sy.rows l).length / 4)
        have w0 := wr_i64 ((((Sy.rows l).length / 4 : Nat) : Int) + 1 - i2a)
        have w9 : IntKind.wrap .i64 ((((Sy.rows l).length / 4 : Nat) : Int) + 1) = (((Sy.rows l).length / 4 : Nat) : Int) + 1 := by omega
        simp only [w9] at *
        omega)
    ·
     refine ⟨fun h3 => ?_, fun h3 => ?_⟩
     ·
      first
      | exact True.intro
      | rfl
      | (exfalso
         have c2 : chkF (Sy.rows l) = 0 := by omega
         have hw : ¬ wrgF 7 50 n := by unfold wrgF; omega
         obtain ⟨g1, g2, g3⟩ := hi0
         have hv := eqV_iff.1 g3
         rw [show i0a.toNat = (Sy.rows l).length / 4 by omega] at hv
         have hr : Sy.rows i0b = smA (Sy.rows l) 50 n := by rw [hv]; simp only [rows_tup, List.toList_toArray]
         obtain ⟨o1, o2⟩ := old_same (r := 7) (p := 50) (n := n) c2
         rw [← hr] at o1 o2
         have o3 : (bstR (Sy.rows i0b) 7 50 n).1 = (bstR (Sy.rows l) 7 50 n).1 := by rw [o2]
         have o4 : (bstR (Sy.rows i0b) 7 50 n).2.1 = (bstR (Sy.rows l) 7 50 n).2.1 := by rw [o2]
         have o5 : (bstR (Sy.rows i0b) 7 50 n).2.2 = (bstR (Sy.rows l) 7 50 n).2.2 := by rw [o2]
         have o6 : (Sy.rows i0b).length / 4 = 0 → bstE (Sy.rows l) 7 50 n = 13 := fun h => old_none c2 hw (by rw [← hr]; exact h)
         have hp := putE_2 (Sy.rows l) a b c d
         clear hv g3 hr o2 hty hL_l
         omega)
      | (exfalso
         have c2 : chkF (Sy.rows l) = 0 := by omega
         have hw : ¬ wrgF 7 50 n := by unfold wrgF; omega
         obtain ⟨g1, g2, g3⟩ := hi0
         have hv := eqV_iff.1 g3
         rw [show i0a.toNat = (Sy.rows l).length / 4 by omega] at hv
         have hr : Sy.rows i0b = smA (Sy.rows l) 50 n := by rw [hv]; simp only [rows_tup, List.toList_toArray]
         obtain ⟨o1, o2⟩ := old_same (r := 7) (p := 50) (n := n) c2
         rw [← hr] at o1 o2
         have o3 : (bstR (Sy.rows i0b) 7 50 n).1 = (bstR (Sy.rows l) 7 50 n).1 := by rw [o2]
         have o4 : (bstR (Sy.rows i0b) 7 50 n).2.1 = (bstR (Sy.rows l) 7 50 n).2.1 := by rw [o2]
         have o5 : (bstR (Sy.rows i0b) 7 50 n).2.2 = (bstR (Sy.rows l) 7 50 n).2.2 := by rw [o2]
         have o6 : (Sy.rows i0b).length / 4 = 0 → bstE (Sy.rows l) 7 50 n = 13 := fun h => old_none c2 hw (by rw [← hr]; exact h)
         have hp := putE_2 (Sy.rows l) a b c d
         clear hv g3 hr o2 hty hL_l
         have o7 : putE (Sy.rows l) a b c d = 0 → (((Sy.rows (Value.tuple (putV (Sy.rows l) a b c d).toArray)).length / 4 : Nat) : Int) = (((Sy.rows l).length / 4 : Nat) : Int) + 1 - hadF (Sy.rows l) a ((Sy.rows l).length / 4) := fun h => put_len hN_l.2 h
         have o8 : hadF (Sy.rows l) a i1b.toNat = hadF (Sy.rows l) a ((Sy.rows l).length / 4) := by rw [show i1b.toNat = (Sy.rows l).length / 4 by omega]
         have o9 := had_01 (Sy.rows l) a ((Sy.rows l).length / 4)
         have w0 := wr_i64 ((((Sy.rows l).length / 4 : Nat) : Int) + 1 - i1a)
         have w9 : IntKind.wrap .i64 ((((Sy.rows l).length / 4 : Nat) : Int) + 1) = (((Sy.rows l).length / 4 : Nat) : Int) + 1 := by omega
         simp only [w9] at *
         omega)
      | (exfalso
         have c2 : chkF (Sy.rows l) = 0 := by omega
         have hw : ¬ wrgF 7 50 n := by unfold wrgF; omega
         obtain ⟨g1, g2, g3⟩ := hi0
         have hv := eqV_iff.1 g3
         rw [show i0a.toNat = (Sy.rows l).length / 4 by omega] at hv
         have hr : Sy.rows i0b = smA (Sy.rows l) 50 n := by rw [hv]; simp only [rows_tup, List.toList_toArray]
         obtain ⟨o1, o2⟩ := old_same (r := 7) (p := 50) (n := n) c2
         rw [← hr] at o1 o2
         have o3 : (bstR (Sy.rows i0b) 7 50 n).1 = (bstR (Sy.rows l) 7 50 n).1 := by rw [o2]
         have o4 : (bstR (Sy.rows i0b) 7 50 n).2.1 = (bstR (Sy.rows l) 7 50 n).2.1 := by rw [o2]
         have o5 : (bstR (Sy.rows i0b) 7 50 n).2.2 = (bstR (Sy.rows l) 7 50 n).2.2 := by rw [o2]
         have o6 : (Sy.rows i0b).length / 4 = 0 → bstE (Sy.rows l) 7 50 n = 13 := fun h => old_none c2 hw (by rw [← hr]; exact h)
         have hp := putE_2 (Sy.rows l) a b c d
         clear hv g3 hr o2 hty hL_l
         have o7 : putE (Sy.rows l) a b c d = 0 → (((Sy.rows (Value.tuple (putV (Sy.rows l) a b c d).toArray)).length / 4 : Nat) : Int) = (((Sy.rows l).length / 4 : Nat) : Int) + 1 - hadF (Sy.rows l) a ((Sy.rows l).length / 4) := fun h => put_len hN_l.2 h
         have o8 : hadF (Sy.rows l) a i2b.toNat = hadF (Sy.rows l) a ((Sy.rows l).length / 4) := by rw [show i2b.toNat = (Sy.rows l).length / 4 by omega]
         have o9 := had_01 (Sy.rows l) a ((Sy.rows l).length / 4)
         have w0 := wr_i64 ((((Sy.rows l).length / 4 : Nat) : Int) + 1 - i2a)
         have w9 : IntKind.wrap .i64 ((((Sy.rows l).length / 4 : Nat) : Int) + 1) = (((Sy.rows l).length / 4 : Nat) : Int) + 1 := by omega
         simp only [w9] at *
         omega)
     ·
      refine ⟨fun h4 => ?_, fun h4 => ?_⟩
      ·
       first
       | exact True.intro
       | rfl
       | (exfalso
          have c2 : chkF (Sy.rows l) = 0 := by omega
          have hw : ¬ wrgF 7 50 n := by unfold wrgF; omega
          obtain ⟨g1, g2, g3⟩ := hi0
          have hv := eqV_iff.1 g3
          rw [show i0a.toNat = (Sy.rows l).length / 4 by omega] at hv
          have hr : Sy.rows i0b = smA (Sy.rows l) 50 n := by rw [hv]; simp only [rows_tup, List.toList_toArray]
          obtain ⟨o1, o2⟩ := old_same (r := 7) (p := 50) (n := n) c2
          rw [← hr] at o1 o2
          have o3 : (bstR (Sy.rows i0b) 7 50 n).1 = (bstR (Sy.rows l) 7 50 n).1 := by rw [o2]
          have o4 : (bstR (Sy.rows i0b) 7 50 n).2.1 = (bstR (Sy.rows l) 7 50 n).2.1 := by rw [o2]
          have o5 : (bstR (Sy.rows i0b) 7 50 n).2.2 = (bstR (Sy.rows l) 7 50 n).2.2 := by rw [o2]
          have o6 : (Sy.rows i0b).length / 4 = 0 → bstE (Sy.rows l) 7 50 n = 13 := fun h => old_none c2 hw (by rw [← hr]; exact h)
          have hp := putE_2 (Sy.rows l) a b c d
          clear hv g3 hr o2 hty hL_l
          omega)
       | (exfalso
          have c2 : chkF (Sy.rows l) = 0 := by omega
          have hw : ¬ wrgF 7 50 n := by unfold wrgF; omega
          obtain ⟨g1, g2, g3⟩ := hi0
          have hv := eqV_iff.1 g3
          rw [show i0a.toNat = (Sy.rows l).length / 4 by omega] at hv
          have hr : Sy.rows i0b = smA (Sy.rows l) 50 n := by rw [hv]; simp only [rows_tup, List.toList_toArray]
          obtain ⟨o1, o2⟩ := old_same (r := 7) (p := 50) (n := n) c2
          rw [← hr] at o1 o2
          have o3 : (bstR (Sy.rows i0b) 7 50 n).1 = (bstR (Sy.rows l) 7 50 n).1 := by rw [o2]
          have o4 : (bstR (Sy.rows i0b) 7 50 n).2.1 = (bstR (Sy.rows l) 7 50 n).2.1 := by rw [o2]
          have o5 : (bstR (Sy.rows i0b) 7 50 n).2.2 = (bstR (Sy.rows l) 7 50 n).2.2 := by rw [o2]
          have o6 : (Sy.rows i0b).length / 4 = 0 → bstE (Sy.rows l) 7 50 n = 13 := fun h => old_none c2 hw (by rw [← hr]; exact h)
          have hp := putE_2 (Sy.rows l) a b c d
          clear hv g3 hr o2 hty hL_l
          have o7 : putE (Sy.rows l) a b c d = 0 → (((Sy.rows (Value.tuple (putV (Sy.rows l) a b c d).toArray)).length / 4 : Nat) : Int) = (((Sy.rows l).length / 4 : Nat) : Int) + 1 - hadF (Sy.rows l) a ((Sy.rows l).length / 4) := fun h => put_len hN_l.2 h
          have o8 : hadF (Sy.rows l) a i1b.toNat = hadF (Sy.rows l) a ((Sy.rows l).length / 4) := by rw [show i1b.toNat = (Sy.rows l).length / 4 by omega]
          have o9 := had_01 (Sy.rows l) a ((Sy.rows l).length / 4)
          have w0 := wr_i64 ((((Sy.rows l).length / 4 : Nat) : Int) + 1 - i1a)
          have w9 : IntKind.wrap .i64 ((((Sy.rows l).length / 4 : Nat) : Int) + 1) = (((Sy.rows l).length / 4 : Nat) : Int) + 1 := by omega
          simp only [w9] at *
          omega)
       | (exfalso
          have c2 : chkF (Sy.rows l) = 0 := by omega
          have hw : ¬ wrgF 7 50 n := by unfold wrgF; omega
          obtain ⟨g1, g2, g3⟩ := hi0
          have hv := eqV_iff.1 g3
          rw [show i0a.toNat = (Sy.rows l).length / 4 by omega] at hv
          have hr : Sy.rows i0b = smA (Sy.rows l) 50 n := by rw [hv]; simp only [rows_tup, List.toList_toArray]
          obtain ⟨o1, o2⟩ := old_same (r := 7) (p := 50) (n := n) c2
          rw [← hr] at o1 o2
          have o3 : (bstR (Sy.rows i0b) 7 50 n).1 = (bstR (Sy.rows l) 7 50 n).1 := by rw [o2]
          have o4 : (bstR (Sy.rows i0b) 7 50 n).2.1 = (bstR (Sy.rows l) 7 50 n).2.1 := by rw [o2]
          have o5 : (bstR (Sy.rows i0b) 7 50 n).2.2 = (bstR (Sy.rows l) 7 50 n).2.2 := by rw [o2]
          have o6 : (Sy.rows i0b).length / 4 = 0 → bstE (Sy.rows l) 7 50 n = 13 := fun h => old_none c2 hw (by rw [← hr]; exact h)
          have hp := putE_2 (Sy.rows l) a b c d
          clear hv g3 hr o2 hty hL_l
          have o7 : putE (Sy.rows l) a b c d = 0 → (((Sy.rows (Value.tuple (putV (Sy.rows l) a b c d).toArray)).length / 4 : Nat) : Int) = (((Sy.rows l).length / 4 : Nat) : Int) + 1 - hadF (Sy.rows l) a ((Sy.rows l).length / 4) := fun h => put_len hN_l.2 h
          have o8 : hadF (Sy.rows l) a i2b.toNat = hadF (Sy.rows l) a ((Sy.rows l).length / 4) := by rw [show i2b.toNat = (Sy.rows l).length / 4 by omega]
          have o9 := had_01 (Sy.rows l) a ((Sy.rows l).length / 4)
          have w0 := wr_i64 ((((Sy.rows l).length / 4 : Nat) : Int) + 1 - i2a)
          have w9 : IntKind.wrap .i64 ((((Sy.rows l).length / 4 : Nat) : Int) + 1) = (((Sy.rows l).length / 4 : Nat) : Int) + 1 := by omega
          simp only [w9] at *
          omega)
      ·
       refine ⟨?_, ?_⟩
       ·
        first
        | exact ⟨by omega, by omega, eqV_iff.2 rfl⟩
        | exact ⟨by omega, by omega, rfl⟩
       ·
        intro i0a i0b hi0
        refine ⟨fun h5 => ?_, fun h5 => ?_⟩
        ·
         refine ⟨?_, fun h6 => ?_⟩
         ·
          first
          | omega
          | exact True.intro
          | exact hc.1
          | exact ⟨hc.1, by omega, by omega⟩
          | exact ⟨hc.1, by omega, by omega, by omega, by omega⟩
          | (obtain ⟨g1, g2, g3⟩ := hi0
             have hv := eqV_iff.1 g3
             have hr : Sy.rows i0b = smL (Sy.rows l) 50 n i0a.toNat := by rw [hv]; simp only [rows_tup, List.toList_toArray]
             rw [hr]
             exact ⟨okR_sm hc.1 50 n (by omega), by omega, by omega⟩)
          | (obtain ⟨g1, g2, g3⟩ := hi0
             have hv := eqV_iff.1 g3
             have hr : Sy.rows i0b = smL (Sy.rows l) 50 n i0a.toNat := by rw [hv]; simp only [rows_tup, List.toList_toArray]
             obtain ⟨q, q1, q2⟩ := sm_len (Sy.rows l) 50 n i0a.toNat
             rw [hr]
             omega)
         ·
          refine ⟨fun h7 => ?_, fun h7 => ?_⟩
          ·
           refine ⟨?_, fun h8 => ?_⟩
           ·
            first
            | omega
            | exact True.intro
            | exact hc.1
            | exact ⟨hc.1, by omega, by omega⟩
            | exact ⟨hc.1, by omega, by omega, by omega, by omega⟩
            | (obtain ⟨g1, g2, g3⟩ := hi0
               have hv := eqV_iff.1 g3
               have hr : Sy.rows i0b = smL (Sy.rows l) 50 n i0a.toNat := by rw [hv]; simp only [rows_tup, List.toList_toArray]
               rw [hr]
               exact ⟨okR_sm hc.1 50 n (by omega), by omega, by omega⟩)
            | (obtain ⟨g1, g2, g3⟩ := hi0
               have hv := eqV_iff.1 g3
               have hr : Sy.rows i0b = smL (Sy.rows l) 50 n i0a.toNat := by rw [hv]; simp only [rows_tup, List.toList_toArray]
               obtain ⟨q, q1, q2⟩ := sm_len (Sy.rows l) 50 n i0a.toNat
               rw [hr]
               omega)
           ·
            have wf0 := wr_i64 (n - (Go.RowKit.intOf ((rows l).getD (Int.toNat i0a * 4 + 1) Go.undef)))
            refine ⟨fun h9 => ?_, fun h9 => ?_⟩
            ·
             refine ⟨?_, fun h10 => ?_⟩
             ·
              first
              | omega
              | exact True.intro
              | exact hc.1
              | exact ⟨hc.1, by omega, by omega⟩
              | exact ⟨hc.1, by omega, by omega, by omega, by omega⟩
              | (obtain ⟨g1, g2, g3⟩ := hi0
                 have hv := eqV_iff.1 g3
                 have hr : Sy.rows i0b = smL (Sy.rows l) 50 n i0a.toNat := by rw [hv]; simp only [rows_tup, List.toList_toArray]
                 rw [hr]
                 exact ⟨okR_sm hc.1 50 n (by omega), by omega, by omega⟩)
              | (obtain ⟨g1, g2, g3⟩ := hi0
                 have hv := eqV_iff.1 g3
                 have hr : Sy.rows i0b = smL (Sy.rows l) 50 n i0a.toNat := by rw [hv]; simp only [rows_tup, List.toList_toArray]
                 obtain ⟨q, q1, q2⟩ := sm_len (Sy.rows l) 50 n i0a.toNat
                 rw [hr]
                 omega)
             ·
              refine ⟨?_, fun h11 => ?_⟩
              ·
               first
               | omega
               | exact True.intro
               | exact hc.1
               | exact ⟨hc.1, by omega, by omega⟩
               | exact ⟨hc.1, by omega, by omega, by omega, by omega⟩
               | (obtain ⟨g1, g2, g3⟩ := hi0
                  have hv := eqV_iff.1 g3
                  have hr : Sy.rows i0b = smL (Sy.rows l) 50 n i0a.toNat := by rw [hv]; simp only [rows_tup, List.toList_toArray]
                  rw [hr]
                  exact ⟨okR_sm hc.1 50 n (by omega), by omega, by omega⟩)
               | (obtain ⟨g1, g2, g3⟩ := hi0
                  have hv := eqV_iff.1 g3
                  have hr : Sy.rows i0b = smL (Sy.rows l) 50 n i0a.toNat := by rw [hv]; simp only [rows_tup, List.toList_toArray]
                  obtain ⟨q, q1, q2⟩ := sm_len (Sy.rows l) 50 n i0a.toNat
                  rw [hr]
                  omega)
              ·
               have wf1 := wr_i64 (i0a + 1)
               refine ⟨?_, ?_⟩
               ·
                obtain ⟨g1, g2, g3⟩ := hi0
                have hv := eqV_iff.1 g3
                have c2 : chkF (Sy.rows l) = 0 := by omega
                obtain ⟨ho, h8⟩ := chkF_8 c2
                obtain ⟨q, q1, q2⟩ := sm_len (Sy.rows l) 50 n i0a.toNat
                have hf := fineE_iff.1 (okF_get ho (j := i0a.toNat) (by omega))
                have e : IntKind.wrap .i64 (i0a + 1) = i0a + 1 := by omega
                rw [e, show (i0a + 1).toNat = i0a.toNat + 1 by omega]
                by_cases hcn : cntF (Sy.rows l) 50 n i0a.toNat
                · have hcn2 := hcn
                  unfold cntF at hcn2
                  first
                  | (exfalso; omega)
                  | (rw [sm_yes hcn]
                     refine ⟨by omega, by omega, eqV_iff.2 ?_⟩
                     rw [hv]
                     simp only [rows_tup, List.toList_toArray]
                     rw [rowF_int hL_l (by omega)])
                · have hcn2 := hcn
                  unfold cntF at hcn2
                  first
                  | (exfalso; omega)
                  | (rw [sm_no hcn]
                     exact ⟨by omega, by omega, g3⟩)
               ·
                omega
            ·
             have wf2 := wr_i64 (i0a + 1)
             refine ⟨?_, ?_⟩
             ·
              obtain ⟨g1, g2, g3⟩ := hi0
              have hv := eqV_iff.1 g3
              have c2 : chkF (Sy.rows l) = 0 := by omega
              obtain ⟨ho, h8⟩ := chkF_8 c2
              obtain ⟨q, q1, q2⟩ := sm_len (Sy.rows l) 50 n i0a.toNat
              have hf := fineE_iff.1 (okF_get ho (j := i0a.toNat) (by omega))
              have e : IntKind.wrap .i64 (i0a + 1) = i0a + 1 := by omega
              rw [e, show (i0a + 1).toNat = i0a.toNat + 1 by omega]
              by_cases hcn : cntF (Sy.rows l) 50 n i0a.toNat
              · have hcn2 := hcn
                unfold cntF at hcn2
                first
                | (exfalso; omega)
                | (rw [sm_yes hcn]
                   refine ⟨by omega, by omega, eqV_iff.2 ?_⟩
                   rw [hv]
                   simp only [rows_tup, List.toList_toArray]
                   rw [rowF_int hL_l (by omega)])
              · have hcn2 := hcn
                unfold cntF at hcn2
                first
                | (exfalso; omega)
                | (rw [sm_no hcn]
                   exact ⟨by omega, by omega, g3⟩)
             ·
              omega
          ·
           have wf3 := wr_i64 (i0a + 1)
           refine ⟨?_, ?_⟩
           ·
            obtain ⟨g1, g2, g3⟩ := hi0
            have hv := eqV_iff.1 g3
            have c2 : chkF (Sy.rows l) = 0 := by omega
            obtain ⟨ho, h8⟩ := chkF_8 c2
            obtain ⟨q, q1, q2⟩ := sm_len (Sy.rows l) 50 n i0a.toNat
            have hf := fineE_iff.1 (okF_get ho (j := i0a.toNat) (by omega))
            have e : IntKind.wrap .i64 (i0a + 1) = i0a + 1 := by omega
            rw [e, show (i0a + 1).toNat = i0a.toNat + 1 by omega]
            by_cases hcn : cntF (Sy.rows l) 50 n i0a.toNat
            · have hcn2 := hcn
              unfold cntF at hcn2
              first
              | (exfalso; omega)
              | (rw [sm_yes hcn]
                 refine ⟨by omega, by omega, eqV_iff.2 ?_⟩
                 rw [hv]
                 simp only [rows_tup, List.toList_toArray]
                 rw [rowF_int hL_l (by omega)])
            · have hcn2 := hcn
              unfold cntF at hcn2
              first
              | (exfalso; omega)
              | (rw [sm_no hcn]
                 exact ⟨by omega, by omega, g3⟩)
           ·
            omega
        ·
         refine ⟨?_, fun h12 => ?_⟩
         ·
          first
          | omega
          | exact True.intro
          | exact hc.1
          | exact ⟨hc.1, by omega, by omega⟩
          | exact ⟨hc.1, by omega, by omega, by omega, by omega⟩
          | (obtain ⟨g1, g2, g3⟩ := hi0
             have hv := eqV_iff.1 g3
             have hr : Sy.rows i0b = smL (Sy.rows l) 50 n i0a.toNat := by rw [hv]; simp only [rows_tup, List.toList_toArray]
             rw [hr]
             exact ⟨okR_sm hc.1 50 n (by omega), by omega, by omega⟩)
          | (obtain ⟨g1, g2, g3⟩ := hi0
             have hv := eqV_iff.1 g3
             have hr : Sy.rows i0b = smL (Sy.rows l) 50 n i0a.toNat := by rw [hv]; simp only [rows_tup, List.toList_toArray]
             obtain ⟨q, q1, q2⟩ := sm_len (Sy.rows l) 50 n i0a.toNat
             rw [hr]
             omega)
         ·
          refine ⟨?_, fun h13 => ?_⟩
          ·
           first
           | omega
           | exact True.intro
           | exact hc.1
           | exact ⟨hc.1, by omega, by omega⟩
           | exact ⟨hc.1, by omega, by omega, by omega, by omega⟩
           | (obtain ⟨g1, g2, g3⟩ := hi0
              have hv := eqV_iff.1 g3
              have hr : Sy.rows i0b = smL (Sy.rows l) 50 n i0a.toNat := by rw [hv]; simp only [rows_tup, List.toList_toArray]
              rw [hr]
              exact ⟨okR_sm hc.1 50 n (by omega), by omega, by omega⟩)
           | (obtain ⟨g1, g2, g3⟩ := hi0
              have hv := eqV_iff.1 g3
              have hr : Sy.rows i0b = smL (Sy.rows l) 50 n i0a.toNat := by rw [hv]; simp only [rows_tup, List.toList_toArray]
              obtain ⟨q, q1, q2⟩ := sm_len (Sy.rows l) 50 n i0a.toNat
              rw [hr]
              omega)
          ·
           refine ⟨fun h14 => ?_, fun h14 => ?_⟩
           ·
            first
            | exact True.intro
            | rfl
            | (exfalso
               have c2 : chkF (Sy.rows l) = 0 := by omega
               have hw : ¬ wrgF 7 50 n := by unfold wrgF; omega
               obtain ⟨g1, g2, g3⟩ := hi0
               have hv := eqV_iff.1 g3
               rw [show i0a.toNat = (Sy.rows l).length / 4 by omega] at hv
               have hr : Sy.rows i0b = smA (Sy.rows l) 50 n := by rw [hv]; simp only [rows_tup, List.toList_toArray]
               obtain ⟨o1, o2⟩ := old_same (r := 7) (p := 50) (n := n) c2
               rw [← hr] at o1 o2
               have o3 : (bstR (Sy.rows i0b) 7 50 n).1 = (bstR (Sy.rows l) 7 50 n).1 := by rw [o2]
               have o4 : (bstR (Sy.rows i0b) 7 50 n).2.1 = (bstR (Sy.rows l) 7 50 n).2.1 := by rw [o2]
               have o5 : (bstR (Sy.rows i0b) 7 50 n).2.2 = (bstR (Sy.rows l) 7 50 n).2.2 := by rw [o2]
               have o6 : (Sy.rows i0b).length / 4 = 0 → bstE (Sy.rows l) 7 50 n = 13 := fun h => old_none c2 hw (by rw [← hr]; exact h)
               have hp := putE_2 (Sy.rows l) a b c d
               clear hv g3 hr o2 hty hL_l
               omega)
            | (exfalso
               have c2 : chkF (Sy.rows l) = 0 := by omega
               have hw : ¬ wrgF 7 50 n := by unfold wrgF; omega
               obtain ⟨g1, g2, g3⟩ := hi0
               have hv := eqV_iff.1 g3
               rw [show i0a.toNat = (Sy.rows l).length / 4 by omega] at hv
               have hr : Sy.rows i0b = smA (Sy.rows l) 50 n := by rw [hv]; simp only [rows_tup, List.toList_toArray]
               obtain ⟨o1, o2⟩ := old_same (r := 7) (p := 50) (n := n) c2
               rw [← hr] at o1 o2
               have o3 : (bstR (Sy.rows i0b) 7 50 n).1 = (bstR (Sy.rows l) 7 50 n).1 := by rw [o2]
               have o4 : (bstR (Sy.rows i0b) 7 50 n).2.1 = (bstR (Sy.rows l) 7 50 n).2.1 := by rw [o2]
               have o5 : (bstR (Sy.rows i0b) 7 50 n).2.2 = (bstR (Sy.rows l) 7 50 n).2.2 := by rw [o2]
               have o6 : (Sy.rows i0b).length / 4 = 0 → bstE (Sy.rows l) 7 50 n = 13 := fun h => old_none c2 hw (by rw [← hr]; exact h)
               have hp := putE_2 (Sy.rows l) a b c d
               clear hv g3 hr o2 hty hL_l
               have o7 : putE (Sy.rows l) a b c d = 0 → (((Sy.rows (Value.tuple (putV (Sy.rows l) a b c d).toArray)).length / 4 : Nat) : Int) = (((Sy.rows l).length / 4 : Nat) : Int) + 1 - hadF (Sy.rows l) a ((Sy.rows l).length / 4) := fun h => put_len hN_l.2 h
               have o8 : hadF (Sy.rows l) a i1b.toNat = hadF (Sy.rows l) a ((Sy.rows l).length / 4) := by rw [show i1b.toNat = (Sy.rows l).length / 4 by omega]
               have o9 := had_01 (Sy.rows l) a ((Sy.rows l).length / 4)
               have w0 := wr_i64 ((((Sy.rows l).length / 4 : Nat) : Int) + 1 - i1a)
               have w9 : IntKind.wrap .i64 ((((Sy.rows l).length / 4 : Nat) : Int) + 1) = (((Sy.rows l).length / 4 : Nat) : Int) + 1 := by omega
               simp only [w9] at *
               omega)
            | (exfalso
               have c2 : chkF (Sy.rows l) = 0 := by omega
               have hw : ¬ wrgF 7 50 n := by unfold wrgF; omega
               obtain ⟨g1, g2, g3⟩ := hi0
               have hv := eqV_iff.1 g3
               rw [show i0a.toNat = (Sy.rows l).length / 4 by omega] at hv
               have hr : Sy.rows i0b = smA (Sy.rows l) 50 n := by rw [hv]; simp only [rows_tup, List.toList_toArray]
               obtain ⟨o1, o2⟩ := old_same (r := 7) (p := 50) (n := n) c2
               rw [← hr] at o1 o2
               have o3 : (bstR (Sy.rows i0b) 7 50 n).1 = (bstR (Sy.rows l) 7 50 n).1 := by rw [o2]
               have o4 : (bstR (Sy.rows i0b) 7 50 n).2.1 = (bstR (Sy.rows l) 7 50 n).2.1 := by rw [o2]
               have o5 : (bstR (Sy.rows i0b) 7 50 n).2.2 = (bstR (Sy.rows l) 7 50 n).2.2 := by rw [o2]
               have o6 : (Sy.rows i0b).length / 4 = 0 → bstE (Sy.rows l) 7 50 n = 13 := fun h => old_none c2 hw (by rw [← hr]; exact h)
               have hp := putE_2 (Sy.rows l) a b c d
               clear hv g3 hr o2 hty hL_l
               have o7 : putE (Sy.rows l) a b c d = 0 → (((Sy.rows (Value.tuple (putV (Sy.rows l) a b c d).toArray)).length / 4 : Nat) : Int) = (((Sy.rows l).length / 4 : Nat) : Int) + 1 - hadF (Sy.rows l) a ((Sy.rows l).length / 4) := fun h => put_len hN_l.2 h
               have o8 : hadF (Sy.rows l) a i2b.toNat = hadF (Sy.rows l) a ((Sy.rows l).length / 4) := by rw [show i2b.toNat = (Sy.rows l).length / 4 by omega]
               have o9 := had_01 (Sy.rows l) a ((Sy.rows l).length / 4)
               have w0 := wr_i64 ((((Sy.rows l).length / 4 : Nat) : Int) + 1 - i2a)
               have w9 : IntKind.wrap .i64 ((((Sy.rows l).length / 4 : Nat) : Int) + 1) = (((Sy.rows l).length / 4 : Nat) : Int) + 1 := by omega
               simp only [w9] at *
               omega)
           ·
            refine ⟨fun h15 => ?_, fun h15 => ?_⟩
            ·
             first
             | exact True.intro
             | rfl
             | (exfalso
                have c2 : chkF (Sy.rows l) = 0 := by omega
                have hw : ¬ wrgF 7 50 n := by unfold wrgF; omega
                obtain ⟨g1, g2, g3⟩ := hi0
                have hv := eqV_iff.1 g3
                rw [show i0a.toNat = (Sy.rows l).length / 4 by omega] at hv
                have hr : Sy.rows i0b = smA (Sy.rows l) 50 n := by rw [hv]; simp only [rows_tup, List.toList_toArray]
                obtain ⟨o1, o2⟩ := old_same (r := 7) (p := 50) (n := n) c2
                rw [← hr] at o1 o2
                have o3 : (bstR (Sy.rows i0b) 7 50 n).1 = (bstR (Sy.rows l) 7 50 n).1 := by rw [o2]
                have o4 : (bstR (Sy.rows i0b) 7 50 n).2.1 = (bstR (Sy.rows l) 7 50 n).2.1 := by rw [o2]
                have o5 : (bstR (Sy.rows i0b) 7 50 n).2.2 = (bstR (Sy.rows l) 7 50 n).2.2 := by rw [o2]
                have o6 : (Sy.rows i0b).length / 4 = 0 → bstE (Sy.rows l) 7 50 n = 13 := fun h => old_none c2 hw (by rw [← hr]; exact h)
                have hp := putE_2 (Sy.rows l) a b c d
                clear hv g3 hr o2 hty hL_l
                omega)
             | (exfalso
                have c2 : chkF (Sy.rows l) = 0 := by omega
                have hw : ¬ wrgF 7 50 n := by unfold wrgF; omega
                obtain ⟨g1, g2, g3⟩ := hi0
                have hv := eqV_iff.1 g3
                rw [show i0a.toNat = (Sy.rows l).length / 4 by omega] at hv
                have hr : Sy.rows i0b = smA (Sy.rows l) 50 n := by rw [hv]; simp only [rows_tup, List.toList_toArray]
                obtain ⟨o1, o2⟩ := old_same (r := 7) (p := 50) (n := n) c2
                rw [← hr] at o1 o2
                have o3 : (bstR (Sy.rows i0b) 7 50 n).1 = (bstR (Sy.rows l) 7 50 n).1 := by rw [o2]
                have o4 : (bstR (Sy.rows i0b) 7 50 n).2.1 = (bstR (Sy.rows l) 7 50 n).2.1 := by rw [o2]
                have o5 : (bstR (Sy.rows i0b) 7 50 n).2.2 = (bstR (Sy.rows l) 7 50 n).2.2 := by rw [o2]
                have o6 : (Sy.rows i0b).length / 4 = 0 → bstE (Sy.rows l) 7 50 n = 13 := fun h => old_none c2 hw (by rw [← hr]; exact h)
                have hp := putE_2 (Sy.rows l) a b c d
                clear hv g3 hr o2 hty hL_l
                have o7 : putE (Sy.rows l) a b c d = 0 → (((Sy.rows (Value.tuple (putV (Sy.rows l) a b c d).toArray)).length / 4 : Nat) : Int) = (((Sy.rows l).length / 4 : Nat) : Int) + 1 - hadF (Sy.rows l) a ((Sy.rows l).length / 4) := fun h => put_len hN_l.2 h
                have o8 : hadF (Sy.rows l) a i1b.toNat = hadF (Sy.rows l) a ((Sy.rows l).length / 4) := by rw [show i1b.toNat = (Sy.rows l).length / 4 by omega]
                have o9 := had_01 (Sy.rows l) a ((Sy.rows l).length / 4)
                have w0 := wr_i64 ((((Sy.rows l).length / 4 : Nat) : Int) + 1 - i1a)
                have w9 : IntKind.wrap .i64 ((((Sy.rows l).length / 4 : Nat) : Int) + 1) = (((Sy.rows l).length / 4 : Nat) : Int) + 1 := by omega
                simp only [w9] at *
                omega)
             | (exfalso
                have c2 : chkF (Sy.rows l) = 0 := by omega
                have hw : ¬ wrgF 7 50 n := by unfold wrgF; omega
                obtain ⟨g1, g2, g3⟩ := hi0
                have hv := eqV_iff.1 g3
                rw [show i0a.toNat = (Sy.rows l).length / 4 by omega] at hv
                have hr : Sy.rows i0b = smA (Sy.rows l) 50 n := by rw [hv]; simp only [rows_tup, List.toList_toArray]
                obtain ⟨o1, o2⟩ := old_same (r := 7) (p := 50) (n := n) c2
                rw [← hr] at o1 o2
                have o3 : (bstR (Sy.rows i0b) 7 50 n).1 = (bstR (Sy.rows l) 7 50 n).1 := by rw [o2]
                have o4 : (bstR (Sy.rows i0b) 7 50 n).2.1 = (bstR (Sy.rows l) 7 50 n).2.1 := by rw [o2]
                have o5 : (bstR (Sy.rows i0b) 7 50 n).2.2 = (bstR (Sy.rows l) 7 50 n).2.2 := by rw [o2]
                have o6 : (Sy.rows i0b).length / 4 = 0 → bstE (Sy.rows l) 7 50 n = 13 := fun h => old_none c2 hw (by rw [← hr]; exact h)
                have hp := putE_2 (Sy.rows l) a b c d
                clear hv g3 hr o2 hty hL_l
                have o7 : putE (Sy.rows l) a b c d = 0 → (((Sy.rows (Value.tuple (putV (Sy.rows l) a b c d).toArray)).length / 4 : Nat) : Int) = (((Sy.rows l).length / 4 : Nat) : Int) + 1 - hadF (Sy.rows l) a ((Sy.rows l).length / 4) := fun h => put_len hN_l.2 h
                have o8 : hadF (Sy.rows l) a i2b.toNat = hadF (Sy.rows l) a ((Sy.rows l).length / 4) := by rw [show i2b.toNat = (Sy.rows l).length / 4 by omega]
                have o9 := had_01 (Sy.rows l) a ((Sy.rows l).length / 4)
                have w0 := wr_i64 ((((Sy.rows l).length / 4 : Nat) : Int) + 1 - i2a)
                have w9 : IntKind.wrap .i64 ((((Sy.rows l).length / 4 : Nat) : Int) + 1) = (((Sy.rows l).length / 4 : Nat) : Int) + 1 := by omega
                simp only [w9] at *
                omega)
            ·
             refine ⟨fun h16 => ?_, fun h16 => ?_⟩
             ·
              first
              | exact True.intro
              | rfl
              | (exfalso
                 have c2 : chkF (Sy.rows l) = 0 := by omega
                 have hw : ¬ wrgF 7 50 n := by unfold wrgF; omega
                 obtain ⟨g1, g2, g3⟩ := hi0
                 have hv := eqV_iff.1 g3
                 rw [show i0a.toNat = (Sy.rows l).length / 4 by omega] at hv
                 have hr : Sy.rows i0b = smA (Sy.rows l) 50 n := by rw [hv]; simp only [rows_tup, List.toList_toArray]
                 obtain ⟨o1, o2⟩ := old_same (r := 7) (p := 50) (n := n) c2
                 rw [← hr] at o1 o2
                 have o3 : (bstR (Sy.rows i0b) 7 50 n).1 = (bstR (Sy.rows l) 7 50 n).1 := by rw [o2]
                 have o4 : (bstR (Sy.rows i0b) 7 50 n).2.1 = (bstR (Sy.rows l) 7 50 n).2.1 := by rw [o2]
                 have o5 : (bstR (Sy.rows i0b) 7 50 n).2.2 = (bstR (Sy.rows l) 7 50 n).2.2 := by rw [o2]
                 have o6 : (Sy.rows i0b).length / 4 = 0 → bstE (Sy.rows l) 7 50 n = 13 := fun h => old_none c2 hw (by rw [← hr]; exact h)
                 have hp := putE_2 (Sy.rows l) a b c d
                 clear hv g3 hr o2 hty hL_l
                 omega)
              | (exfalso
                 have c2 : chkF (Sy.rows l) = 0 := by omega
                 have hw : ¬ wrgF 7 50 n := by unfold wrgF; omega
                 obtain ⟨g1, g2, g3⟩ := hi0
                 have hv := eqV_iff.1 g3
                 rw [show i0a.toNat = (Sy.rows l).length / 4 by omega] at hv
                 have hr : Sy.rows i0b = smA (Sy.rows l) 50 n := by rw [hv]; simp only [rows_tup, List.toList_toArray]
                 obtain ⟨o1, o2⟩ := old_same (r := 7) (p := 50) (n := n) c2
                 rw [← hr] at o1 o2
                 have o3 : (bstR (Sy.rows i0b) 7 50 n).1 = (bstR (Sy.rows l) 7 50 n).1 := by rw [o2]
                 have o4 : (bstR (Sy.rows i0b) 7 50 n).2.1 = (bstR (Sy.rows l) 7 50 n).2.1 := by rw [o2]
                 have o5 : (bstR (Sy.rows i0b) 7 50 n).2.2 = (bstR (Sy.rows l) 7 50 n).2.2 := by rw [o2]
                 have o6 : (Sy.rows i0b).length / 4 = 0 → bstE (Sy.rows l) 7 50 n = 13 := fun h => old_none c2 hw (by rw [← hr]; exact h)
                 have hp := putE_2 (Sy.rows l) a b c d
                 clear hv g3 hr o2 hty hL_l
                 have o7 : putE (Sy.rows l) a b c d = 0 → (((Sy.rows (Value.tuple (putV (Sy.rows l) a b c d).toArray)).length / 4 : Nat) : Int) = (((Sy.rows l).length / 4 : Nat) : Int) + 1 - hadF (Sy.rows l) a ((Sy.rows l).length / 4) := fun h => put_len hN_l.2 h
                 have o8 : hadF (Sy.rows l) a i1b.toNat = hadF (Sy.rows l) a ((Sy.rows l).length / 4) := by rw [show i1b.toNat = (Sy.rows l).length / 4 by omega]
                 have o9 := had_01 (Sy.rows l) a ((Sy.rows l).length / 4)
                 have w0 := wr_i64 ((((Sy.rows l).length / 4 : Nat) : Int) + 1 - i1a)
                 have w9 : IntKind.wrap .i64 ((((Sy.rows l).length / 4 : Nat) : Int) + 1) = (((Sy.rows l).length / 4 : Nat) : Int) + 1 := by omega
                 simp only [w9] at *
                 omega)
              | (exfalso
                 have c2 : chkF (Sy.rows l) = 0 := by omega
                 have hw : ¬ wrgF 7 50 n := by unfold wrgF; omega
                 obtain ⟨g1, g2, g3⟩ := hi0
                 have hv := eqV_iff.1 g3
                 rw [show i0a.toNat = (Sy.rows l).length / 4 by omega] at hv
                 have hr : Sy.rows i0b = smA (Sy.rows l) 50 n := by rw [hv]; simp only [rows_tup, List.toList_toArray]
                 obtain ⟨o1, o2⟩ := old_same (r := 7) (p := 50) (n := n) c2
                 rw [← hr] at o1 o2
                 have o3 : (bstR (Sy.rows i0b) 7 50 n).1 = (bstR (Sy.rows l) 7 50 n).1 := by rw [o2]
                 have o4 : (bstR (Sy.rows i0b) 7 50 n).2.1 = (bstR (Sy.rows l) 7 50 n).2.1 := by rw [o2]
                 have o5 : (bstR (Sy.rows i0b) 7 50 n).2.2 = (bstR (Sy.rows l) 7 50 n).2.2 := by rw [o2]
                 have o6 : (Sy.rows i0b).length / 4 = 0 → bstE (Sy.rows l) 7 50 n = 13 := fun h => old_none c2 hw (by rw [← hr]; exact h)
                 have hp := putE_2 (Sy.rows l) a b c d
                 clear hv g3 hr o2 hty hL_l
                 have o7 : putE (Sy.rows l) a b c d = 0 → (((Sy.rows (Value.tuple (putV (Sy.rows l) a b c d).toArray)).length / 4 : Nat) : Int) = (((Sy.rows l).length / 4 : Nat) : Int) + 1 - hadF (Sy.rows l) a ((Sy.rows l).length / 4) := fun h => put_len hN_l.2 h
                 have o8 : hadF (Sy.rows l) a i2b.toNat = hadF (Sy.rows l) a ((Sy.rows l).length / 4) := by rw [show i2b.toNat = (Sy.rows l).length / 4 by omega]
                 have o9 := had_01 (Sy.rows l) a ((Sy.rows l).length / 4)
                 have w0 := wr_i64 ((((Sy.rows l).length / 4 : Nat) : Int) + 1 - i2a)
                 have w9 : IntKind.wrap .i64 ((((Sy.rows l).length / 4 : Nat) : Int) + 1) = (((Sy.rows l).length / 4 : Nat) : Int) + 1 := by omega
                 simp only [w9] at *
                 omega)
             ·
              refine ⟨fun h17 => ?_, fun h17 => ?_⟩
              ·
               refine ⟨fun h18 => ?_, fun h18 => ?_⟩
               ·
                first
                | exact True.intro
                | rfl
                | (exfalso
                   have c2 : chkF (Sy.rows l) = 0 := by omega
                   have hw : ¬ wrgF 7 50 n := by unfold wrgF; omega
                   obtain ⟨g1, g2, g3⟩ := hi0
                   have hv := eqV_iff.1 g3
                   rw [show i0a.toNat = (Sy.rows l).length / 4 by omega] at hv
                   have hr : Sy.rows i0b = smA (Sy.rows l) 50 n := by rw [hv]; simp only [rows_tup, List.toList_toArray]
                   obtain ⟨o1, o2⟩ := old_same (r := 7) (p := 50) (n := n) c2
                   rw [← hr] at o1 o2
                   have o3 : (bstR (Sy.rows i0b) 7 50 n).1 = (bstR (Sy.rows l) 7 50 n).1 := by rw [o2]
                   have o4 : (bstR (Sy.rows i0b) 7 50 n).2.1 = (bstR (Sy.rows l) 7 50 n).2.1 := by rw [o2]
                   have o5 : (bstR (Sy.rows i0b) 7 50 n).2.2 = (bstR (Sy.rows l) 7 50 n).2.2 := by rw [o2]
                   have o6 : (Sy.rows i0b).length / 4 = 0 → bstE (Sy.rows l) 7 50 n = 13 := fun h => old_none c2 hw (by rw [← hr]; exact h)
                   have hp := putE_2 (Sy.rows l) a b c d
                   clear hv g3 hr o2 hty hL_l
                   omega)
                | (exfalso
                   have c2 : chkF (Sy.rows l) = 0 := by omega
                   have hw : ¬ wrgF 7 50 n := by unfold wrgF; omega
                   obtain ⟨g1, g2, g3⟩ := hi0
                   have hv := eqV_iff.1 g3
                   rw [show i0a.toNat = (Sy.rows l).length / 4 by omega] at hv
                   have hr : Sy.rows i0b = smA (Sy.rows l) 50 n := by rw [hv]; simp only [rows_tup, List.toList_toArray]
                   obtain ⟨o1, o2⟩ := old_same (r := 7) (p := 50) (n := n) c2
                   rw [← hr] at o1 o2
                   have o3 : (bstR (Sy.rows i0b) 7 50 n).1 = (bstR (Sy.rows l) 7 50 n).1 := by rw [o2]
                   have o4 : (bstR (Sy.rows i0b) 7 50 n).2.1 = (bstR (Sy.rows l) 7 50 n).2.1 := by rw [o2]
                   have o5 : (bstR (Sy.rows i0b) 7 50 n).2.2 = (bstR (Sy.rows l) 7 50 n).2.2 := by rw [o2]
                   have o6 : (Sy.rows i0b).length / 4 = 0 → bstE (Sy.rows l) 7 50 n = 13 := fun h => old_none c2 hw (by rw [← hr]; exact h)
                   have hp := putE_2 (Sy.rows l) a b c d
                   clear hv g3 hr o2 hty hL_l
                   have o7 : putE (Sy.rows l) a b c d = 0 → (((Sy.rows (Value.tuple (putV (Sy.rows l) a b c d).toArray)).length / 4 : Nat) : Int) = (((Sy.rows l).length / 4 : Nat) : Int) + 1 - hadF (Sy.rows l) a ((Sy.rows l).length / 4) := fun h => put_len hN_l.2 h
                   have o8 : hadF (Sy.rows l) a i1b.toNat = hadF (Sy.rows l) a ((Sy.rows l).length / 4) := by rw [show i1b.toNat = (Sy.rows l).length / 4 by omega]
                   have o9 := had_01 (Sy.rows l) a ((Sy.rows l).length / 4)
                   have w0 := wr_i64 ((((Sy.rows l).length / 4 : Nat) : Int) + 1 - i1a)
                   have w9 : IntKind.wrap .i64 ((((Sy.rows l).length / 4 : Nat) : Int) + 1) = (((Sy.rows l).length / 4 : Nat) : Int) + 1 := by omega
                   simp only [w9] at *
                   omega)
                | (exfalso
                   have c2 : chkF (Sy.rows l) = 0 := by omega
                   have hw : ¬ wrgF 7 50 n := by unfold wrgF; omega
                   obtain ⟨g1, g2, g3⟩ := hi0
                   have hv := eqV_iff.1 g3
                   rw [show i0a.toNat = (Sy.rows l).length / 4 by omega] at hv
                   have hr : Sy.rows i0b = smA (Sy.rows l) 50 n := by rw [hv]; simp only [rows_tup, List.toList_toArray]
                   obtain ⟨o1, o2⟩ := old_same (r := 7) (p := 50) (n := n) c2
                   rw [← hr] at o1 o2
                   have o3 : (bstR (Sy.rows i0b) 7 50 n).1 = (bstR (Sy.rows l) 7 50 n).1 := by rw [o2]
                   have o4 : (bstR (Sy.rows i0b) 7 50 n).2.1 = (bstR (Sy.rows l) 7 50 n).2.1 := by rw [o2]
                   have o5 : (bstR (Sy.rows i0b) 7 50 n).2.2 = (bstR (Sy.rows l) 7 50 n).2.2 := by rw [o2]
                   have o6 : (Sy.rows i0b).length / 4 = 0 → bstE (Sy.rows l) 7 50 n = 13 := fun h => old_none c2 hw (by rw [← hr]; exact h)
                   have hp := putE_2 (Sy.rows l) a b c d
                   clear hv g3 hr o2 hty hL_l
                   have o7 : putE (Sy.rows l) a b c d = 0 → (((Sy.rows (Value.tuple (putV (Sy.rows l) a b c d).toArray)).length / 4 : Nat) : Int) = (((Sy.rows l).length / 4 : Nat) : Int) + 1 - hadF (Sy.rows l) a ((Sy.rows l).length / 4) := fun h => put_len hN_l.2 h
                   have o8 : hadF (Sy.rows l) a i2b.toNat = hadF (Sy.rows l) a ((Sy.rows l).length / 4) := by rw [show i2b.toNat = (Sy.rows l).length / 4 by omega]
                   have o9 := had_01 (Sy.rows l) a ((Sy.rows l).length / 4)
                   have w0 := wr_i64 ((((Sy.rows l).length / 4 : Nat) : Int) + 1 - i2a)
                   have w9 : IntKind.wrap .i64 ((((Sy.rows l).length / 4 : Nat) : Int) + 1) = (((Sy.rows l).length / 4 : Nat) : Int) + 1 := by omega
                   simp only [w9] at *
                   omega)
               ·
                refine ⟨?_, fun h19 => ?_⟩
                ·
                 first
                 | omega
                 | exact True.intro
                 | exact hc.1
                 | exact ⟨hc.1, by omega, by omega⟩
                 | exact ⟨hc.1, by omega, by omega, by omega, by omega⟩
                 | (obtain ⟨g1, g2, g3⟩ := hi0
                    have hv := eqV_iff.1 g3
                    have hr : Sy.rows i0b = smL (Sy.rows l) 50 n i0a.toNat := by rw [hv]; simp only [rows_tup, List.toList_toArray]
                    rw [hr]
                    exact ⟨okR_sm hc.1 50 n (by omega), by omega, by omega⟩)
                 | (obtain ⟨g1, g2, g3⟩ := hi0
                    have hv := eqV_iff.1 g3
                    have hr : Sy.rows i0b = smL (Sy.rows l) 50 n i0a.toNat := by rw [hv]; simp only [rows_tup, List.toList_toArray]
                    obtain ⟨q, q1, q2⟩ := sm_len (Sy.rows l) 50 n i0a.toNat
                    rw [hr]
                    omega)
                ·
                 refine ⟨fun h20 => ?_, fun h20 => ?_⟩
                 ·
                  refine ⟨fun h21 => ?_, fun h21 => ?_⟩
                  ·
                   first
                   | exact True.intro
                   | rfl
                   | (exfalso
                      have c2 : chkF (Sy.rows l) = 0 := by omega
                      have hw : ¬ wrgF 7 50 n := by unfold wrgF; omega
                      obtain ⟨g1, g2, g3⟩ := hi0
                      have hv := eqV_iff.1 g3
                      rw [show i0a.toNat = (Sy.rows l).length / 4 by omega] at hv
                      have hr : Sy.rows i0b = smA (Sy.rows l) 50 n := by rw [hv]; simp only [rows_tup, List.toList_toArray]
                      obtain ⟨o1, o2⟩ := old_same (r := 7) (p := 50) (n := n) c2
                      rw [← hr] at o1 o2
                      have o3 : (bstR (Sy.rows i0b) 7 50 n).1 = (bstR (Sy.rows l) 7 50 n).1 := by rw [o2]
                      have o4 : (bstR (Sy.rows i0b) 7 50 n).2.1 = (bstR (Sy.rows l) 7 50 n).2.1 := by rw [o2]
                      have o5 : (bstR (Sy.rows i0b) 7 50 n).2.2 = (bstR (Sy.rows l) 7 50 n).2.2 := by rw [o2]
                      have o6 : (Sy.rows i0b).length / 4 = 0 → bstE (Sy.rows l) 7 50 n = 13 := fun h => old_none c2 hw (by rw [← hr]; exact h)
                      have hp := putE_2 (Sy.rows l) a b c d
                      clear hv g3 hr o2 hty hL_l
                      omega)
                   | (exfalso
                      have c2 : chkF (Sy.rows l) = 0 := by omega
                      have hw : ¬ wrgF 7 50 n := by unfold wrgF; omega
                      obtain ⟨g1, g2, g3⟩ := hi0
                      have hv := eqV_iff.1 g3
                      rw [show i0a.toNat = (Sy.rows l).length / 4 by omega] at hv
                      have hr : Sy.rows i0b = smA (Sy.rows l) 50 n := by rw [hv]; simp only [rows_tup, List.toList_toArray]
                      obtain ⟨o1, o2⟩ := old_same (r := 7) (p := 50) (n := n) c2
                      rw [← hr] at o1 o2
                      have o3 : (bstR (Sy.rows i0b) 7 50 n).1 = (bstR (Sy.rows l) 7 50 n).1 := by rw [o2]
                      have o4 : (bstR (Sy.rows i0b) 7 50 n).2.1 = (bstR (Sy.rows l) 7 50 n).2.1 := by rw [o2]
                      have o5 : (bstR (Sy.rows i0b) 7 50 n).2.2 = (bstR (Sy.rows l) 7 50 n).2.2 := by rw [o2]
                      have o6 : (Sy.rows i0b).length / 4 = 0 → bstE (Sy.rows l) 7 50 n = 13 := fun h => old_none c2 hw (by rw [← hr]; exact h)
                      have hp := putE_2 (Sy.rows l) a b c d
                      clear hv g3 hr o2 hty hL_l
                      have o7 : putE (Sy.rows l) a b c d = 0 → (((Sy.rows (Value.tuple (putV (Sy.rows l) a b c d).toArray)).length / 4 : Nat) : Int) = (((Sy.rows l).length / 4 : Nat) : Int) + 1 - hadF (Sy.rows l) a ((Sy.rows l).length / 4) := fun h => put_len hN_l.2 h
                      have o8 : hadF (Sy.rows l) a i1b.toNat = hadF (Sy.rows l) a ((Sy.rows l).length / 4) := by rw [show i1b.toNat = (Sy.rows l).length / 4 by omega]
                      have o9 := had_01 (Sy.rows l) a ((Sy.rows l).length / 4)
                      have w0 := wr_i64 ((((Sy.rows l).length / 4 : Nat) : Int) + 1 - i1a)
                      have w9 : IntKind.wrap .i64 ((((Sy.rows l).length / 4 : Nat) : Int) + 1) = (((Sy.rows l).length / 4 : Nat) : Int) + 1 := by omega
                      simp only [w9] at *
                      omega)
                   | (exfalso
                      have c2 : chkF (Sy.rows l) = 0 := by omega
                      have hw : ¬ wrgF 7 50 n := by unfold wrgF; omega
                      obtain ⟨g1, g2, g3⟩ := hi0
                      have hv := eqV_iff.1 g3
                      rw [show i0a.toNat = (Sy.rows l).length / 4 by omega] at hv
                      have hr : Sy.rows i0b = smA (Sy.rows l) 50 n := by rw [hv]; simp only [rows_tup, List.toList_toArray]
                      obtain ⟨o1, o2⟩ := old_same (r := 7) (p := 50) (n := n) c2
                      rw [← hr] at o1 o2
                      have o3 : (bstR (Sy.rows i0b) 7 50 n).1 = (bstR (Sy.rows l) 7 50 n).1 := by rw [o2]
                      have o4 : (bstR (Sy.rows i0b) 7 50 n).2.1 = (bstR (Sy.rows l) 7 50 n).2.1 := by rw [o2]
                      have o5 : (bstR (Sy.rows i0b) 7 50 n).2.2 = (bstR (Sy.rows l) 7 50 n).2.2 := by rw [o2]
                      have o6 : (Sy.rows i0b).length / 4 = 0 → bstE (Sy.rows l) 7 50 n = 13 := fun h => old_none c2 hw (by rw [← hr]; exact h)
                      have hp := putE_2 (Sy.rows l) a b c d
                      clear hv g3 hr o2 hty hL_l
                      have o7 : putE (Sy.rows l) a b c d = 0 → (((Sy.rows (Value.tuple (putV (Sy.rows l) a b c d).toArray)).length / 4 : Nat) : Int) = (((Sy.rows l).length / 4 : Nat) : Int) + 1 - hadF (Sy.rows l) a ((Sy.rows l).length / 4) := fun h => put_len hN_l.2 h
                      have o8 : hadF (Sy.rows l) a i2b.toNat = hadF (Sy.rows l) a ((Sy.rows l).length / 4) := by rw [show i2b.toNat = (Sy.rows l).length / 4 by omega]
                      have o9 := had_01 (Sy.rows l) a ((Sy.rows l).length / 4)
                      have w0 := wr_i64 ((((Sy.rows l).length / 4 : Nat) : Int) + 1 - i2a)
                      have w9 : IntKind.wrap .i64 ((((Sy.rows l).length / 4 : Nat) : Int) + 1) = (((Sy.rows l).length / 4 : Nat) : Int) + 1 := by omega
                      simp only [w9] at *
                      omega)
                  ·
                   first
                   | exact True.intro
                   | rfl
                   | (exfalso
                      have c2 : chkF (Sy.rows l) = 0 := by omega
                      have hw : ¬ wrgF 7 50 n := by unfold wrgF; omega
                      obtain ⟨g1, g2, g3⟩ := hi0
                      have hv := eqV_iff.1 g3
                      rw [show i0a.toNat = (Sy.rows l).length / 4 by omega] at hv
                      have hr : Sy.rows i0b = smA (Sy.rows l) 50 n := by rw [hv]; simp only [rows_tup, List.toList_toArray]
                      obtain ⟨o1, o2⟩ := old_same (r := 7) (p := 50) (n := n) c2
                      rw [← hr] at o1 o2
                      have o3 : (bstR (Sy.rows i0b) 7 50 n).1 = (bstR (Sy.rows l) 7 50 n).1 := by rw [o2]
                      have o4 : (bstR (Sy.rows i0b) 7 50 n).2.1 = (bstR (Sy.rows l) 7 50 n).2.1 := by rw [o2]
                      have o5 : (bstR (Sy.rows i0b) 7 50 n).2.2 = (bstR (Sy.rows l) 7 50 n).2.2 := by rw [o2]
                      have o6 : (Sy.rows i0b).length / 4 = 0 → bstE (Sy.rows l) 7 50 n = 13 := fun h => old_none c2 hw (by rw [← hr]; exact h)
                      have hp := putE_2 (Sy.rows l) a b c d
                      clear hv g3 hr o2 hty hL_l
                      omega)
                   | (exfalso
                      have c2 : chkF (Sy.rows l) = 0 := by omega
                      have hw : ¬ wrgF 7 50 n := by unfold wrgF; omega
                      obtain ⟨g1, g2, g3⟩ := hi0
                      have hv := eqV_iff.1 g3
                      rw [show i0a.toNat = (Sy.rows l).length / 4 by omega] at hv
                      have hr : Sy.rows i0b = smA (Sy.rows l) 50 n := by rw [hv]; simp only [rows_tup, List.toList_toArray]
                      obtain ⟨o1, o2⟩ := old_same (r := 7) (p := 50) (n := n) c2
                      rw [← hr] at o1 o2
                      have o3 : (bstR (Sy.rows i0b) 7 50 n).1 = (bstR (Sy.rows l) 7 50 n).1 := by rw [o2]
                      have o4 : (bstR (Sy.rows i0b) 7 50 n).2.1 = (bstR (Sy.rows l) 7 50 n).2.1 := by rw [o2]
                      have o5 : (bstR (Sy.rows i0b) 7 50 n).2.2 = (bstR (Sy.rows l) 7 50 n).2.2 := by rw [o2]
                      have o6 : (Sy.rows i0b).length / 4 = 0 → bstE (Sy.rows l) 7 50 n = 13 := fun h => old_none c2 hw (by rw [← hr]; exact h)
                      have hp := putE_2 (Sy.rows l) a b c d
                      clear hv g3 hr o2 hty hL_l
                      have o7 : putE (Sy.rows l) a b c d = 0 → (((Sy.rows (Value.tuple (putV (Sy.rows l) a b c d).toArray)).length / 4 : Nat) : Int) = (((Sy.rows l).length / 4 : Nat) : Int) + 1 - hadF (Sy.rows l) a ((Sy.rows l).length / 4) := fun h => put_len hN_l.2 h
                      have o8 : hadF (Sy.rows l) a i1b.toNat = hadF (Sy.rows l) a ((Sy.rows l).length / 4) := by rw [show i1b.toNat = (Sy.rows l).length / 4 by omega]
                      have o9 := had_01 (Sy.rows l) a ((Sy.rows l).length / 4)
                      have w0 := wr_i64 ((((Sy.rows l).length / 4 : Nat) : Int) + 1 - i1a)
                      have w9 : IntKind.wrap .i64 ((((Sy.rows l).length / 4 : Nat) : Int) + 1) = (((Sy.rows l).length / 4 : Nat) : Int) + 1 := by omega
                      simp only [w9] at *
                      omega)
                   | (exfalso
                      have c2 : chkF (Sy.rows l) = 0 := by omega
                      have hw : ¬ wrgF 7 50 n := by unfold wrgF; omega
                      obtain ⟨g1, g2, g3⟩ := hi0
                      have hv := eqV_iff.1 g3
                      rw [show i0a.toNat = (Sy.rows l).length / 4 by omega] at hv
                      have hr : Sy.rows i0b = smA (Sy.rows l) 50 n := by rw [hv]; simp only [rows_tup, List.toList_toArray]
                      obtain ⟨o1, o2⟩ := old_same (r := 7) (p := 50) (n := n) c2
                      rw [← hr] at o1 o2
                      have o3 : (bstR (Sy.rows i0b) 7 50 n).1 = (bstR (Sy.rows l) 7 50 n).1 := by rw [o2]
                      have o4 : (bstR (Sy.rows i0b) 7 50 n).2.1 = (bstR (Sy.rows l) 7 50 n).2.1 := by rw [o2]
                      have o5 : (bstR (Sy.rows i0b) 7 50 n).2.2 = (bstR (Sy.rows l) 7 50 n).2.2 := by rw [o2]
                      have o6 : (Sy.rows i0b).length / 4 = 0 → bstE (Sy.rows l) 7 50 n = 13 := fun h => old_none c2 hw (by rw [← hr]; exact h)
                      have hp := putE_2 (Sy.rows l) a b c d
                      clear hv g3 hr o2 hty hL_l
                      have o7 : putE (Sy.rows l) a b c d = 0 → (((Sy.rows (Value.tuple (putV (Sy.rows l) a b c d).toArray)).length / 4 : Nat) : Int) = (((Sy.rows l).length / 4 : Nat) : Int) + 1 - hadF (Sy.rows l) a ((Sy.rows l).length / 4) := fun h => put_len hN_l.2 h
                      have o8 : hadF (Sy.rows l) a i2b.toNat = hadF (Sy.rows l) a ((Sy.rows l).length / 4) := by rw [show i2b.toNat = (Sy.rows l).length / 4 by omega]
                      have o9 := had_01 (Sy.rows l) a ((Sy.rows l).length / 4)
                      have w0 := wr_i64 ((((Sy.rows l).length / 4 : Nat) : Int) + 1 - i2a)
                      have w9 : IntKind.wrap .i64 ((((Sy.rows l).length / 4 : Nat) : Int) + 1) = (((Sy.rows l).length / 4 : Nat) : Int) + 1 := by omega
                      simp only [w9] at *
                      omega)
                 ·
                  refine ⟨?_, ?_⟩
                  ·
                   first
                   | exact ⟨by omega, by omega, eqV_iff.2 rfl⟩
                   | exact ⟨by omega, by omega, rfl⟩
                  ·
                   intro i1a i1b hi1
                   refine ⟨fun h22 => ?_, fun h22 => ?_⟩
                   ·
                    refine ⟨?_, fun h23 => ?_⟩
                    ·
                     first
                     | omega
                     | exact True.intro
                     | exact hc.1
                     | exact ⟨hc.1, by omega, by omega⟩
                     | exact ⟨hc.1, by omega, by omega, by omega, by omega⟩
                     | (obtain ⟨g1, g2, g3⟩ := hi0
                        have hv := eqV_iff.1 g3
                        have hr : Sy.rows i0b = smL (Sy.rows l) 50 n i0a.toNat := by rw [hv]; simp only [rows_tup, List.toList_toArray]
                        rw [hr]
                        exact ⟨okR_sm hc.1 50 n (by omega), by omega, by omega⟩)
                     | (obtain ⟨g1, g2, g3⟩ := hi0
                        have hv := eqV_iff.1 g3
                        have hr : Sy.rows i0b = smL (Sy.rows l) 50 n i0a.toNat := by rw [hv]; simp only [rows_tup, List.toList_toArray]
                        obtain ⟨q, q1, q2⟩ := sm_len (Sy.rows l) 50 n i0a.toNat
                        rw [hr]
                        omega)
                    ·
                     refine ⟨fun h24 => ?_, fun h24 => ?_⟩
                     ·
                      have wf4 := wr_i64 (i1b + 1)
                      refine ⟨?_, ?_⟩
                      ·
                       obtain ⟨g1, g2, g3⟩ := hi1
                       have e : IntKind.wrap .i64 (i1b + 1) = i1b + 1 := by omega
                       rw [e, show (i1b + 1).toNat = i1b.toNat + 1 by omega]
                       by_cases hh : Go.RowKit.intOf ((Sy.rows l).getD (i1b.toNat * 4) Go.undef) = a
                       · first
                         | (exfalso; omega)
                         | (rw [had_yes hh]
                            exact ⟨by omega, by omega, rfl⟩)
                       · first
                         | (exfalso; omega)
                         | (rw [had_no hh]
                            exact ⟨by omega, by omega, g3⟩)
                      ·
                       omega
                     ·
                      have wf5 := wr_i64 (i1b + 1)
                      refine ⟨?_, ?_⟩
                      ·
                       obtain ⟨g1, g2, g3⟩ := hi1
                       have e : IntKind.wrap .i64 (i1b + 1) = i1b + 1 := by omega
                       rw [e, show (i1b + 1).toNat = i1b.toNat + 1 by omega]
                       by_cases hh : Go.RowKit.intOf ((Sy.rows l).getD (i1b.toNat * 4) Go.undef) = a
                       · first
                         | (exfalso; omega)
                         | (rw [had_yes hh]
                            exact ⟨by omega, by omega, rfl⟩)
                       · first
                         | (exfalso; omega)
                         | (rw [had_no hh]
                            exact ⟨by omega, by omega, g3⟩)
                      ·
                       omega
                   ·
                    have wf6 := wr_i64 (((((rows l).length / 4 : Nat)) : Int) + 1)
                    have wf7 := wr_i64 ((IntKind.wrap .i64 (((((rows l).length / 4 : Nat)) : Int) + 1)) - i1a)
                    refine ⟨fun h25 => ?_, fun h25 => ?_⟩
                    ·
                     first
                     | exact True.intro
                     | rfl
                     | (exfalso
                        have c2 : chkF (Sy.rows l) = 0 := by omega
                        have hw : ¬ wrgF 7 50 n := by unfold wrgF; omega
                        obtain ⟨g1, g2, g3⟩ := hi0
                        have hv := eqV_iff.1 g3
                        rw [show i0a.toNat = (Sy.rows l).length / 4 by omega] at hv
                        have hr : Sy.rows i0b = smA (Sy.rows l) 50 n := by rw [hv]; simp only [rows_tup, List.toList_toArray]
                        obtain ⟨o1, o2⟩ := old_same (r := 7) (p := 50) (n := n) c2
                        rw [← hr] at o1 o2
                        have o3 : (bstR (Sy.rows i0b) 7 50 n).1 = (bstR (Sy.rows l) 7 50 n).1 := by rw [o2]
                        have o4 : (bstR (Sy.rows i0b) 7 50 n).2.1 = (bstR (Sy.rows l) 7 50 n).2.1 := by rw [o2]
                        have o5 : (bstR (Sy.rows i0b) 7 50 n).2.2 = (bstR (Sy.rows l) 7 50 n).2.2 := by rw [o2]
                        have o6 : (Sy.rows i0b).length / 4 = 0 → bstE (Sy.rows l) 7 50 n = 13 := fun h => old_none c2 hw (by rw [← hr]; exact h)
                        have hp := putE_2 (Sy.rows l) a b c d
                        clear hv g3 hr o2 hty hL_l
                        omega)
                     | (exfalso
                        have c2 : chkF (Sy.rows l) = 0 := by omega
                        have hw : ¬ wrgF 7 50 n := by unfold wrgF; omega
                        obtain ⟨g1, g2, g3⟩ := hi0
                        have hv := eqV_iff.1 g3
                        rw [show i0a.toNat = (Sy.rows l).length / 4 by omega] at hv
                        have hr : Sy.rows i0b = smA (Sy.rows l) 50 n := by rw [hv]; simp only [rows_tup, List.toList_toArray]
                        obtain ⟨o1, o2⟩ := old_same (r := 7) (p := 50) (n := n) c2
                        rw [← hr] at o1 o2
                        have o3 : (bstR (Sy.rows i0b) 7 50 n).1 = (bstR (Sy.rows l) 7 50 n).1 := by rw [o2]
                        have o4 : (bstR (Sy.rows i0b) 7 50 n).2.1 = (bstR (Sy.rows l) 7 50 n).2.1 := by rw [o2]
                        have o5 : (bstR (Sy.rows i0b) 7 50 n).2.2 = (bstR (Sy.rows l) 7 50 n).2.2 := by rw [o2]
                        have o6 : (Sy.rows i0b).length / 4 = 0 → bstE (Sy.rows l) 7 50 n = 13 := fun h => old_none c2 hw (by rw [← hr]; exact h)
                        have hp := putE_2 (Sy.rows l) a b c d
                        clear hv g3 hr o2 hty hL_l
                        have o7 : putE (Sy.rows l) a b c d = 0 → (((Sy.rows (Value.tuple (putV (Sy.rows l) a b c d).toArray)).length / 4 : Nat) : Int) = (((Sy.rows l).length / 4 : Nat) : Int) + 1 - hadF (Sy.rows l) a ((Sy.rows l).length / 4) := fun h => put_len hN_l.2 h
                        have o8 : hadF (Sy.rows l) a i1b.toNat = hadF (Sy.rows l) a ((Sy.rows l).length / 4) := by rw [show i1b.toNat = (Sy.rows l).length / 4 by omega]
                        have o9 := had_01 (Sy.rows l) a ((Sy.rows l).length / 4)
                        have w0 := wr_i64 ((((Sy.rows l).length / 4 : Nat) : Int) + 1 - i1a)
                        have w9 : IntKind.wrap .i64 ((((Sy.rows l).length / 4 : Nat) : Int) + 1) = (((Sy.rows l).length / 4 : Nat) : Int) + 1 := by omega
                        simp only [w9] at *
                        omega)
                     | (exfalso
                        have c2 : chkF (Sy.rows l) = 0 := by omega
                        have hw : ¬ wrgF 7 50 n := by unfold wrgF; omega
                        obtain ⟨g1, g2, g3⟩ := hi0
                        have hv := eqV_iff.1 g3
                        rw [show i0a.toNat = (Sy.rows l).length / 4 by omega] at hv
                        have hr : Sy.rows i0b = smA (Sy.rows l) 50 n := by rw [hv]; simp only [rows_tup, List.toList_toArray]
                        obtain ⟨o1, o2⟩ := old_same (r := 7) (p := 50) (n := n) c2
                        rw [← hr] at o1 o2
                        have o3 : (bstR (Sy.rows i0b) 7 50 n).1 = (bstR (Sy.rows l) 7 50 n).1 := by rw [o2]
                        have o4 : (bstR (Sy.rows i0b) 7 50 n).2.1 = (bstR (Sy.rows l) 7 50 n).2.1 := by rw [o2]
                        have o5 : (bstR (Sy.rows i0b) 7 50 n).2.2 = (bstR (Sy.rows l) 7 50 n).2.2 := by rw [o2]
                        have o6 : (Sy.rows i0b).length / 4 = 0 → bstE (Sy.rows l) 7 50 n = 13 := fun h => old_none c2 hw (by rw [← hr]; exact h)
                        have hp := putE_2 (Sy.rows l) a b c d
                        clear hv g3 hr o2 hty hL_l
                        have o7 : putE (Sy.rows l) a b c d = 0 → (((Sy.rows (Value.tuple (putV (Sy.rows l) a b c d).toArray)).length / 4 : Nat) : Int) = (((Sy.rows l).length / 4 : Nat) : Int) + 1 - hadF (Sy.rows l) a ((Sy.rows l).length / 4) := fun h => put_len hN_l.2 h
                        have o8 : hadF (Sy.rows l) a i2b.toNat = hadF (Sy.rows l) a ((Sy.rows l).length / 4) := by rw [show i2b.toNat = (Sy.rows l).length / 4 by omega]
                        have o9 := had_01 (Sy.rows l) a ((Sy.rows l).length / 4)
                        have w0 := wr_i64 ((((Sy.rows l).length / 4 : Nat) : Int) + 1 - i2a)
                        have w9 : IntKind.wrap .i64 ((((Sy.rows l).length / 4 : Nat) : Int) + 1) = (((Sy.rows l).length / 4 : Nat) : Int) + 1 := by omega
                        simp only [w9] at *
                        omega)
                    ·
                     first
                     | exact True.intro
                     | rfl
                     | (exfalso
                        have c2 : chkF (Sy.rows l) = 0 := by omega
                        have hw : ¬ wrgF 7 50 n := by unfold wrgF; omega
                        obtain ⟨g1, g2, g3⟩ := hi0
                        have hv := eqV_iff.1 g3
                        rw [show i0a.toNat = (Sy.rows l).length / 4 by omega] at hv
                        have hr : Sy.rows i0b = smA (Sy.rows l) 50 n := by rw [hv]; simp only [rows_tup, List.toList_toArray]
                        obtain ⟨o1, o2⟩ := old_same (r := 7) (p := 50) (n := n) c2
                        rw [← hr] at o1 o2
                        have o3 : (bstR (Sy.rows i0b) 7 50 n).1 = (bstR (Sy.rows l) 7 50 n).1 := by rw [o2]
                        have o4 : (bstR (Sy.rows i0b) 7 50 n).2.1 = (bstR (Sy.rows l) 7 50 n).2.1 := by rw [o2]
                        have o5 : (bstR (Sy.rows i0b) 7 50 n).2.2 = (bstR (Sy.rows l) 7 50 n).2.2 := by rw [o2]
                        have o6 : (Sy.rows i0b).length / 4 = 0 → bstE (Sy.rows l) 7 50 n = 13 := fun h => old_none c2 hw (by rw [← hr]; exact h)
                        have hp := putE_2 (Sy.rows l) a b c d
                        clear hv g3 hr o2 hty hL_l
                        omega)
                     | (exfalso
                        have c2 : chkF (Sy.rows l) = 0 := by omega
                        have hw : ¬ wrgF 7 50 n := by unfold wrgF; omega
                        obtain ⟨g1, g2, g3⟩ := hi0
                        have hv := eqV_iff.1 g3
                        rw [show i0a.toNat = (Sy.rows l).length / 4 by omega] at hv
                        have hr : Sy.rows i0b = smA (Sy.rows l) 50 n := by rw [hv]; simp only [rows_tup, List.toList_toArray]
                        obtain ⟨o1, o2⟩ := old_same (r := 7) (p := 50) (n := n) c2
                        rw [← hr] at o1 o2
                        have o3 : (bstR (Sy.rows i0b) 7 50 n).1 = (bstR (Sy.rows l) 7 50 n).1 := by rw [o2]
                        have o4 : (bstR (Sy.rows i0b) 7 50 n).2.1 = (bstR (Sy.rows l) 7 50 n).2.1 := by rw [o2]
                        have o5 : (bstR (Sy.rows i0b) 7 50 n).2.2 = (bstR (Sy.rows l) 7 50 n).2.2 := by rw [o2]
                        have o6 : (Sy.rows i0b).length / 4 = 0 → bstE (Sy.rows l) 7 50 n = 13 := fun h => old_none c2 hw (by rw [← hr]; exact h)
                        have hp := putE_2 (Sy.rows l) a b c d
                        clear hv g3 hr o2 hty hL_l
                        have o7 : putE (Sy.rows l) a b c d = 0 → (((Sy.rows (Value.tuple (putV (Sy.rows l) a b c d).toArray)).length / 4 : Nat) : Int) = (((Sy.rows l).length / 4 : Nat) : Int) + 1 - hadF (Sy.rows l) a ((Sy.rows l).length / 4) := fun h => put_len hN_l.2 h
                        have o8 : hadF (Sy.rows l) a i1b.toNat = hadF (Sy.rows l) a ((Sy.rows l).length / 4) := by rw [show i1b.toNat = (Sy.rows l).length / 4 by omega]
                        have o9 := had_01 (Sy.rows l) a ((Sy.rows l).length / 4)
                        have w0 := wr_i64 ((((Sy.rows l).length / 4 : Nat) : Int) + 1 - i1a)
                        have w9 : IntKind.wrap .i64 ((((Sy.rows l).length / 4 : Nat) : Int) + 1) = (((Sy.rows l).length / 4 : Nat) : Int) + 1 := by omega
                        simp only [w9] at *
                        omega)
                     | (exfalso
                        have c2 : chkF (Sy.rows l) = 0 := by omega
                        have hw : ¬ wrgF 7 50 n := by unfold wrgF; omega
                        obtain ⟨g1, g2, g3⟩ := hi0
                        have hv := eqV_iff.1 g3
                        rw [show i0a.toNat = (Sy.rows l).length / 4 by omega] at hv
                        have hr : Sy.rows i0b = smA (Sy.rows l) 50 n := by rw [hv]; simp only [rows_tup, List.toList_toArray]
                        obtain ⟨o1, o2⟩ := old_same (r := 7) (p := 50) (n := n) c2
                        rw [← hr] at o1 o2
                        have o3 : (bstR (Sy.rows i0b) 7 50 n).1 = (bstR (Sy.rows l) 7 50 n).1 := by rw [o2]
                        have o4 : (bstR (Sy.rows i0b) 7 50 n).2.1 = (bstR (Sy.rows l) 7 50 n).2.1 := by rw [o2]
                        have o5 : (bstR (Sy.rows i0b) 7 50 n).2.2 = (bstR (Sy.rows l) 7 50 n).2.2 := by rw [o2]
                        have o6 : (Sy.rows i0b).length / 4 = 0 → bstE (Sy.rows l) 7 50 n = 13 := fun h => old_none c2 hw (by rw [← hr]; exact h)
                        have hp := putE_2 (Sy.rows l) a b c d
                        clear hv g3 hr o2 hty hL_l
                        have o7 : putE (Sy.rows l) a b c d = 0 → (((Sy.rows (Value.tuple (putV (Sy.rows l) a b c d).toArray)).length / 4 : Nat) : Int) = (((Sy.rows l).length / 4 : Nat) : Int) + 1 - hadF (Sy.rows l) a ((Sy.rows l).length / 4) := fun h => put_len hN_l.2 h
                        have o8 : hadF (Sy.rows l) a i2b.toNat = hadF (Sy.rows l) a ((Sy.rows l).length / 4) := by rw [show i2b.toNat = (Sy.rows l).length / 4 by omega]
                        have o9 := had_01 (Sy.rows l) a ((Sy.rows l).length / 4)
                        have w0 := wr_i64 ((((Sy.rows l).length / 4 : Nat) : Int) + 1 - i2a)
                        have w9 : IntKind.wrap .i64 ((((Sy.rows l).length / 4 : Nat) : Int) + 1) = (((Sy.rows l).length / 4 : Nat) : Int) + 1 := by omega
                        simp only [w9] at *
                        omega)
              ·
               refine ⟨?_, fun h26 => ?_⟩
               ·
                first
                | omega
                | exact True.intro
                | exact hc.1
                | exact ⟨hc.1, by omega, by omega⟩
                | exact ⟨hc.1, by omega, by omega, by omega, by omega⟩
                | (obtain ⟨g1, g2, g3⟩ := hi0
                   have hv := eqV_iff.1 g3
                   have hr : Sy.rows i0b = smL (Sy.rows l) 50 n i0a.toNat := by rw [hv]; simp only [rows_tup, List.toList_toArray]
                   rw [hr]
                   exact ⟨okR_sm hc.1 50 n (by omega), by omega, by omega⟩)
                | (obtain ⟨g1, g2, g3⟩ := hi0
                   have hv := eqV_iff.1 g3
                   have hr : Sy.rows i0b = smL (Sy.rows l) 50 n i0a.toNat := by rw [hv]; simp only [rows_tup, List.toList_toArray]
                   obtain ⟨q, q1, q2⟩ := sm_len (Sy.rows l) 50 n i0a.toNat
                   rw [hr]
                   omega)
               ·
                refine ⟨fun h27 => ?_, fun h27 => ?_⟩
                ·
                 refine ⟨fun h28 => ?_, fun h28 => ?_⟩
                 ·
                  first
                  | exact True.intro
                  | rfl
                  | (exfalso
                     have c2 : chkF (Sy.rows l) = 0 := by omega
                     have hw : ¬ wrgF 7 50 n := by unfold wrgF; omega
                     obtain ⟨g1, g2, g3⟩ := hi0
                     have hv := eqV_iff.1 g3
                     rw [show i0a.toNat = (Sy.rows l).length / 4 by omega] at hv
                     have hr : Sy.rows i0b = smA (Sy.rows l) 50 n := by rw [hv]; simp only [rows_tup, List.toList_toArray]
                     obtain ⟨o1, o2⟩ := old_same (r := 7) (p := 50) (n := n) c2
                     rw [← hr] at o1 o2
                     have o3 : (bstR (Sy.rows i0b) 7 50 n).1 = (bstR (Sy.rows l) 7 50 n).1 := by rw [o2]
                     have o4 : (bstR (Sy.rows i0b) 7 50 n).2.1 = (bstR (Sy.rows l) 7 50 n).2.1 := by rw [o2]
                     have o5 : (bstR (Sy.rows i0b) 7 50 n).2.2 = (bstR (Sy.rows l) 7 50 n).2.2 := by rw [o2]
                     have o6 : (Sy.rows i0b).length / 4 = 0 → bstE (Sy.rows l) 7 50 n = 13 := fun h => old_none c2 hw (by rw [← hr]; exact h)
                     have hp := putE_2 (Sy.rows l) a b c d
                     clear hv g3 hr o2 hty hL_l
                     omega)
                  | (exfalso
                     have c2 : chkF (Sy.rows l) = 0 := by omega
                     have hw : ¬ wrgF 7 50 n := by unfold wrgF; omega
                     obtain ⟨g1, g2, g3⟩ := hi0
                     have hv := eqV_iff.1 g3
                     rw [show i0a.toNat = (Sy.rows l).length / 4 by omega] at hv
                     have hr : Sy.rows i0b = smA (Sy.rows l) 50 n := by rw [hv]; simp only [rows_tup, List.toList_toArray]
                     obtain ⟨o1, o2⟩ := old_same (r := 7) (p := 50) (n := n) c2
                     rw [← hr] at o1 o2
                     have o3 : (bstR (Sy.rows i0b) 7 50 n).1 = (bstR (Sy.rows l) 7 50 n).1 := by rw [o2]
                     have o4 : (bstR (Sy.rows i0b) 7 50 n).2.1 = (bstR (Sy.rows l) 7 50 n).2.1 := by rw [o2]
                     have o5 : (bstR (Sy.rows i0b) 7 50 n).2.2 = (bstR (Sy.rows l) 7 50 n).2.2 := by rw [o2]
                     have o6 : (Sy.rows i0b).length / 4 = 0 → bstE (Sy.rows l) 7 50 n = 13 := fun h => old_none c2 hw (by rw [← hr]; exact h)
                     have hp := putE_2 (Sy.rows l) a b c d
                     clear hv g3 hr o2 hty hL_l
                     have o7 : putE (Sy.rows l) a b c d = 0 → (((Sy.rows (Value.tuple (putV (Sy.rows l) a b c d).toArray)).length / 4 : Nat) : Int) = (((Sy.rows l).length / 4 : Nat) : Int) + 1 - hadF (Sy.rows l) a ((Sy.rows l).length / 4) := fun h => put_len hN_l.2 h
                     have o8 : hadF (Sy.rows l) a i1b.toNat = hadF (Sy.rows l) a ((Sy.rows l).length / 4) := by rw [show i1b.toNat = (Sy.rows l).length / 4 by omega]
                     have o9 := had_01 (Sy.rows l) a ((Sy.rows l).length / 4)
                     have w0 := wr_i64 ((((Sy.rows l).length / 4 : Nat) : Int) + 1 - i1a)
                     have w9 : IntKind.wrap .i64 ((((Sy.rows l).length / 4 : Nat) : Int) + 1) = (((Sy.rows l).length / 4 : Nat) : Int) + 1 := by omega
                     simp only [w9] at *
                     omega)
                  | (exfalso
                     have c2 : chkF (Sy.rows l) = 0 := by omega
                     have hw : ¬ wrgF 7 50 n := by unfold wrgF; omega
                     obtain ⟨g1, g2, g3⟩ := hi0
                     have hv := eqV_iff.1 g3
                     rw [show i0a.toNat = (Sy.rows l).length / 4 by omega] at hv
                     have hr : Sy.rows i0b = smA (Sy.rows l) 50 n := by rw [hv]; simp only [rows_tup, List.toList_toArray]
                     obtain ⟨o1, o2⟩ := old_same (r := 7) (p := 50) (n := n) c2
                     rw [← hr] at o1 o2
                     have o3 : (bstR (Sy.rows i0b) 7 50 n).1 = (bstR (Sy.rows l) 7 50 n).1 := by rw [o2]
                     have o4 : (bstR (Sy.rows i0b) 7 50 n).2.1 = (bstR (Sy.rows l) 7 50 n).2.1 := by rw [o2]
                     have o5 : (bstR (Sy.rows i0b) 7 50 n).2.2 = (bstR (Sy.rows l) 7 50 n).2.2 := by rw [o2]
                     have o6 : (Sy.rows i0b).length / 4 = 0 → bstE (Sy.rows l) 7 50 n = 13 := fun h => old_none c2 hw (by rw [← hr]; exact h)
                     have hp := putE_2 (Sy.rows l) a b c d
                     clear hv g3 hr o2 hty hL_l
                     have o7 : putE (Sy.rows l) a b c d = 0 → (((Sy.rows (Value.tuple (putV (Sy.rows l) a b c d).toArray)).length / 4 : Nat) : Int) = (((Sy.rows l).length / 4 : Nat) : Int) + 1 - hadF (Sy.rows l) a ((Sy.rows l).length / 4) := fun h => put_len hN_l.2 h
                     have o8 : hadF (Sy.rows l) a i2b.toNat = hadF (Sy.rows l) a ((Sy.rows l).length / 4) := by rw [show i2b.toNat = (Sy.rows l).length / 4 by omega]
                     have o9 := had_01 (Sy.rows l) a ((Sy.rows l).length / 4)
                     have w0 := wr_i64 ((((Sy.rows l).length / 4 : Nat) : Int) + 1 - i2a)
                     have w9 : IntKind.wrap .i64 ((((Sy.rows l).length / 4 : Nat) : Int) + 1) = (((Sy.rows l).length / 4 : Nat) : Int) + 1 := by omega
                     simp only [w9] at *
                     omega)
                 ·
                  first
                  | exact True.intro
                  | rfl
                  | (exfalso
                     have c2 : chkF (Sy.rows l) = 0 := by omega
                     have hw : ¬ wrgF 7 50 n := by unfold wrgF; omega
                     obtain ⟨g1, g2, g3⟩ := hi0
                     have hv := eqV_iff.1 g3
                     rw [show i0a.toNat = (Sy.rows l).length / 4 by omega] at hv
                     have hr : Sy.rows i0b = smA (Sy.rows l) 50 n := by rw [hv]; simp only [rows_tup, List.toList_toArray]
                     obtain ⟨o1, o2⟩ := old_same (r := 7) (p := 50) (n := n) c2
                     rw [← hr] at o1 o2
                     have o3 : (bstR (Sy.rows i0b) 7 50 n).1 = (bstR (Sy.rows l) 7 50 n).1 := by rw [o2]
                     have o4 : (bstR (Sy.rows i0b) 7 50 n).2.1 = (bstR (Sy.rows l) 7 50 n).2.1 := by rw [o2]
                     have o5 : (bstR (Sy.rows i0b) 7 50 n).2.2 = (bstR (Sy.rows l) 7 50 n).2.2 := by rw [o2]
                     have o6 : (Sy.rows i0b).length / 4 = 0 → bstE (Sy.rows l) 7 50 n = 13 := fun h => old_none c2 hw (by rw [← hr]; exact h)
                     have hp := putE_2 (Sy.rows l) a b c d
                     clear hv g3 hr o2 hty hL_l
                     omega)
                  | (exfalso
                     have c2 : chkF (Sy.rows l) = 0 := by omega
                     have hw : ¬ wrgF 7 50 n := by unfold wrgF; omega
                     obtain ⟨g1, g2, g3⟩ := hi0
                     have hv := eqV_iff.1 g3
                     rw [show i0a.toNat = (Sy.rows l).length / 4 by omega] at hv
                     have hr : Sy.rows i0b = smA (Sy.rows l) 50 n := by rw [hv]; simp only [rows_tup, List.toList_toArray]
                     obtain ⟨o1, o2⟩ := old_same (r := 7) (p := 50) (n := n) c2
                     rw [← hr] at o1 o2
                     have o3 : (bstR (Sy.rows i0b) 7 50 n).1 = (bstR (Sy.rows l) 7 50 n).1 := by rw [o2]
                     have o4 : (bstR (Sy.rows i0b) 7 50 n).2.1 = (bstR (Sy.rows l) 7 50 n).2.1 := by rw [o2]
                     have o5 : (bstR (Sy.rows i0b) 7 50 n).2.2 = (bstR (Sy.rows l) 7 50 n).2.2 := by rw [o2]
                     have o6 : (Sy.rows i0b).length / 4 = 0 → bstE (Sy.rows l) 7 50 n = 13 := fun h => old_none c2 hw (by rw [← hr]; exact h)
                     have hp := putE_2 (Sy.rows l) a b c d
                     clear hv g3 hr o2 hty hL_l
                     have o7 : putE (Sy.rows l) a b c d = 0 → (((Sy.rows (Value.tuple (putV (Sy.rows l) a b c d).toArray)).length / 4 : Nat) : Int) = (((Sy.rows l).length / 4 : Nat) : Int) + 1 - hadF (Sy.rows l) a ((Sy.rows l).length / 4) := fun h => put_len hN_l.2 h
                     have o8 : hadF (Sy.rows l) a i1b.toNat = hadF (Sy.rows l) a ((Sy.rows l).length / 4) := by rw [show i1b.toNat = (Sy.rows l).length / 4 by omega]
                     have o9 := had_01 (Sy.rows l) a ((Sy.rows l).length / 4)
                     have w0 := wr_i64 ((((Sy.rows l).length / 4 : Nat) : Int) + 1 - i1a)
                     have w9 : IntKind.wrap .i64 ((((Sy.rows l).length / 4 : Nat) : Int) + 1) = (((Sy.rows l).length / 4 : Nat) : Int) + 1 := by omega
                     simp only [w9] at *
                     omega)
                  | (exfalso
                     have c2 : chkF (Sy.rows l) = 0 := by omega
                     have hw : ¬ wrgF 7 50 n := by unfold wrgF; omega
                     obtain ⟨g1, g2, g3⟩ := hi0
                     have hv := eqV_iff.1 g3
                     rw [show i0a.toNat = (Sy.rows l).length / 4 by omega] at hv
                     have hr : Sy.rows i0b = smA (Sy.rows l) 50 n := by rw [hv]; simp only [rows_tup, List.toList_toArray]
                     obtain ⟨o1, o2⟩ := old_same (r := 7) (p := 50) (n := n) c2
                     rw [← hr] at o1 o2
                     have o3 : (bstR (Sy.rows i0b) 7 50 n).1 = (bstR (Sy.rows l) 7 50 n).1 := by rw [o2]
                     have o4 : (bstR (Sy.rows i0b) 7 50 n).2.1 = (bstR (Sy.rows l) 7 50 n).2.1 := by rw [o2]
                     have o5 : (bstR (Sy.rows i0b) 7 50 n).2.2 = (bstR (Sy.rows l) 7 50 n).2.2 := by rw [o2]
                     have o6 : (Sy.rows i0b).length / 4 = 0 → bstE (Sy.rows l) 7 50 n = 13 := fun h => old_none c2 hw (by rw [← hr]; exact h)
                     have hp := putE_2 (Sy.rows l) a b c d
                     clear hv g3 hr o2 hty hL_l
                     have o7 : putE (Sy.rows l) a b c d = 0 → (((Sy.rows (Value.tuple (putV (Sy.rows l) a b c d).toArray)).length / 4 : Nat) : Int) = (((Sy.rows l).length / 4 : Nat) : Int) + 1 - hadF (Sy.rows l) a ((Sy.rows l).length / 4) := fun h => put_len hN_l.2 h
                     have o8 : hadF (Sy.rows l) a i2b.toNat = hadF (Sy.rows l) a ((Sy.rows l).length / 4) := by rw [show i2b.toNat = (Sy.rows l).length / 4 by omega]
                     have o9 := had_01 (Sy.rows l) a ((Sy.rows l).length / 4)
                     have w0 := wr_i64 ((((Sy.rows l).length / 4 : Nat) : Int) + 1 - i2a)
                     have w9 : IntKind.wrap .i64 ((((Sy.rows l).length / 4 : Nat) : Int) + 1) = (((Sy.rows l).length / 4 : Nat) : Int) + 1 := by omega
                     simp only [w9] at *
                     omega)
                ·
                 refine ⟨?_, ?_⟩
                 ·
                  first
                  | exact ⟨by omega, by omega, eqV_iff.2 rfl⟩
                  | exact ⟨by omega, by omega, rfl⟩
                 ·
                  intro i2a i2b hi2
                  refine ⟨fun h29 => ?_, fun h29 => ?_⟩
                  ·
                   refine ⟨?_, fun h30 => ?_⟩
                   ·
                    first
                    | omega
                    | exact True.intro
                    | exact hc.1
                    | exact ⟨hc.1, by omega, by omega⟩
                    | exact ⟨hc.1, by omega, by omega, by omega, by omega⟩
                    | (obtain ⟨g1, g2, g3⟩ := hi0
                       have hv := eqV_iff.1 g3
                       have hr : Sy.rows i0b = smL (Sy.rows l) 50 n i0a.toNat := by rw [hv]; simp only [rows_tup, List.toList_toArray]
                       rw [hr]
                       exact ⟨okR_sm hc.1 50 n (by omega), by omega, by omega⟩)
                    | (obtain ⟨g1, g2, g3⟩ := hi0
                       have hv := eqV_iff.1 g3
                       have hr : Sy.rows i0b = smL (Sy.rows l) 50 n i0a.toNat := by rw [hv]; simp only [rows_tup, List.toList_toArray]
                       obtain ⟨q, q1, q2⟩ := sm_len (Sy.rows l) 50 n i0a.toNat
                       rw [hr]
                       omega)
                   ·
                    refine ⟨fun h31 => ?_, fun h31 => ?_⟩
                    ·
                     have wf8 := wr_i64 (i2b + 1)
                     refine ⟨?_, ?_⟩
                     ·
                      obtain ⟨g1, g2, g3⟩ := hi2
                      have e : IntKind.wrap .i64 (i2b + 1) = i2b + 1 := by omega
                      rw [e, show (i2b + 1).toNat = i2b.toNat + 1 by omega]
                      by_cases hh : Go.RowKit.intOf ((Sy.rows l).getD (i2b.toNat * 4) Go.undef) = a
                      · first
                        | (exfalso; omega)
                        | (rw [had_yes hh]
                           exact ⟨by omega, by omega, rfl⟩)
                      · first
                        | (exfalso; omega)
                        | (rw [had_no hh]
                           exact ⟨by omega, by omega, g3⟩)
                     ·
                      omega
                    ·
                     have wf9 := wr_i64 (i2b + 1)
                     refine ⟨?_, ?_⟩
                     ·
                      obtain ⟨g1, g2, g3⟩ := hi2
                      have e : IntKind.wrap .i64 (i2b + 1) = i2b + 1 := by omega
                      rw [e, show (i2b + 1).toNat = i2b.toNat + 1 by omega]
                      by_cases hh : Go.RowKit.intOf ((Sy.rows l).getD (i2b.toNat * 4) Go.undef) = a
                      · first
                        | (exfalso; omega)
                        | (rw [had_yes hh]
                           exact ⟨by omega, by omega, rfl⟩)
                      · first
                        | (exfalso; omega)
                        | (rw [had_no hh]
                           exact ⟨by omega, by omega, g3⟩)
                     ·
                      omega
                  ·
                   have wf10 := wr_i64 (((((rows l).length / 4 : Nat)) : Int) + 1)
                   have wf11 := wr_i64 ((IntKind.wrap .i64 (((((rows l).length / 4 : Nat)) : Int) + 1)) - i2a)
                   refine ⟨fun h32 => ?_, fun h32 => ?_⟩
                   ·
                    first
                    | exact True.intro
                    | rfl
                    | (exfalso
                       have c2 : chkF (Sy.rows l) = 0 := by omega
                       have hw : ¬ wrgF 7 50 n := by unfold wrgF; omega
                       obtain ⟨g1, g2, g3⟩ := hi0
                       have hv := eqV_iff.1 g3
                       rw [show i0a.toNat = (Sy.rows l).length / 4 by omega] at hv
                       have hr : Sy.rows i0b = smA (Sy.rows l) 50 n := by rw [hv]; simp only [rows_tup, List.toList_toArray]
                       obtain ⟨o1, o2⟩ := old_same (r := 7) (p := 50) (n := n) c2
                       rw [← hr] at o1 o2
                       have o3 : (bstR (Sy.rows i0b) 7 50 n).1 = (bstR (Sy.rows l) 7 50 n).1 := by rw [o2]
                       have o4 : (bstR (Sy.rows i0b) 7 50 n).2.1 = (bstR (Sy.rows l) 7 50 n).2.1 := by rw [o2]
                       have o5 : (bstR (Sy.rows i0b) 7 50 n).2.2 = (bstR (Sy.rows l) 7 50 n).2.2 := by rw [o2]
                       have o6 : (Sy.rows i0b).length / 4 = 0 → bstE (Sy.rows l) 7 50 n = 13 := fun h => old_none c2 hw (by rw [← hr]; exact h)
                       have hp := putE_2 (Sy.rows l) a b c d
                       clear hv g3 hr o2 hty hL_l
                       omega)
                    | (exfalso
                       have c2 : chkF (Sy.rows l) = 0 := by omega
                       have hw : ¬ wrgF 7 50 n := by unfold wrgF; omega
                       obtain ⟨g1, g2, g3⟩ := hi0
                       have hv := eqV_iff.1 g3
                       rw [show i0a.toNat = (Sy.rows l).length / 4 by omega] at hv
                       have hr : Sy.rows i0b = smA (Sy.rows l) 50 n := by rw [hv]; simp only [rows_tup, List.toList_toArray]
                       obtain ⟨o1, o2⟩ := old_same (r := 7) (p := 50) (n := n) c2
                       rw [← hr] at o1 o2
                       have o3 : (bstR (Sy.rows i0b) 7 50 n).1 = (bstR (Sy.rows l) 7 50 n).1 := by rw [o2]
                       have o4 : (bstR (Sy.rows i0b) 7 50 n).2.1 = (bstR (Sy.rows l) 7 50 n).2.1 := by rw [o2]
                       have o5 : (bstR (Sy.rows i0b) 7 50 n).2.2 = (bstR (Sy.rows l) 7 50 n).2.2 := by rw [o2]
                       have o6 : (Sy.rows i0b).length / 4 = 0 → bstE (Sy.rows l) 7 50 n = 13 := fun h => old_none c2 hw (by rw [← hr]; exact h)
                       have hp := putE_2 (Sy.rows l) a b c d
                       clear hv g3 hr o2 hty hL_l
                       have o7 : putE (Sy.rows l) a b c d = 0 → (((Sy.rows (Value.tuple (putV (Sy.rows l) a b c d).toArray)).length / 4 : Nat) : Int) = (((Sy.rows l).length / 4 : Nat) : Int) + 1 - hadF (Sy.rows l) a ((Sy.rows l).length / 4) := fun h => put_len hN_l.2 h
                       have o8 : hadF (Sy.rows l) a i1b.toNat = hadF (Sy.rows l) a ((Sy.rows l).length / 4) := by rw [show i1b.toNat = (Sy.rows l).length / 4 by omega]
                       have o9 := had_01 (Sy.rows l) a ((Sy.rows l).length / 4)
                       have w0 := wr_i64 ((((Sy.rows l).length / 4 : Nat) : Int) + 1 - i1a)
                       have w9 : IntKind.wrap .i64 ((((Sy.rows l).length / 4 : Nat) : Int) + 1) = (((Sy.rows l).length / 4 : Nat) : Int) + 1 := by omega
                       simp only [w9] at *
                       omega)
                    | (exfalso
                       have c2 : chkF (Sy.rows l) = 0 := by omega
                       have hw : ¬ wrgF 7 50 n := by unfold wrgF; omega
                       obtain ⟨g1, g2, g3⟩ := hi0
                       have hv := eqV_iff.1 g3
                       rw [show i0a.toNat = (Sy.rows l).length / 4 by omega] at hv
                       have hr : Sy.rows i0b = smA (Sy.rows l) 50 n := by rw [hv]; simp only [rows_tup, List.toList_toArray]
                       obtain ⟨o1, o2⟩ := old_same (r := 7) (p := 50) (n := n) c2
                       rw [← hr] at o1 o2
                       have o3 : (bstR (Sy.rows i0b) 7 50 n).1 = (bstR (Sy.rows l) 7 50 n).1 := by rw [o2]
                       have o4 : (bstR (Sy.rows i0b) 7 50 n).2.1 = (bstR (Sy.rows l) 7 50 n).2.1 := by rw [o2]
                       have o5 : (bstR (Sy.rows i0b) 7 50 n).2.2 = (bstR (Sy.rows l) 7 50 n).2.2 := by rw [o2]
                       have o6 : (Sy.rows i0b).length / 4 = 0 → bstE (Sy.rows l) 7 50 n = 13 := fun h => old_none c2 hw (by rw [← hr]; exact h)
                       have hp := putE_2 (Sy.rows l) a b c d
                       clear hv g3 hr o2 hty hL_l
                       have o7 : putE (Sy.rows l) a b c d = 0 → (((Sy.rows (Value.tuple (putV (Sy.rows l) a b c d).toArray)).length / 4 : Nat) : Int) = (((Sy.rows l).length / 4 : Nat) : Int) + 1 - hadF (Sy.rows l) a ((Sy.rows l).length / 4) := fun h => put_len hN_l.2 h
                       have o8 : hadF (Sy.rows l) a i2b.toNat = hadF (Sy.rows l) a ((Sy.rows l).length / 4) := by rw [show i2b.toNat = (Sy.rows l).length / 4 by omega]
                       have o9 := had_01 (Sy.rows l) a ((Sy.rows l).length / 4)
                       have w0 := wr_i64 ((((Sy.rows l).length / 4 : Nat) : Int) + 1 - i2a)
                       have w9 : IntKind.wrap .i64 ((((Sy.rows l).length / 4 : Nat) : Int) + 1) = (((Sy.rows l).length / 4 : Nat) : Int) + 1 := by omega
                       simp only [w9] at *
                       omega)
                   ·
                    first
                    | exact True.intro
                    | rfl
                    | (exfalso
                       have c2 : chkF (Sy.rows l) = 0 := by omega
                       have hw : ¬ wrgF 7 50 n := by unfold wrgF; omega
                       obtain ⟨g1, g2, g3⟩ := hi0
                       have hv := eqV_iff.1 g3
                       rw [show i0a.toNat = (Sy.rows l).length / 4 by omega] at hv
                       have hr : Sy.rows i0b = smA (Sy.rows l) 50 n := by rw [hv]; simp only [rows_tup, List.toList_toArray]
                       obtain ⟨o1, o2⟩ := old_same (r := 7) (p := 50) (n := n) c2
                       rw [← hr] at o1 o2
                       have o3 : (bstR (Sy.rows i0b) 7 50 n).1 = (bstR (Sy.rows l) 7 50 n).1 := by rw [o2]
                       have o4 : (bstR (Sy.rows i0b) 7 50 n).2.1 = (bstR (Sy.rows l) 7 50 n).2.1 := by rw [o2]
                       have o5 : (bstR (Sy.rows i0b) 7 50 n).2.2 = (bstR (Sy.rows l) 7 50 n).2.2 := by rw [o2]
                       have o6 : (Sy.rows i0b).length / 4 = 0 → bstE (Sy.rows l) 7 50 n = 13 := fun h => old_none c2 hw (by rw [← hr]; exact h)
                       have hp := putE_2 (Sy.rows l) a b c d
                       clear hv g3 hr o2 hty hL_l
                       omega)
                    | (exfalso
                       have c2 : chkF (Sy.rows l) = 0 := by omega
                       have hw : ¬ wrgF 7 50 n := by unfold wrgF; omega
                       obtain ⟨g1, g2, g3⟩ := hi0
                       have hv := eqV_iff.1 g3
                       rw [show i0a.toNat = (Sy.rows l).length / 4 by omega] at hv
                       have hr : Sy.rows i0b = smA (Sy.rows l) 50 n := by rw [hv]; simp only [rows_tup, List.toList_toArray]
                       obtain ⟨o1, o2⟩ := old_same (r := 7) (p := 50) (n := n) c2
                       rw [← hr] at o1 o2
                       have o3 : (bstR (Sy.rows i0b) 7 50 n).1 = (bstR (Sy.rows l) 7 50 n).1 := by rw [o2]
                       have o4 : (bstR (Sy.rows i0b) 7 50 n).2.1 = (bstR (Sy.rows l) 7 50 n).2.1 := by rw [o2]
                       have o5 : (bstR (Sy.rows i0b) 7 50 n).2.2 = (bstR (Sy.rows l) 7 50 n).2.2 := by rw [o2]
                       have o6 : (Sy.rows i0b).length / 4 = 0 → bstE (Sy.rows l) 7 50 n = 13 := fun h => old_none c2 hw (by rw [← hr]; exact h)
                       have hp := putE_2 (Sy.rows l) a b c d
                       clear hv g3 hr o2 hty hL_l
                       have o7 : putE (Sy.rows l) a b c d = 0 → (((Sy.rows (Value.tuple (putV (Sy.rows l) a b c d).toArray)).length / 4 : Nat) : Int) = (((Sy.rows l).length / 4 : Nat) : Int) + 1 - hadF (Sy.rows l) a ((Sy.rows l).length / 4) := fun h => put_len hN_l.2 h
                       have o8 : hadF (Sy.rows l) a i1b.toNat = hadF (Sy.rows l) a ((Sy.rows l).length / 4) := by rw [show i1b.toNat = (Sy.rows l).length / 4 by omega]
                       have o9 := had_01 (Sy.rows l) a ((Sy.rows l).length / 4)
                       have w0 := wr_i64 ((((Sy.rows l).length / 4 : Nat) : Int) + 1 - i1a)
                       have w9 : IntKind.wrap .i64 ((((Sy.rows l).length / 4 : Nat) : Int) + 1) = (((Sy.rows l).length / 4 : Nat) : Int) + 1 := by omega
                       simp only [w9] at *
                       omega)
                    | (exfalso
                       have c2 : chkF (Sy.rows l) = 0 := by omega
                       have hw : ¬ wrgF 7 50 n := by unfold wrgF; omega
                       obtain ⟨g1, g2, g3⟩ := hi0
                       have hv := eqV_iff.1 g3
                       rw [show i0a.toNat = (Sy.rows l).length / 4 by omega] at hv
                       have hr : Sy.rows i0b = smA (Sy.rows l) 50 n := by rw [hv]; simp only [rows_tup, List.toList_toArray]
                       obtain ⟨o1, o2⟩ := old_same (r := 7) (p := 50) (n := n) c2
                       rw [← hr] at o1 o2
                       have o3 : (bstR (Sy.rows i0b) 7 50 n).1 = (bstR (Sy.rows l) 7 50 n).1 := by rw [o2]
                       have o4 : (bstR (Sy.rows i0b) 7 50 n).2.1 = (bstR (Sy.rows l) 7 50 n).2.1 := by rw [o2]
                       have o5 : (bstR (Sy.rows i0b) 7 50 n).2.2 = (bstR (Sy.rows l) 7 50 n).2.2 := by rw [o2]
                       have o6 : (Sy.rows i0b).length / 4 = 0 → bstE (Sy.rows l) 7 50 n = 13 := fun h => old_none c2 hw (by rw [← hr]; exact h)
                       have hp := putE_2 (Sy.rows l) a b c d
                       clear hv g3 hr o2 hty hL_l
                       have o7 : putE (Sy.rows l) a b c d = 0 → (((Sy.rows (Value.tuple (putV (Sy.rows l) a b c d).toArray)).length / 4 : Nat) : Int) = (((Sy.rows l).length / 4 : Nat) : Int) + 1 - hadF (Sy.rows l) a ((Sy.rows l).length / 4) := fun h => put_len hN_l.2 h
                       have o8 : hadF (Sy.rows l) a i2b.toNat = hadF (Sy.rows l) a ((Sy.rows l).length / 4) := by rw [show i2b.toNat = (Sy.rows l).length / 4 by omega]
                       have o9 := had_01 (Sy.rows l) a ((Sy.rows l).length / 4)
                       have w0 := wr_i64 ((((Sy.rows l).length / 4 : Nat) : Int) + 1 - i2a)
                       have w9 : IntKind.wrap .i64 ((((Sy.rows l).length / 4 : Nat) : Int) + 1) = (((Sy.rows l).length / 4 : Nat) : Int) + 1 := by omega
                       simp only [w9] at *
                       omega)
theorem ffg_wOld : ffc_wOld.Good Tryd.prog syG (ffE [] [] [] []) := good_of_walk (Γ := ⟨[fec_sure15, fec_givef, fac_fput, fdc_best, fac_fck, fec_num], syG, [], [], []⟩) (ρ := ffE [] [] [] []) sym wOld_w rfl (fun _ _ _ _ => (ok_cons (Con.Good.env (Con.Good.up feg_sure15 ffup rfl) _ _ _ _) (ok_cons (Con.Good.env (Con.Good.up feg_givef ffup rfl) _ _ _ _) (ok_cons (Con.Good.env (Con.Good.up (Con.Good.up (Con.Good.up (Con.Good.up (Con.Good.up fag_fput fbup rfl) fcup rfl) fdup rfl) feup rfl) ffup rfl) _ _ _ _) (ok_cons (Con.Good.env (Con.Good.up (Con.Good.up fdg_best feup rfl) ffup rfl) _ _ _ _) (ok_cons (Con.Good.env (Con.Good.up (Con.Good.up (Con.Good.up (Con.Good.up (Con.Good.up fag_fck fbup rfl) fcup rfl) fdup rfl) feup rfl) ffup rfl) _ _ _ _) (ok_cons (Con.Good.env (Con.Good.up feg_num ffup rfl) _ _ _ _) ok_nil))))))) (fun a b c d n l hc hty => wOld_h a b c d n l hc hty)
end Go.Proofs.YtflckmhlobpfiaaDoor
