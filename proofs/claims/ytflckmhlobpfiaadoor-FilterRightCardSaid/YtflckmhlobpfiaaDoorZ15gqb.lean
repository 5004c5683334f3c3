import Derived.Test.YtflckmhlobpfiaaDoorSycqb
import Derived.Test.YtflckmhlobpfiaaDoorZ15fqb
/-
  Layer 15 by the second engine: FilterRight.
-/
namespace Go.Proofs.YtflckmhlobpfiaaDoor
open Go.RowKit Go.Extern.Stop Go.Stop Go.Extern Go.Proofs.YtflckmhlobpfiaaDoor.Sy
set_option linter.unusedVariables false
set_option linter.unusedSimpArgs false
abbrev KU3 : SK := .cons (.int .u32) (.cons (.int .u32) (.cons (.int .u32) .nil))
theorem typ_rowU {l : Value} (h : typ (.sl KU3) l) {k : Nat} (hk : k < (Sy.rows l).length / 3) : (Sy.rows l).getD (k * 3) Go.undef = .int .u32 (Go.RowKit.intOf ((Sy.rows l).getD (k * 3) Go.undef)) ∧ (Sy.rows l).getD (k * 3 + 1) Go.undef = .int .u32 (Go.RowKit.intOf ((Sy.rows l).getD (k * 3 + 1) Go.undef)) ∧ (Sy.rows l).getD (k * 3 + 2) Go.undef = .int .u32 (Go.RowKit.intOf ((Sy.rows l).getD (k * 3 + 2) Go.undef)) := by
  obtain ⟨_, n, h1, h2, h3⟩ := h
  have : n = (Sy.rows l).length / 3 := by rw [h2]; exact (Nat.mul_div_cancel n (by decide)).symm
  obtain ⟨g1, g2, g3, _⟩ := h3 k (by omega)
  exact ⟨g1, g2, g3⟩
abbrev KI1 : SK := .cons (.int .i64) .nil
theorem typ_rowI {l : Value} (h : typ (.sl KI1) l) {k : Nat} (hk : k < (Sy.rows l).length) : (Sy.rows l).getD k Go.undef = .int .i64 (Go.RowKit.intOf ((Sy.rows l).getD k Go.undef)) := by
  obtain ⟨_, n, h1, h2, h3⟩ := h
  have : n = (Sy.rows l).length := by rw [h2]; exact (Nat.mul_one n).symm
  obtain ⟨g1, _⟩ := h3 k (by omega)
  have g2 : (Sy.rows l).getD (k * 1) Go.undef = .int .i64 (Go.RowKit.intOf ((Sy.rows l).getD (k * 1) Go.undef)) := g1
  rw [Nat.mul_one] at g2
  exact g2
theorem okR_u32 {l : List Value} (h : okR l = true) {k : Nat} (hk : k < l.length) (ht : l.getD k Go.undef = .int .u32 (Go.RowKit.intOf (l.getD k Go.undef))) : 0 ≤ Go.RowKit.intOf (l.getD k Go.undef) ∧ Go.RowKit.intOf (l.getD k Go.undef) ≤ 4294967295 := by
  have hm : l.getD k Go.undef ∈ l := by rw [List.getD_eq_getElem?_getD, List.getElem?_eq_getElem hk]; exact List.getElem_mem hk
  exact bounds_u32 (okR_iff.1 h _ hm _ _ ht)
theorem mod1000 {x : Int} (h : 0 ≤ x) : 0 ≤ Int.tmod x 1000 ∧ Int.tmod x 1000 ≤ 999 := by
  rw [Int.tmod_eq_emod_of_nonneg h]; omega
theorem src_lt {l : List Value} : ∀ {q : Nat}, okF l q = true → ∀ j, j < q → Go.RowKit.intOf (l.getD (j * 4) Go.undef) < leastS l q
  | 0, _, j, hj => absurd hj (Nat.not_lt_zero _)
  | q + 1, h, j, hj => by
    have hf := fineE_iff.1 (okF_get h (Nat.lt_succ_self q))
    have e : leastS l (q + 1) = Go.RowKit.intOf (l.getD (q * 4) Go.undef) + 1 := rfl
    rw [e]
    rcases Nat.lt_succ_iff_lt_or_eq.1 hj with h1 | rfl
    · have := src_lt (okF_le h (Nat.le_succ q)) j h1
      omega
    · omega
theorem ent_at {A : List Value} {q j : Nat} {a b c d : Int} (hq : A.length = q * 4) : (A ++ ent a b c d).getD (q * 4 + j) Go.undef = (ent a b c d).getD j Go.undef := by
  rw [getD_right (by omega), show q * 4 + j - A.length = j by omega]
theorem ent_at0 {A : List Value} {q : Nat} {a b c d : Int} (hq : A.length = q * 4) : (A ++ ent a b c d).getD (q * 4) Go.undef = .int .i64 a := ent_at (j := 0) hq
/-- an entry put behind all others -/
theorem put_end {A : List Value} {q : Nat} {s a lo hi : Int} (hq : A.length = q * 4) (ho : okF A q = true) (hs : leastS A q ≤ s) (s0 : 0 ≤ s) (s8 : s < 8) (a1 : -4611686018427387904 < a) (a2 : a < 4611686018427387904) (hl : lo ≤ hi) : putE A s a lo hi = 0 ∧ putV A s a lo hi = A ++ ent s a lo hi ∧ okF (A ++ ent s a lo hi) (q + 1) = true ∧ leastS (A ++ ent s a lo hi) (q + 1) = s + 1 := by
  have hd : A.length / 4 = q := by rw [hq]; exact Nat.mul_div_cancel q (by decide)
  have hc : chkF A = 0 := chkF_yes (by rw [hd]; exact ho)
  have he : chkF (ent s a lo hi) = 0 := by rw [chk_ent, if_pos ⟨s0, s8, a1, a2, hl⟩]
  have hin : inF A s = q := by
    obtain ⟨n1, n2, n3⟩ := inF_spec A s
    by_cases hx : inF A s < q
    · have := n3 (by omega)
      have := src_lt ho _ hx
      omega
    · omega
  have heq : eqF A s = 0 := by
    rcases eqF_spec A s with ⟨_, e2, _⟩ | ⟨e1, _⟩
    · omega
    · exact e1
  obtain ⟨p1, p2⟩ := put_yes hc he
  refine ⟨p1, ?_, ?_, ?_⟩
  · rw [p2, hin, heq, Nat.add_zero, ← hq, List.take_length, List.drop_length, List.append_nil]
  · simp only [okF]
    rw [okF_left (by omega), ho, Bool.true_and, fineE_iff, least_left (by omega), ent_at0 hq, ent_at hq, ent_at hq, ent_at hq]
    exact ⟨hs, s8, a1, a2, hl⟩
  · have e : leastS (A ++ ent s a lo hi) (q + 1) = Go.RowKit.intOf ((A ++ ent s a lo hi).getD (q * 4) Go.undef) + 1 := rfl
    rw [e, ent_at0 hq]
    rfl
theorem okR_add {A B : List Value} (h1 : okR A = true) (h2 : okR B = true) : okR (A ++ B) = true := okR_iff.2 fun x hx => (List.mem_append.1 hx).elim (okR_iff.1 h1 x) (okR_iff.1 h2 x)
abbrev c0 (t : List Value) (j : Nat) : Int := Go.RowKit.intOf (t.getD (j * 3) Go.undef)
abbrev c1 (t : List Value) (j : Nat) : Int := Go.RowKit.intOf (t.getD (j * 3 + 1) Go.undef)
abbrev c2 (t : List Value) (j : Nat) : Int := Go.RowKit.intOf (t.getD (j * 3 + 2) Go.undef)
def rgL (t : List Value) (r : Int) : Nat → List Value
  | 0 => []
  | k + 1 => rgL t r k ++ ent k (Int.tmod (Go.RowKit.intOf (t.getD (k * 3 + 2) Go.undef)) 1000) (r - Go.RowKit.intOf (t.getD (k * 3) Go.undef)) (r + Go.RowKit.intOf (t.getD (k * 3 + 1) Go.undef))
def wrL (A : List Value) (N : Nat) (u : List Value) : Nat → List Value
  | 0 => A
  | k + 1 => wrL A N u k ++ ent ((N : Int) + k) 3 (Go.RowKit.intOf (u.getD k Go.undef)) (Go.RowKit.intOf (u.getD k Go.undef))
/-- a list of q entries that stands: all count, and the first N have r -/
structure Std (l : List Value) (q N : Nat) (r : Int) : Prop where
  len : l.length = q * 4
  ok : okF l q = true
  least : leastS l q ≤ q
  inr : okR l = true
  cnt : ∀ j, j < q → 0 ≤ Go.RowKit.intOf (l.getD (j * 4 + 1) Go.undef) ∧ Go.RowKit.intOf (l.getD (j * 4 + 1) Go.undef) ≤ 999
  has : ∀ j, j < q → j < N → Go.RowKit.intOf (l.getD (j * 4 + 2) Go.undef) ≤ r ∧ r ≤ Go.RowKit.intOf (l.getD (j * 4 + 3) Go.undef)
theorem Std.add {A : List Value} {q N : Nat} {r a lo hi : Int} (h : Std A q N r) (q8 : q < 8) (a0 : 0 ≤ a) (a1 : a ≤ 999) (hl : lo ≤ hi) (b1 : -9223372036854775808 ≤ lo) (b2 : hi ≤ 9223372036854775807) (hh : q < N → lo ≤ r ∧ r ≤ hi) : putE A q a lo hi = 0 ∧ putV A q a lo hi = A ++ ent q a lo hi ∧ Std (A ++ ent q a lo hi) (q + 1) N r := by
  obtain ⟨p1, p2, p3, p4⟩ := put_end (s := (q : Int)) h.len h.ok h.least (by omega) (by omega) (show -4611686018427387904 < a by omega) (by omega) hl
  have hl2 := h.len
  refine ⟨p1, p2, ⟨by rw [List.length_append, h.len]; show q * 4 + 4 = _; omega, p3, by rw [p4]; omega, okR_add h.inr (okR_ent ⟨⟨by omega, by omega⟩, ⟨by omega, by omega⟩, ⟨by omega, by omega⟩, by omega, by omega⟩), fun j hj => ?_, fun j hj hN => ?_⟩⟩
  · rcases Nat.lt_succ_iff_lt_or_eq.1 hj with h1 | rfl
    · rw [getD_left (by omega)]; exact h.cnt j h1
    · rw [ent_at h.len]; exact ⟨a0, a1⟩
  · rcases Nat.lt_succ_iff_lt_or_eq.1 hj with h1 | rfl
    · rw [getD_left (by omega), getD_left (by omega)]; exact h.has j h1 hN
    · rw [ent_at h.len, ent_at h.len]; exact hh hN
theorem rg_std {t : List Value} {r : Int} {N : Nat} (r1 : -1152921504606846976 ≤ r) (r2 : r ≤ 1152921504606846976) (n8 : N ≤ 8) (hb : ∀ j, j < N → (0 ≤ c0 t j ∧ c0 t j ≤ 4294967295) ∧ (0 ≤ c1 t j ∧ c1 t j ≤ 4294967295) ∧ 0 ≤ c2 t j) : ∀ {k : Nat}, k ≤ N → Std (rgL t r k) k N r
  | 0, _ => ⟨rfl, rfl, Int.le_refl _, okR_nil, fun j hj => absurd hj (Nat.not_lt_zero _), fun j hj => absurd hj (Nat.not_lt_zero _)⟩
  | k + 1, hk => by
    have ih := rg_std r1 r2 n8 hb (k := k) (by omega)
    obtain ⟨⟨x1, x2⟩, ⟨x3, x4⟩, x5⟩ := hb k (by omega)
    obtain ⟨y1, y2⟩ := mod1000 x5
    exact (ih.add (by omega) y1 y2 (lo := r - c0 t k) (hi := r + c1 t k) (by omega) (by omega) (by omega) (fun _ => ⟨by omega, by omega⟩)).2.2
theorem rg_put {t : List Value} {r : Int} {N : Nat} (r1 : -1152921504606846976 ≤ r) (r2 : r ≤ 1152921504606846976) (n8 : N ≤ 8) (hb : ∀ j, j < N → (0 ≤ c0 t j ∧ c0 t j ≤ 4294967295) ∧ (0 ≤ c1 t j ∧ c1 t j ≤ 4294967295) ∧ 0 ≤ c2 t j) {k : Nat} (hk : k < N) : putE (rgL t r k) k (Int.tmod (Go.RowKit.intOf (t.getD (k * 3 + 2) Go.undef)) 1000) (r - Go.RowKit.intOf (t.getD (k * 3) Go.undef)) (r + Go.RowKit.intOf (t.getD (k * 3 + 1) Go.undef)) = 0 ∧ putV (rgL t r k) k (Int.tmod (Go.RowKit.intOf (t.getD (k * 3 + 2) Go.undef)) 1000) (r - Go.RowKit.intOf (t.getD (k * 3) Go.undef)) (r + Go.RowKit.intOf (t.getD (k * 3 + 1) Go.undef)) = rgL t r (k + 1) := by
  have ih := rg_std r1 r2 n8 hb (k := k) (by omega)
  obtain ⟨⟨x1, x2⟩, ⟨x3, x4⟩, x5⟩ := hb k hk
  obtain ⟨y1, y2⟩ := mod1000 x5
  obtain ⟨p1, p2, _⟩ := ih.add (by omega) y1 y2 (lo := r - c0 t k) (hi := r + c1 t k) (by omega) (by omega) (by omega) (fun _ => ⟨by omega, by omega⟩)
  exact ⟨p1, p2⟩
theorem wr_std {A u : List Value} {r : Int} {N W : Nat} (hA : Std A N N r) (n8 : N + W ≤ 8) (hu : ∀ j, j < W → -9223372036854775808 ≤ Go.RowKit.intOf (u.getD j Go.undef) ∧ Go.RowKit.intOf (u.getD j Go.undef) ≤ 9223372036854775807) : ∀ {k : Nat}, k ≤ W → Std (wrL A N u k) (N + k) N r
  | 0, _ => hA
  | k + 1, hk => by
    have ih := wr_std hA n8 hu (k := k) (by omega)
    obtain ⟨x1, x2⟩ := hu k (by omega)
    have := (ih.add (by omega) (show (0 : Int) ≤ 3 by decide) (by decide) (Int.le_refl (Go.RowKit.intOf (u.getD k Go.undef))) x1 x2 (fun h => by omega)).2.2
    rw [show ((N + k : Nat) : Int) = (N : Int) + k by omega] at this
    exact this
theorem wr_put {A u : List Value} {r : Int} {N W : Nat} (hA : Std A N N r) (n8 : N + W ≤ 8) (hu : ∀ j, j < W → -9223372036854775808 ≤ Go.RowKit.intOf (u.getD j Go.undef) ∧ Go.RowKit.intOf (u.getD j Go.undef) ≤ 9223372036854775807) {k : Nat} (hk : k < W) : putE (wrL A N u k) ((N : Int) + k) 3 (Go.RowKit.intOf (u.getD k Go.undef)) (Go.RowKit.intOf (u.getD k Go.undef)) = 0 ∧ putV (wrL A N u k) ((N : Int) + k) 3 (Go.RowKit.intOf (u.getD k Go.undef)) (Go.RowKit.intOf (u.getD k Go.undef)) = wrL A N u (k + 1) := by
  have ih := wr_std hA n8 hu (k := k) (by omega)
  obtain ⟨x1, x2⟩ := hu k (by omega)
  obtain ⟨p1, p2, _⟩ := ih.add (by omega) (show (0 : Int) ≤ 3 by decide) (by decide) (Int.le_refl (Go.RowKit.intOf (u.getD k Go.undef))) x1 x2 (fun h => by omega)
  rw [show ((N + k : Nat) : Int) = (N : Int) + k by omega] at p1 p2
  exact ⟨p1, p2⟩
theorem now_all {l : List Value} {r p n : Int} : ∀ {k : Nat}, (∀ j, j < k → cntF l p n j) → (nowL l r p n k).length = k * 2 ∧ ∀ j, j < k → Go.RowKit.intOf ((nowL l r p n k).getD (j * 2) Go.undef) = satE (Go.RowKit.intOf (l.getD (j * 4 + 2) Go.undef) - upK ((n - Go.RowKit.intOf (l.getD (j * 4 + 1) Go.undef)) * r)) ∧ Go.RowKit.intOf ((nowL l r p n k).getD (j * 2 + 1) Go.undef) = satE (Go.RowKit.intOf (l.getD (j * 4 + 3) Go.undef) + upK ((n - Go.RowKit.intOf (l.getD (j * 4 + 1) Go.undef)) * r))
  | 0, _ => ⟨rfl, fun j hj => absurd hj (Nat.not_lt_zero _)⟩
  | k + 1, h => by
    obtain ⟨i1, i2⟩ := now_all (k := k) (r := r) (fun j hj => h j (by omega))
    rw [now_yes (h k (Nat.lt_succ_self k))]
    refine ⟨by rw [List.length_append, i1]; show k * 2 + 2 = _; omega, fun j hj => ?_⟩
    rcases Nat.lt_succ_iff_lt_or_eq.1 hj with h1 | rfl
    · rw [getD_left (by omega), getD_left (by omega)]; exact i2 j h1
    · rw [getD_right (by omega), getD_right (by omega), i1, show j * 2 - j * 2 = 0 by omega, show j * 2 + 1 - j * 2 = 1 by omega]
      exact ⟨rfl, rfl⟩
theorem ofN_ge {l : List Value} {x : Int} {N : Nat} : ∀ {k : Nat}, N ≤ k → (∀ j, j < N → hasV13 l j x) → N ≤ ofN l x k
  | 0, h, _ => by omega
  | k + 1, h, hh => by
    by_cases hk : N ≤ k
    · have := ofN_ge hk hh
      by_cases hc : hasV13 l k x
      · rw [ofN_yes hc]; omega
      · rw [ofN_no hc]; exact this
    · have e : N = k + 1 := by omega
      subst e
      have hx : ∀ m, m ≤ k → m ≤ ofN l x m := fun m => by
        induction m with
        | zero => intro _; exact Nat.zero_le _
        | succ m ih => intro hm; rw [ofN_yes (hh m (by omega))]; have := ih (by omega); omega
      rw [ofN_yes (hh k (Nat.lt_succ_self k))]
      have := hx k (Nat.le_refl k)
      omega
theorem arH_min {l : List Value} {n r : Int} : ∀ {k : Nat}, (∀ j, j < k → r ≤ Go.RowKit.intOf (l.getD (j * 2 + 1) Go.undef)) → 0 < ofN l n k → r ≤ arH l n k
  | 0, _, h => absurd h (Nat.lt_irrefl 0)
  | k + 1, hh, h => by
    have hk := hh k (Nat.lt_succ_self k)
    by_cases hc : hasV13 l k n
    · by_cases h2 : ofN l n k = 0 ∨ Go.RowKit.intOf (l.getD (k * 2 + 1) Go.undef) < arH l n k
      · rw [arH_new hc h2]; exact hk
      · rw [arH_old hc h2]
        exact arH_min (fun j hj => hh j (by omega)) (by omega)
    · rw [ofN_no hc] at h
      rw [arH_no hc]
      exact arH_min (fun j hj => hh j (by omega)) h
/-- the vote of entries of which most have r -/
theorem std_vote {F : List Value} {q N : Nat} {r : Int} (h : Std F q N r) (r1 : -1152921504606846976 ≤ r) (r2 : r ≤ 1152921504606846976) (hN : N ≤ q) (hm : q < 2 * N) : bstE F 5 5000 2000 = 0 ∧ N ≤ (bstR F 5 5000 2000).1 ∧ (bstR F 5 5000 2000).2.1 ≤ (bstR F 5 5000 2000).2.2 ∧ (N = q → (bstR F 5 5000 2000).1 = q ∧ (bstR F 5 5000 2000).2.1 ≤ r ∧ r ≤ (bstR F 5 5000 2000).2.2) := by
  have hd : F.length / 4 = q := by rw [h.len]; exact Nat.mul_div_cancel q (by decide)
  have hc : chkF F = 0 := chkF_yes (by rw [hd]; exact h.ok)
  have hb : ¬ (chkF F ≠ 0 ∨ wrgF 5 5000 2000) := fun hx => hx.elim (fun h2 => h2 hc) (by decide)
  have hcnt : ∀ j, j < q → cntF F 5000 2000 j := fun j hj => by
    have := h.cnt j hj
    unfold cntF
    omega
  obtain ⟨n1, n2⟩ := now_all (r := 5) hcnt
  have hA : nowA F 5 5000 2000 = nowL F 5 5000 2000 q := by rw [← hd]
  rw [← hA] at n1 n2
  have nd : (nowA F 5 5000 2000).length / 2 = q := by rw [n1]; exact Nat.mul_div_cancel q (by decide)
  have hv : voE (nowA F 5 5000 2000) = 0 := by
    rcases now_vo hb with h1 | h1
    · omega
    · exact h1.2.1
  have hall : ∀ j, j < q → j < N → Go.RowKit.intOf ((nowA F 5 5000 2000).getD (j * 2) Go.undef) ≤ r ∧ r ≤ Go.RowKit.intOf ((nowA F 5 5000 2000).getD (j * 2 + 1) Go.undef) := fun j hj hjN => by
    obtain ⟨y1, y2⟩ := n2 j hj
    obtain ⟨z1, z2⟩ := h.has j hj hjN
    have z3 := h.cnt j hj
    obtain ⟨u1, u2, _⟩ := up_bd (g := 2000 - Go.RowKit.intOf (F.getD (j * 4 + 1) Go.undef)) (r := 5) (by omega) (by omega) (by decide) (by decide)
    rw [y1, y2]
    have s1 := satE_spec (Go.RowKit.intOf (F.getD (j * 4 + 2) Go.undef) - upK ((2000 - Go.RowKit.intOf (F.getD (j * 4 + 1) Go.undef)) * 5))
    have s2 := satE_spec (Go.RowKit.intOf (F.getD (j * 4 + 3) Go.undef) + upK ((2000 - Go.RowKit.intOf (F.getD (j * 4 + 1) Go.undef)) * 5))
    omega
  have hge : N ≤ ofN (nowA F 5 5000 2000) r q := ofN_ge hN (fun j hj => hall j (by omega) hj)
  rcases voE_spec (nowA F 5 5000 2000) with ⟨_, hp, h0, _, hR⟩ | h' | h'
  · rw [nd] at hp h0 hR
    obtain ⟨b1, b2⟩ := best_any hp h0 r
    have hl := vr_le (nowA F 5 5000 2000)
    rw [← hR] at b1 b2
    obtain ⟨e1, e2⟩ := bst_yes hb ⟨hv, by omega⟩
    have hms := most_spec hv
    rw [e2]
    refine ⟨e1, by omega, hms.2.2.1, fun hq => ?_⟩
    have hcn : ofN (nowA F 5 5000 2000) r q = (voR (nowA F 5 5000 2000)).1 := by omega
    refine ⟨by omega, b2 hcn, ?_⟩
    obtain ⟨_, _, g3, g4, _⟩ := at_vo hp h0
    rw [← hR] at g3 g4
    rw [g3]
    exact arH_min (fun j hj => (hall j hj (by omega)).2) (by omega)
  · omega
  · omega
noncomputable def fgI : Nat → List Value → Int
  | i, l => ffI i l
noncomputable def fgB : Nat → List Value → Bool
  | 12, [v, t, .int _ r, .int _ k] => eqV v (Value.tuple (rgL (rows t) r k.toNat).toArray)
  | 13, [v, t, .int _ r, u, .int _ k] => eqV v (Value.tuple (wrL (rgL (rows t) r ((rows t).length / 3)) ((rows t).length / 3) (rows u) k.toNat).toArray)
  | i, l => ffB i l
noncomputable def fgV : Nat → List Value → Value
  | i, l => ffV i l
noncomputable abbrev fgE (iv : List Int) (bv : List Bool) (vv : List Value) (sv : List ByteArray) : Env := { iv := iv, bv := bv, vv := vv, sv := sv, fi := fgI, fb := fgB, fv := fgV, et := 141 }
theorem fgup : Agree 31 12 2 (ffE [] [] [] []) (fgE [] [] [] []) := ⟨rfl, (by
    intro f hf
    funext l
    show fgI f l = ffI f l
    unfold fgI
    split <;> first | rfl | omega), (by
    intro f hf
    funext l
    show fgB f l = ffB f l
    unfold fgB
    split <;> first | rfl | omega), (by
    intro f hf
    funext l
    show fgV f l = ffV f l
    unfold fgV
    split <;> first | rfl | omega)⟩
theorem fgi_of (l : Value) (k1 : IntKind) (n : Int) (k2 : IntKind) (k : Int) : fgI 0 [l, .int k1 n, .int k2 k] = ((ofN (rows l) n k.toNat : Nat) : Int) := rfl
theorem fgi_arh (l : Value) (k1 : IntKind) (n : Int) (k2 : IntKind) (k : Int) : fgI 1 [l, .int k1 n, .int k2 k] = arH (rows l) n k.toNat := rfl
theorem fgi_fb (l : Value) (k1 : IntKind) (k : Int) : fgI 2 [l, .int k1 k] = fbW (rows l) k.toNat := rfl
theorem fgi_se (k1 : IntKind) (a : Int) (k2 : IntKind) (b : Int) : fgI 3 [.int k1 a, .int k2 b] = spE a b := rfl
theorem fgi_vm (l : Value) (k1 : IntKind) (k : Int) : fgI 4 [l, .int k1 k] = (((vo (rows l) ((rows l).length / 2) k.toNat).1 : Nat) : Int) := rfl
theorem fgi_vl (l : Value) (k1 : IntKind) (k : Int) : fgI 5 [l, .int k1 k] = (vo (rows l) ((rows l).length / 2) k.toNat).2.1 := rfl
theorem fgi_vh (l : Value) (k1 : IntKind) (k : Int) : fgI 6 [l, .int k1 k] = (vo (rows l) ((rows l).length / 2) k.toNat).2.2 := rfl
theorem fgi_vE (l : Value) : fgI 7 [l] = voE (rows l) := rfl
theorem fgi_vM (l : Value) : fgI 8 [l] = (((voR (rows l)).1 : Nat) : Int) := rfl
theorem fgi_vL (l : Value) : fgI 9 [l] = (voR (rows l)).2.1 := rfl
theorem fgi_vH (l : Value) : fgI 10 [l] = (voR (rows l)).2.2 := rfl
theorem fgi_aa (l : Value) (k1 : IntKind) (k : Int) : fgI 11 [l, .int k1 k] = (atS (rows l) ((rows l).length / 2) k.toNat).2 := rfl
theorem fgi_mi (k1 : IntKind) (a : Int) (k2 : IntKind) (b : Int) : fgI 12 [.int k1 a, .int k2 b] = midM a b := rfl
theorem fgi_sa (k1 : IntKind) (a : Int) : fgI 13 [.int k1 a] = satE a := rfl
theorem fgi_nv (k1 : IntKind) (a : Int) : fgI 14 [.int k1 a] = svE a := rfl
theorem fgi_ne (k1 : IntKind) (a : Int) : fgI 15 [.int k1 a] = erE a := rfl
theorem fgi_sz (k1 : IntKind) (a : Int) : fgI 16 [.int k1 a] = szE a := rfl
theorem fgi_lst (l : Value) (k1 : IntKind) (k : Int) : fgI 17 [l, .int k1 k] = leastS (rows l) k.toNat := rfl
theorem fgi_chk (l : Value) : fgI 18 [l] = chkF (rows l) := rfl
theorem fgi_ix (l : Value) (k1 : IntKind) (s : Int) (k2 : IntKind) (k : Int) : fgI 19 [l, .int k1 s, .int k2 k] = ixF (rows l) s k.toNat := rfl
theorem fgi_pE (l : Value) (k1 : IntKind) (a : Int) (k2 : IntKind) (b : Int) (k3 : IntKind) (c : Int) (k4 : IntKind) (d : Int) : fgI 20 [l, .int k1 a, .int k2 b, .int k3 c, .int k4 d] = putE (rows l) a b c d := rfl
theorem fgi_md (k1 : IntKind) (a : Int) (k2 : IntKind) (b : Int) : fgI 21 [.int k1 a, .int k2 b] = a * b / 1073741824 := rfl
theorem fgi_up (k1 : IntKind) (g : Int) (k2 : IntKind) (r : Int) : fgI 22 [.int k1 g, .int k2 r] = upK (g * r) := rfl
theorem fgi_rsv (k1 : IntKind) (a : Int) : fgI 23 [.int k1 a] = svE a := rfl
theorem fgi_rso (k1 : IntKind) (a : Int) : fgI 24 [.int k1 a] = soE a := rfl
theorem fgi_rbd (k1 : IntKind) (a : Int) (k2 : IntKind) (o : Int) : fgI 25 [.int k1 a, .int k2 o] = bdE a o := rfl
theorem fgi_bE (l : Value) (k1 : IntKind) (r : Int) (k2 : IntKind) (p : Int) (k3 : IntKind) (n : Int) : fgI 26 [l, .int k1 r, .int k2 p, .int k3 n] = bstE (rows l) r p n := rfl
theorem fgi_bL (l : Value) (k1 : IntKind) (r : Int) (k2 : IntKind) (p : Int) (k3 : IntKind) (n : Int) : fgI 27 [l, .int k1 r, .int k2 p, .int k3 n] = (bstR (rows l) r p n).2.1 := rfl
theorem fgi_bH (l : Value) (k1 : IntKind) (r : Int) (k2 : IntKind) (p : Int) (k3 : IntKind) (n : Int) : fgI 28 [l, .int k1 r, .int k2 p, .int k3 n] = (bstR (rows l) r p n).2.2 := rfl
theorem fgi_bM (l : Value) (k1 : IntKind) (r : Int) (k2 : IntKind) (p : Int) (k3 : IntKind) (n : Int) : fgI 29 [l, .int k1 r, .int k2 p, .int k3 n] = (((bstR (rows l) r p n).1 : Nat) : Int) := rfl
theorem fgi_hd (l : Value) (k1 : IntKind) (s : Int) (k2 : IntKind) (k : Int) : fgI 30 [l, .int k1 s, .int k2 k] = hadF (rows l) s k.toNat := rfl
theorem fgb_pre (l : Value) (k1 : IntKind) (k : Int) : fgB 0 [l, .int k1 k] = preW (rows l) k.toNat := rfl
theorem fgb_sm (l : Value) (k1 : IntKind) (a : Int) (k2 : IntKind) (b : Int) (k3 : IntKind) (k : Int) : fgB 1 [l, .int k1 a, .int k2 b, .int k3 k] = smB (rows l) a b k.toNat := rfl
theorem fgb_ai (l : Value) (k1 : IntKind) (k : Int) : fgB 2 [l, .int k1 k] = (atS (rows l) ((rows l).length / 2) k.toNat).1 := rfl
theorem fgb_tk (x : Value) (y : Value) (k1 : IntKind) (n : Int) : fgB 3 [x, y, .int k1 n] = eqV x (tkV y n.toNat) := rfl
theorem fgb_okr (l : Value) : fgB 4 [l] = okR (rows l) := rfl
theorem fgb_okf (l : Value) (k1 : IntKind) (k : Int) : fgB 5 [l, .int k1 k] = okF (rows l) k.toNat := rfl
theorem fgb_rp (v : Value) (l : Value) (k1 : IntKind) (a : Int) (k2 : IntKind) (b : Int) (k3 : IntKind) (c : Int) (k4 : IntKind) (d : Int) (k5 : IntKind) (k : Int) : fgB 6 [v, l, .int k1 a, .int k2 b, .int k3 c, .int k4 d, .int k5 k] = rpB v (rows l) a b c d k.toNat := rfl
theorem fgb_rd (l : Value) (k1 : IntKind) (a : Int) (k2 : IntKind) (k : Int) : fgB 7 [l, .int k1 a, .int k2 k] = decide (inF (rows l) a < k.toNat) := rfl
theorem fgb_nb (v : Value) (l : Value) (k1 : IntKind) (r : Int) (k2 : IntKind) (p : Int) (k3 : IntKind) (n : Int) (k4 : IntKind) (k : Int) : fgB 8 [v, l, .int k1 r, .int k2 p, .int k3 n, .int k4 k] = eqV v (Value.tuple (nowL (rows l) r p n k.toNat).toArray) := rfl
theorem fgb_tk4 (x : Value) (y : Value) (k1 : IntKind) (n : Int) : fgB 9 [x, y, .int k1 n] = eqV x (tk4V y n.toNat) := rfl
theorem fgb_eqv (x : Value) (y : Value) : fgB 10 [x, y] = eqV x y := rfl
theorem fgb_smb (v : Value) (l : Value) (k1 : IntKind) (n : Int) (k2 : IntKind) (k : Int) : fgB 11 [v, l, .int k1 n, .int k2 k] = eqV v (Value.tuple (smL (rows l) 50 n k.toNat).toArray) := rfl
theorem fgb_rgb (v : Value) (t : Value) (k1 : IntKind) (r : Int) (k2 : IntKind) (k : Int) : fgB 12 [v, t, .int k1 r, .int k2 k] = eqV v (Value.tuple (rgL (rows t) r k.toNat).toArray) := rfl
theorem fgb_wrb (v : Value) (t : Value) (k1 : IntKind) (r : Int) (u : Value) (k2 : IntKind) (k : Int) : fgB 13 [v, t, .int k1 r, u, .int k2 k] = eqV v (Value.tuple (wrL (rgL (rows t) r ((rows t).length / 3)) ((rows t).length / 3) (rows u) k.toNat).toArray) := rfl
theorem fgv_pV (l : Value) (k1 : IntKind) (a : Int) (k2 : IntKind) (b : Int) (k3 : IntKind) (c : Int) (k4 : IntKind) (d : Int) : fgV 0 [l, .int k1 a, .int k2 b, .int k3 c, .int k4 d] = Value.tuple (putV (rows l) a b c d).toArray := rfl
theorem fgv_nw (l : Value) (k1 : IntKind) (r : Int) (k2 : IntKind) (p : Int) (k3 : IntKind) (n : Int) (k4 : IntKind) (k : Int) : fgV 1 [l, .int k1 r, .int k2 p, .int k3 n, .int k4 k] = Value.tuple (nowL (rows l) r p n k.toNat).toArray := rfl
def wRight_tree : Tree :=
 (.br (.b2 .lt (.var 0) (.lit (-1152921504606846976)))
 (.ret (.bool (.tt true)))
 (.br (.b2 .lt (.lit (1152921504606846976)) (.var 0))
 (.ret (.bool (.tt true)))
 (.br (.b2 .lt (.lit (8)) (.ofI (.vop (.len 3) (.cons (.opq 0) .nil))))
 (.ret (.bool (.tt true)))
 (.br (.b2 .lt (.lit (8)) (.ofI (.vop (.len 1) (.cons (.opq 1) .nil))))
 (.ret (.bool (.tt true)))
 (.br (.b2 .lt (.lit (8)) (.wrap .i64 (.i2 .add (.ofI (.vop (.len 3) (.cons (.opq 0) .nil))) (.ofI (.vop (.len 1) (.cons (.opq 1) .nil))))))
 (.ret (.bool (.tt true)))
 (.br (.b2 .eq (.ofI (.vop (.len 3) (.cons (.opq 0) .nil))) (.lit (0)))
 (.ret (.bool (.tt true)))
 (.br (.b2 .le (.ofI (.vop (.len 3) (.cons (.opq 0) .nil))) (.ofI (.vop (.len 1) (.cons (.opq 1) .nil))))
 (.ret (.bool (.tt true)))
 (.loop ⟨1, 0, 1, 0⟩ (.b2 .and (.b2 .le (.lit (0)) (.lit (0))) (.b2 .and (.b2 .le (.lit (0)) (.ofI (.vop (.len 3) (.cons (.opq 0) .nil)))) (.bapp 12 (.cons (.tup .nil) (.cons (.opq 0) (.cons (.int .i64 (.var 0)) (.cons (.int .i64 (.lit (0))) .nil))))))) (.b2 .and (.b2 .le (.lit (0)) (.var 1)) (.b2 .and (.b2 .le (.var 1) (.ofI (.vop (.len 3) (.cons (.opq 0) .nil)))) (.bapp 12 (.cons (.opq 2) (.cons (.opq 0) (.cons (.int .i64 (.var 0)) (.cons (.int .i64 (.var 1)) .nil)))))))
 (.br (.b2 .lt (.var 1) (.ofI (.vop (.len 3) (.cons (.opq 0) .nil))))
 (.need (.b2 .and (.b2 .le (.lit (0)) (.var 1)) (.b2 .lt (.var 1) (.ofI (.vop (.len 3) (.cons (.opq 0) .nil)))))
 (.need (.b2 .and (.b2 .le (.lit (0)) (.var 1)) (.b2 .lt (.var 1) (.ofI (.vop (.len 3) (.cons (.opq 0) .nil)))))
 (.need (.b2 .and (.b2 .le (.lit (0)) (.var 1)) (.b2 .lt (.var 1) (.ofI (.vop (.len 3) (.cons (.opq 0) .nil)))))
 (.need (.b2 .and (.bapp 4 (.cons (.opq 2) .nil)) (.b2 .and (.b2 .and (.b2 .le (.lit (-9223372036854775808)) (.var 1)) (.b2 .le (.var 1) (.lit (9223372036854775807)))) (.b2 .and (.b2 .and (.b2 .le (.lit (-9223372036854775808)) (.wrap .i64 (.i2 .rem (.ofI (.vop (.sel 3 2) (.cons (.opq 0) (.cons (.int .i64 (.var 1)) .nil)))) (.lit (1000))))) (.b2 .le (.wrap .i64 (.i2 .rem (.ofI (.vop (.sel 3 2) (.cons (.opq 0) (.cons (.int .i64 (.var 1)) .nil)))) (.lit (1000)))) (.lit (9223372036854775807)))) (.b2 .and (.b2 .and (.b2 .le (.lit (-9223372036854775808)) (.wrap .i64 (.i2 .sub (.var 0) (.wrap .i64 (.ofI (.vop (.sel 3 0) (.cons (.opq 0) (.cons (.int .i64 (.var 1)) .nil)))))))) (.b2 .le (.wrap .i64 (.i2 .sub (.var 0) (.wrap .i64 (.ofI (.vop (.sel 3 0) (.cons (.opq 0) (.cons (.int .i64 (.var 1)) .nil))))))) (.lit (9223372036854775807)))) (.b2 .and (.b2 .le (.lit (-9223372036854775808)) (.wrap .i64 (.i2 .add (.var 0) (.wrap .i64 (.ofI (.vop (.sel 3 1) (.cons (.opq 0) (.cons (.int .i64 (.var 1)) .nil)))))))) (.b2 .le (.wrap .i64 (.i2 .add (.var 0) (.wrap .i64 (.ofI (.vop (.sel 3 1) (.cons (.opq 0) (.cons (.int .i64 (.var 1)) .nil))))))) (.lit (9223372036854775807))))))))
 (.br (.not (.b2 .eq (.iapp 20 (.cons (.opq 2) (.cons (.int .i64 (.var 1)) (.cons (.int .i64 (.wrap .i64 (.i2 .rem (.ofI (.vop (.sel 3 2) (.cons (.opq 0) (.cons (.int .i64 (.var 1)) .nil)))) (.lit (1000))))) (.cons (.int .i64 (.wrap .i64 (.i2 .sub (.var 0) (.wrap .i64 (.ofI (.vop (.sel 3 0) (.cons (.opq 0) (.cons (.int .i64 (.var 1)) .nil)))))))) (.cons (.int .i64 (.wrap .i64 (.i2 .add (.var 0) (.wrap .i64 (.ofI (.vop (.sel 3 1) (.cons (.opq 0) (.cons (.int .i64 (.var 1)) .nil)))))))) .nil)))))) (.lit (0))))
 (.ret (.bool (.tt false)))
 (.back (.b2 .and (.b2 .le (.lit (0)) (.wrap .i64 (.i2 .add (.var 1) (.lit (1))))) (.b2 .and (.b2 .le (.wrap .i64 (.i2 .add (.var 1) (.lit (1)))) (.ofI (.vop (.len 3) (.cons (.opq 0) .nil)))) (.bapp 12 (.cons (.vapp 0 (.cons (.opq 2) (.cons (.int .i64 (.var 1)) (.cons (.int .i64 (.wrap .i64 (.i2 .rem (.ofI (.vop (.sel 3 2) (.cons (.opq 0) (.cons (.int .i64 (.var 1)) .nil)))) (.lit (1000))))) (.cons (.int .i64 (.wrap .i64 (.i2 .sub (.var 0) (.wrap .i64 (.ofI (.vop (.sel 3 0) (.cons (.opq 0) (.cons (.int .i64 (.var 1)) .nil)))))))) (.cons (.int .i64 (.wrap .i64 (.i2 .add (.var 0) (.wrap .i64 (.ofI (.vop (.sel 3 1) (.cons (.opq 0) (.cons (.int .i64 (.var 1)) .nil)))))))) .nil)))))) (.cons (.opq 0) (.cons (.int .i64 (.var 0)) (.cons (.int .i64 (.wrap .i64 (.i2 .add (.var 1) (.lit (1))))) .nil))))))) (.i2 .sub (.ofI (.vop (.len 3) (.cons (.opq 0) .nil))) (.wrap .i64 (.i2 .add (.var 1) (.lit (1))))) (.i2 .sub (.ofI (.vop (.len 3) (.cons (.opq 0) .nil))) (.var 1))))))))
 (.need (.bapp 4 (.cons (.opq 2) .nil))
 (.br (.not (.b2 .eq (.iapp 26 (.cons (.opq 2) (.cons (.int .i64 (.lit (5))) (.cons (.int .i64 (.lit (5000))) (.cons (.int .i64 (.lit (2000))) .nil))))) (.lit (0))))
 (.ret (.bool (.tt false)))
 (.br (.not (.b2 .eq (.iapp 29 (.cons (.opq 2) (.cons (.int .i64 (.lit (5))) (.cons (.int .i64 (.lit (5000))) (.cons (.int .i64 (.lit (2000))) .nil))))) (.ofI (.vop (.len 3) (.cons (.opq 0) .nil)))))
 (.ret (.bool (.tt false)))
 (.br (.not (.b2 .and (.b2 .le (.iapp 27 (.cons (.opq 2) (.cons (.int .i64 (.lit (5))) (.cons (.int .i64 (.lit (5000))) (.cons (.int .i64 (.lit (2000))) .nil))))) (.var 0)) (.b2 .le (.var 0) (.iapp 28 (.cons (.opq 2) (.cons (.int .i64 (.lit (5))) (.cons (.int .i64 (.lit (5000))) (.cons (.int .i64 (.lit (2000))) .nil))))))))
 (.ret (.bool (.tt false)))
 (.loop ⟨1, 0, 1, 0⟩ (.b2 .and (.b2 .le (.lit (0)) (.lit (0))) (.b2 .and (.b2 .le (.lit (0)) (.ofI (.vop (.len 1) (.cons (.opq 1) .nil)))) (.bapp 13 (.cons (.opq 2) (.cons (.opq 0) (.cons (.int .i64 (.var 0)) (.cons (.opq 1) (.cons (.int .i64 (.lit (0))) .nil)))))))) (.b2 .and (.b2 .le (.lit (0)) (.var 2)) (.b2 .and (.b2 .le (.var 2) (.ofI (.vop (.len 1) (.cons (.opq 1) .nil)))) (.bapp 13 (.cons (.opq 3) (.cons (.opq 0) (.cons (.int .i64 (.var 0)) (.cons (.opq 1) (.cons (.int .i64 (.var 2)) .nil))))))))
 (.br (.b2 .lt (.var 2) (.ofI (.vop (.len 1) (.cons (.opq 1) .nil))))
 (.need (.b2 .and (.b2 .le (.lit (0)) (.var 2)) (.b2 .lt (.var 2) (.ofI (.vop (.len 1) (.cons (.opq 1) .nil)))))
 (.need (.b2 .and (.b2 .le (.lit (0)) (.var 2)) (.b2 .lt (.var 2) (.ofI (.vop (.len 1) (.cons (.opq 1) .nil)))))
 (.need (.b2 .and (.bapp 4 (.cons (.opq 3) .nil)) (.b2 .and (.b2 .and (.b2 .le (.lit (-9223372036854775808)) (.wrap .i64 (.i2 .add (.ofI (.vop (.len 3) (.cons (.opq 0) .nil))) (.var 2)))) (.b2 .le (.wrap .i64 (.i2 .add (.ofI (.vop (.len 3) (.cons (.opq 0) .nil))) (.var 2))) (.lit (9223372036854775807)))) (.b2 .and (.b2 .and (.b2 .le (.lit (-9223372036854775808)) (.ofI (.vop (.sel 1 0) (.cons (.opq 1) (.cons (.int .i64 (.var 2)) .nil))))) (.b2 .le (.ofI (.vop (.sel 1 0) (.cons (.opq 1) (.cons (.int .i64 (.var 2)) .nil)))) (.lit (9223372036854775807)))) (.b2 .and (.b2 .le (.lit (-9223372036854775808)) (.ofI (.vop (.sel 1 0) (.cons (.opq 1) (.cons (.int .i64 (.var 2)) .nil))))) (.b2 .le (.ofI (.vop (.sel 1 0) (.cons (.opq 1) (.cons (.int .i64 (.var 2)) .nil)))) (.lit (9223372036854775807)))))))
 (.br (.not (.b2 .eq (.iapp 20 (.cons (.opq 3) (.cons (.int .i64 (.wrap .i64 (.i2 .add (.ofI (.vop (.len 3) (.cons (.opq 0) .nil))) (.var 2)))) (.cons (.int .i64 (.lit (3))) (.cons (.int .i64 (.ofI (.vop (.sel 1 0) (.cons (.opq 1) (.cons (.int .i64 (.var 2)) .nil))))) (.cons (.int .i64 (.ofI (.vop (.sel 1 0) (.cons (.opq 1) (.cons (.int .i64 (.var 2)) .nil))))) .nil)))))) (.lit (0))))
 (.ret (.bool (.tt false)))
 (.back (.b2 .and (.b2 .le (.lit (0)) (.wrap .i64 (.i2 .add (.var 2) (.lit (1))))) (.b2 .and (.b2 .le (.wrap .i64 (.i2 .add (.var 2) (.lit (1)))) (.ofI (.vop (.len 1) (.cons (.opq 1) .nil)))) (.bapp 13 (.cons (.vapp 0 (.cons (.opq 3) (.cons (.int .i64 (.wrap .i64 (.i2 .add (.ofI (.vop (.len 3) (.cons (.opq 0) .nil))) (.var 2)))) (.cons (.int .i64 (.lit (3))) (.cons (.int .i64 (.ofI (.vop (.sel 1 0) (.cons (.opq 1) (.cons (.int .i64 (.var 2)) .nil))))) (.cons (.int .i64 (.ofI (.vop (.sel 1 0) (.cons (.opq 1) (.cons (.int .i64 (.var 2)) .nil))))) .nil)))))) (.cons (.opq 0) (.cons (.int .i64 (.var 0)) (.cons (.opq 1) (.cons (.int .i64 (.wrap .i64 (.i2 .add (.var 2) (.lit (1))))) .nil)))))))) (.i2 .sub (.ofI (.vop (.len 1) (.cons (.opq 1) .nil))) (.wrap .i64 (.i2 .add (.var 2) (.lit (1))))) (.i2 .sub (.ofI (.vop (.len 1) (.cons (.opq 1) .nil))) (.var 2)))))))
 (.need (.bapp 4 (.cons (.opq 3) .nil))
 (.br (.b2 .eq (.iapp 26 (.cons (.opq 3) (.cons (.int .i64 (.lit (5))) (.cons (.int .i64 (.lit (5000))) (.cons (.int .i64 (.lit (2000))) .nil))))) (.lit (0)))
 (.br (.b2 .le (.ofI (.vop (.len 3) (.cons (.opq 0) .nil))) (.iapp 29 (.cons (.opq 3) (.cons (.int .i64 (.lit (5))) (.cons (.int .i64 (.lit (5000))) (.cons (.int .i64 (.lit (2000))) .nil))))))
 (.br (.b2 .le (.iapp 27 (.cons (.opq 3) (.cons (.int .i64 (.lit (5))) (.cons (.int .i64 (.lit (5000))) (.cons (.int .i64 (.lit (2000))) .nil))))) (.iapp 28 (.cons (.opq 3) (.cons (.int .i64 (.lit (5))) (.cons (.int .i64 (.lit (5000))) (.cons (.int .i64 (.lit (2000))) .nil))))))
 (.ret (.bool (.tt true)))
 (.ret (.bool (.tt false))))
 (.ret (.bool (.tt false))))
 (.ret (.bool (.tt false))))))))))))))))))))
abbrev fgc_wRight : Con := ⟨12, [(.int .i64 (.var 0)), (.hs .no (.cons (.int .u32) (.cons (.int .u32) (.cons (.int .u32) .nil))) (.opq 0)), (.hs .no (.cons (.int .i64) .nil) (.opq 1))], (.b2 .and (.b2 .and (.b2 .le (.lit (-9223372036854775808)) (.var 0)) (.b2 .le (.var 0) (.lit (9223372036854775807)))) (.b2 .and (.bapp 4 (.cons (.opq 0) .nil)) (.bapp 4 (.cons (.opq 1) .nil)))), (.bool (.tt true)), ⟨1, 0, 2, 0⟩, none⟩
theorem wRight_w : walk Tryd.prog 141 ⟨[fec_sure15, fac_fput, fdc_best, wc_has, fec_num], syG, [], [], []⟩ [⟨0, ⟨1, 0, 1, 0⟩, [(8, (.int .i64 (.var 1)))], some [[(.hs .no (.cons (.int .i64) (.cons (.int .i64) (.cons (.int .i64) (.cons (.int .i64) .nil)))) (.opq 2))]], (.b2 .and (.b2 .le (.lit (0)) (.var 1)) (.b2 .and (.b2 .le (.var 1) (.ofI (.vop (.len 3) (.cons (.opq 0) .nil)))) (.bapp 12 (.cons (.opq 2) (.cons (.opq 0) (.cons (.int .i64 (.var 0)) (.cons (.int .i64 (.var 1)) .nil))))))), (.i2 .sub (.ofI (.vop (.len 3) (.cons (.opq 0) .nil))) (.var 1)), 0, []⟩, ⟨2, ⟨1, 0, 1, 0⟩, [(14, (.int .i64 (.var 2)))], some [[(.hs .no (.cons (.int .i64) (.cons (.int .i64) (.cons (.int .i64) (.cons (.int .i64) .nil)))) (.opq 3))], [], [], []], (.b2 .and (.b2 .le (.lit (0)) (.var 2)) (.b2 .and (.b2 .le (.var 2) (.ofI (.vop (.len 1) (.cons (.opq 1) .nil)))) (.bapp 13 (.cons (.opq 3) (.cons (.opq 0) (.cons (.int .i64 (.var 0)) (.cons (.opq 1) (.cons (.int .i64 (.var 2)) .nil)))))))), (.i2 .sub (.ofI (.vop (.len 1) (.cons (.opq 1) .nil))) (.var 2)), 0, []⟩] .v fgc_wRight fgc_wRight.n 3000 = some wRight_tree := by kernel_rfl
theorem wRight_h (r : Int) (t : Value) (u : Value) (hc : holds (fgE [r] [] [t, u] []) (.b2 .and (.b2 .and (.b2 .le (.lit (-9223372036854775808)) (.var 0)) (.b2 .le (.var 0) (.lit (9223372036854775807)))) (.b2 .and (.bapp 4 (.cons (.opq 0) .nil)) (.bapp 4 (.cons (.opq 1) .nil))))) (hty : patsTyp (fgE [r] [] [t, u] []) [(.int .i64 (.var 0)), (.hs .no (.cons (.int .u32) (.cons (.int .u32) (.cons (.int .u32) .nil))) (.opq 0)), (.hs .no (.cons (.int .i64) .nil) (.opq 1))]) : wRight_tree.holds (fun v_ => v_ = denV (fgE [r] [] [t, u] []) b0 (.bool (.tt true))) (fgE [r] [] [t, u] []) := by
  simp only [Tree.holds, Sy.holds, AllN, Env.more, fgE, List.cons_append, List.nil_append, List.append_nil, denV, denI, denB, denL, I2.den, VOp.den, List.getD_cons_zero, List.getD_cons_succ, Cst.den, syso, syse, syio, sybo, fgi_of, fgi_arh, fgi_fb, fgi_se, fgi_vm, fgi_vl, fgi_vh, fgi_vE, fgi_vM, fgi_vL, fgi_vH, fgi_aa, fgi_mi, fgi_sa, fgi_nv, fgi_ne, fgi_sz, fgi_lst, fgi_chk, fgi_ix, fgi_pE, fgi_md, fgi_up, fgi_rsv, fgi_rso, fgi_rbd, fgi_bE, fgi_bL, fgi_bH, fgi_bM, fgi_hd, fgb_pre, fgb_sm, fgb_ai, fgb_tk, fgb_okr, fgb_okf, fgb_rp, fgb_rd, fgb_nb, fgb_tk4, fgb_eqv, fgb_smb, fgb_rgb, fgb_wrb, fgv_pV, fgv_nw, List.map_nil, List.map_cons, B2.ofInts, B2.denI, B2.denB, if_true, Bool.false_eq_true, if_false, Nat.div_one, Nat.mul_one, Nat.add_zero, holds] at hc
  simp only [patsTyp, patTyp, patTypL, fgE, denV, denL, List.getD_cons_zero, List.getD_cons_succ, and_true, true_and] at hty
  have hL_t : typ (.sl (.cons (.int .u32) (.cons (.int .u32) (.cons (.int .u32) .nil)))) t := by first | exact hty | exact hty.1 | exact hty.2 | exact hty.1.1 | exact hty.1.2 | exact hty.2.1 | exact hty.2.2 | exact hty.2.2.1 | exact hty.2.2.2
  have hN_t := typ_len (n := 3) hL_t rfl (by omega)
  have hL_u : typ (.sl (.cons (.int .i64) .nil)) u := by first | exact hty | exact hty.1 | exact hty.2 | exact hty.1.1 | exact hty.1.2 | exact hty.2.1 | exact hty.2.2 | exact hty.2.2.1 | exact hty.2.2.2
  have hN_u := typ_len (n := 1) hL_u rfl (by omega)
  simp only [Nat.div_one, Nat.mul_one] at hN_u
  unfold wRight_tree
  simp only [Tree.holds, Sy.holds, AllN, Env.more, fgE, List.cons_append, List.nil_append, List.append_nil, denV, denI, denB, denL, I2.den, VOp.den, List.getD_cons_zero, List.getD_cons_succ, Cst.den, syso, syse, syio, sybo, fgi_of, fgi_arh, fgi_fb, fgi_se, fgi_vm, fgi_vl, fgi_vh, fgi_vE, fgi_vM, fgi_vL, fgi_vH, fgi_aa, fgi_mi, fgi_sa, fgi_nv, fgi_ne, fgi_sz, fgi_lst, fgi_chk, fgi_ix, fgi_pE, fgi_md, fgi_up, fgi_rsv, fgi_rso, fgi_rbd, fgi_bE, fgi_bL, fgi_bH, fgi_bM, fgi_hd, fgb_pre, fgb_sm, fgb_ai, fgb_tk, fgb_okr, fgb_okf, fgb_rp, fgb_rd, fgb_nb, fgb_tk4, fgb_eqv, fgb_smb, fgb_rgb, fgb_wrb, fgv_pV, fgv_nw, List.map_nil, List.map_cons, B2.ofInts, B2.denI, B2.denB, if_true, Bool.false_eq_true, if_false, Nat.div_one, Nat.mul_one, Nat.add_zero]
  refine ⟨fun h0 => ?_, fun h0 => ?_⟩
  ·
   exact True.intro
  ·
   refine ⟨fun h1 => ?_, fun h1 => ?_⟩
   ·
    exact True.intro
   ·
    refine ⟨fun h2 => ?_, fun h2 => ?_⟩
    ·
     exact True.intro
    ·
     refine ⟨fun h3 => ?_, fun h3 => ?_⟩
     ·
      exact True.intro
     ·
      have wf0 := wr_i64 (((((rows t).length / 3 : Nat)) : Int) + ((((rows u).length : Nat)) : Int))
      refine ⟨fun h4 => ?_, fun h4 => ?_⟩
      ·
       exact True.intro
      ·
       refine ⟨fun h5 => ?_, fun h5 => ?_⟩
       ·
        exact True.intro
       ·
        refine ⟨fun h6 => ?_, fun h6 => ?_⟩
        ·
         exact True.intro
        ·
         refine ⟨?_, ?_⟩
         ·
          first
          | exact ⟨by omega, by omega, eqV_iff.2 rfl⟩
          | (obtain ⟨g1, g2, g3⟩ := hi0
             rw [show i0a.toNat = (Sy.rows t).length / 3 by omega] at g3
             exact ⟨by omega, by omega, g3⟩)
         ·
          intro i0a i0b hi0
          refine ⟨fun h7 => ?_, fun h7 => ?_⟩
          ·
           refine ⟨?_, fun h8 => ?_⟩
           ·
            first
            | omega
            | exact True.intro
            | (
               have hb : ∀ j, j < (Sy.rows t).length / 3 → (0 ≤ c0 (Sy.rows t) j ∧ c0 (Sy.rows t) j ≤ 4294967295) ∧ (0 ≤ c1 (Sy.rows t) j ∧ c1 (Sy.rows t) j ≤ 4294967295) ∧ 0 ≤ c2 (Sy.rows t) j := fun j hj => by
                 obtain ⟨t1, t2, t3⟩ := typ_rowU hL_t hj
                 exact ⟨okR_u32 hc.2.1 (by omega) t1, okR_u32 hc.2.1 (by omega) t2, (okR_u32 hc.2.1 (by omega) t3).1⟩
               obtain ⟨g1, g2, g3⟩ := hi0
               have hv := eqV_iff.1 g3
               have hr : Sy.rows i0b = rgL (Sy.rows t) r i0a.toNat := by rw [hv]; simp only [rows_tup, List.toList_toArray]
               clear hv g3
               have hs := rg_std (t := Sy.rows t) (r := r) (by omega) (by omega) (by omega) hb (k := i0a.toNat) (by omega)
               rw [hr]
               first
               | exact hs.inr
               | (
                  have hx : (0 ≤ Go.RowKit.intOf ((Sy.rows t).getD (i0a.toNat * 3) Go.undef) ∧ Go.RowKit.intOf ((Sy.rows t).getD (i0a.toNat * 3) Go.undef) ≤ 4294967295) ∧ (0 ≤ Go.RowKit.intOf ((Sy.rows t).getD (i0a.toNat * 3 + 1) Go.undef) ∧ Go.RowKit.intOf ((Sy.rows t).getD (i0a.toNat * 3 + 1) Go.undef) ≤ 4294967295) ∧ 0 ≤ Go.RowKit.intOf ((Sy.rows t).getD (i0a.toNat * 3 + 2) Go.undef) := hb i0a.toNat (by omega)
                  obtain ⟨⟨x1, x2⟩, ⟨x3, x4⟩, x5⟩ := hx
                  obtain ⟨y1, y2⟩ := mod1000 x5
                  have hp := rg_put (t := Sy.rows t) (r := r) (by omega) (by omega) (by omega) hb (k := i0a.toNat) (by omega)
                  rw [show ((i0a.toNat : Nat) : Int) = i0a by omega] at hp
                  have w1 : IntKind.wrap .i64 (Int.tmod (Go.RowKit.intOf ((Sy.rows t).getD (i0a.toNat * 3 + 2) Go.undef)) 1000) = Int.tmod (Go.RowKit.intOf ((Sy.rows t).getD (i0a.toNat * 3 + 2) Go.undef)) 1000 := by have := wr_i64 (Int.tmod (Go.RowKit.intOf ((Sy.rows t).getD (i0a.toNat * 3 + 2) Go.undef)) 1000); omega
                  have w2 : IntKind.wrap .i64 (Go.RowKit.intOf ((Sy.rows t).getD (i0a.toNat * 3) Go.undef)) = Go.RowKit.intOf ((Sy.rows t).getD (i0a.toNat * 3) Go.undef) := by have := wr_i64 (Go.RowKit.intOf ((Sy.rows t).getD (i0a.toNat * 3) Go.undef)); omega
                  have w3 : IntKind.wrap .i64 (r - Go.RowKit.intOf ((Sy.rows t).getD (i0a.toNat * 3) Go.undef)) = r - Go.RowKit.intOf ((Sy.rows t).getD (i0a.toNat * 3) Go.undef) := by have := wr_i64 (r - Go.RowKit.intOf ((Sy.rows t).getD (i0a.toNat * 3) Go.undef)); omega
                  have w4 : IntKind.wrap .i64 (Go.RowKit.intOf ((Sy.rows t).getD (i0a.toNat * 3 + 1) Go.undef)) = Go.RowKit.intOf ((Sy.rows t).getD (i0a.toNat * 3 + 1) Go.undef) := by have := wr_i64 (Go.RowKit.intOf ((Sy.rows t).getD (i0a.toNat * 3 + 1) Go.undef)); omega
                  have w5 : IntKind.wrap .i64 (r + Go.RowKit.intOf ((Sy.rows t).getD (i0a.toNat * 3 + 1) Go.undef)) = r + Go.RowKit.intOf ((Sy.rows t).getD (i0a.toNat * 3 + 1) Go.undef) := by have := wr_i64 (r + Go.RowKit.intOf ((Sy.rows t).getD (i0a.toNat * 3 + 1) Go.undef)); omega
                  simp only [w1, w2, w3, w4, w5]
                  exact ⟨hs.inr, by omega, by omega, by omega, by omega⟩))
           ·
            refine ⟨?_, fun h9 => ?_⟩
            ·
             first
             | omega
             | exact True.intro
             | (
                have hb : ∀ j, j < (Sy.rows t).length / 3 → (0 ≤ c0 (Sy.rows t) j ∧ c0 (Sy.rows t) j ≤ 4294967295) ∧ (0 ≤ c1 (Sy.rows t) j ∧ c1 (Sy.rows t) j ≤ 4294967295) ∧ 0 ≤ c2 (Sy.rows t) j := fun j hj => by
                  obtain ⟨t1, t2, t3⟩ := typ_rowU hL_t hj
                  exact ⟨okR_u32 hc.2.1 (by omega) t1, okR_u32 hc.2.1 (by omega) t2, (okR_u32 hc.2.1 (by omega) t3).1⟩
                obtain ⟨g1, g2, g3⟩ := hi0
                have hv := eqV_iff.1 g3
                have hr : Sy.rows i0b = rgL (Sy.rows t) r i0a.toNat := by rw [hv]; simp only [rows_tup, List.toList_toArray]
                clear hv g3
                have hs := rg_std (t := Sy.rows t) (r := r) (by omega) (by omega) (by omega) hb (k := i0a.toNat) (by omega)
                rw [hr]
                first
                | exact hs.inr
                | (
                   have hx : (0 ≤ Go.RowKit.intOf ((Sy.rows t).getD (i0a.toNat * 3) Go.undef) ∧ Go.RowKit.intOf ((Sy.rows t).getD (i0a.toNat * 3) Go.undef) ≤ 4294967295) ∧ (0 ≤ Go.RowKit.intOf ((Sy.rows t).getD (i0a.toNat * 3 + 1) Go.undef) ∧ Go.RowKit.intOf ((Sy.rows t).getD (i0a.toNat * 3 + 1) Go.undef) ≤ 4294967295) ∧ 0 ≤ Go.RowKit.intOf ((Sy.rows t).getD (i0a.toNat * 3 + 2) Go.undef) := hb i0a.toNat (by omega)
                   obtain ⟨⟨x1, x2⟩, ⟨x3, x4⟩, x5⟩ := hx
                   obtain ⟨y1, y2⟩ := mod1000 x5
                   have hp := rg_put (t := Sy.rows t) (r := r) (by omega) (by omega) (by omega) hb (k := i0a.toNat) (by omega)
                   rw [show ((i0a.toNat : Nat) : Int) = i0a by omega] at hp
                   have w1 : IntKind.wrap .i64 (Int.tmod (Go.RowKit.intOf ((Sy.rows t).getD (i0a.toNat * 3 + 2) Go.undef)) 1000) = Int.tmod (Go.RowKit.intOf ((Sy.rows t).getD (i0a.toNat * 3 + 2) Go.undef)) 1000 := by have := wr_i64 (Int.tmod (Go.RowKit.intOf ((Sy.rows t).getD (i0a.toNat * 3 + 2) Go.undef)) 1000); omega
                   have w2 : IntKind.wrap .i64 (Go.RowKit.intOf ((Sy.rows t).getD (i0a.toNat * 3) Go.undef)) = Go.RowKit.intOf ((Sy.rows t).getD (i0a.toNat * 3) Go.undef) := by have := wr_i64 (Go.RowKit.intOf ((Sy.rows t).getD (i0a.toNat * 3) Go.undef)); omega
                   have w3 : IntKind.wrap .i64 (r - Go.RowKit.intOf ((Sy.rows t).getD (i0a.toNat * 3) Go.undef)) = r - Go.RowKit.intOf ((Sy.rows t).getD (i0a.toNat * 3) Go.undef) := by have := wr_i64 (r - Go.RowKit.intOf ((Sy.rows t).getD (i0a.toNat * 3) Go.undef)); omega
                   have w4 : IntKind.wrap .i64 (Go.RowKit.intOf ((Sy.rows t).getD (i0a.toNat * 3 + 1) Go.undef)) = Go.RowKit.intOf ((Sy.rows t).getD (i0a.toNat * 3 + 1) Go.undef) := by have := wr_i64 (Go.RowKit.intOf ((Sy.rows t).getD (i0a.toNat * 3 + 1) Go.undef)); omega
                   have w5 : IntKind.wrap .i64 (r + Go.RowKit.intOf ((Sy.rows t).getD (i0a.toNat * 3 + 1) Go.undef)) = r + Go.RowKit.intOf ((Sy.rows t).getD (i0a.toNat * 3 + 1) Go.undef) := by have := wr_i64 (r + Go.RowKit.intOf ((Sy.rows t).getD (i0a.toNat * 3 + 1) Go.undef)); omega
                   simp only [w1, w2, w3, w4, w5]
                   exact ⟨hs.inr, by omega, by omega, by omega, by omega⟩))
            ·
             refine ⟨?_, fun h10 => ?_⟩
             ·
              first
              | omega
              | exact True.intro
              | (
                 have hb : ∀ j, j < (Sy.rows t).length / 3 → (0 ≤ c0 (Sy.rows t) j ∧ c0 (Sy.rows t) j ≤ 4294967295) ∧ (0 ≤ c1 (Sy.rows t) j ∧ c1 (Sy.rows t) j ≤ 4294967295) ∧ 0 ≤ c2 (Sy.rows t) j := fun j hj => by
                   obtain ⟨t1, t2, t3⟩ := typ_rowU hL_t hj
                   exact ⟨okR_u32 hc.2.1 (by omega) t1, okR_u32 hc.2.1 (by omega) t2, (okR_u32 hc.2.1 (by omega) t3).1⟩
                 obtain ⟨g1, g2, g3⟩ := hi0
                 have hv := eqV_iff.1 g3
                 have hr : Sy.rows i0b = rgL (Sy.rows t) r i0a.toNat := by rw [hv]; simp only [rows_tup, List.toList_toArray]
                 clear hv g3
                 have hs := rg_std (t := Sy.rows t) (r := r) (by omega) (by omega) (by omega) hb (k := i0a.toNat) (by omega)
                 rw [hr]
                 first
                 | exact hs.inr
                 | (
                    have hx : (0 ≤ Go.RowKit.intOf ((Sy.rows t).getD (i0a.toNat * 3) Go.undef) ∧ Go.RowKit.intOf ((Sy.rows t).getD (i0a.toNat * 3) Go.undef) ≤ 4294967295) ∧ (0 ≤ Go.RowKit.intOf ((Sy.rows t).getD (i0a.toNat * 3 + 1) Go.undef) ∧ Go.RowKit.intOf ((Sy.rows t).getD (i0a.toNat * 3 + 1) Go.undef) ≤ 4294967295) ∧ 0 ≤ Go.RowKit.intOf ((Sy.rows t).getD (i0a.toNat * 3 + 2) Go.undef) := hb i0a.toNat (by omega)
                    obtain ⟨⟨x1, x2⟩, ⟨x3, x4⟩, x5⟩ := hx
                    obtain ⟨y1, y2⟩ := mod1000 x5
                    have hp := rg_put (t := Sy.rows t) (r := r) (by omega) (by omega) (by omega) hb (k := i0a.toNat) (by omega)
                    rw [show ((i0a.toNat : Nat) : Int) = i0a by omega] at hp
                    have w1 : IntKind.wrap .i64 (Int.tmod (Go.RowKit.intOf ((Sy.rows t).getD (i0a.toNat * 3 + 2) Go.undef)) 1000) = Int.tmod (Go.RowKit.intOf ((Sy.rows t).getD (i0a.toNat * 3 + 2) Go.undef)) 1000 := by have := wr_i64 (Int.tmod (Go.RowKit.intOf ((Sy.rows t).getD (i0a.toNat * 3 + 2) Go.undef)) 1000); omega
                    have w2 : IntKind.wrap .i64 (Go.RowKit.intOf ((Sy.rows t).getD (i0a.toNat * 3) Go.undef)) = Go.RowKit.intOf ((Sy.rows t).getD (i0a.toNat * 3) Go.undef) := by have := wr_i64 (Go.RowKit.intOf ((Sy.rows t).getD (i0a.toNat * 3) Go.undef)); omega
                    have w3 : IntKind.wrap .i64 (r - Go.RowKit.intOf ((Sy.rows t).getD (i0a.toNat * 3) Go.undef)) = r - Go.RowKit.intOf ((Sy.rows t).getD (i0a.toNat * 3) Go.undef) := by have := wr_i64 (r - Go.RowKit.intOf ((Sy.rows t).getD (i0a.toNat * 3) Go.undef)); omega
                    have w4 : IntKind.wrap .i64 (Go.RowKit.intOf ((Sy.rows t).getD (i0a.toNat * 3 + 1) Go.undef)) = Go.RowKit.intOf ((Sy.rows t).getD (i0a.toNat * 3 + 1) Go.undef) := by have := wr_i64 (Go.RowKit.intOf ((Sy.rows t).getD (i0a.toNat * 3 + 1) Go.undef)); omega
                    have w5 : IntKind.wrap .i64 (r + Go.RowKit.intOf ((Sy.rows t).getD (i0a.toNat * 3 + 1) Go.undef)) = r + Go.RowKit.intOf ((Sy.rows t).getD (i0a.toNat * 3 + 1) Go.undef) := by have := wr_i64 (r + Go.RowKit.intOf ((Sy.rows t).getD (i0a.toNat * 3 + 1) Go.undef)); omega
                    simp only [w1, w2, w3, w4, w5]
                    exact ⟨hs.inr, by omega, by omega, by omega, by omega⟩))
             ·
              have wf1 := wr_i64 (Int.tmod (Go.RowKit.intOf ((rows t).getD (Int.toNat i0a * 3 + 2) Go.undef)) 1000)
              have wf2 := wr_i64 (Go.RowKit.intOf ((rows t).getD (Int.toNat i0a * 3) Go.undef))
              have wf3 := wr_i64 (r - (IntKind.wrap .i64 (Go.RowKit.intOf ((rows t).getD (Int.toNat i0a * 3) Go.undef))))
              have wf4 := wr_i64 (Go.RowKit.intOf ((rows t).getD (Int.toNat i0a * 3 + 1) Go.undef))
              have wf5 := wr_i64 (r + (IntKind.wrap .i64 (Go.RowKit.intOf ((rows t).getD (Int.toNat i0a * 3 + 1) Go.undef))))
              refine ⟨?_, fun h11 => ?_⟩
              ·
               first
               | omega
               | exact True.intro
               | (
                  have hb : ∀ j, j < (Sy.rows t).length / 3 → (0 ≤ c0 (Sy.rows t) j ∧ c0 (Sy.rows t) j ≤ 4294967295) ∧ (0 ≤ c1 (Sy.rows t) j ∧ c1 (Sy.rows t) j ≤ 4294967295) ∧ 0 ≤ c2 (Sy.rows t) j := fun j hj => by
                    obtain ⟨t1, t2, t3⟩ := typ_rowU hL_t hj
                    exact ⟨okR_u32 hc.2.1 (by omega) t1, okR_u32 hc.2.1 (by omega) t2, (okR_u32 hc.2.1 (by omega) t3).1⟩
                  obtain ⟨g1, g2, g3⟩ := hi0
                  have hv := eqV_iff.1 g3
                  have hr : Sy.rows i0b = rgL (Sy.rows t) r i0a.toNat := by rw [hv]; simp only [rows_tup, List.toList_toArray]
                  clear hv g3
                  have hs := rg_std (t := Sy.rows t) (r := r) (by omega) (by omega) (by omega) hb (k := i0a.toNat) (by omega)
                  rw [hr]
                  first
                  | exact hs.inr
                  | (
                     have hx : (0 ≤ Go.RowKit.intOf ((Sy.rows t).getD (i0a.toNat * 3) Go.undef) ∧ Go.RowKit.intOf ((Sy.rows t).getD (i0a.toNat * 3) Go.undef) ≤ 4294967295) ∧ (0 ≤ Go.RowKit.intOf ((Sy.rows t).getD (i0a.toNat * 3 + 1) Go.undef) ∧ Go.RowKit.intOf ((Sy.rows t).getD (i0a.toNat * 3 + 1) Go.undef) ≤ 4294967295) ∧ 0 ≤ Go.RowKit.intOf ((Sy.rows t).getD (i0a.toNat * 3 + 2) Go.undef) := hb i0a.toNat (by omega)
                     obtain ⟨⟨x1, x2⟩, ⟨x3, x4⟩, x5⟩ := hx
                     obtain ⟨y1, y2⟩ := mod1000 x5
                     have hp := rg_put (t := Sy.rows t) (r := r) (by omega) (by omega) (by omega) hb (k := i0a.toNat) (by omega)
                     rw [show ((i0a.toNat : Nat) : Int) = i0a by omega] at hp
                     have w1 : IntKind.wrap .i64 (Int.tmod (Go.RowKit.intOf ((Sy.rows t).getD (i0a.toNat * 3 + 2) Go.undef)) 1000) = Int.tmod (Go.RowKit.intOf ((Sy.rows t).getD (i0a.toNat * 3 + 2) Go.undef)) 1000 := by have := wr_i64 (Int.tmod (Go.RowKit.intOf ((Sy.rows t).getD (i0a.toNat * 3 + 2) Go.undef)) 1000); omega
                     have w2 : IntKind.wrap .i64 (Go.RowKit.intOf ((Sy.rows t).getD (i0a.toNat * 3) Go.undef)) = Go.RowKit.intOf ((Sy.rows t).getD (i0a.toNat * 3) Go.undef) := by have := wr_i64 (Go.RowKit.intOf ((Sy.rows t).getD (i0a.toNat * 3) Go.undef)); omega
                     have w3 : IntKind.wrap .i64 (r - Go.RowKit.intOf ((Sy.rows t).getD (i0a.toNat * 3) Go.undef)) = r - Go.RowKit.intOf ((Sy.rows t).getD (i0a.toNat * 3) Go.undef) := by have := wr_i64 (r - Go.RowKit.intOf ((Sy.rows t).getD (i0a.toNat * 3) Go.undef)); omega
                     have w4 : IntKind.wrap .i64 (Go.RowKit.intOf ((Sy.rows t).getD (i0a.toNat * 3 + 1) Go.undef)) = Go.RowKit.intOf ((Sy.rows t).getD (i0a.toNat * 3 + 1) Go.undef) := by have := wr_i64 (Go.RowKit.intOf ((Sy.rows t).getD (i0a.toNat * 3 + 1) Go.undef)); omega
                     have w5 : IntKind.wrap .i64 (r + Go.RowKit.intOf ((Sy.rows t).getD (i0a.toNat * 3 + 1) Go.undef)) = r + Go.RowKit.intOf ((Sy.rows t).getD (i0a.toNat * 3 + 1) Go.undef) := by have := wr_i64 (r + Go.RowKit.intOf ((Sy.rows t).getD (i0a.toNat * 3 + 1) Go.undef)); omega
                     simp only [w1, w2, w3, w4, w5]
                     exact ⟨hs.inr, by omega, by omega, by omega, by omega⟩))
              ·
               try simp only [hw5]
               try simp only [hw4]
               try simp only [hw3]
               try simp only [hw2]
               try simp only [hw1]
               refine ⟨fun h12 => ?_, fun h12 => ?_⟩
               ·
                first
                | exact True.intro
                | rfl
                | (exfalso
                   have hb : ∀ j, j < (Sy.rows t).length / 3 → (0 ≤ c0 (Sy.rows t) j ∧ c0 (Sy.rows t) j ≤ 4294967295) ∧ (0 ≤ c1 (Sy.rows t) j ∧ c1 (Sy.rows t) j ≤ 4294967295) ∧ 0 ≤ c2 (Sy.rows t) j := fun j hj => by
                     obtain ⟨t1, t2, t3⟩ := typ_rowU hL_t hj
                     exact ⟨okR_u32 hc.2.1 (by omega) t1, okR_u32 hc.2.1 (by omega) t2, (okR_u32 hc.2.1 (by omega) t3).1⟩
                   obtain ⟨g1, g2, g3⟩ := hi0
                   have hv := eqV_iff.1 g3
                   have hr : Sy.rows i0b = rgL (Sy.rows t) r i0a.toNat := by rw [hv]; simp only [rows_tup, List.toList_toArray]
                   clear hv g3
                   by_cases hlt : i0a < (((Sy.rows t).length / 3 : Nat) : Int)
                   · have hx : (0 ≤ Go.RowKit.intOf ((Sy.rows t).getD (i0a.toNat * 3) Go.undef) ∧ Go.RowKit.intOf ((Sy.rows t).getD (i0a.toNat * 3) Go.undef) ≤ 4294967295) ∧ (0 ≤ Go.RowKit.intOf ((Sy.rows t).getD (i0a.toNat * 3 + 1) Go.undef) ∧ Go.RowKit.intOf ((Sy.rows t).getD (i0a.toNat * 3 + 1) Go.undef) ≤ 4294967295) ∧ 0 ≤ Go.RowKit.intOf ((Sy.rows t).getD (i0a.toNat * 3 + 2) Go.undef) := hb i0a.toNat (by omega)
                     obtain ⟨⟨x1, x2⟩, ⟨x3, x4⟩, x5⟩ := hx
                     obtain ⟨y1, y2⟩ := mod1000 x5
                     have hp := rg_put (t := Sy.rows t) (r := r) (by omega) (by omega) (by omega) hb (k := i0a.toNat) (by omega)
                     rw [show ((i0a.toNat : Nat) : Int) = i0a by omega] at hp
                     have w1 : IntKind.wrap .i64 (Int.tmod (Go.RowKit.intOf ((Sy.rows t).getD (i0a.toNat * 3 + 2) Go.undef)) 1000) = Int.tmod (Go.RowKit.intOf ((Sy.rows t).getD (i0a.toNat * 3 + 2) Go.undef)) 1000 := by have := wr_i64 (Int.tmod (Go.RowKit.intOf ((Sy.rows t).getD (i0a.toNat * 3 + 2) Go.undef)) 1000); omega
                     have w2 : IntKind.wrap .i64 (Go.RowKit.intOf ((Sy.rows t).getD (i0a.toNat * 3) Go.undef)) = Go.RowKit.intOf ((Sy.rows t).getD (i0a.toNat * 3) Go.undef) := by have := wr_i64 (Go.RowKit.intOf ((Sy.rows t).getD (i0a.toNat * 3) Go.undef)); omega
                     have w3 : IntKind.wrap .i64 (r - Go.RowKit.intOf ((Sy.rows t).getD (i0a.toNat * 3) Go.undef)) = r - Go.RowKit.intOf ((Sy.rows t).getD (i0a.toNat * 3) Go.undef) := by have := wr_i64 (r - Go.RowKit.intOf ((Sy.rows t).getD (i0a.toNat * 3) Go.undef)); omega
                     have w4 : IntKind.wrap .i64 (Go.RowKit.intOf ((Sy.rows t).getD (i0a.toNat * 3 + 1) Go.undef)) = Go.RowKit.intOf ((Sy.rows t).getD (i0a.toNat * 3 + 1) Go.undef) := by have := wr_i64 (Go.RowKit.intOf ((Sy.rows t).getD (i0a.toNat * 3 + 1) Go.undef)); omega
                     have w5 : IntKind.wrap .i64 (r + Go.RowKit.intOf ((Sy.rows t).getD (i0a.toNat * 3 + 1) Go.undef)) = r + Go.RowKit.intOf ((Sy.rows t).getD (i0a.toNat * 3 + 1) Go.undef) := by have := wr_i64 (r + Go.RowKit.intOf ((Sy.rows t).getD (i0a.toNat * 3 + 1) Go.undef)); omega
                     simp only [w1, w2, w3, w4, w5, hr] at *
                     omega
                   · have hk : i0a.toNat = (Sy.rows t).length / 3 := by omega
                     have hs := rg_std (t := Sy.rows t) (r := r) (by omega) (by omega) (by omega) hb (Nat.le_refl _)
                     rw [hk] at hr
                     obtain ⟨v1, v2, v3, v4⟩ := std_vote hs (by omega) (by omega) (Nat.le_refl _) (by omega)
                     have v5 := v4 rfl
                     rw [← hr] at v1 v2 v3 v5
                     omega)
               ·
                have wf6 := wr_i64 (i0a + 1)
                try simp only [hw5]
                try simp only [hw4]
                try simp only [hw3]
                try simp only [hw2]
                try simp only [hw1]
                refine ⟨?_, ?_⟩
                ·
                 have hb : ∀ j, j < (Sy.rows t).length / 3 → (0 ≤ c0 (Sy.rows t) j ∧ c0 (Sy.rows t) j ≤ 4294967295) ∧ (0 ≤ c1 (Sy.rows t) j ∧ c1 (Sy.rows t) j ≤ 4294967295) ∧ 0 ≤ c2 (Sy.rows t) j := fun j hj => by
                   obtain ⟨t1, t2, t3⟩ := typ_rowU hL_t hj
                   exact ⟨okR_u32 hc.2.1 (by omega) t1, okR_u32 hc.2.1 (by omega) t2, (okR_u32 hc.2.1 (by omega) t3).1⟩
                 obtain ⟨g1, g2, g3⟩ := hi0
                 have hv := eqV_iff.1 g3
                 have hr : Sy.rows i0b = rgL (Sy.rows t) r i0a.toNat := by rw [hv]; simp only [rows_tup, List.toList_toArray]
                 clear hv g3
                 have hx : (0 ≤ Go.RowKit.intOf ((Sy.rows t).getD (i0a.toNat * 3) Go.undef) ∧ Go.RowKit.intOf ((Sy.rows t).getD (i0a.toNat * 3) Go.undef) ≤ 4294967295) ∧ (0 ≤ Go.RowKit.intOf ((Sy.rows t).getD (i0a.toNat * 3 + 1) Go.undef) ∧ Go.RowKit.intOf ((Sy.rows t).getD (i0a.toNat * 3 + 1) Go.undef) ≤ 4294967295) ∧ 0 ≤ Go.RowKit.intOf ((Sy.rows t).getD (i0a.toNat * 3 + 2) Go.undef) := hb i0a.toNat (by omega)
                 obtain ⟨⟨x1, x2⟩, ⟨x3, x4⟩, x5⟩ := hx
                 obtain ⟨y1, y2⟩ := mod1000 x5
                 have hp := rg_put (t := Sy.rows t) (r := r) (by omega) (by omega) (by omega) hb (k := i0a.toNat) (by omega)
                 rw [show ((i0a.toNat : Nat) : Int) = i0a by omega] at hp
                 have w1 : IntKind.wrap .i64 (Int.tmod (Go.RowKit.intOf ((Sy.rows t).getD (i0a.toNat * 3 + 2) Go.undef)) 1000) = Int.tmod (Go.RowKit.intOf ((Sy.rows t).getD (i0a.toNat * 3 + 2) Go.undef)) 1000 := by have := wr_i64 (Int.tmod (Go.RowKit.intOf ((Sy.rows t).getD (i0a.toNat * 3 + 2) Go.undef)) 1000); omega
                 have w2 : IntKind.wrap .i64 (Go.RowKit.intOf ((Sy.rows t).getD (i0a.toNat * 3) Go.undef)) = Go.RowKit.intOf ((Sy.rows t).getD (i0a.toNat * 3) Go.undef) := by have := wr_i64 (Go.RowKit.intOf ((Sy.rows t).getD (i0a.toNat * 3) Go.undef)); omega
                 have w3 : IntKind.wrap .i64 (r - Go.RowKit.intOf ((Sy.rows t).getD (i0a.toNat * 3) Go.undef)) = r - Go.RowKit.intOf ((Sy.rows t).getD (i0a.toNat * 3) Go.undef) := by have := wr_i64 (r - Go.RowKit.intOf ((Sy.rows t).getD (i0a.toNat * 3) Go.undef)); omega
                 have w4 : IntKind.wrap .i64 (Go.RowKit.intOf ((Sy.rows t).getD (i0a.toNat * 3 + 1) Go.undef)) = Go.RowKit.intOf ((Sy.rows t).getD (i0a.toNat * 3 + 1) Go.undef) := by have := wr_i64 (Go.RowKit.intOf ((Sy.rows t).getD (i0a.toNat * 3 + 1) Go.undef)); omega
                 have w5 : IntKind.wrap .i64 (r + Go.RowKit.intOf ((Sy.rows t).getD (i0a.toNat * 3 + 1) Go.undef)) = r + Go.RowKit.intOf ((Sy.rows t).getD (i0a.toNat * 3 + 1) Go.undef) := by have := wr_i64 (r + Go.RowKit.intOf ((Sy.rows t).getD (i0a.toNat * 3 + 1) Go.undef)); omega
                 have e : IntKind.wrap .i64 (i0a + 1) = i0a + 1 := by omega
                 simp only [w1, w2, w3, w4, w5, hr, hp.2]
                 rw [e, show (i0a + 1).toNat = i0a.toNat + 1 by omega]
                 exact ⟨by omega, by omega, eqV_iff.2 rfl⟩
                ·
                 omega
          ·
           refine ⟨?_, fun h13 => ?_⟩
           ·
            first
            | omega
            | exact True.intro
            | (
               have hb : ∀ j, j < (Sy.rows t).length / 3 → (0 ≤ c0 (Sy.rows t) j ∧ c0 (Sy.rows t) j ≤ 4294967295) ∧ (0 ≤ c1 (Sy.rows t) j ∧ c1 (Sy.rows t) j ≤ 4294967295) ∧ 0 ≤ c2 (Sy.rows t) j := fun j hj => by
                 obtain ⟨t1, t2, t3⟩ := typ_rowU hL_t hj
                 exact ⟨okR_u32 hc.2.1 (by omega) t1, okR_u32 hc.2.1 (by omega) t2, (okR_u32 hc.2.1 (by omega) t3).1⟩
               obtain ⟨g1, g2, g3⟩ := hi0
               have hv := eqV_iff.1 g3
               have hr : Sy.rows i0b = rgL (Sy.rows t) r i0a.toNat := by rw [hv]; simp only [rows_tup, List.toList_toArray]
               clear hv g3
               have hs := rg_std (t := Sy.rows t) (r := r) (by omega) (by omega) (by omega) hb (k := i0a.toNat) (by omega)
               rw [hr]
               first
               | exact hs.inr
               | (
                  have hx : (0 ≤ Go.RowKit.intOf ((Sy.rows t).getD (i0a.toNat * 3) Go.undef) ∧ Go.RowKit.intOf ((Sy.rows t).getD (i0a.toNat * 3) Go.undef) ≤ 4294967295) ∧ (0 ≤ Go.RowKit.intOf ((Sy.rows t).getD (i0a.toNat * 3 + 1) Go.undef) ∧ Go.RowKit.intOf ((Sy.rows t).getD (i0a.toNat * 3 + 1) Go.undef) ≤ 4294967295) ∧ 0 ≤ Go.RowKit.intOf ((Sy.rows t).getD (i0a.toNat * 3 + 2) Go.undef) := hb i0a.toNat (by omega)
                  obtain ⟨⟨x1, x2⟩, ⟨x3, x4⟩, x5⟩ := hx
                  obtain ⟨y1, y2⟩ := mod1000 x5
                  have hp := rg_put (t := Sy.rows t) (r := r) (by omega) (by omega) (by omega) hb (k := i0a.toNat) (by omega)
                  rw [show ((i0a.toNat : Nat) : Int) = i0a by omega] at hp
                  have w1 : IntKind.wrap .i64 (Int.tmod (Go.RowKit.intOf ((Sy.rows t).getD (i0a.toNat * 3 + 2) Go.undef)) 1000) = Int.tmod (Go.RowKit.intOf ((Sy.rows t).getD (i0a.toNat * 3 + 2) Go.undef)) 1000 := by have := wr_i64 (Int.tmod (Go.RowKit.intOf ((Sy.rows t).getD (i0a.toNat * 3 + 2) Go.undef)) 1000); omega
                  have w2 : IntKind.wrap .i64 (Go.RowKit.intOf ((Sy.rows t).getD (i0a.toNat * 3) Go.undef)) = Go.RowKit.intOf ((Sy.rows t).getD (i0a.toNat * 3) Go.undef) := by have := wr_i64 (Go.RowKit.intOf ((Sy.rows t).getD (i0a.toNat * 3) Go.undef)); omega
                  have w3 : IntKind.wrap .i64 (r - Go.RowKit.intOf ((Sy.rows t).getD (i0a.toNat * 3) Go.undef)) = r - Go.RowKit.intOf ((Sy.rows t).getD (i0a.toNat * 3) Go.undef) := by have := wr_i64 (r - Go.RowKit.intOf ((Sy.rows t).getD (i0a.toNat * 3) Go.undef)); omega
                  have w4 : IntKind.wrap .i64 (Go.RowKit.intOf ((Sy.rows t).getD (i0a.toNat * 3 + 1) Go.undef)) = Go.RowKit.intOf ((Sy.rows t).getD (i0a.toNat * 3 + 1) Go.undef) := by have := wr_i64 (Go.RowKit.intOf ((Sy.rows t).getD (i0a.toNat * 3 + 1) Go.undef)); omega
                  have w5 : IntKind.wrap .i64 (r + Go.RowKit.intOf ((Sy.rows t).getD (i0a.toNat * 3 + 1) Go.undef)) = r + Go.RowKit.intOf ((Sy.rows t).getD (i0a.toNat * 3 + 1) Go.undef) := by have := wr_i64 (r + Go.RowKit.intOf ((Sy.rows t).getD (i0a.toNat * 3 + 1) Go.undef)); omega
                  simp only [w1, w2, w3, w4, w5]
                  exact ⟨hs.inr, by omega, by omega, by omega, by omega⟩))
           ·
            refine ⟨fun h14 => ?_, fun h14 => ?_⟩
            ·
             first
             | exact True.intro
             | rfl
             | (exfalso
                have hb : ∀ j, j < (Sy.rows t).length / 3 → (0 ≤ c0 (Sy.rows t) j ∧ c0 (Sy.rows t) j ≤ 4294967295) ∧ (0 ≤ c1 (Sy.rows t) j ∧ c1 (Sy.rows t) j ≤ 4294967295) ∧ 0 ≤ c2 (Sy.rows t) j := fun j hj => by
                  obtain ⟨t1, t2, t3⟩ := typ_rowU hL_t hj
                  exact ⟨okR_u32 hc.2.1 (by omega) t1, okR_u32 hc.2.1 (by omega) t2, (okR_u32 hc.2.1 (by omega) t3).1⟩
                obtain ⟨g1, g2, g3⟩ := hi0
                have hv := eqV_iff.1 g3
                have hr : Sy.rows i0b = rgL (Sy.rows t) r i0a.toNat := by rw [hv]; simp only [rows_tup, List.toList_toArray]
                clear hv g3
                by_cases hlt : i0a < (((Sy.rows t).length / 3 : Nat) : Int)
                · have hx : (0 ≤ Go.RowKit.intOf ((Sy.rows t).getD (i0a.toNat * 3) Go.undef) ∧ Go.RowKit.intOf ((Sy.rows t).getD (i0a.toNat * 3) Go.undef) ≤ 4294967295) ∧ (0 ≤ Go.RowKit.intOf ((Sy.rows t).getD (i0a.toNat * 3 + 1) Go.undef) ∧ Go.RowKit.intOf ((Sy.rows t).getD (i0a.toNat * 3 + 1) Go.undef) ≤ 4294967295) ∧ 0 ≤ Go.RowKit.intOf ((Sy.rows t).getD (i0a.toNat * 3 + 2) Go.undef) := hb i0a.toNat (by omega)
                  obtain ⟨⟨x1, x2⟩, ⟨x3, x4⟩, x5⟩ := hx
                  obtain ⟨y1, y2⟩ := mod1000 x5
                  have hp := rg_put (t := Sy.rows t) (r := r) (by omega) (by omega) (by omega) hb (k := i0a.toNat) (by omega)
                  rw [show ((i0a.toNat : Nat) : Int) = i0a by omega] at hp
                  have w1 : IntKind.wrap .i64 (Int.tmod (Go.RowKit.intOf ((Sy.rows t).getD (i0a.toNat * 3 + 2) Go.undef)) 1000) = Int.tmod (Go.RowKit.intOf ((Sy.rows t).getD (i0a.toNat * 3 + 2) Go.undef)) 1000 := by have := wr_i64 (Int.tmod (Go.RowKit.intOf ((Sy.rows t).getD (i0a.toNat * 3 + 2) Go.undef)) 1000); omega
                  have w2 : IntKind.wrap .i64 (Go.RowKit.intOf ((Sy.rows t).getD (i0a.toNat * 3) Go.undef)) = Go.RowKit.intOf ((Sy.rows t).getD (i0a.toNat * 3) Go.undef) := by have := wr_i64 (Go.RowKit.intOf ((Sy.rows t).getD (i0a.toNat * 3) Go.undef)); omega
                  have w3 : IntKind.wrap .i64 (r - Go.RowKit.intOf ((Sy.rows t).getD (i0a.toNat * 3) Go.undef)) = r - Go.RowKit.intOf ((Sy.rows t).getD (i0a.toNat * 3) Go.undef) := by have := wr_i64 (r - Go.RowKit.intOf ((Sy.rows t).getD (i0a.toNat * 3) Go.undef)); omega
                  have w4 : IntKind.wrap .i64 (Go.RowKit.intOf ((Sy.rows t).getD (i0a.toNat * 3 + 1) Go.undef)) = Go.RowKit.intOf ((Sy.rows t).getD (i0a.toNat * 3 + 1) Go.undef) := by have := wr_i64 (Go.RowKit.intOf ((Sy.rows t).getD (i0a.toNat * 3 + 1) Go.undef)); omega
                  have w5 : IntKind.wrap .i64 (r + Go.RowKit.intOf ((Sy.rows t).getD (i0a.toNat * 3 + 1) Go.undef)) = r + Go.RowKit.intOf ((Sy.rows t).getD (i0a.toNat * 3 + 1) Go.undef) := by have := wr_i64 (r + Go.RowKit.intOf ((Sy.rows t).getD (i0a.toNat * 3 + 1) Go.undef)); omega
                  simp only [w1, w2, w3, w4, w5, hr] at *
                  omega
                · have hk : i0a.toNat = (Sy.rows t).length / 3 := by omega
                  have hs := rg_std (t := Sy.rows t) (r := r) (by omega) (by omega) (by omega) hb (Nat.le_refl _)
                  rw [hk] at hr
                  obtain ⟨v1, v2, v3, v4⟩ := std_vote hs (by omega) (by omega) (Nat.le_refl _) (by omega)
                  have v5 := v4 rfl
                  rw [← hr] at v1 v2 v3 v5
                  omega)
            ·
             refine ⟨fun h15 => ?_, fun h15 => ?_⟩
             ·
              first
              | exact True.intro
              | rfl
              | (exfalso
                 have hb : ∀ j, j < (Sy.rows t).length / 3 → (0 ≤ c0 (Sy.rows t) j ∧ c0 (Sy.rows t) j ≤ 4294967295) ∧ (0 ≤ c1 (Sy.rows t) j ∧ c1 (Sy.rows t) j ≤ 4294967295) ∧ 0 ≤ c2 (Sy.rows t) j := fun j hj => by
                   obtain ⟨t1, t2, t3⟩ := typ_rowU hL_t hj
                   exact ⟨okR_u32 hc.2.1 (by omega) t1, okR_u32 hc.2.1 (by omega) t2, (okR_u32 hc.2.1 (by omega) t3).1⟩
                 obtain ⟨g1, g2, g3⟩ := hi0
                 have hv := eqV_iff.1 g3
                 have hr : Sy.rows i0b = rgL (Sy.rows t) r i0a.toNat := by rw [hv]; simp only [rows_tup, List.toList_toArray]
                 clear hv g3
                 by_cases hlt : i0a < (((Sy.rows t).length / 3 : Nat) : Int)
                 · have hx : (0 ≤ Go.RowKit.intOf ((Sy.rows t).getD (i0a.toNat * 3) Go.undef) ∧ Go.RowKit.intOf ((Sy.rows t).getD (i0a.toNat * 3) Go.undef) ≤ 4294967295) ∧ (0 ≤ Go.RowKit.intOf ((Sy.rows t).getD (i0a.toNat * 3 + 1) Go.undef) ∧ Go.RowKit.intOf ((Sy.rows t).getD (i0a.toNat * 3 + 1) Go.undef) ≤ 4294967295) ∧ 0 ≤ Go.RowKit.intOf ((Sy.rows t).getD (i0a.toNat * 3 + 2) Go.undef) := hb i0a.toNat (by omega)
                   obtain ⟨⟨x1, x2⟩, ⟨x3, x4⟩, x5⟩ := hx
                   obtain ⟨y1, y2⟩ := mod1000 x5
                   have hp := rg_put (t := Sy.rows t) (r := r) (by omega) (by omega) (by omega) hb (k := i0a.toNat) (by omega)
                   rw [show ((i0a.toNat : Nat) : Int) = i0a by omega] at hp
                   have w1 : IntKind.wrap .i64 (Int.tmod (Go.RowKit.intOf ((Sy.rows t).getD (i0a.toNat * 3 + 2) Go.undef)) 1000) = Int.tmod (Go.RowKit.intOf ((Sy.rows t).getD (i0a.toNat * 3 + 2) Go.undef)) 1000 := by have := wr_i64 (Int.tmod (Go.RowKit.intOf ((Sy.rows t).getD (i0a.toNat * 3 + 2) Go.undef)) 1000); omega
                   have w2 : IntKind.wrap .i64 (Go.RowKit.intOf ((Sy.rows t).getD (i0a.toNat * 3) Go.undef)) = Go.RowKit.intOf ((Sy.rows t).getD (i0a.toNat * 3) Go.undef) := by have := wr_i64 (Go.RowKit.intOf ((Sy.rows t).getD (i0a.toNat * 3) Go.undef)); omega
                   have w3 : IntKind.wrap .i64 (r - Go.RowKit.intOf ((Sy.rows t).getD (i0a.toNat * 3) Go.undef)) = r - Go.RowKit.intOf ((Sy.rows t).getD (i0a.toNat * 3) Go.undef) := by have := wr_i64 (r - Go.RowKit.intOf ((Sy.rows t).getD (i0a.toNat * 3) Go.undef)); omega
                   have w4 : IntKind.wrap .i64 (Go.RowKit.intOf ((Sy.rows t).getD (i0a.toNat * 3 + 1) Go.undef)) = Go.RowKit.intOf ((Sy.rows t).getD (i0a.toNat * 3 + 1) Go.undef) := by have := wr_i64 (Go.RowKit.intOf ((Sy.rows t).getD (i0a.toNat * 3 + 1) Go.undef)); omega
                   have w5 : IntKind.wrap .i64 (r + Go.RowKit.intOf ((Sy.rows t).getD (i0a.toNat * 3 + 1) Go.undef)) = r + Go.RowKit.intOf ((Sy.rows t).getD (i0a.toNat * 3 + 1) Go.undef) := by have := wr_i64 (r + Go.RowKit.intOf ((Sy.rows t).getD (i0a.toNat * 3 + 1) Go.undef)); omega
                   simp only [w1, w2, w3, w4, w5, hr] at *
                   omega
                 · have hk : i0a.toNat = (Sy.rows t).length / 3 := by omega
                   have hs := rg_std (t := Sy.rows t) (r := r) (by omega) (by omega) (by omega) hb (Nat.le_refl _)
                   rw [hk] at hr
                   obtain ⟨v1, v2, v3, v4⟩ := std_vote hs (by omega) (by omega) (Nat.le_refl _) (by omega)
                   have v5 := v4 rfl
                   rw [← hr] at v1 v2 v3 v5
                   omega)
             ·
              refine ⟨fun h16 => ?_, fun h16 => ?_⟩
              ·
               first
               | exact True.intro
               | rfl
               | (exfalso
                  have hb : ∀ j, j < (Sy.rows t).length / 3 → (0 ≤ c0 (Sy.rows t) j ∧ c0 (Sy.rows t) j ≤ 4294967295) ∧ (0 ≤ c1 (Sy.rows t) j ∧ c1 (Sy.rows t) j ≤ 4294967295) ∧ 0 ≤ c2 (Sy.rows t) j := fun j hj => by
                    obtain ⟨t1, t2, t3⟩ := typ_rowU hL_t hj
                    exact ⟨okR_u32 hc.2.1 (by omega) t1, okR_u32 hc.2.1 (by omega) t2, (okR_u32 hc.2.1 (by omega) t3).1⟩
                  obtain ⟨g1, g2, g3⟩ := hi0
                  have hv := eqV_iff.1 g3
                  have hr : Sy.rows i0b = rgL (Sy.rows t) r i0a.toNat := by rw [hv]; simp only [rows_tup, List.toList_toArray]
                  clear hv g3
                  by_cases hlt : i0a < (((Sy.rows t).length / 3 : Nat) : Int)
                  · have hx : (0 ≤ Go.RowKit.intOf ((Sy.rows t).getD (i0a.toNat * 3) Go.undef) ∧ Go.RowKit.intOf ((Sy.rows t).getD (i0a.toNat * 3) Go.undef) ≤ 4294967295) ∧ (0 ≤ Go.RowKit.intOf ((Sy.rows t).getD (i0a.toNat * 3 + 1) Go.undef) ∧ Go.RowKit.intOf ((Sy.rows t).getD (i0a.toNat * 3 + 1) Go.undef) ≤ 4294967295) ∧ 0 ≤ Go.RowKit.intOf ((Sy.rows t).getD (i0a.toNat * 3 + 2) Go.undef) := hb i0a.toNat (by omega)
                    obtain ⟨⟨x1, x2⟩, ⟨x3, x4⟩, x5⟩ := hx
                    obtain ⟨y1, y2⟩ := mod1000 x5
                    have hp := rg_put (t := Sy.rows t) (r := r) (by omega) (by omega) (by omega) hb (k := i0a.toNat) (by omega)
                    rw [show ((i0a.toNat : Nat) : Int) = i0a by omega] at hp
                    have w1 : IntKind.wrap .i64 (Int.tmod (Go.RowKit.intOf ((Sy.rows t).getD (i0a.toNat * 3 + 2) Go.undef)) 1000) = Int.tmod (Go.RowKit.intOf ((Sy.rows t).getD (i0a.toNat * 3 + 2) Go.undef)) 1000 := by have := wr_i64 (Int.tmod (Go.RowKit.intOf ((Sy.rows t).getD (i0a.toNat * 3 + 2) Go.undef)) 1000); omega
                    have w2 : IntKind.wrap .i64 (Go.RowKit.intOf ((Sy.rows t).getD (i0a.toNat * 3) Go.undef)) = Go.RowKit.intOf ((Sy.rows t).getD (i0a.toNat * 3) Go.undef) := by have := wr_i64 (Go.RowKit.intOf ((Sy.rows t).getD (i0a.toNat * 3) Go.undef)); omega
                    have w3 : IntKind.wrap .i64 (r - Go.RowKit.intOf ((Sy.rows t).getD (i0a.toNat * 3) Go.undef)) = r - Go.RowKit.intOf ((Sy.rows t).getD (i0a.toNat * 3) Go.undef) := by have := wr_i64 (r - Go.RowKit.intOf ((Sy.rows t).getD (i0a.toNat * 3) Go.undef)); omega
                    have w4 : IntKind.wrap .i64 (Go.RowKit.intOf ((Sy.rows t).getD (i0a.toNat * 3 + 1) Go.undef)) = Go.RowKit.intOf ((Sy.rows t).getD (i0a.toNat * 3 + 1) Go.undef) := by have := wr_i64 (Go.RowKit.intOf ((Sy.rows t).getD (i0a.toNat * 3 + 1) Go.undef)); omega
                    have w5 : IntKind.wrap .i64 (r + Go.RowKit.intOf ((Sy.rows t).getD (i0a.toNat * 3 + 1) Go.undef)) = r + Go.RowKit.intOf ((Sy.rows t).getD (i0a.toNat * 3 + 1) Go.undef) := by have := wr_i64 (r + Go.RowKit.intOf ((Sy.rows t).getD (i0a.toNat * 3 + 1) Go.undef)); omega
                    simp only [w1, w2, w3, w4, w5, hr] at *
                    omega
                  · have hk : i0a.toNat = (Sy.rows t).length / 3 := by omega
                    have hs := rg_std (t := Sy.rows t) (r := r) (by omega) (by omega) (by omega) hb (Nat.le_refl _)
                    rw [hk] at hr
                    obtain ⟨v1, v2, v3, v4⟩ := std_vote hs (by omega) (by omega) (Nat.le_refl _) (by omega)
                    have v5 := v4 rfl
                    rw [← hr] at v1 v2 v3 v5
                    omega)
              ·
               refine ⟨?_, ?_⟩
               ·
                first
                | exact ⟨by omega, by omega, eqV_iff.2 rfl⟩
                | (obtain ⟨g1, g2, g3⟩ := hi0
                   rw [show i0a.toNat = (Sy.rows t).length / 3 by omega] at g3
                   exact ⟨by omega, by omega, g3⟩)
               ·
                intro i1a i1b hi1
                refine ⟨fun h17 => ?_, fun h17 => ?_⟩
                ·
                 refine ⟨?_, fun h18 => ?_⟩
                 ·
                  first
                  | omega
                  | exact True.intro
                  | (
                     have hb : ∀ j, j < (Sy.rows t).length / 3 → (0 ≤ c0 (Sy.rows t) j ∧ c0 (Sy.rows t) j ≤ 4294967295) ∧ (0 ≤ c1 (Sy.rows t) j ∧ c1 (Sy.rows t) j ≤ 4294967295) ∧ 0 ≤ c2 (Sy.rows t) j := fun j hj => by
                       obtain ⟨t1, t2, t3⟩ := typ_rowU hL_t hj
                       exact ⟨okR_u32 hc.2.1 (by omega) t1, okR_u32 hc.2.1 (by omega) t2, (okR_u32 hc.2.1 (by omega) t3).1⟩
                     have hu : ∀ j, j < (Sy.rows u).length → -9223372036854775808 ≤ Go.RowKit.intOf ((Sy.rows u).getD j Go.undef) ∧ Go.RowKit.intOf ((Sy.rows u).getD j Go.undef) ≤ 9223372036854775807 := fun j hj => okR_at hc.2.2 hj (typ_rowI hL_u hj)
                     have hs := rg_std (t := Sy.rows t) (r := r) (by omega) (by omega) (by omega) hb (Nat.le_refl _)
                     obtain ⟨g1, g2, g3⟩ := hi1
                     have hv := eqV_iff.1 g3
                     have hr : Sy.rows i1b = wrL (rgL (Sy.rows t) r ((Sy.rows t).length / 3)) ((Sy.rows t).length / 3) (Sy.rows u) i1a.toNat := by rw [hv]; simp only [rows_tup, List.toList_toArray]
                     clear hv g3
                     have hw := wr_std hs (u := Sy.rows u) (W := (Sy.rows u).length) (by omega) hu (k := i1a.toNat) (by omega)
                     rw [hr]
                     first
                     | exact hw.inr
                     | (
                        have hx := hu i1a.toNat (by omega)
                        have hp := wr_put hs (u := Sy.rows u) (W := (Sy.rows u).length) (by omega) hu (k := i1a.toNat) (by omega)
                        rw [show ((i1a.toNat : Nat) : Int) = i1a by omega] at hp
                        have w1 : IntKind.wrap .i64 ((((Sy.rows t).length / 3 : Nat) : Int) + i1a) = (((Sy.rows t).length / 3 : Nat) : Int) + i1a := by have := wr_i64 ((((Sy.rows t).length / 3 : Nat) : Int) + i1a); omega
                        simp only [w1]
                        exact ⟨hw.inr, by omega, hx, hx⟩))
                 ·
                  refine ⟨?_, fun h19 => ?_⟩
                  ·
                   first
                   | omega
                   | exact True.intro
                   | (
                      have hb : ∀ j, j < (Sy.rows t).length / 3 → (0 ≤ c0 (Sy.rows t) j ∧ c0 (Sy.rows t) j ≤ 4294967295) ∧ (0 ≤ c1 (Sy.rows t) j ∧ c1 (Sy.rows t) j ≤ 4294967295) ∧ 0 ≤ c2 (Sy.rows t) j := fun j hj => by
                        obtain ⟨t1, t2, t3⟩ := typ_rowU hL_t hj
                        exact ⟨okR_u32 hc.2.1 (by omega) t1, okR_u32 hc.2.1 (by omega) t2, (okR_u32 hc.2.1 (by omega) t3).1⟩
                      have hu : ∀ j, j < (Sy.rows u).length → -9223372036854775808 ≤ Go.RowKit.intOf ((Sy.rows u).getD j Go.undef) ∧ Go.RowKit.intOf ((Sy.rows u).getD j Go.undef) ≤ 9223372036854775807 := fun j hj => okR_at hc.2.2 hj (typ_rowI hL_u hj)
                      have hs := rg_std (t := Sy.rows t) (r := r) (by omega) (by omega) (by omega) hb (Nat.le_refl _)
                      obtain ⟨g1, g2, g3⟩ := hi1
                      have hv := eqV_iff.1 g3
                      have hr : Sy.rows i1b = wrL (rgL (Sy.rows t) r ((Sy.rows t).length / 3)) ((Sy.rows t).length / 3) (Sy.rows u) i1a.toNat := by rw [hv]; simp only [rows_tup, List.toList_toArray]
                      clear hv g3
                      have hw := wr_std hs (u := Sy.rows u) (W := (Sy.rows u).length) (by omega) hu (k := i1a.toNat) (by omega)
                      rw [hr]
                      first
                      | exact hw.inr
                      | (
                         have hx := hu i1a.toNat (by omega)
                         have hp := wr_put hs (u := Sy.rows u) (W := (Sy.rows u).length) (by omega) hu (k := i1a.toNat) (by omega)
                         rw [show ((i1a.toNat : Nat) : Int) = i1a by omega] at hp
                         have w1 : IntKind.wrap .i64 ((((Sy.rows t).length / 3 : Nat) : Int) + i1a) = (((Sy.rows t).length / 3 : Nat) : Int) + i1a := by have := wr_i64 ((((Sy.rows t).length / 3 : Nat) : Int) + i1a); omega
                         simp only [w1]
                         exact ⟨hw.inr, by omega, hx, hx⟩))
                  ·
                   have wf7 := wr_i64 (((((rows t).length / 3 : Nat)) : Int) + i1a)
                   refine ⟨?_, fun h20 => ?_⟩
                   ·
                    first
                    | omega
                    | exact True.intro
                    | (
                       have hb : ∀ j, j < (Sy.rows t).length / 3 → (0 ≤ c0 (Sy.rows t) j ∧ c0 (Sy.rows t) j ≤ 4294967295) ∧ (0 ≤ c1 (Sy.rows t) j ∧ c1 (Sy.rows t) j ≤ 4294967295) ∧ 0 ≤ c2 (Sy.rows t) j := fun j hj => by
                         obtain ⟨t1, t2, t3⟩ := typ_rowU hL_t hj
                         exact ⟨okR_u32 hc.2.1 (by omega) t1, okR_u32 hc.2.1 (by omega) t2, (okR_u32 hc.2.1 (by omega) t3).1⟩
                       have hu : ∀ j, j < (Sy.rows u).length → -9223372036854775808 ≤ Go.RowKit.intOf ((Sy.rows u).getD j Go.undef) ∧ Go.RowKit.intOf ((Sy.rows u).getD j Go.undef) ≤ 9223372036854775807 := fun j hj => okR_at hc.2.2 hj (typ_rowI hL_u hj)
                       have hs := rg_std (t := Sy.rows t) (r := r) (by omega) (by omega) (by omega) hb (Nat.le_refl _)
                       obtain ⟨g1, g2, g3⟩ := hi1
                       have hv := eqV_iff.1 g3
                       have hr : Sy.rows i1b = wrL (rgL (Sy.rows t) r ((Sy.rows t).length / 3)) ((Sy.rows t).length / 3) (Sy.rows u) i1a.toNat := by rw [hv]; simp only [rows_tup, List.toList_toArray]
                       clear hv g3
                       have hw := wr_std hs (u := Sy.rows u) (W := (Sy.rows u).length) (by omega) hu (k := i1a.toNat) (by omega)
                       rw [hr]
                       first
                       | exact hw.inr
                       | (
                          have hx := hu i1a.toNat (by omega)
                          have hp := wr_put hs (u := Sy.rows u) (W := (Sy.rows u).length) (by omega) hu (k := i1a.toNat) (by omega)
                          rw [show ((i1a.toNat : Nat) : Int) = i1a by omega] at hp
                          have w1 : IntKind.wrap .i64 ((((Sy.rows t).length / 3 : Nat) : Int) + i1a) = (((Sy.rows t).length / 3 : Nat) : Int) + i1a := by have := wr_i64 ((((Sy.rows t).length / 3 : Nat) : Int) + i1a); omega
                          simp only [w1]
                          exact ⟨hw.inr, by omega, hx, hx⟩))
                   ·
                    try simp only [hw7]
                    refine ⟨fun h21 => ?_, fun h21 => ?_⟩
                    ·
                     first
                     | exact True.intro
                     | rfl
                     | (exfalso
                        have hb : ∀ j, j < (Sy.rows t).length / 3 → (0 ≤ c0 (Sy.rows t) j ∧ c0 (Sy.rows t) j ≤ 4294967295) ∧ (0 ≤ c1 (Sy.rows t) j ∧ c1 (Sy.rows t) j ≤ 4294967295) ∧ 0 ≤ c2 (Sy.rows t) j := fun j hj => by
                          obtain ⟨t1, t2, t3⟩ := typ_rowU hL_t hj
                          exact ⟨okR_u32 hc.2.1 (by omega) t1, okR_u32 hc.2.1 (by omega) t2, (okR_u32 hc.2.1 (by omega) t3).1⟩
                        have hu : ∀ j, j < (Sy.rows u).length → -9223372036854775808 ≤ Go.RowKit.intOf ((Sy.rows u).getD j Go.undef) ∧ Go.RowKit.intOf ((Sy.rows u).getD j Go.undef) ≤ 9223372036854775807 := fun j hj => okR_at hc.2.2 hj (typ_rowI hL_u hj)
                        have hs := rg_std (t := Sy.rows t) (r := r) (by omega) (by omega) (by omega) hb (Nat.le_refl _)
                        obtain ⟨g1, g2, g3⟩ := hi1
                        have hv := eqV_iff.1 g3
                        have hr : Sy.rows i1b = wrL (rgL (Sy.rows t) r ((Sy.rows t).length / 3)) ((Sy.rows t).length / 3) (Sy.rows u) i1a.toNat := by rw [hv]; simp only [rows_tup, List.toList_toArray]
                        clear hv g3
                        have hw := wr_std hs (u := Sy.rows u) (W := (Sy.rows u).length) (by omega) hu (k := i1a.toNat) (by omega)
                        by_cases hlt : i1a < (((Sy.rows u).length : Nat) : Int)
                        · have hx := hu i1a.toNat (by omega)
                          have hp := wr_put hs (u := Sy.rows u) (W := (Sy.rows u).length) (by omega) hu (k := i1a.toNat) (by omega)
                          rw [show ((i1a.toNat : Nat) : Int) = i1a by omega] at hp
                          have w1 : IntKind.wrap .i64 ((((Sy.rows t).length / 3 : Nat) : Int) + i1a) = (((Sy.rows t).length / 3 : Nat) : Int) + i1a := by have := wr_i64 ((((Sy.rows t).length / 3 : Nat) : Int) + i1a); omega
                          simp only [w1, hr] at *
                          omega
                        · have hk : i1a.toNat = (Sy.rows u).length := by omega
                          obtain ⟨v1, v2, v3, v4⟩ := std_vote hw (by omega) (by omega) (Nat.le_add_right _ _) (by omega)
                          rw [← hr] at v1 v2 v3
                          omega)
                    ·
                     have wf8 := wr_i64 (i1a + 1)
                     try simp only [hw7]
                     refine ⟨?_, ?_⟩
                     ·
                      have hb : ∀ j, j < (Sy.rows t).length / 3 → (0 ≤ c0 (Sy.rows t) j ∧ c0 (Sy.rows t) j ≤ 4294967295) ∧ (0 ≤ c1 (Sy.rows t) j ∧ c1 (Sy.rows t) j ≤ 4294967295) ∧ 0 ≤ c2 (Sy.rows t) j := fun j hj => by
                        obtain ⟨t1, t2, t3⟩ := typ_rowU hL_t hj
                        exact ⟨okR_u32 hc.2.1 (by omega) t1, okR_u32 hc.2.1 (by omega) t2, (okR_u32 hc.2.1 (by omega) t3).1⟩
                      have hu : ∀ j, j < (Sy.rows u).length → -9223372036854775808 ≤ Go.RowKit.intOf ((Sy.rows u).getD j Go.undef) ∧ Go.RowKit.intOf ((Sy.rows u).getD j Go.undef) ≤ 9223372036854775807 := fun j hj => okR_at hc.2.2 hj (typ_rowI hL_u hj)
                      have hs := rg_std (t := Sy.rows t) (r := r) (by omega) (by omega) (by omega) hb (Nat.le_refl _)
                      obtain ⟨g1, g2, g3⟩ := hi1
                      have hv := eqV_iff.1 g3
                      have hr : Sy.rows i1b = wrL (rgL (Sy.rows t) r ((Sy.rows t).length / 3)) ((Sy.rows t).length / 3) (Sy.rows u) i1a.toNat := by rw [hv]; simp only [rows_tup, List.toList_toArray]
                      clear hv g3
                      have hw := wr_std hs (u := Sy.rows u) (W := (Sy.rows u).length) (by omega) hu (k := i1a.toNat) (by omega)
                      have hx := hu i1a.toNat (by omega)
                      have hp := wr_put hs (u := Sy.rows u) (W := (Sy.rows u).length) (by omega) hu (k := i1a.toNat) (by omega)
                      rw [show ((i1a.toNat : Nat) : Int) = i1a by omega] at hp
                      have w1 : IntKind.wrap .i64 ((((Sy.rows t).length / 3 : Nat) : Int) + i1a) = (((Sy.rows t).length / 3 : Nat) : Int) + i1a := by have := wr_i64 ((((Sy.rows t).length / 3 : Nat) : Int) + i1a); omega
                      have e : IntKind.wrap .i64 (i1a + 1) = i1a + 1 := by omega
                      simp only [w1, hr, hp.2]
                      rw [e, show (i1a + 1).toNat = i1a.toNat + 1 by omega]
                      exact ⟨by omega, by omega, eqV_iff.2 rfl⟩
                     ·
                      omega
                ·
                 refine ⟨?_, fun h22 => ?_⟩
                 ·
                  first
                  | omega
                  | exact True.intro
                  | (
                     have hb : ∀ j, j < (Sy.rows t).length / 3 → (0 ≤ c0 (Sy.rows t) j ∧ c0 (Sy.rows t) j ≤ 4294967295) ∧ (0 ≤ c1 (Sy.rows t) j ∧ c1 (Sy.rows t) j ≤ 4294967295) ∧ 0 ≤ c2 (Sy.rows t) j := fun j hj => by
                       obtain ⟨t1, t2, t3⟩ := typ_rowU hL_t hj
                       exact ⟨okR_u32 hc.2.1 (by omega) t1, okR_u32 hc.2.1 (by omega) t2, (okR_u32 hc.2.1 (by omega) t3).1⟩
                     have hu : ∀ j, j < (Sy.rows u).length → -9223372036854775808 ≤ Go.RowKit.intOf ((Sy.rows u).getD j Go.undef) ∧ Go.RowKit.intOf ((Sy.rows u).getD j Go.undef) ≤ 9223372036854775807 := fun j hj => okR_at hc.2.2 hj (typ_rowI hL_u hj)
                     have hs := rg_std (t := Sy.rows t) (r := r) (by omega) (by omega) (by omega) hb (Nat.le_refl _)
                     obtain ⟨g1, g2, g3⟩ := hi1
                     have hv := eqV_iff.1 g3
                     have hr : Sy.rows i1b = wrL (rgL (Sy.rows t) r ((Sy.rows t).length / 3)) ((Sy.rows t).length / 3) (Sy.rows u) i1a.toNat := by rw [hv]; simp only [rows_tup, List.toList_toArray]
                     clear hv g3
                     have hw := wr_std hs (u := Sy.rows u) (W := (Sy.rows u).length) (by omega) hu (k := i1a.toNat) (by omega)
                     rw [hr]
                     first
                     | exact hw.inr
                     | (
                        have hx := hu i1a.toNat (by omega)
                        have hp := wr_put hs (u := Sy.rows u) (W := (Sy.rows u).length) (by omega) hu (k := i1a.toNat) (by omega)
                        rw [show ((i1a.toNat : Nat) : Int) = i1a by omega] at hp
                        have w1 : IntKind.wrap .i64 ((((Sy.rows t).length / 3 : Nat) : Int) + i1a) = (((Sy.rows t).length / 3 : Nat) : Int) + i1a := by have := wr_i64 ((((Sy.rows t).length / 3 : Nat) : Int) + i1a); omega
                        simp only [w1]
                        exact ⟨hw.inr, by omega, hx, hx⟩))
                 ·
                  refine ⟨fun h23 => ?_, fun h23 => ?_⟩
                  ·
                   refine ⟨fun h24 => ?_, fun h24 => ?_⟩
                   ·
                    refine ⟨fun h25 => ?_, fun h25 => ?_⟩
                    ·
                     first
                     | exact True.intro
                     | rfl
                     | (exfalso
                        have hb : ∀ j, j < (Sy.rows t).length / 3 → (0 ≤ c0 (Sy.rows t) j ∧ c0 (Sy.rows t) j ≤ 4294967295) ∧ (0 ≤ c1 (Sy.rows t) j ∧ c1 (Sy.rows t) j ≤ 4294967295) ∧ 0 ≤ c2 (Sy.rows t) j := fun j hj => by
                          obtain ⟨t1, t2, t3⟩ := typ_rowU hL_t hj
                          exact ⟨okR_u32 hc.2.1 (by omega) t1, okR_u32 hc.2.1 (by omega) t2, (okR_u32 hc.2.1 (by omega) t3).1⟩
                        have hu : ∀ j, j < (Sy.rows u).length → -9223372036854775808 ≤ Go.RowKit.intOf ((Sy.rows u).getD j Go.undef) ∧ Go.RowKit.intOf ((Sy.rows u).getD j Go.undef) ≤ 9223372036854775807 := fun j hj => okR_at hc.2.2 hj (typ_rowI hL_u hj)
                        have hs := rg_std (t := Sy.rows t) (r := r) (by omega) (by omega) (by omega) hb (Nat.le_refl _)
                        obtain ⟨g1, g2, g3⟩ := hi1
                        have hv := eqV_iff.1 g3
                        have hr : Sy.rows i1b = wrL (rgL (Sy.rows t) r ((Sy.rows t).length / 3)) ((Sy.rows t).length / 3) (Sy.rows u) i1a.toNat := by rw [hv]; simp only [rows_tup, List.toList_toArray]
                        clear hv g3
                        have hw := wr_std hs (u := Sy.rows u) (W := (Sy.rows u).length) (by omega) hu (k := i1a.toNat) (by omega)
                        by_cases hlt : i1a < (((Sy.rows u).length : Nat) : Int)
                        · have hx := hu i1a.toNat (by omega)
                          have hp := wr_put hs (u := Sy.rows u) (W := (Sy.rows u).length) (by omega) hu (k := i1a.toNat) (by omega)
                          rw [show ((i1a.toNat : Nat) : Int) = i1a by omega] at hp
                          have w1 : IntKind.wrap .i64 ((((Sy.rows t).length / 3 : Nat) : Int) + i1a) = (((Sy.rows t).length / 3 : Nat) : Int) + i1a := by have := wr_i64 ((((Sy.rows t).length / 3 : Nat) : Int) + i1a); omega
                          simp only [w1, hr] at *
                          omega
                        · have hk : i1a.toNat = (Sy.rows u).length := by omega
                          obtain ⟨v1, v2, v3, v4⟩ := std_vote hw (by omega) (by omega) (Nat.le_add_right _ _) (by omega)
                          rw [← hr] at v1 v2 v3
                          omega)
                    ·
                     first
                     | exact True.intro
                     | rfl
                     | (exfalso
                        have hb : ∀ j, j < (Sy.rows t).length / 3 → (0 ≤ c0 (Sy.rows t) j ∧ c0 (Sy.rows t) j ≤ 4294967295) ∧ (0 ≤ c1 (Sy.rows t) j ∧ c1 (Sy.rows t) j ≤ 4294967295) ∧ 0 ≤ c2 (Sy.rows t) j := fun j hj => by
                          obtain ⟨t1, t2, t3⟩ := typ_rowU hL_t hj
                          exact ⟨okR_u32 hc.2.1 (by omega) t1, okR_u32 hc.2.1 (by omega) t2, (okR_u32 hc.2.1 (by omega) t3).1⟩
                        have hu : ∀ j, j < (Sy.rows u).length → -9223372036854775808 ≤ Go.RowKit.intOf ((Sy.rows u).getD j Go.undef) ∧ Go.RowKit.intOf ((Sy.rows u).getD j Go.undef) ≤ 9223372036854775807 := fun j hj => okR_at hc.2.2 hj (typ_rowI hL_u hj)
                        have hs := rg_std (t := Sy.rows t) (r := r) (by omega) (by omega) (by omega) hb (Nat.le_refl _)
                        obtain ⟨g1, g2, g3⟩ := hi1
                        have hv := eqV_iff.1 g3
                        have hr : Sy.rows i1b = wrL (rgL (Sy.rows t) r ((Sy.rows t).length / 3)) ((Sy.rows t).length / 3) (Sy.rows u) i1a.toNat := by rw [hv]; simp only [rows_tup, List.toList_toArray]
                        clear hv g3
                        have hw := wr_std hs (u := Sy.rows u) (W := (Sy.rows u).length) (by omega) hu (k := i1a.toNat) (by omega)
                        by_cases hlt : i1a < (((Sy.rows u).length : Nat) : Int)
                        · have hx := hu i1a.toNat (by omega)
                          have hp := wr_put hs (u := Sy.rows u) (W := (Sy.rows u).length) (by omega) hu (k := i1a.toNat) (by omega)
                          rw [show ((i1a.toNat : Nat) : Int) = i1a by omega] at hp
                          have w1 : IntKind.wrap .i64 ((((Sy.rows t).length / 3 : Nat) : Int) + i1a) = (((Sy.rows t).length / 3 : Nat) : Int) + i1a := by have := wr_i64 ((((Sy.rows t).length / 3 : Nat) : Int) + i1a); omega
                          simp only [w1, hr] at *
                          omega
                        · have hk : i1a.toNat = (Sy.rows u).length := by omega
                          obtain ⟨v1, v2, v3, v4⟩ := std_vote hw (by omega) (by omega) (Nat.le_add_right _ _) (by omega)
                          rw [← hr] at v1 v2 v3
                          omega)
                   ·
                    first
                    | exact True.intro
                    | rfl
                    | (exfalso
                       have hb : ∀ j, j < (Sy.rows t).length / 3 → (0 ≤ c0 (Sy.rows t) j ∧ c0 (Sy.rows t) j ≤ 4294967295) ∧ (0 ≤ c1 (Sy.rows t) j ∧ c1 (Sy.rows t) j ≤ 4294967295) ∧ 0 ≤ c2 (Sy.rows t) j := fun j hj => by
                         obtain ⟨t1, t2, t3⟩ := typ_rowU hL_t hj
                         exact ⟨okR_u32 hc.2.1 (by omega) t1, okR_u32 hc.2.1 (by omega) t2, (okR_u32 hc.2.1 (by omega) t3).1⟩
                       have hu : ∀ j, j < (Sy.rows u).length → -9223372036854775808 ≤ Go.RowKit.intOf ((Sy.rows u).getD j Go.undef) ∧ Go.RowKit.intOf ((Sy.rows u).getD j Go.undef) ≤ 9223372036854775807 := fun j hj => okR_at hc.2.2 hj (typ_rowI hL_u hj)
                       have hs := rg_std (t := Sy.rows t) (r := r) (by omega) (by omega) (by omega) hb (Nat.le_refl _)
                       obtain ⟨g1, g2, g3⟩ := hi1
                       have hv := eqV_iff.1 g3
                       have hr : Sy.rows i1b = wrL (rgL (Sy.rows t) r ((Sy.rows t).length / 3)) ((Sy.rows t).length / 3) (Sy.rows u) i1a.toNat := by rw [hv]; simp only [rows_tup, List.toList_toArray]
                       clear hv g3
                       have hw := wr_std hs (u := Sy.rows u) (W := (Sy.rows u).length) (by omega) hu (k := i1a.toNat) (by omega)
                       by_cases hlt : i1a < (((Sy.rows u).length : Nat) : Int)
                       · have hx := hu i1a.toNat (by omega)
                         have hp := wr_put hs (u := Sy.rows u) (W := (Sy.rows u).length) (by omega) hu (k := i1a.toNat) (by omega)
                         rw [show ((i1a.toNat : Nat) : Int) = i1a by omega] at hp
                         have w1 : IntKind.wrap .i64 ((((Sy.rows t).length / 3 : Nat) : Int) + i1a) = (((Sy.rows t).length / 3 : Nat) : Int) + i1a := by have := wr_i64 ((((Sy.rows t).length / 3 : Nat) : Int) + i1a); omega
                         simp only [w1, hr] at *
                         omega
                       · have hk : i1a.toNat = (Sy.rows u).length := by omega
                         obtain ⟨v1, v2, v3, v4⟩ := std_vote hw (by omega) (by omega) (Nat.le_add_right _ _) (by omega)
                         rw [← hr] at v1 v2 v3
                         omega)
                  ·
                   first
                   | exact True.intro
                   | rfl
                   | (exfalso
                      have hb : ∀ j, j < (Sy.rows t).length / 3 → (0 ≤ c0 (Sy.rows t) j ∧ c0 (Sy.rows t) j ≤ 4294967295) ∧ (0 ≤ c1 (Sy.rows t) j ∧ c1 (Sy.rows t) j ≤ 4294967295) ∧ 0 ≤ c2 (Sy.rows t) j := fun j hj => by
                        obtain ⟨t1, t2, t3⟩ := typ_rowU hL_t hj
                        exact ⟨okR_u32 hc.2.1 (by omega) t1, okR_u32 hc.2.1 (by omega) t2, (okR_u32 hc.2.1 (by omega) t3).1⟩
                      have hu : ∀ j, j < (Sy.rows u).length → -9223372036854775808 ≤ Go.RowKit.intOf ((Sy.rows u).getD j Go.undef) ∧ Go.RowKit.intOf ((Sy.rows u).getD j Go.undef) ≤ 9223372036854775807 := fun j hj => okR_at hc.2.2 hj (typ_rowI hL_u hj)
                      have hs := rg_std (t := Sy.rows t) (r := r) (by omega) (by omega) (by omega) hb (Nat.le_refl _)
                      obtain ⟨g1, g2, g3⟩ := hi1
                      have hv := eqV_iff.1 g3
                      have hr : Sy.rows i1b = wrL (rgL (Sy.rows t) r ((Sy.rows t).length / 3)) ((Sy.rows t).length / 3) (Sy.rows u) i1a.toNat := by rw [hv]; simp only [rows_tup, List.toList_toArray]
                      clear hv g3
                      have hw := wr_std hs (u := Sy.rows u) (W := (Sy.rows u).length) (by omega) hu (k := i1a.toNat) (by omega)
                      by_cases hlt : i1a < (((Sy.rows u).length : Nat) : Int)
                      · have hx := hu i1a.toNat (by omega)
                        have hp := wr_put hs (u := Sy.rows u) (W := (Sy.rows u).length) (by omega) hu (k := i1a.toNat) (by omega)
                        rw [show ((i1a.toNat : Nat) : Int) = i1a by omega] at hp
                        have w1 : IntKind.wrap .i64 ((((Sy.rows t).length / 3 : Nat) : Int) + i1a) = (((Sy.rows t).length / 3 : Nat) : Int) + i1a := by have := wr_i64 ((((Sy.rows t).length / 3 : Nat) : Int) + i1a); omega
                        simp only [w1, hr] at *
                        omega
                      · have hk : i1a.toNat = (Sy.rows u).length := by omega
                        obtain ⟨v1, v2, v3, v4⟩ := std_vote hw (by omega) (by omega) (Nat.le_add_right _ _) (by omega)
                        rw [← hr] at v1 v2 v3
                        omega)
theorem fgg_wRight : fgc_wRight.Good Tryd.prog syG (fgE [] [] [] []) := good_of_walk (Γ := ⟨[fec_sure15, fac_fput, fdc_best, wc_has, fec_num], syG, [], [], []⟩) (ρ := fgE [] [] [] []) sym wRight_w rfl (fun _ _ _ _ => (ok_cons (Con.Good.env (Con.Good.up (Con.Good.up feg_sure15 ffup rfl) fgup rfl) _ _ _ _) (ok_cons (Con.Good.env (Con.Good.up (Con.Good.up (Con.Good.up (Con.Good.up (Con.Good.up (Con.Good.up fag_fput fbup rfl) fcup rfl) fdup rfl) feup rfl) ffup rfl) fgup rfl) _ _ _ _) (ok_cons (Con.Good.env (Con.Good.up (Con.Good.up (Con.Good.up fdg_best feup rfl) ffup rfl) fgup rfl) _ _ _ _) (ok_cons (Con.Good.env (Con.Good.up (Con.Good.up (Con.Good.up (Con.Good.up (Con.Good.up (Con.Good.up (Con.Good.up (Con.Good.up (Con.Good.up (Con.Good.up (Con.Good.up (Con.Good.up wg_has wbup rfl) wcup rfl) wdup rfl) weup rfl) wfup rfl) faup rfl) fbup rfl) fcup rfl) fdup rfl) feup rfl) ffup rfl) fgup rfl) _ _ _ _) (ok_cons (Con.Good.env (Con.Good.up (Con.Good.up feg_num ffup rfl) fgup rfl) _ _ _ _) ok_nil)))))) (fun r t u hc hty => wRight_h r t u hc hty)
end Go.Proofs.YtflckmhlobpfiaaDoor
