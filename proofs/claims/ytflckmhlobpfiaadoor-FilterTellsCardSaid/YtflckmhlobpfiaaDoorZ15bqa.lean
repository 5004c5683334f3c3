import Derived.Test.YtflckmhlobpfiaaDoorSycqa
import Derived.Test.YtflckmhlobpfiaaDoorZ15qa
/-
  Layer 15 by the second engine: the reference puts an entry.
-/
namespace Go.Proofs.YtflckmhlobpfiaaDoor
open Go.RowKit Go.Extern.Stop Go.Stop Go.Extern Go.Proofs.YtflckmhlobpfiaaDoor.Sy
set_option linter.unusedVariables false
set_option linter.unusedSimpArgs false
abbrev rowF (l : List Value) (k : Nat) : List Value := [l.getD (k * 4) Go.undef, l.getD (k * 4 + 1) Go.undef, l.getD (k * 4 + 2) Go.undef, l.getD (k * 4 + 3) Go.undef]
theorem take4 {l : List Value} {n : Nat} (h : n * 4 + 3 < l.length) : l.take ((n + 1) * 4) = l.take (n * 4) ++ rowF l n := by
  have e : ∀ k, k < l.length → l.take (k + 1) = l.take k ++ [l.getD k Go.undef] := fun k hk => by
    rw [List.take_add_one, List.getD_eq_getElem?_getD, List.getElem?_eq_getElem hk]; rfl
  rw [show (n + 1) * 4 = n * 4 + 1 + 1 + 1 + 1 by omega, e _ (by omega), e _ (by omega), e _ (by omega), e _ (by omega)]
  simp only [List.append_assoc, List.cons_append, List.nil_append]
theorem rowF_int {l : Value} (h : typ (.sl KE) l) {k : Nat} (hk : k < (Sy.rows l).length / 4) : [Value.int .i64 (Go.RowKit.intOf ((Sy.rows l).getD (k * 4) Go.undef)), Value.int .i64 (Go.RowKit.intOf ((Sy.rows l).getD (k * 4 + 1) Go.undef)), Value.int .i64 (Go.RowKit.intOf ((Sy.rows l).getD (k * 4 + 2) Go.undef)), Value.int .i64 (Go.RowKit.intOf ((Sy.rows l).getD (k * 4 + 3) Go.undef))] = rowF (Sy.rows l) k := by
  obtain ⟨h1, h2, h3, h4⟩ := typ_row4 h hk
  rw [← h1, ← h2, ← h3, ← h4]
theorem src_mono {l : List Value} {N : Nat} (ho : okF l N = true) : ∀ {i j : Nat}, j < i → i < N → Go.RowKit.intOf (l.getD (j * 4) Go.undef) < Go.RowKit.intOf (l.getD (i * 4) Go.undef)
  | 0, _, h, _ => by omega
  | i + 1, j, h, hi => by
    have h1 := (fineE_iff.1 (okF_get ho hi)).1
    have e : leastS l (i + 1) = Go.RowKit.intOf (l.getD (i * 4) Go.undef) + 1 := rfl
    rcases Nat.lt_succ_iff_lt_or_eq.1 h with h2 | rfl
    · have := src_mono ho h2 (show i < N by omega)
      omega
    · omega
theorem inF_spec (l : List Value) (s : Int) : inF l s ≤ l.length / 4 ∧ (∀ j, j < inF l s → Go.RowKit.intOf (l.getD (j * 4) Go.undef) < s) ∧ (inF l s < l.length / 4 → s ≤ Go.RowKit.intOf (l.getD (inF l s * 4) Go.undef)) := by
  unfold inF
  rcases ixF_spec l s (l.length / 4) with ⟨h1, h2⟩ | ⟨k, h1, h2, h3, h4⟩
  · rw [if_pos (by omega)]
    exact ⟨Nat.le_refl _, h2, fun h => absurd h (Nat.lt_irrefl _)⟩
  · rw [if_neg (by omega), h2]
    simp only [Int.toNat_natCast]
    exact ⟨by omega, h4, fun _ => h3⟩
theorem eqF_spec (l : List Value) (s : Int) : (eqF l s = 1 ∧ inF l s < l.length / 4 ∧ Go.RowKit.intOf (l.getD (inF l s * 4) Go.undef) = s) ∨ (eqF l s = 0 ∧ ¬ (inF l s < l.length / 4 ∧ Go.RowKit.intOf (l.getD (inF l s * 4) Go.undef) = s)) := by
  unfold eqF
  by_cases h : inF l s < l.length / 4 ∧ Go.RowKit.intOf (l.getD (inF l s * 4) Go.undef) = s
  · rw [if_pos h]; exact .inl ⟨rfl, h⟩
  · rw [if_neg h]; exact .inr ⟨rfl, h⟩
/-- what is put so far -/
def rpL (l : List Value) (a b c d : Int) (k : Nat) : List Value := if inF l a < k then l.take (inF l a * 4) ++ ent a b c d ++ (l.take (k * 4)).drop ((inF l a + eqF l a) * 4) else l.take (k * 4)
noncomputable def rpB (v : Value) (l : List Value) (a b c d : Int) (k : Nat) : Bool := eqV v (.tuple (rpL l a b c d k).toArray)
theorem rp_low {l : List Value} {a b c d : Int} {k : Nat} (hk : k * 4 + 3 < l.length) (h : ¬ inF l a < k + 1) : rpL l a b c d (k + 1) = rpL l a b c d k ++ rowF l k := by
  unfold rpL
  rw [if_neg h, if_neg (by omega), take4 hk]
theorem rp_eq {l : List Value} {a b c d : Int} {k : Nat} (h : inF l a = k) (he : eqF l a = 1) : rpL l a b c d (k + 1) = rpL l a b c d k ++ ent a b c d := by
  unfold rpL
  rw [if_pos (by omega), if_neg (by omega), h, he, List.drop_eq_nil_of_le (by rw [List.length_take]; omega), List.append_nil]
theorem rp_new {l : List Value} {a b c d : Int} {k : Nat} (hk : k * 4 + 3 < l.length) (h : inF l a = k) (he : eqF l a = 0) : rpL l a b c d (k + 1) = rpL l a b c d k ++ ent a b c d ++ rowF l k := by
  unfold rpL
  rw [if_pos (by omega), if_neg (by omega), h, he, Nat.add_zero, take4 hk, List.drop_append_of_le_length (by rw [List.length_take]; omega), List.drop_eq_nil_of_le (by rw [List.length_take]; omega), List.nil_append]
theorem rp_high {l : List Value} {a b c d : Int} {k : Nat} (hk : k * 4 + 3 < l.length) (h : inF l a < k) (he : eqF l a ≤ 1) : rpL l a b c d (k + 1) = rpL l a b c d k ++ rowF l k := by
  unfold rpL
  rw [if_pos (by omega), if_pos h, take4 hk, List.drop_append_of_le_length (by rw [List.length_take]; omega)]
  simp only [List.append_assoc]
theorem rp_end {l : List Value} {a b c d : Int} {N : Nat} (hN : l.length = N * 4) (h : inF l a < N) : rpL l a b c d N = l.take (inF l a * 4) ++ ent a b c d ++ l.drop ((inF l a + eqF l a) * 4) := by
  unfold rpL
  rw [if_pos h, List.take_of_length_le (i := N * 4) (by omega)]
theorem rp_last {l : List Value} {a b c d : Int} {N : Nat} (hN : l.length = N * 4) (h : inF l a = N) (he : eqF l a = 0) : rpL l a b c d N ++ ent a b c d = l.take (inF l a * 4) ++ ent a b c d ++ l.drop ((inF l a + eqF l a) * 4) := by
  unfold rpL
  rw [if_neg (by omega), h, he, Nat.add_zero, List.drop_eq_nil_of_le (by omega), List.append_nil]
theorem rp_len (l : List Value) (a b c d : Int) (k : Nat) : (rpL l a b c d k).length ≤ l.length + 4 + l.length := by
  unfold rpL
  split
  · simp only [List.length_append, List.length_take, List.length_drop, List.length_cons, List.length_nil]; omega
  · simp only [List.length_take]; omega
noncomputable def fbI : Nat → List Value → Int
  | i, l => faI i l
noncomputable def fbB : Nat → List Value → Bool
  | 6, [v, l, .int _ a, .int _ b, .int _ c, .int _ d, .int _ k] => rpB v (rows l) a b c d k.toNat
  | 7, [l, .int _ a, .int _ k] => decide (inF (rows l) a < k.toNat)
  | i, l => faB i l
noncomputable def fbV : Nat → List Value → Value
  | i, l => faV i l
noncomputable abbrev fbE (iv : List Int) (bv : List Bool) (vv : List Value) (sv : List ByteArray) : Env := { iv := iv, bv := bv, vv := vv, sv := sv, fi := fbI, fb := fbB, fv := fbV, et := 141 }
theorem fbup : Agree 21 6 1 (faE [] [] [] []) (fbE [] [] [] []) := ⟨rfl, (by
    intro f hf
    funext l
    show fbI f l = faI f l
    unfold fbI
    split <;> first | rfl | omega), (by
    intro f hf
    funext l
    show fbB f l = faB f l
    unfold fbB
    split <;> first | rfl | omega), (by
    intro f hf
    funext l
    show fbV f l = faV f l
    unfold fbV
    split <;> first | rfl | omega)⟩
theorem fbi_of (l : Value) (k1 : IntKind) (n : Int) (k2 : IntKind) (k : Int) : fbI 0 [l, .int k1 n, .int k2 k] = ((ofN (rows l) n k.toNat : Nat) : Int) := rfl
theorem fbi_arh (l : Value) (k1 : IntKind) (n : Int) (k2 : IntKind) (k : Int) : fbI 1 [l, .int k1 n, .int k2 k] = arH (rows l) n k.toNat := rfl
theorem fbi_fb (l : Value) (k1 : IntKind) (k : Int) : fbI 2 [l, .int k1 k] = fbW (rows l) k.toNat := rfl
theorem fbi_se (k1 : IntKind) (a : Int) (k2 : IntKind) (b : Int) : fbI 3 [.int k1 a, .int k2 b] = spE a b := rfl
theorem fbi_vm (l : Value) (k1 : IntKind) (k : Int) : fbI 4 [l, .int k1 k] = (((vo (rows l) ((rows l).length / 2) k.toNat).1 : Nat) : Int) := rfl
theorem fbi_vl (l : Value) (k1 : IntKind) (k : Int) : fbI 5 [l, .int k1 k] = (vo (rows l) ((rows l).length / 2) k.toNat).2.1 := rfl
theorem fbi_vh (l : Value) (k1 : IntKind) (k : Int) : fbI 6 [l, .int k1 k] = (vo (rows l) ((rows l).length / 2) k.toNat).2.2 := rfl
theorem fbi_vE (l : Value) : fbI 7 [l] = voE (rows l) := rfl
theorem fbi_vM (l : Value) : fbI 8 [l] = (((voR (rows l)).1 : Nat) : Int) := rfl
theorem fbi_vL (l : Value) : fbI 9 [l] = (voR (rows l)).2.1 := rfl
theorem fbi_vH (l : Value) : fbI 10 [l] = (voR (rows l)).2.2 := rfl
theorem fbi_aa (l : Value) (k1 : IntKind) (k : Int) : fbI 11 [l, .int k1 k] = (atS (rows l) ((rows l).length / 2) k.toNat).2 := rfl
theorem fbi_mi (k1 : IntKind) (a : Int) (k2 : IntKind) (b : Int) : fbI 12 [.int k1 a, .int k2 b] = midM a b := rfl
theorem fbi_sa (k1 : IntKind) (a : Int) : fbI 13 [.int k1 a] = satE a := rfl
theorem fbi_nv (k1 : IntKind) (a : Int) : fbI 14 [.int k1 a] = svE a := rfl
theorem fbi_ne (k1 : IntKind) (a : Int) : fbI 15 [.int k1 a] = erE a := rfl
theorem fbi_sz (k1 : IntKind) (a : Int) : fbI 16 [.int k1 a] = szE a := rfl
theorem fbi_lst (l : Value) (k1 : IntKind) (k : Int) : fbI 17 [l, .int k1 k] = leastS (rows l) k.toNat := rfl
theorem fbi_chk (l : Value) : fbI 18 [l] = chkF (rows l) := rfl
theorem fbi_ix (l : Value) (k1 : IntKind) (s : Int) (k2 : IntKind) (k : Int) : fbI 19 [l, .int k1 s, .int k2 k] = ixF (rows l) s k.toNat := rfl
theorem fbi_pE (l : Value) (k1 : IntKind) (a : Int) (k2 : IntKind) (b : Int) (k3 : IntKind) (c : Int) (k4 : IntKind) (d : Int) : fbI 20 [l, .int k1 a, .int k2 b, .int k3 c, .int k4 d] = putE (rows l) a b c d := rfl
theorem fbb_pre (l : Value) (k1 : IntKind) (k : Int) : fbB 0 [l, .int k1 k] = preW (rows l) k.toNat := rfl
theorem fbb_sm (l : Value) (k1 : IntKind) (a : Int) (k2 : IntKind) (b : Int) (k3 : IntKind) (k : Int) : fbB 1 [l, .int k1 a, .int k2 b, .int k3 k] = smB (rows l) a b k.toNat := rfl
theorem fbb_ai (l : Value) (k1 : IntKind) (k : Int) : fbB 2 [l, .int k1 k] = (atS (rows l) ((rows l).length / 2) k.toNat).1 := rfl
theorem fbb_tk (x : Value) (y : Value) (k1 : IntKind) (n : Int) : fbB 3 [x, y, .int k1 n] = eqV x (tkV y n.toNat) := rfl
theorem fbb_okr (l : Value) : fbB 4 [l] = okR (rows l) := rfl
theorem fbb_okf (l : Value) (k1 : IntKind) (k : Int) : fbB 5 [l, .int k1 k] = okF (rows l) k.toNat := rfl
theorem fbb_rp (v : Value) (l : Value) (k1 : IntKind) (a : Int) (k2 : IntKind) (b : Int) (k3 : IntKind) (c : Int) (k4 : IntKind) (d : Int) (k5 : IntKind) (k : Int) : fbB 6 [v, l, .int k1 a, .int k2 b, .int k3 c, .int k4 d, .int k5 k] = rpB v (rows l) a b c d k.toNat := rfl
theorem fbb_rd (l : Value) (k1 : IntKind) (a : Int) (k2 : IntKind) (k : Int) : fbB 7 [l, .int k1 a, .int k2 k] = decide (inF (rows l) a < k.toNat) := rfl
theorem fbv_pV (l : Value) (k1 : IntKind) (a : Int) (k2 : IntKind) (b : Int) (k3 : IntKind) (c : Int) (k4 : IntKind) (d : Int) : fbV 0 [l, .int k1 a, .int k2 b, .int k3 c, .int k4 d] = Value.tuple (putV (rows l) a b c d).toArray := rfl
def frput_tree : Tree :=
 (.br (.not (.b2 .eq (.iapp 18 (.cons (.opq 0) .nil)) (.lit (0))))
 (.ret (.tup (.cons (.agg (.cons (.hs .no (.cons (.int .i64) (.cons (.int .i64) (.cons (.int .i64) (.cons (.int .i64) .nil)))) (.tup .nil)) .nil)) (.cons (.int .i64 (.lit (1))) .nil))))
 (.br (.not (.b2 .eq (.iapp 18 (.cons (.tup (.cons (.int .i64 (.var 0)) (.cons (.int .i64 (.var 1)) (.cons (.int .i64 (.var 2)) (.cons (.int .i64 (.var 3)) .nil))))) .nil)) (.lit (0))))
 (.ret (.tup (.cons (.agg (.cons (.hs .no (.cons (.int .i64) (.cons (.int .i64) (.cons (.int .i64) (.cons (.int .i64) .nil)))) (.tup .nil)) .nil)) (.cons (.int .i64 (.lit (1))) .nil))))
 (.loop ⟨1, 1, 1, 0⟩ (.b2 .and (.b2 .le (.lit (0)) (.lit (0))) (.b2 .and (.b2 .le (.lit (0)) (.ofI (.vop (.len 4) (.cons (.opq 0) .nil)))) (.b2 .and (.bapp 6 (.cons (.tup .nil) (.cons (.opq 0) (.cons (.int .i64 (.var 0)) (.cons (.int .i64 (.var 1)) (.cons (.int .i64 (.var 2)) (.cons (.int .i64 (.var 3)) (.cons (.int .i64 (.lit (0))) .nil)))))))) (.b2 .beq (.tt false) (.bapp 7 (.cons (.opq 0) (.cons (.int .i64 (.var 0)) (.cons (.int .i64 (.lit (0))) .nil)))))))) (.b2 .and (.b2 .le (.lit (0)) (.var 4)) (.b2 .and (.b2 .le (.var 4) (.ofI (.vop (.len 4) (.cons (.opq 0) .nil)))) (.b2 .and (.bapp 6 (.cons (.opq 1) (.cons (.opq 0) (.cons (.int .i64 (.var 0)) (.cons (.int .i64 (.var 1)) (.cons (.int .i64 (.var 2)) (.cons (.int .i64 (.var 3)) (.cons (.int .i64 (.var 4)) .nil)))))))) (.b2 .beq (.bvar 0) (.bapp 7 (.cons (.opq 0) (.cons (.int .i64 (.var 0)) (.cons (.int .i64 (.var 4)) .nil))))))))
 (.br (.b2 .lt (.var 4) (.ofI (.vop (.len 4) (.cons (.opq 0) .nil))))
 (.need (.b2 .and (.b2 .le (.lit (0)) (.var 4)) (.b2 .lt (.var 4) (.ofI (.vop (.len 4) (.cons (.opq 0) .nil)))))
 (.br (.b2 .le (.var 0) (.ofI (.vop (.sel 4 0) (.cons (.opq 0) (.cons (.int .i64 (.var 4)) .nil)))))
 (.br (.not (.bvar 0))
 (.need (.b2 .le (.i2 .add (.ofI (.vop (.len 4) (.cons (.opq 1) .nil))) (.lit (1))) (.lit (4398046511104)))
 (.need (.b2 .and (.b2 .le (.lit (0)) (.var 4)) (.b2 .lt (.var 4) (.ofI (.vop (.len 4) (.cons (.opq 0) .nil)))))
 (.br (.not (.b2 .eq (.ofI (.vop (.sel 4 0) (.cons (.opq 0) (.cons (.int .i64 (.var 4)) .nil)))) (.var 0)))
 (.need (.b2 .and (.b2 .le (.lit (0)) (.var 4)) (.b2 .lt (.var 4) (.ofI (.vop (.len 4) (.cons (.opq 0) .nil)))))
 (.need (.b2 .le (.i2 .add (.ofI (.vop (.len 4) (.cons (.vop .cat (.cons (.opq 1) (.cons (.tup (.cons (.int .i64 (.var 0)) (.cons (.int .i64 (.var 1)) (.cons (.int .i64 (.var 2)) (.cons (.int .i64 (.var 3)) .nil))))) .nil))) .nil))) (.lit (1))) (.lit (4398046511104)))
 (.back (.b2 .and (.b2 .le (.lit (0)) (.wrap .i64 (.i2 .add (.var 4) (.lit (1))))) (.b2 .and (.b2 .le (.wrap .i64 (.i2 .add (.var 4) (.lit (1)))) (.ofI (.vop (.len 4) (.cons (.opq 0) .nil)))) (.b2 .and (.bapp 6 (.cons (.vop .cat (.cons (.vop .cat (.cons (.opq 1) (.cons (.tup (.cons (.int .i64 (.var 0)) (.cons (.int .i64 (.var 1)) (.cons (.int .i64 (.var 2)) (.cons (.int .i64 (.var 3)) .nil))))) .nil))) (.cons (.tup (.cons (.int .i64 (.ofI (.vop (.sel 4 0) (.cons (.opq 0) (.cons (.int .i64 (.var 4)) .nil))))) (.cons (.int .i64 (.ofI (.vop (.sel 4 1) (.cons (.opq 0) (.cons (.int .i64 (.var 4)) .nil))))) (.cons (.int .i64 (.ofI (.vop (.sel 4 2) (.cons (.opq 0) (.cons (.int .i64 (.var 4)) .nil))))) (.cons (.int .i64 (.ofI (.vop (.sel 4 3) (.cons (.opq 0) (.cons (.int .i64 (.var 4)) .nil))))) .nil))))) .nil))) (.cons (.opq 0) (.cons (.int .i64 (.var 0)) (.cons (.int .i64 (.var 1)) (.cons (.int .i64 (.var 2)) (.cons (.int .i64 (.var 3)) (.cons (.int .i64 (.wrap .i64 (.i2 .add (.var 4) (.lit (1))))) .nil)))))))) (.b2 .beq (.tt true) (.bapp 7 (.cons (.opq 0) (.cons (.int .i64 (.var 0)) (.cons (.int .i64 (.wrap .i64 (.i2 .add (.var 4) (.lit (1))))) .nil)))))))) (.i2 .sub (.ofI (.vop (.len 4) (.cons (.opq 0) .nil))) (.wrap .i64 (.i2 .add (.var 4) (.lit (1))))) (.i2 .sub (.ofI (.vop (.len 4) (.cons (.opq 0) .nil))) (.var 4)))))
 (.back (.b2 .and (.b2 .le (.lit (0)) (.wrap .i64 (.i2 .add (.var 4) (.lit (1))))) (.b2 .and (.b2 .le (.wrap .i64 (.i2 .add (.var 4) (.lit (1)))) (.ofI (.vop (.len 4) (.cons (.opq 0) .nil)))) (.b2 .and (.bapp 6 (.cons (.vop .cat (.cons (.opq 1) (.cons (.tup (.cons (.int .i64 (.var 0)) (.cons (.int .i64 (.var 1)) (.cons (.int .i64 (.var 2)) (.cons (.int .i64 (.var 3)) .nil))))) .nil))) (.cons (.opq 0) (.cons (.int .i64 (.var 0)) (.cons (.int .i64 (.var 1)) (.cons (.int .i64 (.var 2)) (.cons (.int .i64 (.var 3)) (.cons (.int .i64 (.wrap .i64 (.i2 .add (.var 4) (.lit (1))))) .nil)))))))) (.b2 .beq (.tt true) (.bapp 7 (.cons (.opq 0) (.cons (.int .i64 (.var 0)) (.cons (.int .i64 (.wrap .i64 (.i2 .add (.var 4) (.lit (1))))) .nil)))))))) (.i2 .sub (.ofI (.vop (.len 4) (.cons (.opq 0) .nil))) (.wrap .i64 (.i2 .add (.var 4) (.lit (1))))) (.i2 .sub (.ofI (.vop (.len 4) (.cons (.opq 0) .nil))) (.var 4))))))
 (.need (.b2 .and (.b2 .le (.lit (0)) (.var 4)) (.b2 .lt (.var 4) (.ofI (.vop (.len 4) (.cons (.opq 0) .nil)))))
 (.br (.not (.b2 .eq (.ofI (.vop (.sel 4 0) (.cons (.opq 0) (.cons (.int .i64 (.var 4)) .nil)))) (.var 0)))
 (.need (.b2 .and (.b2 .le (.lit (0)) (.var 4)) (.b2 .lt (.var 4) (.ofI (.vop (.len 4) (.cons (.opq 0) .nil)))))
 (.need (.b2 .le (.i2 .add (.ofI (.vop (.len 4) (.cons (.opq 1) .nil))) (.lit (1))) (.lit (4398046511104)))
 (.back (.b2 .and (.b2 .le (.lit (0)) (.wrap .i64 (.i2 .add (.var 4) (.lit (1))))) (.b2 .and (.b2 .le (.wrap .i64 (.i2 .add (.var 4) (.lit (1)))) (.ofI (.vop (.len 4) (.cons (.opq 0) .nil)))) (.b2 .and (.bapp 6 (.cons (.vop .cat (.cons (.opq 1) (.cons (.tup (.cons (.int .i64 (.ofI (.vop (.sel 4 0) (.cons (.opq 0) (.cons (.int .i64 (.var 4)) .nil))))) (.cons (.int .i64 (.ofI (.vop (.sel 4 1) (.cons (.opq 0) (.cons (.int .i64 (.var 4)) .nil))))) (.cons (.int .i64 (.ofI (.vop (.sel 4 2) (.cons (.opq 0) (.cons (.int .i64 (.var 4)) .nil))))) (.cons (.int .i64 (.ofI (.vop (.sel 4 3) (.cons (.opq 0) (.cons (.int .i64 (.var 4)) .nil))))) .nil))))) .nil))) (.cons (.opq 0) (.cons (.int .i64 (.var 0)) (.cons (.int .i64 (.var 1)) (.cons (.int .i64 (.var 2)) (.cons (.int .i64 (.var 3)) (.cons (.int .i64 (.wrap .i64 (.i2 .add (.var 4) (.lit (1))))) .nil)))))))) (.b2 .beq (.bvar 0) (.bapp 7 (.cons (.opq 0) (.cons (.int .i64 (.var 0)) (.cons (.int .i64 (.wrap .i64 (.i2 .add (.var 4) (.lit (1))))) .nil)))))))) (.i2 .sub (.ofI (.vop (.len 4) (.cons (.opq 0) .nil))) (.wrap .i64 (.i2 .add (.var 4) (.lit (1))))) (.i2 .sub (.ofI (.vop (.len 4) (.cons (.opq 0) .nil))) (.var 4)))))
 (.back (.b2 .and (.b2 .le (.lit (0)) (.wrap .i64 (.i2 .add (.var 4) (.lit (1))))) (.b2 .and (.b2 .le (.wrap .i64 (.i2 .add (.var 4) (.lit (1)))) (.ofI (.vop (.len 4) (.cons (.opq 0) .nil)))) (.b2 .and (.bapp 6 (.cons (.opq 1) (.cons (.opq 0) (.cons (.int .i64 (.var 0)) (.cons (.int .i64 (.var 1)) (.cons (.int .i64 (.var 2)) (.cons (.int .i64 (.var 3)) (.cons (.int .i64 (.wrap .i64 (.i2 .add (.var 4) (.lit (1))))) .nil)))))))) (.b2 .beq (.bvar 0) (.bapp 7 (.cons (.opq 0) (.cons (.int .i64 (.var 0)) (.cons (.int .i64 (.wrap .i64 (.i2 .add (.var 4) (.lit (1))))) .nil)))))))) (.i2 .sub (.ofI (.vop (.len 4) (.cons (.opq 0) .nil))) (.wrap .i64 (.i2 .add (.var 4) (.lit (1))))) (.i2 .sub (.ofI (.vop (.len 4) (.cons (.opq 0) .nil))) (.var 4))))))
 (.need (.b2 .and (.b2 .le (.lit (0)) (.var 4)) (.b2 .lt (.var 4) (.ofI (.vop (.len 4) (.cons (.opq 0) .nil)))))
 (.br (.not (.b2 .eq (.ofI (.vop (.sel 4 0) (.cons (.opq 0) (.cons (.int .i64 (.var 4)) .nil)))) (.var 0)))
 (.need (.b2 .and (.b2 .le (.lit (0)) (.var 4)) (.b2 .lt (.var 4) (.ofI (.vop (.len 4) (.cons (.opq 0) .nil)))))
 (.need (.b2 .le (.i2 .add (.ofI (.vop (.len 4) (.cons (.opq 1) .nil))) (.lit (1))) (.lit (4398046511104)))
 (.back (.b2 .and (.b2 .le (.lit (0)) (.wrap .i64 (.i2 .add (.var 4) (.lit (1))))) (.b2 .and (.b2 .le (.wrap .i64 (.i2 .add (.var 4) (.lit (1)))) (.ofI (.vop (.len 4) (.cons (.opq 0) .nil)))) (.b2 .and (.bapp 6 (.cons (.vop .cat (.cons (.opq 1) (.cons (.tup (.cons (.int .i64 (.ofI (.vop (.sel 4 0) (.cons (.opq 0) (.cons (.int .i64 (.var 4)) .nil))))) (.cons (.int .i64 (.ofI (.vop (.sel 4 1) (.cons (.opq 0) (.cons (.int .i64 (.var 4)) .nil))))) (.cons (.int .i64 (.ofI (.vop (.sel 4 2) (.cons (.opq 0) (.cons (.int .i64 (.var 4)) .nil))))) (.cons (.int .i64 (.ofI (.vop (.sel 4 3) (.cons (.opq 0) (.cons (.int .i64 (.var 4)) .nil))))) .nil))))) .nil))) (.cons (.opq 0) (.cons (.int .i64 (.var 0)) (.cons (.int .i64 (.var 1)) (.cons (.int .i64 (.var 2)) (.cons (.int .i64 (.var 3)) (.cons (.int .i64 (.wrap .i64 (.i2 .add (.var 4) (.lit (1))))) .nil)))))))) (.b2 .beq (.bvar 0) (.bapp 7 (.cons (.opq 0) (.cons (.int .i64 (.var 0)) (.cons (.int .i64 (.wrap .i64 (.i2 .add (.var 4) (.lit (1))))) .nil)))))))) (.i2 .sub (.ofI (.vop (.len 4) (.cons (.opq 0) .nil))) (.wrap .i64 (.i2 .add (.var 4) (.lit (1))))) (.i2 .sub (.ofI (.vop (.len 4) (.cons (.opq 0) .nil))) (.var 4)))))
 (.back (.b2 .and (.b2 .le (.lit (0)) (.wrap .i64 (.i2 .add (.var 4) (.lit (1))))) (.b2 .and (.b2 .le (.wrap .i64 (.i2 .add (.var 4) (.lit (1)))) (.ofI (.vop (.len 4) (.cons (.opq 0) .nil)))) (.b2 .and (.bapp 6 (.cons (.opq 1) (.cons (.opq 0) (.cons (.int .i64 (.var 0)) (.cons (.int .i64 (.var 1)) (.cons (.int .i64 (.var 2)) (.cons (.int .i64 (.var 3)) (.cons (.int .i64 (.wrap .i64 (.i2 .add (.var 4) (.lit (1))))) .nil)))))))) (.b2 .beq (.bvar 0) (.bapp 7 (.cons (.opq 0) (.cons (.int .i64 (.var 0)) (.cons (.int .i64 (.wrap .i64 (.i2 .add (.var 4) (.lit (1))))) .nil)))))))) (.i2 .sub (.ofI (.vop (.len 4) (.cons (.opq 0) .nil))) (.wrap .i64 (.i2 .add (.var 4) (.lit (1))))) (.i2 .sub (.ofI (.vop (.len 4) (.cons (.opq 0) .nil))) (.var 4)))))))
 (.br (.not (.bvar 0))
 (.need (.b2 .le (.i2 .add (.ofI (.vop (.len 4) (.cons (.opq 1) .nil))) (.lit (1))) (.lit (4398046511104)))
 (.ret (.tup (.cons (.agg (.cons (.hs .no (.cons (.int .i64) (.cons (.int .i64) (.cons (.int .i64) (.cons (.int .i64) .nil)))) (.vop .cat (.cons (.opq 1) (.cons (.tup (.cons (.int .i64 (.var 0)) (.cons (.int .i64 (.var 1)) (.cons (.int .i64 (.var 2)) (.cons (.int .i64 (.var 3)) .nil))))) .nil)))) .nil)) (.cons (.int .i64 (.lit (0))) .nil)))))
 (.ret (.tup (.cons (.agg (.cons (.hs .no (.cons (.int .i64) (.cons (.int .i64) (.cons (.int .i64) (.cons (.int .i64) .nil)))) (.opq 1)) .nil)) (.cons (.int .i64 (.lit (0))) .nil)))))))))
abbrev fbc_frput : Con := ⟨63, [(.agg (.cons (.hs .no (.cons (.int .i64) (.cons (.int .i64) (.cons (.int .i64) (.cons (.int .i64) .nil)))) (.opq 0)) .nil)), (.agg (.cons (.int .i64 (.var 0)) (.cons (.int .i64 (.var 1)) (.cons (.int .i64 (.var 2)) (.cons (.int .i64 (.var 3)) .nil)))))], (.b2 .and (.b2 .and (.b2 .le (.lit (-9223372036854775808)) (.var 0)) (.b2 .le (.var 0) (.lit (9223372036854775807)))) (.b2 .and (.b2 .and (.b2 .le (.lit (-9223372036854775808)) (.var 1)) (.b2 .le (.var 1) (.lit (9223372036854775807)))) (.b2 .and (.b2 .and (.b2 .le (.lit (-9223372036854775808)) (.var 2)) (.b2 .le (.var 2) (.lit (9223372036854775807)))) (.b2 .and (.b2 .le (.lit (-9223372036854775808)) (.var 3)) (.b2 .le (.var 3) (.lit (9223372036854775807))))))), (.tup (.cons (.agg (.cons (.hs .no (.cons (.int .i64) (.cons (.int .i64) (.cons (.int .i64) (.cons (.int .i64) .nil)))) (.vapp 0 (.cons (.opq 0) (.cons (.int .i64 (.var 0)) (.cons (.int .i64 (.var 1)) (.cons (.int .i64 (.var 2)) (.cons (.int .i64 (.var 3)) .nil))))))) .nil)) (.cons (.int .i64 (.iapp 20 (.cons (.opq 0) (.cons (.int .i64 (.var 0)) (.cons (.int .i64 (.var 1)) (.cons (.int .i64 (.var 2)) (.cons (.int .i64 (.var 3)) .nil))))))) .nil))), ⟨4, 0, 1, 0⟩, none⟩
theorem frput_w : walk Tryd.prog 141 ⟨[fac_fmay], syG, [], [], []⟩ [⟨0, ⟨1, 1, 1, 0⟩, [(6, (.hs (.id 1000 102) (.cons (.int .i64) (.cons (.int .i64) (.cons (.int .i64) (.cons (.int .i64) .nil)))) (.opq 1))), (7, (.bool (.bvar 0))), (8, (.int .i64 (.var 4)))], none, (.b2 .and (.b2 .le (.lit (0)) (.var 4)) (.b2 .and (.b2 .le (.var 4) (.ofI (.vop (.len 4) (.cons (.opq 0) .nil)))) (.b2 .and (.bapp 6 (.cons (.opq 1) (.cons (.opq 0) (.cons (.int .i64 (.var 0)) (.cons (.int .i64 (.var 1)) (.cons (.int .i64 (.var 2)) (.cons (.int .i64 (.var 3)) (.cons (.int .i64 (.var 4)) .nil)))))))) (.b2 .beq (.bvar 0) (.bapp 7 (.cons (.opq 0) (.cons (.int .i64 (.var 0)) (.cons (.int .i64 (.var 4)) .nil)))))))), (.i2 .sub (.ofI (.vop (.len 4) (.cons (.opq 0) .nil))) (.var 4)), 1, []⟩] (.tup (.cons (.agg (.cons (.s (.cons (.int .i64) (.cons (.int .i64) (.cons (.int .i64) (.cons (.int .i64) .nil))))) .nil)) (.cons .v .nil))) fbc_frput fbc_frput.n 3000 = some frput_tree := by kernel_rfl
theorem frput_h (a : Int) (b : Int) (c : Int) (d : Int) (l : Value) (hc : holds (fbE [a, b, c, d] [] [l] []) (.b2 .and (.b2 .and (.b2 .le (.lit (-9223372036854775808)) (.var 0)) (.b2 .le (.var 0) (.lit (9223372036854775807)))) (.b2 .and (.b2 .and (.b2 .le (.lit (-9223372036854775808)) (.var 1)) (.b2 .le (.var 1) (.lit (9223372036854775807)))) (.b2 .and (.b2 .and (.b2 .le (.lit (-9223372036854775808)) (.var 2)) (.b2 .le (.var 2) (.lit (9223372036854775807)))) (.b2 .and (.b2 .le (.lit (-9223372036854775808)) (.var 3)) (.b2 .le (.var 3) (.lit (9223372036854775807)))))))) (hty : patsTyp (fbE [a, b, c, d] [] [l] []) [(.agg (.cons (.hs .no (.cons (.int .i64) (.cons (.int .i64) (.cons (.int .i64) (.cons (.int .i64) .nil)))) (.opq 0)) .nil)), (.agg (.cons (.int .i64 (.var 0)) (.cons (.int .i64 (.var 1)) (.cons (.int .i64 (.var 2)) (.cons (.int .i64 (.var 3)) .nil)))))]) : frput_tree.holds (fun v_ => v_ = denV (fbE [a, b, c, d] [] [l] []) b0 (.tup (.cons (.agg (.cons (.hs .no (.cons (.int .i64) (.cons (.int .i64) (.cons (.int .i64) (.cons (.int .i64) .nil)))) (.vapp 0 (.cons (.opq 0) (.cons (.int .i64 (.var 0)) (.cons (.int .i64 (.var 1)) (.cons (.int .i64 (.var 2)) (.cons (.int .i64 (.var 3)) .nil))))))) .nil)) (.cons (.int .i64 (.iapp 20 (.cons (.opq 0) (.cons (.int .i64 (.var 0)) (.cons (.int .i64 (.var 1)) (.cons (.int .i64 (.var 2)) (.cons (.int .i64 (.var 3)) .nil))))))) .nil)))) (fbE [a, b, c, d] [] [l] []) := by
  simp only [Tree.holds, Sy.holds, AllN, Env.more, fbE, List.cons_append, List.nil_append, List.append_nil, denV, denI, denB, denL, I2.den, VOp.den, List.getD_cons_zero, List.getD_cons_succ, Cst.den, syso, syse, syio, sybo, fbi_of, fbi_arh, fbi_fb, fbi_se, fbi_vm, fbi_vl, fbi_vh, fbi_vE, fbi_vM, fbi_vL, fbi_vH, fbi_aa, fbi_mi, fbi_sa, fbi_nv, fbi_ne, fbi_sz, fbi_lst, fbi_chk, fbi_ix, fbi_pE, fbb_pre, fbb_sm, fbb_ai, fbb_tk, fbb_okr, fbb_okf, fbb_rp, fbb_rd, fbv_pV, List.map_nil, List.map_cons, B2.ofInts, B2.denI, B2.denB, if_true, Bool.false_eq_true, if_false, Nat.div_one, Nat.mul_one, Nat.add_zero, holds] at hc
  simp only [patsTyp, patTyp, patTypL, fbE, denV, denL, List.getD_cons_zero, List.getD_cons_succ, and_true, true_and] at hty
  have hL_l : typ (.sl (.cons (.int .i64) (.cons (.int .i64) (.cons (.int .i64) (.cons (.int .i64) .nil))))) l := by first | exact hty | exact hty.1 | exact hty.2 | exact hty.1.1 | exact hty.1.2 | exact hty.2.1 | exact hty.2.2 | exact hty.2.2.1 | exact hty.2.2.2
  have hN_l := typ_len (n := 4) hL_l rfl (by omega)
  unfold frput_tree
  simp only [Tree.holds, Sy.holds, AllN, Env.more, fbE, List.cons_append, List.nil_append, List.append_nil, denV, denI, denB, denL, I2.den, VOp.den, List.getD_cons_zero, List.getD_cons_succ, Cst.den, syso, syse, syio, sybo, fbi_of, fbi_arh, fbi_fb, fbi_se, fbi_vm, fbi_vl, fbi_vh, fbi_vE, fbi_vM, fbi_vL, fbi_vH, fbi_aa, fbi_mi, fbi_sa, fbi_nv, fbi_ne, fbi_sz, fbi_lst, fbi_chk, fbi_ix, fbi_pE, fbb_pre, fbb_sm, fbb_ai, fbb_tk, fbb_okr, fbb_okf, fbb_rp, fbb_rd, fbv_pV, List.map_nil, List.map_cons, B2.ofInts, B2.denI, B2.denB, if_true, Bool.false_eq_true, if_false, Nat.div_one, Nat.mul_one, Nat.add_zero]
  refine ⟨fun h0 => ?_, fun h0 => ?_⟩
  ·
   by_cases hb : chkF (Sy.rows l) = 0 ∧ chkF (ent a b c d) = 0
   · obtain ⟨e1, e2⟩ := put_yes (l := Sy.rows l) (a := a) (b := b) (c := c) (d := d) hb.1 hb.2
     rw [e1, e2]
     first
     | exact absurd hb.1 h0
     | exact absurd hb.2 h1
     | (obtain ⟨g1, g2, g3, g4⟩ := hi0
        rw [decide_eq_true_iff] at g4
        have hv := eqV_iff.1 g3
        obtain ⟨ho, h8⟩ := chkF_8 (Decidable.of_not_not h0)
        have hlen := rp_len (Sy.rows l) a b c d i0a.toNat
        obtain ⟨s1, s2, s3⟩ := inF_spec (Sy.rows l) a
        have s4 := eqF_spec (Sy.rows l) a
        have hk : i0a.toNat = (Sy.rows l).length / 4 := by omega
        rw [hk] at hv g4
        first
        | (have hno : ¬ inF (Sy.rows l) a < (Sy.rows l).length / 4 := fun h => (by assumption : ¬ i0b = true) (g4.2 h)
           rw [← rp_last hN_l.2 (show inF (Sy.rows l) a = (Sy.rows l).length / 4 by omega) (by omega), hv]
           simp only [rows_tup, List.toList_toArray]
           done)
        | (have hyes : inF (Sy.rows l) a < (Sy.rows l).length / 4 := g4.1 (by assumption)
           rw [← rp_end hN_l.2 hyes, hv]
           done)
        | (have hyes : inF (Sy.rows l) a < (Sy.rows l).length / 4 := g4.1 (Decidable.of_not_not (by assumption))
           rw [← rp_end hN_l.2 hyes, hv]
           done))
   · obtain ⟨e1, e2⟩ := put_no hb
     rw [e1, e2]
     all_goals first
     | rfl
     | exact absurd ⟨Decidable.of_not_not h0, Decidable.of_not_not h1⟩ hb
  ·
   refine ⟨fun h1 => ?_, fun h1 => ?_⟩
   ·
    by_cases hb : chkF (Sy.rows l) = 0 ∧ chkF (ent a b c d) = 0
    · obtain ⟨e1, e2⟩ := put_yes (l := Sy.rows l) (a := a) (b := b) (c := c) (d := d) hb.1 hb.2
      rw [e1, e2]
      first
      | exact absurd hb.1 h0
      | exact absurd hb.2 h1
      | (obtain ⟨g1, g2, g3, g4⟩ := hi0
         rw [decide_eq_true_iff] at g4
         have hv := eqV_iff.1 g3
         obtain ⟨ho, h8⟩ := chkF_8 (Decidable.of_not_not h0)
         have hlen := rp_len (Sy.rows l) a b c d i0a.toNat
         obtain ⟨s1, s2, s3⟩ := inF_spec (Sy.rows l) a
         have s4 := eqF_spec (Sy.rows l) a
         have hk : i0a.toNat = (Sy.rows l).length / 4 := by omega
         rw [hk] at hv g4
         first
         | (have hno : ¬ inF (Sy.rows l) a < (Sy.rows l).length / 4 := fun h => (by assumption : ¬ i0b = true) (g4.2 h)
            rw [← rp_last hN_l.2 (show inF (Sy.rows l) a = (Sy.rows l).length / 4 by omega) (by omega), hv]
            simp only [rows_tup, List.toList_toArray]
            done)
         | (have hyes : inF (Sy.rows l) a < (Sy.rows l).length / 4 := g4.1 (by assumption)
            rw [← rp_end hN_l.2 hyes, hv]
            done)
         | (have hyes : inF (Sy.rows l) a < (Sy.rows l).length / 4 := g4.1 (Decidable.of_not_not (by assumption))
            rw [← rp_end hN_l.2 hyes, hv]
            done))
    · obtain ⟨e1, e2⟩ := put_no hb
      rw [e1, e2]
      all_goals first
      | rfl
      | exact absurd ⟨Decidable.of_not_not h0, Decidable.of_not_not h1⟩ hb
   ·
    refine ⟨?_, ?_⟩
    ·
     exact ⟨by omega, by omega, eqV_iff.2 (by simp [rpL]), by simp⟩
    ·
     intro i0a i0b i0c hi0
     refine ⟨fun h2 => ?_, fun h2 => ?_⟩
     ·
      refine ⟨?_, fun h3 => ?_⟩
      ·
       first
       | omega
       | (obtain ⟨g1, g2, g3, g4⟩ := hi0
          rw [decide_eq_true_iff] at g4
          have hv := eqV_iff.1 g3
          obtain ⟨ho, h8⟩ := chkF_8 (Decidable.of_not_not h0)
          have hlen := rp_len (Sy.rows l) a b c d i0a.toNat
          rw [hv]
          simp only [rows_tup, List.toList_toArray, List.length_append, List.length_cons, List.length_nil]
          omega)
      ·
       refine ⟨fun h4 => ?_, fun h4 => ?_⟩
       ·
        refine ⟨fun h5 => ?_, fun h5 => ?_⟩
        ·
         refine ⟨?_, fun h6 => ?_⟩
         ·
          first
          | omega
          | (obtain ⟨g1, g2, g3, g4⟩ := hi0
             rw [decide_eq_true_iff] at g4
             have hv := eqV_iff.1 g3
             obtain ⟨ho, h8⟩ := chkF_8 (Decidable.of_not_not h0)
             have hlen := rp_len (Sy.rows l) a b c d i0a.toNat
             rw [hv]
             simp only [rows_tup, List.toList_toArray, List.length_append, List.length_cons, List.length_nil]
             omega)
         ·
          refine ⟨?_, fun h7 => ?_⟩
          ·
           first
           | omega
           | (obtain ⟨g1, g2, g3, g4⟩ := hi0
              rw [decide_eq_true_iff] at g4
              have hv := eqV_iff.1 g3
              obtain ⟨ho, h8⟩ := chkF_8 (Decidable.of_not_not h0)
              have hlen := rp_len (Sy.rows l) a b c d i0a.toNat
              rw [hv]
              simp only [rows_tup, List.toList_toArray, List.length_append, List.length_cons, List.length_nil]
              omega)
          ·
           refine ⟨fun h8 => ?_, fun h8 => ?_⟩
           ·
            refine ⟨?_, fun h9 => ?_⟩
            ·
             first
             | omega
             | (obtain ⟨g1, g2, g3, g4⟩ := hi0
                rw [decide_eq_true_iff] at g4
                have hv := eqV_iff.1 g3
                obtain ⟨ho, h8⟩ := chkF_8 (Decidable.of_not_not h0)
                have hlen := rp_len (Sy.rows l) a b c d i0a.toNat
                rw [hv]
                simp only [rows_tup, List.toList_toArray, List.length_append, List.length_cons, List.length_nil]
                omega)
            ·
             refine ⟨?_, fun h10 => ?_⟩
             ·
              first
              | omega
              | (obtain ⟨g1, g2, g3, g4⟩ := hi0
                 rw [decide_eq_true_iff] at g4
                 have hv := eqV_iff.1 g3
                 obtain ⟨ho, h8⟩ := chkF_8 (Decidable.of_not_not h0)
                 have hlen := rp_len (Sy.rows l) a b c d i0a.toNat
                 rw [hv]
                 simp only [rows_tup, List.toList_toArray, List.length_append, List.length_cons, List.length_nil]
                 omega)
             ·
              have wf0 := wr_i64 (i0a + 1)
              refine ⟨?_, ?_⟩
              ·
               obtain ⟨g1, g2, g3, g4⟩ := hi0
               rw [decide_eq_true_iff] at g4
               have hv := eqV_iff.1 g3
               obtain ⟨ho, h8⟩ := chkF_8 (Decidable.of_not_not h0)
               have hlen := rp_len (Sy.rows l) a b c d i0a.toNat
               obtain ⟨s1, s2, s3⟩ := inF_spec (Sy.rows l) a
               have s4 := eqF_spec (Sy.rows l) a
               have s5 := s2 i0a.toNat
               have s6 : inF (Sy.rows l) a < i0a.toNat → Go.RowKit.intOf ((Sy.rows l).getD (inF (Sy.rows l) a * 4) Go.undef) < Go.RowKit.intOf ((Sy.rows l).getD (i0a.toNat * 4) Go.undef) := fun h => src_mono ho h (by omega)
               have e : IntKind.wrap .i64 (i0a + 1) = i0a + 1 := by omega
               have hrow := rowF_int hL_l (k := i0a.toNat) (by omega)
               have hk : i0a.toNat * 4 + 3 < (Sy.rows l).length := by omega
               rw [e, show (i0a + 1).toNat = i0a.toNat + 1 by omega]
               rw [decide_eq_true_iff]
               have hdn : (i0b = true ∧ inF (Sy.rows l) a < i0a.toNat) ∨ (i0b = false ∧ ¬ inF (Sy.rows l) a < i0a.toNat) := by
                 cases i0b
                 · exact .inr ⟨rfl, fun h => by cases g4.2 h⟩
                 · exact .inl ⟨rfl, g4.1 rfl⟩
               clear g3 g4 hty hL_l
               rcases Nat.lt_trichotomy (inF (Sy.rows l) a) i0a.toNat with hc1 | hc1 | hc1
               · have hx := s6 hc1
                 have hy := s3 (by omega)
                 obtain ⟨hb, _⟩ := hdn.resolve_right (by omega)
                 subst hb
                 first
                 | (exfalso; omega)
                 | (exfalso; simp only [not_true_eq_false, not_false_eq_true, Bool.false_eq_true] at *; done)
                 | (refine ⟨by omega, by omega, eqV_iff.2 ?_, by first | (simp; omega) | omega⟩
                    rw [hv, rp_high hk hc1 (by omega)]
                    simp only [rows_tup, List.toList_toArray, hrow])
               · have hy := s3 (by omega)
                 rw [hc1] at hy
                 obtain ⟨hb, _⟩ := hdn.resolve_left (by omega)
                 subst hb
                 first
                 | (exfalso; omega)
                 | (exfalso; simp only [not_true_eq_false, not_false_eq_true, Bool.false_eq_true] at *; done)
                 | (refine ⟨by omega, by omega, eqV_iff.2 ?_, by first | (simp; omega) | omega⟩
                    rw [hc1] at s4
                    first
                    | (rw [hv, rp_new hk hc1 (by omega)]
                       simp only [rows_tup, List.toList_toArray, hrow]
                       done)
                    | (rw [hv, rp_eq hc1 (by omega)]
                       simp only [rows_tup, List.toList_toArray]
                       done))
               · have hx := s5 hc1
                 obtain ⟨hb, _⟩ := hdn.resolve_left (by omega)
                 subst hb
                 first
                 | (exfalso; omega)
                 | (exfalso; simp only [not_true_eq_false, not_false_eq_true, Bool.false_eq_true] at *; done)
                 | (refine ⟨by omega, by omega, eqV_iff.2 ?_, by first | (simp; omega) | omega⟩
                    rw [hv, rp_low hk (by omega)]
                    simp only [rows_tup, List.toList_toArray, hrow])
              ·
               omega
           ·
            have wf1 := wr_i64 (i0a + 1)
            refine ⟨?_, ?_⟩
            ·
             obtain ⟨g1, g2, g3, g4⟩ := hi0
             rw [decide_eq_true_iff] at g4
             have hv := eqV_iff.1 g3
             obtain ⟨ho, h8⟩ := chkF_8 (Decidable.of_not_not h0)
             have hlen := rp_len (Sy.rows l) a b c d i0a.toNat
             obtain ⟨s1, s2, s3⟩ := inF_spec (Sy.rows l) a
             have s4 := eqF_spec (Sy.rows l) a
             have s5 := s2 i0a.toNat
             have s6 : inF (Sy.rows l) a < i0a.toNat → Go.RowKit.intOf ((Sy.rows l).getD (inF (Sy.rows l) a * 4) Go.undef) < Go.RowKit.intOf ((Sy.rows l).getD (i0a.toNat * 4) Go.undef) := fun h => src_mono ho h (by omega)
             have e : IntKind.wrap .i64 (i0a + 1) = i0a + 1 := by omega
             have hrow := rowF_int hL_l (k := i0a.toNat) (by omega)
             have hk : i0a.toNat * 4 + 3 < (Sy.rows l).length := by omega
             rw [e, show (i0a + 1).toNat = i0a.toNat + 1 by omega]
             rw [decide_eq_true_iff]
             have hdn : (i0b = true ∧ inF (Sy.rows l) a < i0a.toNat) ∨ (i0b = false ∧ ¬ inF (Sy.rows l) a < i0a.toNat) := by
               cases i0b
               · exact .inr ⟨rfl, fun h => by cases g4.2 h⟩
               · exact .inl ⟨rfl, g4.1 rfl⟩
             clear g3 g4 hty hL_l
             rcases Nat.lt_trichotomy (inF (Sy.rows l) a) i0a.toNat with hc1 | hc1 | hc1
             · have hx := s6 hc1
               have hy := s3 (by omega)
               obtain ⟨hb, _⟩ := hdn.resolve_right (by omega)
               subst hb
               first
               | (exfalso; omega)
               | (exfalso; simp only [not_true_eq_false, not_false_eq_true, Bool.false_eq_true] at *; done)
               | (refine ⟨by omega, by omega, eqV_iff.2 ?_, by first | (simp; omega) | omega⟩
                  rw [hv, rp_high hk hc1 (by omega)]
                  simp only [rows_tup, List.toList_toArray, hrow])
             · have hy := s3 (by omega)
               rw [hc1] at hy
               obtain ⟨hb, _⟩ := hdn.resolve_left (by omega)
               subst hb
               first
               | (exfalso; omega)
               | (exfalso; simp only [not_true_eq_false, not_false_eq_true, Bool.false_eq_true] at *; done)
               | (refine ⟨by omega, by omega, eqV_iff.2 ?_, by first | (simp; omega) | omega⟩
                  rw [hc1] at s4
                  first
                  | (rw [hv, rp_new hk hc1 (by omega)]
                     simp only [rows_tup, List.toList_toArray, hrow]
                     done)
                  | (rw [hv, rp_eq hc1 (by omega)]
                     simp only [rows_tup, List.toList_toArray]
                     done))
             · have hx := s5 hc1
               obtain ⟨hb, _⟩ := hdn.resolve_left (by omega)
               subst hb
               first
               | (exfalso; omega)
               | (exfalso; simp only [not_true_eq_false, not_false_eq_true, Bool.false_eq_true] at *; done)
               | (refine ⟨by omega, by omega, eqV_iff.2 ?_, by first | (simp; omega) | omega⟩
                  rw [hv, rp_low hk (by omega)]
                  simp only [rows_tup, List.toList_toArray, hrow])
            ·
             omega
        ·
         refine ⟨?_, fun h11 => ?_⟩
         ·
          first
          | omega
          | (obtain ⟨g1, g2, g3, g4⟩ := hi0
             rw [decide_eq_true_iff] at g4
             have hv := eqV_iff.1 g3
             obtain ⟨ho, h8⟩ := chkF_8 (Decidable.of_not_not h0)
             have hlen := rp_len (Sy.rows l) a b c d i0a.toNat
             rw [hv]
             simp only [rows_tup, List.toList_toArray, List.length_append, List.length_cons, List.length_nil]
             omega)
         ·
          refine ⟨fun h12 => ?_, fun h12 => ?_⟩
          ·
           refine ⟨?_, fun h13 => ?_⟩
           ·
            first
            | omega
            | (obtain ⟨g1, g2, g3, g4⟩ := hi0
               rw [decide_eq_true_iff] at g4
               have hv := eqV_iff.1 g3
               obtain ⟨ho, h8⟩ := chkF_8 (Decidable.of_not_not h0)
               have hlen := rp_len (Sy.rows l) a b c d i0a.toNat
               rw [hv]
               simp only [rows_tup, List.toList_toArray, List.length_append, List.length_cons, List.length_nil]
               omega)
           ·
            refine ⟨?_, fun h14 => ?_⟩
            ·
             first
             | omega
             | (obtain ⟨g1, g2, g3, g4⟩ := hi0
                rw [decide_eq_true_iff] at g4
                have hv := eqV_iff.1 g3
                obtain ⟨ho, h8⟩ := chkF_8 (Decidable.of_not_not h0)
                have hlen := rp_len (Sy.rows l) a b c d i0a.toNat
                rw [hv]
                simp only [rows_tup, List.toList_toArray, List.length_append, List.length_cons, List.length_nil]
                omega)
            ·
             have wf2 := wr_i64 (i0a + 1)
             refine ⟨?_, ?_⟩
             ·
              obtain ⟨g1, g2, g3, g4⟩ := hi0
              rw [decide_eq_true_iff] at g4
              have hv := eqV_iff.1 g3
              obtain ⟨ho, h8⟩ := chkF_8 (Decidable.of_not_not h0)
              have hlen := rp_len (Sy.rows l) a b c d i0a.toNat
              obtain ⟨s1, s2, s3⟩ := inF_spec (Sy.rows l) a
              have s4 := eqF_spec (Sy.rows l) a
              have s5 := s2 i0a.toNat
              have s6 : inF (Sy.rows l) a < i0a.toNat → Go.RowKit.intOf ((Sy.rows l).getD (inF (Sy.rows l) a * 4) Go.undef) < Go.RowKit.intOf ((Sy.rows l).getD (i0a.toNat * 4) Go.undef) := fun h => src_mono ho h (by omega)
              have e : IntKind.wrap .i64 (i0a + 1) = i0a + 1 := by omega
              have hrow := rowF_int hL_l (k := i0a.toNat) (by omega)
              have hk : i0a.toNat * 4 + 3 < (Sy.rows l).length := by omega
              rw [e, show (i0a + 1).toNat = i0a.toNat + 1 by omega]
              rw [decide_eq_true_iff]
              have hdn : (i0b = true ∧ inF (Sy.rows l) a < i0a.toNat) ∨ (i0b = false ∧ ¬ inF (Sy.rows l) a < i0a.toNat) := by
                cases i0b
                · exact .inr ⟨rfl, fun h => by cases g4.2 h⟩
                · exact .inl ⟨rfl, g4.1 rfl⟩
              clear g3 g4 hty hL_l
              rcases Nat.lt_trichotomy (inF (Sy.rows l) a) i0a.toNat with hc1 | hc1 | hc1
              · have hx := s6 hc1
                have hy := s3 (by omega)
                obtain ⟨hb, _⟩ := hdn.resolve_right (by omega)
                subst hb
                first
                | (exfalso; omega)
                | (exfalso; simp only [not_true_eq_false, not_false_eq_true, Bool.false_eq_true] at *; done)
                | (refine ⟨by omega, by omega, eqV_iff.2 ?_, by first | (simp; omega) | omega⟩
                   rw [hv, rp_high hk hc1 (by omega)]
                   simp only [rows_tup, List.toList_toArray, hrow])
              · have hy := s3 (by omega)
                rw [hc1] at hy
                obtain ⟨hb, _⟩ := hdn.resolve_left (by omega)
                subst hb
                first
                | (exfalso; omega)
                | (exfalso; simp only [not_true_eq_false, not_false_eq_true, Bool.false_eq_true] at *; done)
                | (refine ⟨by omega, by omega, eqV_iff.2 ?_, by first | (simp; omega) | omega⟩
                   rw [hc1] at s4
                   first
                   | (rw [hv, rp_new hk hc1 (by omega)]
                      simp only [rows_tup, List.toList_toArray, hrow]
                      done)
                   | (rw [hv, rp_eq hc1 (by omega)]
                      simp only [rows_tup, List.toList_toArray]
                      done))
              · have hx := s5 hc1
                obtain ⟨hb, _⟩ := hdn.resolve_left (by omega)
                subst hb
                first
                | (exfalso; omega)
                | (exfalso; simp only [not_true_eq_false, not_false_eq_true, Bool.false_eq_true] at *; done)
                | (refine ⟨by omega, by omega, eqV_iff.2 ?_, by first | (simp; omega) | omega⟩
                   rw [hv, rp_low hk (by omega)]
                   simp only [rows_tup, List.toList_toArray, hrow])
             ·
              omega
          ·
           have wf3 := wr_i64 (i0a + 1)
           refine ⟨?_, ?_⟩
           ·
            obtain ⟨g1, g2, g3, g4⟩ := hi0
            rw [decide_eq_true_iff] at g4
            have hv := eqV_iff.1 g3
            obtain ⟨ho, h8⟩ := chkF_8 (Decidable.of_not_not h0)
            have hlen := rp_len (Sy.rows l) a b c d i0a.toNat
            obtain ⟨s1, s2, s3⟩ := inF_spec (Sy.rows l) a
            have s4 := eqF_spec (Sy.rows l) a
            have s5 := s2 i0a.toNat
            have s6 : inF (Sy.rows l) a < i0a.toNat → Go.RowKit.intOf ((Sy.rows l).getD (inF (Sy.rows l) a * 4) Go.undef) < Go.RowKit.intOf ((Sy.rows l).getD (i0a.toNat * 4) Go.undef) := fun h => src_mono ho h (by omega)
            have e : IntKind.wrap .i64 (i0a + 1) = i0a + 1 := by omega
            have hrow := rowF_int hL_l (k := i0a.toNat) (by omega)
            have hk : i0a.toNat * 4 + 3 < (Sy.rows l).length := by omega
            rw [e, show (i0a + 1).toNat = i0a.toNat + 1 by omega]
            rw [decide_eq_true_iff]
            have hdn : (i0b = true ∧ inF (Sy.rows l) a < i0a.toNat) ∨ (i0b = false ∧ ¬ inF (Sy.rows l) a < i0a.toNat) := by
              cases i0b
              · exact .inr ⟨rfl, fun h => by cases g4.2 h⟩
              · exact .inl ⟨rfl, g4.1 rfl⟩
            clear g3 g4 hty hL_l
            rcases Nat.lt_trichotomy (inF (Sy.rows l) a) i0a.toNat with hc1 | hc1 | hc1
            · have hx := s6 hc1
              have hy := s3 (by omega)
              obtain ⟨hb, _⟩ := hdn.resolve_right (by omega)
              subst hb
              first
              | (exfalso; omega)
              | (exfalso; simp only [not_true_eq_false, not_false_eq_true, Bool.false_eq_true] at *; done)
              | (refine ⟨by omega, by omega, eqV_iff.2 ?_, by first | (simp; omega) | omega⟩
                 rw [hv, rp_high hk hc1 (by omega)]
                 simp only [rows_tup, List.toList_toArray, hrow])
            · have hy := s3 (by omega)
              rw [hc1] at hy
              obtain ⟨hb, _⟩ := hdn.resolve_left (by omega)
              subst hb
              first
              | (exfalso; omega)
              | (exfalso; simp only [not_true_eq_false, not_false_eq_true, Bool.false_eq_true] at *; done)
              | (refine ⟨by omega, by omega, eqV_iff.2 ?_, by first | (simp; omega) | omega⟩
                 rw [hc1] at s4
                 first
                 | (rw [hv, rp_new hk hc1 (by omega)]
                    simp only [rows_tup, List.toList_toArray, hrow]
                    done)
                 | (rw [hv, rp_eq hc1 (by omega)]
                    simp only [rows_tup, List.toList_toArray]
                    done))
            · have hx := s5 hc1
              obtain ⟨hb, _⟩ := hdn.resolve_left (by omega)
              subst hb
              first
              | (exfalso; omega)
              | (exfalso; simp only [not_true_eq_false, not_false_eq_true, Bool.false_eq_true] at *; done)
              | (refine ⟨by omega, by omega, eqV_iff.2 ?_, by first | (simp; omega) | omega⟩
                 rw [hv, rp_low hk (by omega)]
                 simp only [rows_tup, List.toList_toArray, hrow])
           ·
            omega
       ·
        refine ⟨?_, fun h15 => ?_⟩
        ·
         first
         | omega
         | (obtain ⟨g1, g2, g3, g4⟩ := hi0
            rw [decide_eq_true_iff] at g4
            have hv := eqV_iff.1 g3
            obtain ⟨ho, h8⟩ := chkF_8 (Decidable.of_not_not h0)
            have hlen := rp_len (Sy.rows l) a b c d i0a.toNat
            rw [hv]
            simp only [rows_tup, List.toList_toArray, List.length_append, List.length_cons, List.length_nil]
            omega)
        ·
         refine ⟨fun h16 => ?_, fun h16 => ?_⟩
         ·
          refine ⟨?_, fun h17 => ?_⟩
          ·
           first
           | omega
           | (obtain ⟨g1, g2, g3, g4⟩ := hi0
              rw [decide_eq_true_iff] at g4
              have hv := eqV_iff.1 g3
              obtain ⟨ho, h8⟩ := chkF_8 (Decidable.of_not_not h0)
              have hlen := rp_len (Sy.rows l) a b c d i0a.toNat
              rw [hv]
              simp only [rows_tup, List.toList_toArray, List.length_append, List.length_cons, List.length_nil]
              omega)
          ·
           refine ⟨?_, fun h18 => ?_⟩
           ·
            first
            | omega
            | (obtain ⟨g1, g2, g3, g4⟩ := hi0
               rw [decide_eq_true_iff] at g4
               have hv := eqV_iff.1 g3
               obtain ⟨ho, h8⟩ := chkF_8 (Decidable.of_not_not h0)
               have hlen := rp_len (Sy.rows l) a b c d i0a.toNat
               rw [hv]
               simp only [rows_tup, List.toList_toArray, List.length_append, List.length_cons, List.length_nil]
               omega)
           ·
            have wf4 := wr_i64 (i0a + 1)
            refine ⟨?_, ?_⟩
            ·
             obtain ⟨g1, g2, g3, g4⟩ := hi0
             rw [decide_eq_true_iff] at g4
             have hv := eqV_iff.1 g3
             obtain ⟨ho, h8⟩ := chkF_8 (Decidable.of_not_not h0)
             have hlen := rp_len (Sy.rows l) a b c d i0a.toNat
             obtain ⟨s1, s2, s3⟩ := inF_spec (Sy.rows l) a
             have s4 := eqF_spec (Sy.rows l) a
             have s5 := s2 i0a.toNat
             have s6 : inF (Sy.rows l) a < i0a.toNat → Go.RowKit.intOf ((Sy.rows l).getD (inF (Sy.rows l) a * 4) Go.undef) < Go.RowKit.intOf ((Sy.rows l).getD (i0a.toNat * 4) Go.undef) := fun h => src_mono ho h (by omega)
             have e : IntKind.wrap .i64 (i0a + 1) = i0a + 1 := by omega
             have hrow := rowF_int hL_l (k := i0a.toNat) (by omega)
             have hk : i0a.toNat * 4 + 3 < (Sy.rows l).length := by omega
             rw [e, show (i0a + 1).toNat = i0a.toNat + 1 by omega]
             rw [decide_eq_true_iff]
             have hdn : (i0b = true ∧ inF (Sy.rows l) a < i0a.toNat) ∨ (i0b = false ∧ ¬ inF (Sy.rows l) a < i0a.toNat) := by
               cases i0b
               · exact .inr ⟨rfl, fun h => by cases g4.2 h⟩
               · exact .inl ⟨rfl, g4.1 rfl⟩
             clear g3 g4 hty hL_l
             rcases Nat.lt_trichotomy (inF (Sy.rows l) a) i0a.toNat with hc1 | hc1 | hc1
             · have hx := s6 hc1
               have hy := s3 (by omega)
               obtain ⟨hb, _⟩ := hdn.resolve_right (by omega)
               subst hb
               first
               | (exfalso; omega)
               | (exfalso; simp only [not_true_eq_false, not_false_eq_true, Bool.false_eq_true] at *; done)
               | (refine ⟨by omega, by omega, eqV_iff.2 ?_, by first | (simp; omega) | omega⟩
                  rw [hv, rp_high hk hc1 (by omega)]
                  simp only [rows_tup, List.toList_toArray, hrow])
             · have hy := s3 (by omega)
               rw [hc1] at hy
               obtain ⟨hb, _⟩ := hdn.resolve_left (by omega)
               subst hb
               first
               | (exfalso; omega)
               | (exfalso; simp only [not_true_eq_false, not_false_eq_true, Bool.false_eq_true] at *; done)
               | (refine ⟨by omega, by omega, eqV_iff.2 ?_, by first | (simp; omega) | omega⟩
                  rw [hc1] at s4
                  first
                  | (rw [hv, rp_new hk hc1 (by omega)]
                     simp only [rows_tup, List.toList_toArray, hrow]
                     done)
                  | (rw [hv, rp_eq hc1 (by omega)]
                     simp only [rows_tup, List.toList_toArray]
                     done))
             · have hx := s5 hc1
               obtain ⟨hb, _⟩ := hdn.resolve_left (by omega)
               subst hb
               first
               | (exfalso; omega)
               | (exfalso; simp only [not_true_eq_false, not_false_eq_true, Bool.false_eq_true] at *; done)
               | (refine ⟨by omega, by omega, eqV_iff.2 ?_, by first | (simp; omega) | omega⟩
                  rw [hv, rp_low hk (by omega)]
                  simp only [rows_tup, List.toList_toArray, hrow])
            ·
             omega
         ·
          have wf5 := wr_i64 (i0a + 1)
          refine ⟨?_, ?_⟩
          ·
           obtain ⟨g1, g2, g3, g4⟩ := hi0
           rw [decide_eq_true_iff] at g4
           have hv := eqV_iff.1 g3
           obtain ⟨ho, h8⟩ := chkF_8 (Decidable.of_not_not h0)
           have hlen := rp_len (Sy.rows l) a b c d i0a.toNat
           obtain ⟨s1, s2, s3⟩ := inF_spec (Sy.rows l) a
           have s4 := eqF_spec (Sy.rows l) a
           have s5 := s2 i0a.toNat
           have s6 : inF (Sy.rows l) a < i0a.toNat → Go.RowKit.intOf ((Sy.rows l).getD (inF (Sy.rows l) a * 4) Go.undef) < Go.RowKit.intOf ((Sy.rows l).getD (i0a.toNat * 4) Go.undef) := fun h => src_mono ho h (by omega)
           have e : IntKind.wrap .i64 (i0a + 1) = i0a + 1 := by omega
           have hrow := rowF_int hL_l (k := i0a.toNat) (by omega)
           have hk : i0a.toNat * 4 + 3 < (Sy.rows l).length := by omega
           rw [e, show (i0a + 1).toNat = i0a.toNat + 1 by omega]
           rw [decide_eq_true_iff]
           have hdn : (i0b = true ∧ inF (Sy.rows l) a < i0a.toNat) ∨ (i0b = false ∧ ¬ inF (Sy.rows l) a < i0a.toNat) := by
             cases i0b
             · exact .inr ⟨rfl, fun h => by cases g4.2 h⟩
             · exact .inl ⟨rfl, g4.1 rfl⟩
           clear g3 g4 hty hL_l
           rcases Nat.lt_trichotomy (inF (Sy.rows l) a) i0a.toNat with hc1 | hc1 | hc1
           · have hx := s6 hc1
             have hy := s3 (by omega)
             obtain ⟨hb, _⟩ := hdn.resolve_right (by omega)
             subst hb
             first
             | (exfalso; omega)
             | (exfalso; simp only [not_true_eq_false, not_false_eq_true, Bool.false_eq_true] at *; done)
             | (refine ⟨by omega, by omega, eqV_iff.2 ?_, by first | (simp; omega) | omega⟩
                rw [hv, rp_high hk hc1 (by omega)]
                simp only [rows_tup, List.toList_toArray, hrow])
           · have hy := s3 (by omega)
             rw [hc1] at hy
             obtain ⟨hb, _⟩ := hdn.resolve_left (by omega)
             subst hb
             first
             | (exfalso; omega)
             | (exfalso; simp only [not_true_eq_false, not_false_eq_true, Bool.false_eq_true] at *; done)
             | (refine ⟨by omega, by omega, eqV_iff.2 ?_, by first | (simp; omega) | omega⟩
                rw [hc1] at s4
                first
                | (rw [hv, rp_new hk hc1 (by omega)]
                   simp only [rows_tup, List.toList_toArray, hrow]
                   done)
                | (rw [hv, rp_eq hc1 (by omega)]
                   simp only [rows_tup, List.toList_toArray]
                   done))
           · have hx := s5 hc1
             obtain ⟨hb, _⟩ := hdn.resolve_left (by omega)
             subst hb
             first
             | (exfalso; omega)
             | (exfalso; simp only [not_true_eq_false, not_false_eq_true, Bool.false_eq_true] at *; done)
             | (refine ⟨by omega, by omega, eqV_iff.2 ?_, by first | (simp; omega) | omega⟩
                rw [hv, rp_low hk (by omega)]
                simp only [rows_tup, List.toList_toArray, hrow])
          ·
           omega
     ·
      refine ⟨fun h19 => ?_, fun h19 => ?_⟩
      ·
       refine ⟨?_, fun h20 => ?_⟩
       ·
        first
        | omega
        | (obtain ⟨g1, g2, g3, g4⟩ := hi0
           rw [decide_eq_true_iff] at g4
           have hv := eqV_iff.1 g3
           obtain ⟨ho, h8⟩ := chkF_8 (Decidable.of_not_not h0)
           have hlen := rp_len (Sy.rows l) a b c d i0a.toNat
           rw [hv]
           simp only [rows_tup, List.toList_toArray, List.length_append, List.length_cons, List.length_nil]
           omega)
       ·
        by_cases hb : chkF (Sy.rows l) = 0 ∧ chkF (ent a b c d) = 0
        · obtain ⟨e1, e2⟩ := put_yes (l := Sy.rows l) (a := a) (b := b) (c := c) (d := d) hb.1 hb.2
          rw [e1, e2]
          first
          | exact absurd hb.1 h0
          | exact absurd hb.2 h1
          | (obtain ⟨g1, g2, g3, g4⟩ := hi0
             rw [decide_eq_true_iff] at g4
             have hv := eqV_iff.1 g3
             obtain ⟨ho, h8⟩ := chkF_8 (Decidable.of_not_not h0)
             have hlen := rp_len (Sy.rows l) a b c d i0a.toNat
             obtain ⟨s1, s2, s3⟩ := inF_spec (Sy.rows l) a
             have s4 := eqF_spec (Sy.rows l) a
             have hk : i0a.toNat = (Sy.rows l).length / 4 := by omega
             rw [hk] at hv g4
             first
             | (have hno : ¬ inF (Sy.rows l) a < (Sy.rows l).length / 4 := fun h => (by assumption : ¬ i0b = true) (g4.2 h)
                rw [← rp_last hN_l.2 (show inF (Sy.rows l) a = (Sy.rows l).length / 4 by omega) (by omega), hv]
                simp only [rows_tup, List.toList_toArray]
                done)
             | (have hyes : inF (Sy.rows l) a < (Sy.rows l).length / 4 := g4.1 (by assumption)
                rw [← rp_end hN_l.2 hyes, hv]
                done)
             | (have hyes : inF (Sy.rows l) a < (Sy.rows l).length / 4 := g4.1 (Decidable.of_not_not (by assumption))
                rw [← rp_end hN_l.2 hyes, hv]
                done))
        · obtain ⟨e1, e2⟩ := put_no hb
          rw [e1, e2]
          all_goals first
          | rfl
          | exact absurd ⟨Decidable.of_not_not h0, Decidable.of_not_not h1⟩ hb
      ·
       by_cases hb : chkF (Sy.rows l) = 0 ∧ chkF (ent a b c d) = 0
       · obtain ⟨e1, e2⟩ := put_yes (l := Sy.rows l) (a := a) (b := b) (c := c) (d := d) hb.1 hb.2
         rw [e1, e2]
         first
         | exact absurd hb.1 h0
         | exact absurd hb.2 h1
         | (obtain ⟨g1, g2, g3, g4⟩ := hi0
            rw [decide_eq_true_iff] at g4
            have hv := eqV_iff.1 g3
            obtain ⟨ho, h8⟩ := chkF_8 (Decidable.of_not_not h0)
            have hlen := rp_len (Sy.rows l) a b c d i0a.toNat
            obtain ⟨s1, s2, s3⟩ := inF_spec (Sy.rows l) a
            have s4 := eqF_spec (Sy.rows l) a
            have hk : i0a.toNat = (Sy.rows l).length / 4 := by omega
            rw [hk] at hv g4
            first
            | (have hno : ¬ inF (Sy.rows l) a < (Sy.rows l).length / 4 := fun h => (by assumption : ¬ i0b = true) (g4.2 h)
               rw [← rp_last hN_l.2 (show inF (Sy.rows l) a = (Sy.rows l).length / 4 by omega) (by omega), hv]
               simp only [rows_tup, List.toList_toArray]
               done)
            | (have hyes : inF (Sy.rows l) a < (Sy.rows l).length / 4 := g4.1 (by assumption)
               rw [← rp_end hN_l.2 hyes, hv]
               done)
            | (have hyes : inF (Sy.rows l) a < (Sy.rows l).length / 4 := g4.1 (Decidable.of_not_not (by assumption))
               rw [← rp_end hN_l.2 hyes, hv]
               done))
       · obtain ⟨e1, e2⟩ := put_no hb
         rw [e1, e2]
         all_goals first
         | rfl
         | exact absurd ⟨Decidable.of_not_not h0, Decidable.of_not_not h1⟩ hb
theorem fbg_frput : fbc_frput.Good Tryd.prog syG (fbE [] [] [] []) := good_of_walk (Γ := ⟨[fac_fmay], syG, [], [], []⟩) (ρ := fbE [] [] [] []) sym frput_w rfl (fun _ _ _ _ => (ok_cons (Con.Good.env (Con.Good.up fag_fmay fbup rfl) _ _ _ _) ok_nil)) (fun a b c d l hc hty => frput_h a b c d l hc hty)
end Go.Proofs.YtflckmhlobpfiaaDoor
