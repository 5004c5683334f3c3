/-
  A keyed sum of bytes (four words, rounds): plain mathematics over the second engine's numbers.
-/
import Derived.Test.YtbgmbbkmadkhgaaN09lqc
namespace Go.Proofs.Ytbgmbbkmadkhgaa
open Go.RowKit Go.Extern.Stop Go.Stop Go.Extern Go.Proofs.Ytbgmbbkmadkhgaa.Sy
set_option linter.unusedVariables false
set_option linter.unusedSimpArgs false
structure Sp where
  a : Int
  b : Int
  c : Int
  d : Int
def xoI (x y : Int) : Int := Sy.bitsV .xor .u64 x y
theorem wrap_rng (n : Int) : 0 ≤ IntKind.wrap .u64 n ∧ IntKind.wrap .u64 n ≤ 18446744073709551615 := by
  rw [show IntKind.wrap .u64 n = n % 18446744073709551616 from rfl]
  omega
theorem xo_rng (x y : Int) : 0 ≤ xoI x y ∧ xoI x y ≤ 18446744073709551615 := wrap_rng _
def adI (x y : Int) : Int := (x + y) % 18446744073709551616
theorem ad_rng (x y : Int) : 0 ≤ adI x y ∧ adI x y ≤ 18446744073709551615 := by unfold adI; omega
def rlI (n : Nat) (x : Int) : Int := x % 2 ^ (64 - n) * 2 ^ n + x / 2 ^ (64 - n)
def rndS (s : Sp) : Sp :=
  ⟨adI (rlI 32 (adI s.a s.b)) (xoI (rlI 16 s.d) (adI s.c s.d)),
   xoI (rlI 17 (xoI (rlI 13 s.b) (adI s.a s.b))) (adI (adI s.c s.d) (xoI (rlI 13 s.b) (adI s.a s.b))),
   rlI 32 (adI (adI s.c s.d) (xoI (rlI 13 s.b) (adI s.a s.b))),
   xoI (rlI 21 (xoI (rlI 16 s.d) (adI s.c s.d))) (adI (rlI 32 (adI s.a s.b)) (xoI (rlI 16 s.d) (adI s.c s.d)))⟩
def spC (s : Sp) : Nat → Int
  | 0 => s.a
  | 1 => s.b
  | 2 => s.c
  | _ => s.d
def Rng (s : Sp) : Prop := ∀ k, 0 ≤ spC s k ∧ spC s k ≤ 18446744073709551615
theorem rng_of {s : Sp} (h0 : 0 ≤ s.a ∧ s.a ≤ 18446744073709551615) (h1 : 0 ≤ s.b ∧ s.b ≤ 18446744073709551615) (h2 : 0 ≤ s.c ∧ s.c ≤ 18446744073709551615) (h3 : 0 ≤ s.d ∧ s.d ≤ 18446744073709551615) : Rng s := fun k => by
  unfold spC
  split
  · exact h0
  · exact h1
  · exact h2
  · exact h3
theorem rl32 (x : Int) : rlI 32 x = x % 4294967296 * 4294967296 + x / 4294967296 := rfl
theorem rl13 (x : Int) : rlI 13 x = x % 2251799813685248 * 8192 + x / 2251799813685248 := rfl
theorem rl16 (x : Int) : rlI 16 x = x % 281474976710656 * 65536 + x / 281474976710656 := rfl
theorem rl17 (x : Int) : rlI 17 x = x % 140737488355328 * 131072 + x / 140737488355328 := rfl
theorem rl21 (x : Int) : rlI 21 x = x % 8796093022208 * 2097152 + x / 8796093022208 := rfl
theorem rl32_rng {x : Int} (h : 0 ≤ x ∧ x ≤ 18446744073709551615) : 0 ≤ rlI 32 x ∧ rlI 32 x ≤ 18446744073709551615 := by rw [rl32]; omega
theorem rnd_rng (s : Sp) : Rng (rndS s) := rng_of (ad_rng _ _) (xo_rng _ _) (rl32_rng (ad_rng _ _)) (xo_rng _ _)
def tkS (s : Sp) (w : Int) : Sp :=
  ⟨xoI (rndS (rndS ⟨s.a, s.b, s.c, xoI s.d w⟩)).a w, (rndS (rndS ⟨s.a, s.b, s.c, xoI s.d w⟩)).b, (rndS (rndS ⟨s.a, s.b, s.c, xoI s.d w⟩)).c, (rndS (rndS ⟨s.a, s.b, s.c, xoI s.d w⟩)).d⟩
theorem tk_rng (s : Sp) (w : Int) : Rng (tkS s w) :=
  rng_of (xo_rng _ _) (rnd_rng (rndS ⟨s.a, s.b, s.c, xoI s.d w⟩) 1) (rnd_rng (rndS ⟨s.a, s.b, s.c, xoI s.d w⟩) 2) (rnd_rng (rndS ⟨s.a, s.b, s.c, xoI s.d w⟩) 3)
def wdI (l : List UInt8) (i : Nat) : Int := (getV (l.drop (8 * i)) 8 : Nat)
theorem getV_rng (l : List UInt8) : 0 ≤ ((getV l 8 : Nat) : Int) ∧ ((getV l 8 : Nat) : Int) ≤ 18446744073709551615 := by
  have h := getV_lt l 8
  rw [show 256 ^ 8 = 18446744073709551616 by decide] at h
  omega
theorem rd_u64 (l : List UInt8) : IntKind.wrap .u64 (rdI l) = (getV l 8 : Nat) := by
  have h := getV_rng l
  rw [show IntKind.wrap .u64 (rdI l) = rdI l % 18446744073709551616 from rfl]
  unfold rdI
  split <;> omega
def st0 (k : List UInt8) : Sp := ⟨xoI (getV k 8 : Nat) 8317987319222330741, xoI (getV (getL k 8) 8 : Nat) 7237128888997146477, xoI (getV k 8 : Nat) 7816392313619706465, xoI (getV (getL k 8) 8 : Nat) 8387220255154660723⟩
theorem st0_rng (k : List UInt8) : Rng (st0 k) := rng_of (xo_rng _ _) (xo_rng _ _) (xo_rng _ _) (xo_rng _ _)
def stN (k l : List UInt8) : Nat → Sp
  | 0 => st0 k
  | n + 1 => tkS (stN k l n) (wdI l n)
theorem stN_rng (k l : List UInt8) : ∀ n, Rng (stN k l n)
  | 0 => st0_rng k
  | n + 1 => tk_rng _ _
def padL (b : List UInt8) : List UInt8 := b ++ List.replicate (7 - b.length % 8) 0 ++ [UInt8.ofNat b.length]
theorem padL_len (b : List UInt8) : (padL b).length = 8 * (b.length / 8 + 1) := by
  unfold padL
  simp only [List.length_append, List.length_replicate, List.length_cons, List.length_nil]
  omega
def rndN (s : Sp) : Nat → Sp
  | 0 => s
  | n + 1 => rndS (rndN s n)
theorem rndN_rng {s : Sp} (h : Rng s) : ∀ n, Rng (rndN s n)
  | 0 => h
  | n + 1 => rnd_rng _
def preF (k b : List UInt8) : Sp := ⟨(stN k (padL b) (b.length / 8 + 1)).a, (stN k (padL b) (b.length / 8 + 1)).b, xoI (stN k (padL b) (b.length / 8 + 1)).c 255, (stN k (padL b) (b.length / 8 + 1)).d⟩
theorem preF_rng (k b : List UInt8) : Rng (preF k b) := rng_of (stN_rng _ _ _ 0) (stN_rng _ _ _ 1) (xo_rng _ _) (stN_rng _ _ _ 3)
def sipS (k b : List UInt8) : Int := xoI (xoI (xoI (rndN (preF k b) 4).a (rndN (preF k b) 4).b) (rndN (preF k b) 4).c) (rndN (preF k b) 4).d
theorem sip_rng (k b : List UInt8) : 0 ≤ sipS k b ∧ sipS k b ≤ 18446744073709551615 := xo_rng _ _
theorem getV_take {l : List UInt8} {n : Nat} (h : 8 ≤ n) (hl : 8 ≤ l.length) : getV (l.take n) 8 = getV l 8 := by
  unfold getV
  rw [if_pos (by rw [List.length_take]; omega), if_pos hl, List.take_take, Nat.min_eq_left h]
theorem wd_pad {b : List UInt8} {i : Nat} (h : i < b.length / 8) : wdI (padL b) i = (getV ((b.take (8 * (b.length / 8))).drop (8 * i)) 8 : Nat) := by
  unfold wdI
  congr 1
  have h1 : (b.drop (8 * i)).length ≥ 8 := by rw [List.length_drop]; omega
  have e1 : (padL b).drop (8 * i) = b.drop (8 * i) ++ (List.replicate (7 - b.length % 8) 0 ++ [UInt8.ofNat b.length]) := by
    unfold padL
    rw [List.append_assoc, List.drop_append_of_le_length (by omega)]
  have e2 : (b.take (8 * (b.length / 8))).drop (8 * i) = (b.drop (8 * i)).take (8 * (b.length / 8) - 8 * i) := List.drop_take
  rw [e1, e2, getV_take (by omega) h1]
  unfold getV
  rw [if_pos (by rw [List.length_append]; omega), if_pos h1, List.take_append_of_le_length h1]
theorem wd_last (b : List UInt8) : wdI (padL b) (b.length / 8) = (getV (b.drop (8 * (b.length / 8)) ++ List.replicate (7 - b.length % 8) 0 ++ [UInt8.ofNat b.length]) 8 : Nat) := by
  unfold wdI padL
  rw [List.append_assoc, List.drop_append_of_le_length (by omega), List.append_assoc]
theorem cut_word {l : List UInt8} {i : Nat} (h : 8 * i + 8 ≤ l.length) : (getV ((l.take (8 * i + 8)).drop (8 * i)) 8 : Nat) = getV (l.drop (8 * i)) 8 := by
  have e2 : (l.take (8 * i + 8)).drop (8 * i) = (l.drop (8 * i)).take (8 * i + 8 - 8 * i) := List.drop_take
  rw [e2, getV_take (by omega) (by rw [List.length_drop]; omega)]
theorem or_add {n : Nat} {X : Nat} (hn : n ≤ 64) (hX : X < 2 ^ 64) : Sy.bitsV .or .u64 (IntKind.wrap .u64 ((X : Int) * 2 ^ n)) ((X / 2 ^ (64 - n) : Nat) : Int) = rlI n X := by
  have e1 : IntKind.wrap .u64 ((X : Int) * 2 ^ n) = ((X % 2 ^ (64 - n) * 2 ^ n : Nat) : Int) := by
    rw [show IntKind.wrap .u64 ((X : Int) * 2 ^ n) = ((X : Int) * 2 ^ n) % 18446744073709551616 from rfl]
    have : (X * 2 ^ n) % 2 ^ 64 = X % 2 ^ (64 - n) * 2 ^ n := by
      rw [show (2 : Nat) ^ 64 = 2 ^ (64 - n) * 2 ^ n by rw [← Nat.pow_add]; congr 1; omega, Nat.mul_mod_mul_right]
    rw [← this]
    simp
  have hlo : X / 2 ^ (64 - n) < 2 ^ n := by
    rw [Nat.div_lt_iff_lt_mul (Nat.two_pow_pos _), ← Nat.pow_add, show n + (64 - n) = 64 by omega]
    exact hX
  have hhi : X % 2 ^ (64 - n) * 2 ^ n < 2 ^ 64 := by
    have h1 : X % 2 ^ (64 - n) < 2 ^ (64 - n) := Nat.mod_lt _ (Nat.two_pow_pos _)
    calc X % 2 ^ (64 - n) * 2 ^ n < 2 ^ (64 - n) * 2 ^ n := Nat.mul_lt_mul_of_pos_right h1 (Nat.two_pow_pos _)
      _ = 2 ^ 64 := by rw [← Nat.pow_add]; congr 1; omega
  have hl64 : X / 2 ^ (64 - n) < 2 ^ 64 := Nat.lt_of_lt_of_le hlo (Nat.pow_le_pow_right (by decide) hn)
  have hor : (X % 2 ^ (64 - n) * 2 ^ n) ||| (X / 2 ^ (64 - n)) = X % 2 ^ (64 - n) * 2 ^ n + X / 2 ^ (64 - n) := by
    rw [Nat.mul_comm]
    exact (Nat.two_pow_add_eq_or_of_lt hlo _).symm
  rw [e1]
  unfold Sy.bitsV
  have hb : (((BitVec.ofInt IntKind.u64.bits ((X % 2 ^ (64 - n) * 2 ^ n : Nat) : Int)) ||| (BitVec.ofInt IntKind.u64.bits ((X / 2 ^ (64 - n) : Nat) : Int))).toNat) = X % 2 ^ (64 - n) * 2 ^ n + X / 2 ^ (64 - n) := by
    show (((BitVec.ofInt 64 ((X % 2 ^ (64 - n) * 2 ^ n : Nat) : Int)) ||| (BitVec.ofInt 64 ((X / 2 ^ (64 - n) : Nat) : Int))).toNat) = _
    rw [BitVec.toNat_or, BitVec.ofInt_natCast, BitVec.ofInt_natCast, BitVec.toNat_ofNat, BitVec.toNat_ofNat, Nat.mod_eq_of_lt hhi, Nat.mod_eq_of_lt hl64, hor]
  show IntKind.wrap .u64 ((((BitVec.ofInt IntKind.u64.bits _) ||| (BitVec.ofInt IntKind.u64.bits _)).toNat : Nat) : Int) = _
  rw [hb]
  have hs : X % 2 ^ (64 - n) * 2 ^ n + X / 2 ^ (64 - n) < 2 ^ 64 := by
    rw [← hor]; exact Nat.or_lt_two_pow hhi hl64
  unfold rlI
  rw [show IntKind.wrap .u64 ((X % 2 ^ (64 - n) * 2 ^ n + X / 2 ^ (64 - n) : Nat) : Int) = ((X % 2 ^ (64 - n) * 2 ^ n + X / 2 ^ (64 - n) : Nat) : Int) % 18446744073709551616 from rfl]
  rw [show ((X % 2 ^ (64 - n) * 2 ^ n + X / 2 ^ (64 - n) : Nat) : Int) % 18446744073709551616 = ((X % 2 ^ (64 - n) * 2 ^ n + X / 2 ^ (64 - n) : Nat) : Int) by
    have h2 : (2 : Nat) ^ 64 = 18446744073709551616 := rfl
    rw [h2] at hs
    omega]
  simp
theorem or_turn {n m : Nat} (hm : m = 64 - n) (hn : n ≤ 64) {x : Int} (h0 : 0 ≤ x) (h1 : x ≤ 18446744073709551615) : Sy.bitsV .or .u64 (IntKind.wrap .u64 (x * 2 ^ n)) (x.fdiv (2 ^ m)) = rlI n x := by
  obtain ⟨X, rfl⟩ := Int.eq_ofNat_of_zero_le h0
  subst hm
  rw [← or_add hn (by omega)]
  congr 1
  rw [Int.fdiv_eq_ediv_of_nonneg _ (by exact Int.le_of_lt (Int.pow_pos (by decide)))]
  simp
def numS (k : List UInt8) (p m : Int) : Int := if m = 18446744073709551615 then sipS k (byL (numB p 8)) else sipS k (byL (numB p 8)) % (m + 1)
theorem num_rng {k : List UInt8} {p m : Int} (h0 : 0 ≤ m) (h1 : m ≤ 18446744073709551615) : 0 ≤ numS k p m ∧ numS k p m ≤ m := by
  have h := sip_rng k (byL (numB p 8))
  unfold numS
  split
  · omega
  · have h2 := Int.emod_nonneg (sipS k (byL (numB p 8))) (show m + 1 ≠ 0 by omega)
    have h3 := Int.emod_lt_of_pos (sipS k (byL (numB p 8))) (show 0 < m + 1 by omega)
    omega
theorem num_zero {k : List UInt8} {p : Int} : numS k p 0 = 0 := by
  unfold numS
  rw [if_neg (by decide)]
  show _ % (1 : Int) = 0
  exact Int.emod_one _
def drvL (k : List UInt8) (u : Int) : List Value := numB (sipS k (byL [.int .u8 u, .int .u8 0])) 8 ++ numB (sipS k (byL [.int .u8 u, .int .u8 1])) 8
theorem isB_ok {L : List Value} (h : okR L = true) (h2 : ∀ x ∈ L, ∃ n, x = .int .u8 n) : isB L := fun x hx => by
  obtain ⟨n, rfl⟩ := h2 x hx
  have := okR_iff.1 h _ hx .u8 n rfl
  simp [Lit.wf, IntKind.min, IntKind.max, IntKind.signed, IntKind.bits] at this
  exact ⟨n, rfl, this.1, by omega⟩
theorem rest_cells {S : List Value} (h : isB S) (hl : S.length ≤ 7) (x : Int) : byL [.int .u8 (Go.RowKit.intOf ((S ++ List.drop S.length ([.int .u8 0, .int .u8 0, .int .u8 0, .int .u8 0, .int .u8 0, .int .u8 0, .int .u8 0, .int .u8 0] : List Value)).getD (Int.toNat 0) Go.undef)), .int .u8 (Go.RowKit.intOf ((S ++ List.drop S.length ([.int .u8 0, .int .u8 0, .int .u8 0, .int .u8 0, .int .u8 0, .int .u8 0, .int .u8 0, .int .u8 0] : List Value)).getD (Int.toNat 1) Go.undef)), .int .u8 (Go.RowKit.intOf ((S ++ List.drop S.length ([.int .u8 0, .int .u8 0, .int .u8 0, .int .u8 0, .int .u8 0, .int .u8 0, .int .u8 0, .int .u8 0] : List Value)).getD (Int.toNat 2) Go.undef)), .int .u8 (Go.RowKit.intOf ((S ++ List.drop S.length ([.int .u8 0, .int .u8 0, .int .u8 0, .int .u8 0, .int .u8 0, .int .u8 0, .int .u8 0, .int .u8 0] : List Value)).getD (Int.toNat 3) Go.undef)), .int .u8 (Go.RowKit.intOf ((S ++ List.drop S.length ([.int .u8 0, .int .u8 0, .int .u8 0, .int .u8 0, .int .u8 0, .int .u8 0, .int .u8 0, .int .u8 0] : List Value)).getD (Int.toNat 4) Go.undef)), .int .u8 (Go.RowKit.intOf ((S ++ List.drop S.length ([.int .u8 0, .int .u8 0, .int .u8 0, .int .u8 0, .int .u8 0, .int .u8 0, .int .u8 0, .int .u8 0] : List Value)).getD (Int.toNat 5) Go.undef)), .int .u8 (Go.RowKit.intOf ((S ++ List.drop S.length ([.int .u8 0, .int .u8 0, .int .u8 0, .int .u8 0, .int .u8 0, .int .u8 0, .int .u8 0, .int .u8 0] : List Value)).getD (Int.toNat 6) Go.undef)), .int .u8 x] = byL S ++ List.replicate (7 - S.length) 0 ++ [UInt8.ofNat x.toNat] := by
  match S, hl with
  | [], _ => rfl
  | [a], _ => rfl
  | [a, b], _ => rfl
  | [a, b, c], _ => rfl
  | [a, b, c, d], _ => rfl
  | [a, b, c, d, e], _ => rfl
  | [a, b, c, d, e, f], _ => rfl
  | [a, b, c, d, e, f, g], _ => rfl
theorem rest_isB {S : List Value} (h : isB S) (hl : S.length ≤ 7) {x : Int} (h0 : 0 ≤ x) (h1 : x ≤ 255) : isB [.int .u8 (Go.RowKit.intOf ((S ++ List.drop S.length ([.int .u8 0, .int .u8 0, .int .u8 0, .int .u8 0, .int .u8 0, .int .u8 0, .int .u8 0, .int .u8 0] : List Value)).getD (Int.toNat 0) Go.undef)), .int .u8 (Go.RowKit.intOf ((S ++ List.drop S.length ([.int .u8 0, .int .u8 0, .int .u8 0, .int .u8 0, .int .u8 0, .int .u8 0, .int .u8 0, .int .u8 0] : List Value)).getD (Int.toNat 1) Go.undef)), .int .u8 (Go.RowKit.intOf ((S ++ List.drop S.length ([.int .u8 0, .int .u8 0, .int .u8 0, .int .u8 0, .int .u8 0, .int .u8 0, .int .u8 0, .int .u8 0] : List Value)).getD (Int.toNat 2) Go.undef)), .int .u8 (Go.RowKit.intOf ((S ++ List.drop S.length ([.int .u8 0, .int .u8 0, .int .u8 0, .int .u8 0, .int .u8 0, .int .u8 0, .int .u8 0, .int .u8 0] : List Value)).getD (Int.toNat 3) Go.undef)), .int .u8 (Go.RowKit.intOf ((S ++ List.drop S.length ([.int .u8 0, .int .u8 0, .int .u8 0, .int .u8 0, .int .u8 0, .int .u8 0, .int .u8 0, .int .u8 0] : List Value)).getD (Int.toNat 4) Go.undef)), .int .u8 (Go.RowKit.intOf ((S ++ List.drop S.length ([.int .u8 0, .int .u8 0, .int .u8 0, .int .u8 0, .int .u8 0, .int .u8 0, .int .u8 0, .int .u8 0] : List Value)).getD (Int.toNat 5) Go.undef)), .int .u8 (Go.RowKit.intOf ((S ++ List.drop S.length ([.int .u8 0, .int .u8 0, .int .u8 0, .int .u8 0, .int .u8 0, .int .u8 0, .int .u8 0, .int .u8 0] : List Value)).getD (Int.toNat 6) Go.undef)), .int .u8 x] := by
  have hz : isB ([.int .u8 0, .int .u8 0, .int .u8 0, .int .u8 0, .int .u8 0, .int .u8 0, .int .u8 0, .int .u8 0] : List Value) := by
    intro y hy
    simp only [List.mem_cons, List.not_mem_nil, or_false] at hy
    rcases hy with rfl | rfl | rfl | rfl | rfl | rfl | rfl | rfl <;> exact ⟨0, rfl, by omega, by omega⟩
  have hX : isB (S ++ List.drop S.length ([.int .u8 0, .int .u8 0, .int .u8 0, .int .u8 0, .int .u8 0, .int .u8 0, .int .u8 0, .int .u8 0] : List Value)) := isB.app h (isB.drop hz _)
  have hXl : 7 ≤ (S ++ List.drop S.length ([.int .u8 0, .int .u8 0, .int .u8 0, .int .u8 0, .int .u8 0, .int .u8 0, .int .u8 0, .int .u8 0] : List Value)).length := by
    rw [List.length_append, List.length_drop]
    simp only [List.length_cons, List.length_nil]
    omega
  have g : ∀ j, j < 7 → 0 ≤ Go.RowKit.intOf ((S ++ List.drop S.length ([.int .u8 0, .int .u8 0, .int .u8 0, .int .u8 0, .int .u8 0, .int .u8 0, .int .u8 0, .int .u8 0] : List Value)).getD j Go.undef) ∧ Go.RowKit.intOf ((S ++ List.drop S.length ([.int .u8 0, .int .u8 0, .int .u8 0, .int .u8 0, .int .u8 0, .int .u8 0, .int .u8 0, .int .u8 0] : List Value)).getD j Go.undef) ≤ 255 := fun j hj => (hX.get (i := j) (by omega)).2
  exact .cons (g 0 (by omega)).1 (g 0 (by omega)).2 (.cons (g 1 (by omega)).1 (g 1 (by omega)).2 (.cons (g 2 (by omega)).1 (g 2 (by omega)).2 (.cons (g 3 (by omega)).1 (g 3 (by omega)).2 (.cons (g 4 (by omega)).1 (g 4 (by omega)).2 (.cons (g 5 (by omega)).1 (g 5 (by omega)).2 (.cons (g 6 (by omega)).1 (g 6 (by omega)).2 (.cons h0 h1 .nil)))))))
theorem last_word {L : List Value} : ((getV (byL (List.drop (L.length / 8 * 8) L) ++ List.replicate (7 - (List.drop (L.length / 8 * 8) L).length) 0 ++ [UInt8.ofNat (IntKind.wrap .u8 (L.length : Int)).toNat]) 8 : Nat) : Int) = wdI (padL (byL L)) (L.length / 8) := by
  have h := wd_last (byL L)
  have hl := byL_len L
  rw [hl] at h
  have hu : UInt8.ofNat (IntKind.wrap .u8 (L.length : Int)).toNat = UInt8.ofNat L.length := by
    rw [show (IntKind.wrap .u8 (L.length : Int)).toNat = L.length % 256 by rw [show IntKind.wrap .u8 (L.length : Int) = (L.length : Int) % 256 from rfl]; omega]
    apply UInt8.toNat_inj.1
    simp [UInt8.toNat_ofNat']
  rw [h, hu, byL_drop, List.length_drop, Nat.mul_comm 8, show 7 - (L.length - L.length / 8 * 8) = 7 - L.length % 8 by omega]
theorem tm8N (n : Nat) : Int.tmod (n : Int) 8 = ((n % 8 : Nat) : Int) := by rw [Int.tmod_eq_emod_of_nonneg (by omega)]; omega
theorem tm256N (n : Nat) : Int.tmod (n : Int) 256 = ((n % 256 : Nat) : Int) := by rw [Int.tmod_eq_emod_of_nonneg (by omega)]; omega
theorem all_pad {L A : List Value} (h : isB L) (hA : A = L ++ List.replicate (7 - L.length % 8) (Value.int .u8 0)) : A ++ [Value.int .u8 (IntKind.wrap .u8 ((L.length % 256 : Nat) : Int))] = (padL (byL L)).map bV := by
  have hl := byL_len L
  unfold padL
  rw [hA, List.map_append, List.map_append, h.by, hl, List.map_replicate]
  have e1 : bV 0 = Value.int .u8 0 := rfl
  have e2 : [UInt8.ofNat L.length].map bV = [Value.int .u8 (IntKind.wrap .u8 ((L.length % 256 : Nat) : Int))] := by
    show [Value.int .u8 ((UInt8.ofNat L.length).toNat : Int)] = _
    rw [UInt8.toNat_ofNat', show IntKind.wrap .u8 ((L.length % 256 : Nat) : Int) = ((L.length % 256 : Nat) : Int) % 256 from rfl]
    congr 2
    omega
  rw [e1, e2]
end Go.Proofs.Ytbgmbbkmadkhgaa
