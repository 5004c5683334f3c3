/-
  Layer 5: the document's reader of fields.
-/
import Derived.Test.YtffdglhdklmjoaaDoorW05g
namespace Go.Proofs.YtffdglhdklmjoaaDoor
open Go.RowKit Go.Extern.Stop Go.Stop Go.Extern
set_option linter.unusedVariables false
set_option linter.unusedSimpArgs false
theorem rd_drop_all {l : List UInt8} {k : Nat} (w : World) (A : Option Addr) (h : l.length ≤ k) : Rd w A (l.drop k) := by
  rw [List.drop_of_length_le h]; exact Rd.nil _ _
theorem leV_cons (x : UInt8) (r : List UInt8) : leV (x :: r) = leV r * 256 + x.toNat := by
  unfold leV
  rw [List.reverse_cons, beV_snoc]
def RTakeP (U w : World) (l : List UInt8) (bad : Bool) (v : Nat) (e : Ending) (w' : World) : Prop :=
  ∃ A c, e = .returned (.tuple #[.agg #[.slice A l.length c, .bool bad], .int .u64 (v : Int)]) ∧ Rd U A l ∧ (A = none → c = 0) ∧ l.length ≤ c ∧ Below w.heap.size w w'
theorem rtake_bad (U : World) (A : Option Addr) (c n : Nat) (bad : Bool) (z : Int) (k : Nat) (w : World) (hz : z = (k : Int)) (hb : bad = true ∨ n < k) (hn : n ≤ 140737488355328) (hk : k ≤ 8) :
    Calls Tryd.prog 74 #[.agg #[.slice A n c, .bool bad], .int .i64 z] w (RTakeP U w [] true 0) := by
  subst hz
  cases bad
  · have h1 : n < k := by simpa using hb
    clear hb
    go_enter Tryd.func74, Tryd.ntmps74
    go_wp2_with (fail)
    refine bodyPost_ret (v := .tuple #[.agg #[.slice none 0 0, .bool true], .int .u64 0]) (by first | (simp [results, Tryd.results74, go_sem]; done) | (simp only [results, Tryd.results74]; go_simp; done) | (simp only [results, Tryd.results74]; go_simp; omega)) rfl (⟨none, 0, rfl, Rd.nil _ _, fun _ => rfl, Nat.le_refl _, by repeat (first | with_reducible assumption | exact Below.refl _ _ | refine Below.drew ?_ | refine Below.setCell ?_ (by first | omega | (simp; done) | (simp; omega)) _ | refine Below.alloc ?_ (by first | omega | (simp; done) | (simp; omega)) _)⟩)
  · clear hb
    go_enter Tryd.func74, Tryd.ntmps74
    go_wp2_with (fail)
    refine bodyPost_ret (v := .tuple #[.agg #[.slice none 0 0, .bool true], .int .u64 0]) (by first | (simp [results, Tryd.results74, go_sem]; done) | (simp only [results, Tryd.results74]; go_simp; done) | (simp only [results, Tryd.results74]; go_simp; omega)) rfl (⟨none, 0, rfl, Rd.nil _ _, fun _ => rfl, Nat.le_refl _, by repeat (first | with_reducible assumption | exact Below.refl _ _ | refine Below.drew ?_ | refine Below.setCell ?_ (by first | omega | (simp; done) | (simp; omega)) _ | refine Below.alloc ?_ (by first | omega | (simp; done) | (simp; omega)) _)⟩)
set_option maxRecDepth 100000 in
set_option maxHeartbeats 4000000 in
theorem rtake_eq (U : World) (ad : Addr) (c : Nat) (l : List UInt8) (k : Nat) (w : World) (hRU : Rd U (some ad) l) (hUw : Below U.heap.size U w) (hk0 : 1 ≤ k) (hk : k ≤ l.length) (hc : l.length ≤ k) (hl : l.length ≤ 140737488355328) (hk8 : k ≤ 8) :
    Calls Tryd.prog 74 #[.agg #[.slice (some ad) l.length k, .bool false], .int .i64 k] w (RTakeP U w (l.drop k) false (leV (l.take k))) := by
  have hR := hRU.below hUw
  have hRW : Rd ((w.alloc (.cells #[.slice (some ad) l.length k, .bool false] 109)).alloc (.cells #[.slice none 0 0, .bool false] 109)) (some ad) l := hR.below (((Below.refl _ _).alloc (Nat.le_refl _) _).alloc (by simp) _)
  have hl1 : (l.drop k).length = l.length - k := by simp
  go_enter Tryd.func74, Tryd.ntmps74
  go_wp2_with (fail)
  go_loop [6, 7] (fun v i => ∃ j : Nat, j ≤ k ∧ i = .int .i64 ((j : Int) - 1) ∧ v = .int .u64 (leV ((l.take k).drop j) : Nat)) (fun _ i => (intOf i + 1).toNat)
  case atStart => exact ⟨k, Nat.le_refl _, rfl, by rw [List.drop_of_length_le (by simp; omega)]; rfl⟩
  case round =>
    obtain ⟨j, hj, rfl, rfl⟩ := hrel
    rcases j with _ | m
    · simp only [Int.natCast_zero, Int.zero_sub, List.drop_zero]
      go_wp2_with (fail)
      refine bodyPost_ret (v := .tuple #[.agg #[.slice (some ad) (l.length - k) (0), .bool false], .int .u64 (leV (l.take k) : Nat)]) (by first | (simp [results, Tryd.results74, go_sem]; done) | (simp only [results, Tryd.results74]; go_simp; done) | (simp only [results, Tryd.results74]; go_simp; omega)) rfl ⟨some ad, 0, by rw [hl1], rd_drop_all _ _ (by omega), (fun e => by cases e), by rw [hl1]; omega, by repeat (first | with_reducible assumption | exact Below.refl _ _ | refine Below.drew ?_ | refine Below.setCell ?_ (by first | omega | (simp; done) | (simp; omega)) _ | refine Below.alloc ?_ (by first | omega | (simp; done) | (simp; omega)) _)⟩
    · rw [show ((m + 1 : Nat) : Int) - 1 = (m : Int) by omega]
      have hm : m < l.length := by omega
      have hcx := hRW.cell hm
      have hb : leV ((l.take k).drop (m + 1)) < 72057594037927936 := by
        have h1 := leV_lt ((l.take k).drop (m + 1))
        have h2 : 256 ^ ((l.take k).drop (m + 1)).length ≤ 256 ^ 7 := Nat.pow_le_pow_right (by decide) (by simp; omega)
        have h3 : 256 ^ 7 = 72057594037927936 := by decide
        omega
      have HS := Lib.hid (show leV ((l.take k).drop m) = leV ((l.take k).drop (m + 1)) * 256 + l[m].toNat by
        have h1 : (l.take k).drop m = l[m] :: (l.take k).drop (m + 1) := by
          rw [List.drop_eq_getElem_cons (by simp; omega)]; simp
        rw [h1, leV_cons])
      have hx := l[m].toNat_lt
      generalize leV ((l.take k).drop (m + 1)) = v at *
      go_wp2_with (fail)
      go_round
      case rel => exact ⟨m, by omega, rfl, by rw [HS.out]; simp; omega⟩
      case measure => simp [intOf]
set_option maxRecDepth 100000 in
set_option maxHeartbeats 4000000 in
theorem rtake_ne (U : World) (ad : Addr) (c : Nat) (l : List UInt8) (k : Nat) (w : World) (hRU : Rd U (some ad) l) (hUw : Below U.heap.size U w) (hk0 : 1 ≤ k) (hk : k ≤ l.length) (hc : l.length ≤ c) (hl : l.length ≤ 140737488355328) (hk8 : k ≤ 8) (hck : ¬ c = k) :
    Calls Tryd.prog 74 #[.agg #[.slice (some ad) l.length c, .bool false], .int .i64 k] w (RTakeP U w (l.drop k) false (leV (l.take k))) := by
  have hR := hRU.below hUw
  have hRW : Rd ((w.alloc (.cells #[.slice (some ad) l.length c, .bool false] 109)).alloc (.cells #[.slice none 0 0, .bool false] 109)) (some ad) l := hR.below (((Below.refl _ _).alloc (Nat.le_refl _) _).alloc (by simp) _)
  have hl1 : (l.drop k).length = l.length - k := by simp
  go_enter Tryd.func74, Tryd.ntmps74
  go_wp2_with (fail)
  go_loop [6, 7] (fun v i => ∃ j : Nat, j ≤ k ∧ i = .int .i64 ((j : Int) - 1) ∧ v = .int .u64 (leV ((l.take k).drop j) : Nat)) (fun _ i => (intOf i + 1).toNat)
  case atStart => exact ⟨k, Nat.le_refl _, rfl, by rw [List.drop_of_length_le (by simp; omega)]; rfl⟩
  case round =>
    obtain ⟨j, hj, rfl, rfl⟩ := hrel
    rcases j with _ | m
    · simp only [Int.natCast_zero, Int.zero_sub, List.drop_zero]
      go_wp2_with (fail)
      refine bodyPost_ret (v := .tuple #[.agg #[.slice (some (ad.add k)) (l.length - k) (c - k), .bool false], .int .u64 (leV (l.take k) : Nat)]) (by first | (simp [results, Tryd.results74, go_sem]; done) | (simp only [results, Tryd.results74]; go_simp; done) | (simp only [results, Tryd.results74]; go_simp; omega)) rfl ⟨some (ad.add k), c - k, by rw [hl1], (hRU.drop k), (fun e => by cases e), by rw [hl1]; omega, by repeat (first | with_reducible assumption | exact Below.refl _ _ | refine Below.drew ?_ | refine Below.setCell ?_ (by first | omega | (simp; done) | (simp; omega)) _ | refine Below.alloc ?_ (by first | omega | (simp; done) | (simp; omega)) _)⟩
    · rw [show ((m + 1 : Nat) : Int) - 1 = (m : Int) by omega]
      have hm : m < l.length := by omega
      have hcx := hRW.cell hm
      have hb : leV ((l.take k).drop (m + 1)) < 72057594037927936 := by
        have h1 := leV_lt ((l.take k).drop (m + 1))
        have h2 : 256 ^ ((l.take k).drop (m + 1)).length ≤ 256 ^ 7 := Nat.pow_le_pow_right (by decide) (by simp; omega)
        have h3 : 256 ^ 7 = 72057594037927936 := by decide
        omega
      have HS := Lib.hid (show leV ((l.take k).drop m) = leV ((l.take k).drop (m + 1)) * 256 + l[m].toNat by
        have h1 : (l.take k).drop m = l[m] :: (l.take k).drop (m + 1) := by
          rw [List.drop_eq_getElem_cons (by simp; omega)]; simp
        rw [h1, leV_cons])
      have hx := l[m].toNat_lt
      generalize leV ((l.take k).drop (m + 1)) = v at *
      go_wp2_with (fail)
      go_round
      case rel => exact ⟨m, by omega, rfl, by rw [HS.out]; simp; omega⟩
      case measure => simp [intOf]
theorem rtake_ok (U : World) (ad : Addr) (c n : Nat) (l : List UInt8) (z : Int) (k : Nat) (w : World) (hz : z = (k : Int)) (hn : n = l.length) (hRU : Rd U (some ad) l) (hUw : Below U.heap.size U w) (hk0 : 1 ≤ k) (hk : k ≤ l.length) (hc : l.length ≤ c) (hl : l.length ≤ 140737488355328) (hk8 : k ≤ 8) :
    Calls Tryd.prog 74 #[.agg #[.slice (some ad) n c, .bool false], .int .i64 z] w (RTakeP U w (l.drop k) false (leV (l.take k))) := by
  subst hz hn
  by_cases hck : c = k
  · rw [hck] at hc ⊢
    exact rtake_eq U ad k l k w hRU hUw hk0 hk hc hl hk8
  · exact rtake_ne U ad c l k w hRU hUw hk0 hk hc hl hk8 hck
end Go.Proofs.YtffdglhdklmjoaaDoor
