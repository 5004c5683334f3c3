/-
  Layer 5: the document's reader of fields: words, the end.
-/
import Derived.Test.YtffdglhdklmjoaaDoorW05h
import Derived.Deep.CutRange
namespace Go.Proofs.YtffdglhdklmjoaaDoor
open Go.RowKit Go.Extern.Stop Go.Stop Go.Extern
set_option linter.unusedVariables false
set_option linter.unusedSimpArgs false
theorem rtake_n (U : World) (A : Option Addr) (c n : Nat) (l l' : List UInt8) (bad bad' : Bool) (z : Int) (k v : Nat) (w : World) (hRU : Rd U A l) (hUw : Below U.heap.size U w) (hlc : l.length ≤ c) (hb : bad = true → l = []) (hz : z = (k : Int)) (hn : n = l.length) (hl : l.length ≤ 140737488355328) (hk0 : 1 ≤ k) (hk8 : k ≤ 8) (hv : getV l k = v) (hL : getL l k = l') (hS : getS l bad k = bad') :
    Calls Tryd.prog 74 #[.agg #[.slice A n c, .bool bad], .int .i64 z] w (RTakeP U w l' bad' v) := by
  subst hn hv hL hS
  unfold getV getL getS
  by_cases hk : k ≤ l.length
  · simp only [if_pos hk]
    rcases A with _ | ad
    · have := hRU.1 rfl
      rw [this] at hk; simp at hk; omega
    · cases bad
      · exact rtake_ok U ad c _ l z k w hz rfl hRU hUw hk0 hk hlc hl hk8
      · rw [hb rfl] at hk; simp at hk; omega
  · simp only [if_neg hk]
    exact rtake_bad U A c _ bad z k w hz (Or.inr (by omega)) hl hk8
def RWordsP (U w : World) (l : List UInt8) (bad : Bool) (t : List UInt8) (e : Ending) (w' : World) : Prop :=
  ∃ A c, e = .returned (.tuple #[.agg #[.slice A l.length c, .bool bad], .string ⟨t.toArray⟩]) ∧ Rd U A l ∧ (A = none → c = 0) ∧ l.length ≤ c ∧ Below w.heap.size w w'
theorem getV_one (x : UInt8) (r : List UInt8) : getV (x :: r) 1 = x.toNat := by
  unfold getV; simp [leV, beV]
theorem getL_one (x : UInt8) (r : List UInt8) : getL (x :: r) 1 = r := by
  unfold getL; simp
theorem getS_one (x : UInt8) (r : List UInt8) (b : Bool) : getS (x :: r) b 1 = b := by
  unfold getS; simp
theorem rwords_nil (U : World) (A : Option Addr) (c n : Nat) (bad : Bool) (w : World) (hRU : Rd U A []) (hUw : Below U.heap.size U w) (hn : n = 0) :
    Calls Tryd.prog 75 #[.agg #[.slice A n c, .bool bad]] w (RWordsP U w [] true []) := by
  subst hn
  have hB := Below.refl w.heap.size w
  go_enter Tryd.func75, Tryd.ntmps75
  go_wp2_with (fail)
  go_at_call 74
  (with_reducible refine (rtake_n U A c _ [] [] bad true _ 1 0 _ (by exact hRU) (by exact hUw.trans ((show Below w.heap.size w _ from by repeat (first | with_reducible assumption | exact Below.refl _ _ | refine Below.drew ?_ | refine Below.setCell ?_ (by first | omega | (simp; done) | (simp; omega)) _ | refine Below.alloc ?_ (by first | omega | (simp; done) | (simp; omega)) _)).mono hUw.size)) (by simp) (by exact fun _ => rfl) (by simp) (by simp) (by decide) (by decide) (by decide) (by decide) (by decide) (by simp [getS])).mono ?_)
  rintro e w1 ⟨A1, c1, rfl, hR1, hn1, hlc1, HB⟩
  obtain ⟨hc1, hf1⟩ := bcell HB
  have hz1 := HB.size
  try simp at hz1
  replace hB := Below.trans (show Below w.heap.size w _ from by repeat (first | with_reducible assumption | exact Below.refl _ _ | refine Below.drew ?_ | refine Below.setCell ?_ (by first | omega | (simp; done) | (simp; omega)) _ | refine Below.alloc ?_ (by first | omega | (simp; done) | (simp; omega)) _)) (Below.mono (B' := w.heap.size) HB (by first | omega | (simp; done) | (simp; omega)))
  try (have z1w0 : w.heap.size < w1.heap.size := (by omega))
  try (have z1w1 : w.heap.size + 1 < w1.heap.size := (by omega))
  try (have z1w2 : w.heap.size + 1 + 1 < w1.heap.size := (by omega))
  clear HB
  have kc00 : w1.cell? ⟨w.heap.size, 0, none⟩ = some (.slice A 0 c) := by (rw [hc1 _ _ (by first | (simp; done) | (simp; omega))]; go_simp)
  have kf00 : w1.frozen? ⟨w.heap.size, 0, none⟩ = false := by (rw [hf1 _ _ (by first | (simp; done) | (simp; omega))]; go_simp)
  have kc01 : w1.cell? ⟨w.heap.size, 1, none⟩ = some (.bool bad) := by (rw [hc1 _ _ (by first | (simp; done) | (simp; omega))]; go_simp)
  have kf01 : w1.frozen? ⟨w.heap.size, 1, none⟩ = false := by (rw [hf1 _ _ (by first | (simp; done) | (simp; omega))]; go_simp)
  have kc10 : w1.cell? ⟨w.heap.size + 1, 0, none⟩ = some (.slice none 0 0) := by (rw [hc1 _ _ (by first | (simp; done) | (simp; omega))]; go_simp)
  have kf10 : w1.frozen? ⟨w.heap.size + 1, 0, none⟩ = false := by (rw [hf1 _ _ (by first | (simp; done) | (simp; omega))]; go_simp)
  have kc11 : w1.cell? ⟨w.heap.size + 1, 1, none⟩ = some (.bool false) := by (rw [hc1 _ _ (by first | (simp; done) | (simp; omega))]; go_simp)
  have kf11 : w1.frozen? ⟨w.heap.size + 1, 1, none⟩ = false := by (rw [hf1 _ _ (by first | (simp; done) | (simp; omega))]; go_simp)
  clear hc1 hf1
  go_wp2_with (fail)
  refine bodyPost_ret (v := .tuple #[.agg #[.slice none 0 0, .bool true], .string ⟨#[]⟩]) (by first | (simp [results, Tryd.results75, go_sem]; done) | (simp only [results, Tryd.results75]; go_simp; done) | (simp only [results, Tryd.results75]; go_simp; omega)) rfl (⟨none, 0, rfl, Rd.nil _ _, fun _ => rfl, Nat.le_refl _, by repeat (first | with_reducible assumption | exact Below.refl _ _ | refine Below.drew ?_ | refine Below.setCell ?_ (by first | omega | (simp; done) | (simp; omega)) _ | refine Below.alloc ?_ (by first | omega | (simp; done) | (simp; omega)) _)⟩)
theorem rwords_short (U : World) (ad : Addr) (c n : Nat) (x : UInt8) (r : List UInt8) (w : World) (hRU : Rd U (some ad) (x :: r)) (hUw : Below U.heap.size U w) (hlc : (x :: r).length ≤ c) (hn : n = r.length + 1) (hl : (x :: r).length ≤ 140737488355328) (hx : r.length < x.toNat) :
    Calls Tryd.prog 75 #[.agg #[.slice (some ad) n c, .bool false]] w (RWordsP U w [] true []) := by
  have hB := Below.refl w.heap.size w
  have hx1 := x.toNat_lt
  go_enter Tryd.func75, Tryd.ntmps75
  go_wp2_with (fail)
  go_at_call 74
  (with_reducible refine (rtake_n U (some ad) c _ (x :: r) r false false _ 1 x.toNat _ (by exact hRU) (by exact hUw.trans ((show Below w.heap.size w _ from by repeat (first | with_reducible assumption | exact Below.refl _ _ | refine Below.drew ?_ | refine Below.setCell ?_ (by first | omega | (simp; done) | (simp; omega)) _ | refine Below.alloc ?_ (by first | omega | (simp; done) | (simp; omega)) _)).mono hUw.size)) (by exact hlc) (by exact fun h => by cases h) (by simp) (by first | exact hn | simp) (by exact hl) (by decide) (by decide) (by exact getV_one x r) (by exact getL_one x r) (by exact getS_one x r false)).mono ?_)
  rintro e w1 ⟨A1, c1, rfl, hR1, hn1, hlc1, HB⟩
  obtain ⟨hc1, hf1⟩ := bcell HB
  have hz1 := HB.size
  try simp at hz1
  replace hB := Below.trans (show Below w.heap.size w _ from by repeat (first | with_reducible assumption | exact Below.refl _ _ | refine Below.drew ?_ | refine Below.setCell ?_ (by first | omega | (simp; done) | (simp; omega)) _ | refine Below.alloc ?_ (by first | omega | (simp; done) | (simp; omega)) _)) (Below.mono (B' := w.heap.size) HB (by first | omega | (simp; done) | (simp; omega)))
  try (have z1w0 : w.heap.size < w1.heap.size := (by omega))
  try (have z1w1 : w.heap.size + 1 < w1.heap.size := (by omega))
  try (have z1w2 : w.heap.size + 1 + 1 < w1.heap.size := (by omega))
  clear HB
  have kc00 : w1.cell? ⟨w.heap.size, 0, none⟩ = some (.slice (some ad) (r.length + 1) c) := by (rw [hc1 _ _ (by first | (simp; done) | (simp; omega))]; go_simp)
  have kf00 : w1.frozen? ⟨w.heap.size, 0, none⟩ = false := by (rw [hf1 _ _ (by first | (simp; done) | (simp; omega))]; go_simp)
  have kc01 : w1.cell? ⟨w.heap.size, 1, none⟩ = some (.bool false) := by (rw [hc1 _ _ (by first | (simp; done) | (simp; omega))]; go_simp)
  have kf01 : w1.frozen? ⟨w.heap.size, 1, none⟩ = false := by (rw [hf1 _ _ (by first | (simp; done) | (simp; omega))]; go_simp)
  have kc10 : w1.cell? ⟨w.heap.size + 1, 0, none⟩ = some (.slice none 0 0) := by (rw [hc1 _ _ (by first | (simp; done) | (simp; omega))]; go_simp)
  have kf10 : w1.frozen? ⟨w.heap.size + 1, 0, none⟩ = false := by (rw [hf1 _ _ (by first | (simp; done) | (simp; omega))]; go_simp)
  have kc11 : w1.cell? ⟨w.heap.size + 1, 1, none⟩ = some (.bool false) := by (rw [hc1 _ _ (by first | (simp; done) | (simp; omega))]; go_simp)
  have kf11 : w1.frozen? ⟨w.heap.size + 1, 1, none⟩ = false := by (rw [hf1 _ _ (by first | (simp; done) | (simp; omega))]; go_simp)
  clear hc1 hf1
  go_wp2_with (fail)
  refine bodyPost_ret (v := .tuple #[.agg #[.slice none 0 0, .bool true], .string ⟨#[]⟩]) (by first | (simp [results, Tryd.results75, go_sem]; done) | (simp only [results, Tryd.results75]; go_simp; done) | (simp only [results, Tryd.results75]; go_simp; omega)) rfl (⟨none, 0, rfl, Rd.nil _ _, fun _ => rfl, Nat.le_refl _, by repeat (first | with_reducible assumption | exact Below.refl _ _ | refine Below.drew ?_ | refine Below.setCell ?_ (by first | omega | (simp; done) | (simp; omega)) _ | refine Below.alloc ?_ (by first | omega | (simp; done) | (simp; omega)) _)⟩)
set_option maxRecDepth 100000 in
set_option maxHeartbeats 4000000 in
theorem rwords_ok (U : World) (ad : Addr) (c n : Nat) (x : UInt8) (r : List UInt8) (w : World) (hRU : Rd U (some ad) (x :: r)) (hUw : Below U.heap.size U w) (hlc : (x :: r).length ≤ c) (hn : n = r.length + 1) (hl : (x :: r).length ≤ 140737488355328) (hx : x.toNat ≤ r.length) :
    Calls Tryd.prog 75 #[.agg #[.slice (some ad) n c, .bool false]] w (RWordsP U w (r.drop x.toNat) false (r.take x.toNat)) := by
  have hB := Below.refl w.heap.size w
  have hx1 := x.toNat_lt
  have hl' : r.length < 140737488355328 := by simp at hl; omega
  have hnd : (r.drop x.toNat).length = r.length - x.toNat := by simp
  have hnt : (r.take x.toNat).length = x.toNat := by simp; omega
  go_enter Tryd.func75, Tryd.ntmps75
  go_wp2_with (fail)
  go_at_call 74
  (with_reducible refine (rtake_n U (some ad) c _ (x :: r) r false false _ 1 x.toNat _ (by exact hRU) (by exact hUw.trans ((show Below w.heap.size w _ from by repeat (first | with_reducible assumption | exact Below.refl _ _ | refine Below.drew ?_ | refine Below.setCell ?_ (by first | omega | (simp; done) | (simp; omega)) _ | refine Below.alloc ?_ (by first | omega | (simp; done) | (simp; omega)) _)).mono hUw.size)) (by exact hlc) (by exact fun h => by cases h) (by simp) (by first | exact hn | simp) (by exact hl) (by decide) (by decide) (by exact getV_one x r) (by exact getL_one x r) (by exact getS_one x r false)).mono ?_)
  rintro e w1 ⟨A1, c1, rfl, hR1, hn1, hlc1, HB⟩
  obtain ⟨hc1, hf1⟩ := bcell HB
  have hz1 := HB.size
  try simp at hz1
  replace hB := Below.trans (show Below w.heap.size w _ from by repeat (first | with_reducible assumption | exact Below.refl _ _ | refine Below.drew ?_ | refine Below.setCell ?_ (by first | omega | (simp; done) | (simp; omega)) _ | refine Below.alloc ?_ (by first | omega | (simp; done) | (simp; omega)) _)) (Below.mono (B' := w.heap.size) HB (by first | omega | (simp; done) | (simp; omega)))
  try (have z1w0 : w.heap.size < w1.heap.size := (by omega))
  try (have z1w1 : w.heap.size + 1 < w1.heap.size := (by omega))
  try (have z1w2 : w.heap.size + 1 + 1 < w1.heap.size := (by omega))
  clear HB
  have kc00 : w1.cell? ⟨w.heap.size, 0, none⟩ = some (.slice (some ad) (r.length + 1) c) := by (rw [hc1 _ _ (by first | (simp; done) | (simp; omega))]; go_simp)
  have kf00 : w1.frozen? ⟨w.heap.size, 0, none⟩ = false := by (rw [hf1 _ _ (by first | (simp; done) | (simp; omega))]; go_simp)
  have kc01 : w1.cell? ⟨w.heap.size, 1, none⟩ = some (.bool false) := by (rw [hc1 _ _ (by first | (simp; done) | (simp; omega))]; go_simp)
  have kf01 : w1.frozen? ⟨w.heap.size, 1, none⟩ = false := by (rw [hf1 _ _ (by first | (simp; done) | (simp; omega))]; go_simp)
  have kc10 : w1.cell? ⟨w.heap.size + 1, 0, none⟩ = some (.slice none 0 0) := by (rw [hc1 _ _ (by first | (simp; done) | (simp; omega))]; go_simp)
  have kf10 : w1.frozen? ⟨w.heap.size + 1, 0, none⟩ = false := by (rw [hf1 _ _ (by first | (simp; done) | (simp; omega))]; go_simp)
  have kc11 : w1.cell? ⟨w.heap.size + 1, 1, none⟩ = some (.bool false) := by (rw [hc1 _ _ (by first | (simp; done) | (simp; omega))]; go_simp)
  have kf11 : w1.frozen? ⟨w.heap.size + 1, 1, none⟩ = false := by (rw [hf1 _ _ (by first | (simp; done) | (simp; omega))]; go_simp)
  clear hc1 hf1
  dsimp only
  go_upto_region 4 with (fail)
  have hRd : Rd ((w1.setCell ⟨w.heap.size, 0, none⟩ (.slice A1 r.length c1)).setCell ⟨w.heap.size, 1, none⟩ (.bool false)).drew A1 r := hR1.below (hUw.trans ((show Below w.heap.size w _ from by repeat (first | with_reducible assumption | exact Below.refl _ _ | refine Below.drew ?_ | refine Below.setCell ?_ (by first | omega | (simp; done) | (simp; omega)) _ | refine Below.alloc ?_ (by first | omega | (simp; done) | (simp; omega)) _)).mono hUw.size))
  have ktf : ∀ W, Below w.heap.size w W → (convert 87 9 (.slice A1 x.toNat c1)).run Tryd.prog W = .ok (.string ⟨(r.take x.toNat).toArray⟩) W := by
    intro W hW
    have hRW : Rd W A1 r := hR1.below (hUw.trans (hW.mono hUw.size))
    have := run_text (P := Tryd.prog) W 87 9 5 A1 c1 _ (hRW.take x.toNat) Tryd.underlying87 Tryd.underlying5 Tryd.underlying9
    rw [hnt] at this
    exact this
  clear hRd
  rcases A1 with _ | a1
  · have hr := hR1.1 rfl
    have hx0 : x.toNat = 0 := by rw [hr] at hx; simpa using hx
    have hc0 : c1 = 0 := hn1 rfl
    subst hr hc0
    rw [hx0] at ktf ⊢
    have kt1 := ktf (((w1.setCell ⟨w.heap.size, 0, none⟩ (.slice none 0 0)).setCell ⟨w.heap.size, 1, none⟩ (.bool false)).drew) (by repeat (first | with_reducible assumption | exact Below.refl _ _ | refine Below.drew ?_ | refine Below.setCell ?_ (by first | omega | (simp; done) | (simp; omega)) _ | refine Below.alloc ?_ (by first | omega | (simp; done) | (simp; omega)) _)); have kt2 := ktf (((((w1.setCell ⟨w.heap.size, 0, none⟩ (.slice none 0 0)).setCell ⟨w.heap.size, 1, none⟩ (.bool false)).setCell ⟨w.heap.size + 1, 0, none⟩ (.slice none 0 0)).setCell ⟨w.heap.size + 1, 1, none⟩ (.bool false)).drew) (by repeat (first | with_reducible assumption | exact Below.refl _ _ | refine Below.drew ?_ | refine Below.setCell ?_ (by first | omega | (simp; done) | (simp; omega)) _ | refine Below.alloc ?_ (by first | omega | (simp; done) | (simp; omega)) _)); clear ktf
    go_region
    go_wp2_with (fail)
    refine bodyPost_ret (v := .tuple #[.agg #[.slice none 0 (0), .bool false], .string ⟨(([] : List UInt8)).toArray⟩]) (by first | (simp [results, Tryd.results75, go_sem]; done) | (simp only [results, Tryd.results75]; go_simp; done) | (simp only [results, Tryd.results75]; go_simp; omega)) rfl (⟨none, 0, (by first | rfl | (rw [hd0]; rfl)), Rd.nil _ _, (fun _ => rfl), (by first | exact Nat.le_refl _ | (rw [hd0]; exact Nat.le_refl _)), by repeat (first | with_reducible assumption | exact Below.refl _ _ | refine Below.drew ?_ | refine Below.setCell ?_ (by first | omega | (simp; done) | (simp; omega)) _ | refine Below.alloc ?_ (by first | omega | (simp; done) | (simp; omega)) _)⟩)
  · by_cases hc : c1 = x.toNat
    · subst hc
      have hd0 : r.drop x.toNat = [] := List.drop_of_length_le (by omega)
      have kt1 := ktf (((w1.setCell ⟨w.heap.size, 0, none⟩ (.slice (some a1) r.length x.toNat)).setCell ⟨w.heap.size, 1, none⟩ (.bool false)).drew) (by repeat (first | with_reducible assumption | exact Below.refl _ _ | refine Below.drew ?_ | refine Below.setCell ?_ (by first | omega | (simp; done) | (simp; omega)) _ | refine Below.alloc ?_ (by first | omega | (simp; done) | (simp; omega)) _)); have kt2 := ktf (((((w1.setCell ⟨w.heap.size, 0, none⟩ (.slice (some a1) r.length x.toNat)).setCell ⟨w.heap.size, 1, none⟩ (.bool false)).setCell ⟨w.heap.size + 1, 0, none⟩ (.slice (some a1) 0 0)).setCell ⟨w.heap.size + 1, 1, none⟩ (.bool false)).drew) (by repeat (first | with_reducible assumption | exact Below.refl _ _ | refine Below.drew ?_ | refine Below.setCell ?_ (by first | omega | (simp; done) | (simp; omega)) _ | refine Below.alloc ?_ (by first | omega | (simp; done) | (simp; omega)) _)); clear ktf
      go_region
      go_wp2_with (fail)
      refine bodyPost_ret (v := .tuple #[.agg #[.slice (some a1) 0 (0), .bool false], .string ⟨(r.take x.toNat).toArray⟩]) (by first | (simp [results, Tryd.results75, go_sem]; done) | (simp only [results, Tryd.results75]; go_simp; done) | (simp only [results, Tryd.results75]; go_simp; omega)) rfl (⟨(some a1), 0, (by first | rfl | (rw [hd0]; rfl)), (by rw [hd0]; exact Rd.nil _ _), (fun e => by cases e), (by first | exact Nat.le_refl _ | (rw [hd0]; exact Nat.le_refl _)), by repeat (first | with_reducible assumption | exact Below.refl _ _ | refine Below.drew ?_ | refine Below.setCell ?_ (by first | omega | (simp; done) | (simp; omega)) _ | refine Below.alloc ?_ (by first | omega | (simp; done) | (simp; omega)) _)⟩)
    · have kt1 := ktf (((w1.setCell ⟨w.heap.size, 0, none⟩ (.slice (some a1) r.length c1)).setCell ⟨w.heap.size, 1, none⟩ (.bool false)).drew) (by repeat (first | with_reducible assumption | exact Below.refl _ _ | refine Below.drew ?_ | refine Below.setCell ?_ (by first | omega | (simp; done) | (simp; omega)) _ | refine Below.alloc ?_ (by first | omega | (simp; done) | (simp; omega)) _)); have kt2 := ktf (((((w1.setCell ⟨w.heap.size, 0, none⟩ (.slice (some a1) r.length c1)).setCell ⟨w.heap.size, 1, none⟩ (.bool false)).setCell ⟨w.heap.size + 1, 0, none⟩ (.slice (some (a1.add x.toNat)) (r.length - x.toNat) (c1 - x.toNat))).setCell ⟨w.heap.size + 1, 1, none⟩ (.bool false)).drew) (by repeat (first | with_reducible assumption | exact Below.refl _ _ | refine Below.drew ?_ | refine Below.setCell ?_ (by first | omega | (simp; done) | (simp; omega)) _ | refine Below.alloc ?_ (by first | omega | (simp; done) | (simp; omega)) _)); clear ktf
      go_region
      go_wp2_with (fail)
      refine bodyPost_ret (v := .tuple #[.agg #[.slice (some (a1.add x.toNat)) (r.length - x.toNat) (c1 - x.toNat), .bool false], .string ⟨(r.take x.toNat).toArray⟩]) (by first | (simp [results, Tryd.results75, go_sem]; done) | (simp only [results, Tryd.results75]; go_simp; done) | (simp only [results, Tryd.results75]; go_simp; omega)) rfl (⟨(some (a1.add x.toNat)), c1 - x.toNat, by rw [hnd], (hR1.drop x.toNat), (fun e => by cases e), by rw [hnd]; omega, by repeat (first | with_reducible assumption | exact Below.refl _ _ | refine Below.drew ?_ | refine Below.setCell ?_ (by first | omega | (simp; done) | (simp; omega)) _ | refine Below.alloc ?_ (by first | omega | (simp; done) | (simp; omega)) _)⟩)
theorem rwords_n (U : World) (A : Option Addr) (c n : Nat) (l l' t : List UInt8) (bad bad' : Bool) (w : World) (hRU : Rd U A l) (hUw : Below U.heap.size U w) (hlc : l.length ≤ c) (hb : bad = true → l = []) (hn : n = l.length) (hl : l.length ≤ 140737488355328) (ht : getT l = t) (hL : getTL l = l') (hS : getTS l bad = bad') :
    Calls Tryd.prog 75 #[.agg #[.slice A n c, .bool bad]] w (RWordsP U w l' bad' t) := by
  subst ht hL hS
  rcases l with _ | ⟨x, r⟩
  · have e : getTS [] bad = true := by cases bad <;> rfl
    rw [e]
    exact rwords_nil U A c n bad w hRU hUw (by simpa using hn)
  · have hbf : bad = false := by
      cases bad
      · rfl
      · exact absurd (hb rfl) (by simp)
    subst hbf
    rcases A with _ | ad
    · exact absurd (hRU.1 rfl) (by simp)
    · by_cases hx : x.toNat ≤ r.length
      · have e1 : getT (x :: r) = r.take x.toNat := by unfold getT; rw [getV_one, getL_one, if_pos hx]
        have e2 : getTL (x :: r) = r.drop x.toNat := by unfold getTL; rw [getV_one, getL_one]; unfold getL; rw [if_pos hx]
        have e3 : getTS (x :: r) false = false := by unfold getTS; rw [getV_one, getL_one, getS_one]; unfold getS; rw [if_pos hx]
        rw [e1, e2, e3]
        exact rwords_ok U ad c n x r w hRU hUw hlc (by simpa using hn) hl hx
      · have e1 : getT (x :: r) = [] := by unfold getT; rw [getV_one, getL_one, if_neg hx]
        have e2 : getTL (x :: r) = [] := by unfold getTL; rw [getV_one, getL_one]; unfold getL; rw [if_neg hx]
        have e3 : getTS (x :: r) false = true := by unfold getTS; rw [getV_one, getL_one, getS_one]; unfold getS; rw [if_neg hx]
        rw [e1, e2, e3]
        exact rwords_short U ad c n x r w hRU hUw hlc (by simpa using hn) hl (by omega)
/-- what is bad has nothing left: kept by every field -/
theorem bad_keeps (l : List UInt8) (bad : Bool) (k : Nat) (h : bad = true → l = []) : getS l bad k = true → getL l k = [] := by
  unfold getS getL
  by_cases hk : k ≤ l.length
  · simp only [if_pos hk]; intro hb; rw [h hb]; simp
  · simp only [if_neg hk]; intro _; trivial
theorem bad_keepsT (l : List UInt8) (bad : Bool) (h : bad = true → l = []) : getTS l bad = true → getTL l = [] := by
  unfold getTS getTL
  exact bad_keeps _ _ _ (bad_keeps l bad 1 h)
theorem getTL_le (l : List UInt8) : (getTL l).length ≤ l.length := Nat.le_trans (getL_le _ _) (getL_le _ _)
theorem rdone_c (A : Option Addr) (c n : Nat) (l : List UInt8) (bad : Bool) (w : World) (hn : n = l.length) :
    Calls Tryd.prog 76 #[.agg #[.slice A n c, .bool bad]] w fun e w' => e = .returned (.bool (!bad && decide (l = []))) ∧ Below w.heap.size w w' := by
  subst hn
  cases bad
  · rcases l with _ | ⟨x, r⟩
    · go_enter Tryd.func76, Tryd.ntmps76
      go_wp2_with (fail)
      go_ret
      exact ⟨rfl, by repeat (first | with_reducible assumption | exact Below.refl _ _ | refine Below.drew ?_ | refine Below.setCell ?_ (by first | omega | (simp; done) | (simp; omega)) _ | refine Below.alloc ?_ (by first | omega | (simp; done) | (simp; omega)) _)⟩
    · go_enter Tryd.func76, Tryd.ntmps76
      go_wp2_with (fail)
      go_ret
      exact ⟨rfl, by repeat (first | with_reducible assumption | exact Below.refl _ _ | refine Below.drew ?_ | refine Below.setCell ?_ (by first | omega | (simp; done) | (simp; omega)) _ | refine Below.alloc ?_ (by first | omega | (simp; done) | (simp; omega)) _)⟩
  · go_enter Tryd.func76, Tryd.ntmps76
    go_wp2_with (fail)
    go_ret
    exact ⟨rfl, by repeat (first | with_reducible assumption | exact Below.refl _ _ | refine Below.drew ?_ | refine Below.setCell ?_ (by first | omega | (simp; done) | (simp; omega)) _ | refine Below.alloc ?_ (by first | omega | (simp; done) | (simp; omega)) _)⟩
end Go.Proofs.YtffdglhdklmjoaaDoor
