/-
  Layer 13: slices of spans; what most have together, by the program.
-/
import Derived.Test.YtgkpbokipnfddaaDoorW13
import Derived.LoopTactic
import Derived.Lib.Hide
namespace Go.Proofs.YtgkpbokipnfddaaDoor
open Go.RowKit Go.Extern.Stop Go.Stop Go.Extern
set_option linter.unusedVariables false
set_option linter.unusedSimpArgs false
/-- The slice at A holds these spans. -/
def Sps (w : World) (A : Option Addr) (l : List (Int × Int)) : Prop := ∀ i (h : i < l.length), ∃ ad, A = some ad ∧ ad.block < w.heap.size ∧ w.cell? (ad.add (i * 2)) = some (.int .i64 l[i].1) ∧ w.cell? ⟨(ad.add (i * 2)).block, (ad.add (i * 2)).off + 1, none⟩ = some (.int .i64 l[i].2)
theorem add_block (a : Addr) (n : Nat) : (a.add n).block = a.block := by unfold Addr.add; split <;> rfl
theorem Sps.below {w w' : World} {A : Option Addr} {l : List (Int × Int)} (h : Sps w A l) (hb : Below w.heap.size w w') : Sps w' A l := by
  intro i hi
  obtain ⟨ad, e, h1, h2, h3⟩ := h i hi
  exact ⟨ad, e, Nat.lt_of_lt_of_le h1 hb.size, by rw [hb.cell (p := ad.add (i * 2)) (by rw [add_block]; exact h1)]; exact h2, by rw [hb.cell (p := ⟨(ad.add (i * 2)).block, (ad.add (i * 2)).off + 1, none⟩) (by show (ad.add (i * 2)).block < _; rw [add_block]; exact h1)]; exact h3⟩
theorem take_snoc' {α : Type} (l : List α) (k : Nat) (h : k < l.length) : l.take (k + 1) = l.take k ++ [l[k]] := by
  rw [List.take_succ_eq_append_getElem h]
def SpOk (l : List (Int × Int)) : Prop := ∀ s ∈ l, InR s.1 ∧ InR s.2
theorem SpOk.at_ {l : List (Int × Int)} (h : SpOk l) {i : Nat} (hi : i < l.length) : InR l[i].1 ∧ InR l[i].2 := h _ (List.getElem_mem hi)
abbrev R2 (b : Nat) (x y : Value) (wx : World) : Prop := b < wx.heap.size ∧ wx.cell? ⟨b, 0, none⟩ = some x ∧ wx.cell? ⟨b, 1, none⟩ = some y ∧ wx.frozen? ⟨b, 0, none⟩ = false ∧ wx.frozen? ⟨b, 1, none⟩ = false
theorem R2.step {b : Nat} {x y : Value} {wx w' : World} (h : R2 b x y wx) (hb : Below wx.heap.size wx w') : R2 b x y w' :=
  ⟨Nat.lt_of_lt_of_le h.1 hb.size, by rw [hb.cell (p := ⟨b, 0, none⟩) h.1]; exact h.2.1, by rw [hb.cell (p := ⟨b, 1, none⟩) h.1]; exact h.2.2.1, by rw [hb.frozen (p := ⟨b, 0, none⟩) h.1]; exact h.2.2.2.1, by rw [hb.frozen (p := ⟨b, 1, none⟩) h.1]; exact h.2.2.2.2⟩
/-- is one of these none? -/
def anyBad (l : List (Int × Int)) : Bool := l.any fun s => decide (s.2 < s.1)
theorem anyBad_no {l : List (Int × Int)} (h : anyBad l = false) (i : Nat) (hi : i < l.length) : l[i].1 ≤ l[i].2 := by
  unfold anyBad at h
  have := (List.any_eq_false.1 h) l[i] (List.getElem_mem hi)
  simpa using this
theorem anyBad_yes {l : List (Int × Int)} (h : anyBad l = true) : ∃ k, ∃ hk : k < l.length, l[k].2 < l[k].1 ∧ ∀ i (hi : i < k), (l[i]'(by omega)).1 ≤ (l[i]'(by omega)).2 := by
  induction l with
  | nil => simp [anyBad] at h
  | cons s t ih =>
    by_cases hs : s.2 < s.1
    · exact ⟨0, by simp, hs, fun i hi => by omega⟩
    · have ht : anyBad t = true := by unfold anyBad at h ⊢; simpa [hs] using h
      obtain ⟨k, hk, h1, h2⟩ := ih ht
      refine ⟨k + 1, by simpa using hk, h1, fun i hi => ?_⟩
      rcases i with _ | i
      · show s.1 ≤ s.2; omega
      · exact h2 i (by omega)
set_option maxHeartbeats 1000000 in
theorem v1_no (lo hi : Int) (w : World) (h : lo ≤ hi) : Calls Tryd.prog 63 #[.agg #[.int .i64 lo, .int .i64 hi]] w fun e w' => e = .returned (.bool false) ∧ Below w.heap.size w w' := by
  have hB := Below.refl w.heap.size w
  go_enter Tryd.func63, Tryd.ntmps63
  go_wp2_with (fail)
  go_at_call 18
  (with_reducible refine (sp_check_ok _ _ _ h).mono ?_)
  rintro e w1 ⟨rfl, HB⟩
  obtain ⟨hc1, hf1⟩ := bcell HB
  have hz1 := HB.size
  try simp at hz1
  replace hB := Below.trans (show Below w.heap.size w _ from by repeat (first | with_reducible assumption | exact Below.refl _ _ | refine Below.drew ?_ | refine Below.setCell ?_ (by first | omega | (simp; done) | (simp; omega)) _ | refine Below.alloc ?_ (by first | omega | (simp; done) | (simp; omega)) _)) (Below.mono (B' := w.heap.size) HB (by first | omega | (simp; done) | (simp; omega)))
  try (have z1w0 : w.heap.size < w1.heap.size := (by omega))
  try (have z1w1 : w.heap.size + 1 < w1.heap.size := (by omega))
  try (have z1w2 : w.heap.size + 1 + 1 < w1.heap.size := (by omega))
  clear HB
  go_wp2_with (fail)
  go_ret
  exact ⟨rfl, by repeat (first | with_reducible assumption | exact Below.refl _ _ | refine Below.drew ?_ | refine Below.setCell ?_ (by first | omega | (simp; done) | (simp; omega)) _ | refine Below.alloc ?_ (by first | omega | (simp; done) | (simp; omega)) _)⟩
set_option maxHeartbeats 1000000 in
theorem v1_yes (lo hi : Int) (w : World) (h : hi < lo) : Calls Tryd.prog 63 #[.agg #[.int .i64 lo, .int .i64 hi]] w fun e w' => e = .returned (.bool true) ∧ Below w.heap.size w w' := by
  have hB := Below.refl w.heap.size w
  go_enter Tryd.func63, Tryd.ntmps63
  go_wp2_with (fail)
  go_at_call 18
  (with_reducible refine (sp_check_no _ _ _ h).mono ?_)
  rintro e w1 ⟨rfl, HB⟩
  obtain ⟨hc1, hf1⟩ := bcell HB
  have hz1 := HB.size
  try simp at hz1
  replace hB := Below.trans (show Below w.heap.size w _ from by repeat (first | with_reducible assumption | exact Below.refl _ _ | refine Below.drew ?_ | refine Below.setCell ?_ (by first | omega | (simp; done) | (simp; omega)) _ | refine Below.alloc ?_ (by first | omega | (simp; done) | (simp; omega)) _)) (Below.mono (B' := w.heap.size) HB (by first | omega | (simp; done) | (simp; omega)))
  try (have z1w0 : w.heap.size < w1.heap.size := (by omega))
  try (have z1w1 : w.heap.size + 1 < w1.heap.size := (by omega))
  try (have z1w2 : w.heap.size + 1 + 1 < w1.heap.size := (by omega))
  clear HB
  go_wp2_with (fail)
  go_ret
  exact ⟨rfl, by repeat (first | with_reducible assumption | exact Below.refl _ _ | refine Below.drew ?_ | refine Below.setCell ?_ (by first | omega | (simp; done) | (simp; omega)) _ | refine Below.alloc ?_ (by first | omega | (simp; done) | (simp; omega)) _)⟩
set_option maxRecDepth 100000 in
set_option maxHeartbeats 1000000 in
theorem index_no (A : Option Addr) (c : Nat) (l : List (Int × Int)) (w : World) (hS : Sps w A l) (hl : l.length ≤ 4611686018427387904) (h : anyBad l = false) : Calls Tryd.prog 86 #[.slice A l.length c, .func (.func 63) #[] #[]] w fun e w' => e = .returned (.int .i64 (-1)) ∧ Below w.heap.size w w' := by
  have HS := Lib.hid hS
  clear hS
  have HH := Lib.hid h
  clear h
  go_enter Tryd.func86, Tryd.ntmps86
  go_wp2_with (fail)
  go_loopw [8] (fun i wr => ∃ k : Nat, k ≤ l.length ∧ i = .int .i64 k ∧ Below w.heap.size w wr) (fun i _ => l.length - (intOf i).toNat)
  case atStart => exact ⟨0, Nat.zero_le _, rfl, (by repeat (first | with_reducible assumption | exact Below.refl _ _ | refine Below.drew ?_ | refine Below.setCell ?_ (by first | omega | (simp; done) | (simp; omega)) _ | refine Below.alloc ?_ (by first | omega | (simp; done) | (simp; omega)) _))⟩
  case round =>
    obtain ⟨k, hk, rfl, hB⟩ := hrel
    by_cases hlt : k < l.length
    · have hok := anyBad_no HH.out k hlt
      obtain ⟨ad, rfl, hb0, h1, h2⟩ := (HS.out.below hB) k hlt
      go_wp2_with (go_at_call 63; (with_reducible refine (v1_no _ _ _ hok).mono ?_); rintro e w1 ⟨rfl, hb1⟩)
      go_roundw
      case rel => exact ⟨k + 1, by omega, by go_num, hB.trans (hb1.mono hB.size)⟩
      case measure => simp [intOf]; omega
    · go_wp2_with (fail)
      go_ret
      exact ⟨rfl, hB⟩
set_option maxRecDepth 100000 in
set_option maxHeartbeats 1000000 in
theorem index_yes (A : Option Addr) (c : Nat) (l : List (Int × Int)) (w : World) (hS : Sps w A l) (hl : l.length ≤ 4611686018427387904) (k0 : Nat) (hk0 : k0 < l.length) (h : l[k0].2 < l[k0].1 ∧ ∀ i (hi : i < k0), (l[i]'(by omega)).1 ≤ (l[i]'(by omega)).2) : Calls Tryd.prog 86 #[.slice A l.length c, .func (.func 63) #[] #[]] w fun e w' => e = .returned (.int .i64 ((k0 : Int))) ∧ Below w.heap.size w w' := by
  have HS := Lib.hid hS
  clear hS
  have HH := Lib.hid h
  clear h
  go_enter Tryd.func86, Tryd.ntmps86
  go_wp2_with (fail)
  go_loopw [8] (fun i wr => ∃ k : Nat, k ≤ k0 ∧ i = .int .i64 k ∧ Below w.heap.size w wr) (fun i _ => l.length - (intOf i).toNat)
  case atStart => exact ⟨0, Nat.zero_le _, rfl, (by repeat (first | with_reducible assumption | exact Below.refl _ _ | refine Below.drew ?_ | refine Below.setCell ?_ (by first | omega | (simp; done) | (simp; omega)) _ | refine Below.alloc ?_ (by first | omega | (simp; done) | (simp; omega)) _))⟩
  case round =>
    obtain ⟨k, hk, rfl, hB⟩ := hrel
    have hlt : k < l.length := by omega
    by_cases hk2 : k < k0
    · have hok := HH.out.2 k hk2
      obtain ⟨ad, rfl, hb0, h1, h2⟩ := (HS.out.below hB) k hlt
      go_wp2_with (go_at_call 63; (with_reducible refine (v1_no _ _ _ hok).mono ?_); rintro e w1 ⟨rfl, hb1⟩)
      go_roundw
      case rel => exact ⟨k + 1, by omega, by go_num, hB.trans (hb1.mono hB.size)⟩
      case measure => simp [intOf]; omega
    · obtain rfl : k0 = k := by omega
      have hbad := HH.out.1
      obtain ⟨ad, rfl, hb0, h1, h2⟩ := (HS.out.below hB) k0 hlt
      go_wp2_with (go_at_call 63; (with_reducible refine (v1_yes _ _ _ hbad).mono ?_); rintro e w1 ⟨rfl, hb1⟩)
      go_ret
      exact ⟨rfl, hB.trans (hb1.mono hB.size)⟩
theorem contains_no (A : Option Addr) (c : Nat) (l : List (Int × Int)) (w : World) (hS : Sps w A l) (hl : l.length ≤ 4611686018427387904) (h : anyBad l = false) : Calls Tryd.prog 62 #[.slice A l.length c, .func (.func 63) #[] #[]] w fun e w' => e = .returned (.bool false) ∧ Below w.heap.size w w' := by
  go_enter Tryd.func62, Tryd.ntmps62
  go_wp2_with (go_at_call 86; (with_reducible refine (index_no _ _ _ _ hS hl h).mono ?_); rintro e w1 ⟨rfl, hb1⟩)
  go_ret
  exact ⟨rfl, hb1⟩
theorem contains_yes (A : Option Addr) (c : Nat) (l : List (Int × Int)) (w : World) (hS : Sps w A l) (hl : l.length ≤ 4611686018427387904) (h : anyBad l = true) : Calls Tryd.prog 62 #[.slice A l.length c, .func (.func 63) #[] #[]] w fun e w' => e = .returned (.bool true) ∧ Below w.heap.size w w' := by
  obtain ⟨k0, hk0, h1, h2⟩ := anyBad_yes h
  have HH := Lib.hid (And.intro h1 h2)
  clear h1 h2
  have hd : decide ((0 : Int) ≤ (k0 : Int)) = true := decide_eq_true (by omega)
  go_enter Tryd.func62, Tryd.ntmps62
  go_wp2_with (go_at_call 86; (with_reducible refine (index_yes _ _ _ _ hS hl k0 hk0 HH.out).mono ?_); rintro e w1 ⟨rfl, hb1⟩)
  go_ret
  exact ⟨rfl, hb1⟩
def arS (n : Int) (p : Int × Int) (s : Int × Int) : Int × Int := if s.1 ≤ n ∧ n ≤ s.2 then (if p.2 = 0 ∨ s.2 < p.1 then s.2 else p.1, p.2 + 1) else p
def arF (n : Int) (l : List (Int × Int)) : Int × Int := l.foldl (arS n) (n, 0)
theorem arF_snoc (n : Int) (l : List (Int × Int)) (s : Int × Int) : arF n (l ++ [s]) = arS n (arF n l) s := by unfold arF; rw [List.foldl_append]; rfl
theorem arF_rng (n : Int) (l : List (Int × Int)) : 0 ≤ (arF n l).2 ∧ (arF n l).2 ≤ l.length := by
  unfold arF
  suffices h : ∀ (l : List (Int × Int)) (p : Int × Int), p.2 ≤ (l.foldl (arS n) p).2 ∧ (l.foldl (arS n) p).2 ≤ p.2 + l.length by
    have := h l (n, 0); simp at this; simpa using this
  intro l
  induction l with
  | nil => intro p; simp
  | cons s t ih =>
    intro p
    have := ih (arS n p s)
    simp only [List.foldl_cons, List.length_cons]
    have h2 : p.2 ≤ (arS n p s).2 ∧ (arS n p s).2 ≤ p.2 + 1 := by unfold arS; split <;> (constructor <;> omega)
    omega
set_option maxRecDepth 100000 in
set_option maxHeartbeats 4000000 in
theorem around_c (A : Option Addr) (c : Nat) (l : List (Int × Int)) (n : Int) (w : World) (hS : Sps w A l) (hl : l.length ≤ 4611686018427387904) (hn : InR n) (hi : SpOk l) : Calls Tryd.prog 64 #[.slice A l.length c, .int .i64 n] w fun e w' => e = .returned (.tuple #[.agg #[.int .i64 n, .int .i64 (arF n l).1], .int .i64 (arF n l).2]) ∧ Below w.heap.size w w' := by
  have HS := Lib.hid hS
  clear hS
  have HI := Lib.hid hi
  clear hi
  go_enter Tryd.func64, Tryd.ntmps64
  go_wp2_with (fail)
  go_loopw [6, 7, 13] (fun h q i wr => ∃ k : Nat, k ≤ l.length ∧ i = .int .i64 k ∧ h = .int .i64 (arF n (l.take k)).1 ∧ q = .int .i64 (arF n (l.take k)).2 ∧ R2 w.heap.size (.int .i64 0) (.int .i64 0) wr ∧ Below w.heap.size w wr) (fun _ _ i _ => l.length - (intOf i).toNat)
  case atStart => exact ⟨0, Nat.zero_le _, rfl, rfl, rfl, ⟨by simp, by go_simp, by go_simp, by go_simp, by go_simp⟩, (by repeat (first | with_reducible assumption | exact Below.refl _ _ | refine Below.drew ?_ | refine Below.setCell ?_ (by first | omega | (simp; done) | (simp; omega)) _ | refine Below.alloc ?_ (by first | omega | (simp; done) | (simp; omega)) _))⟩
  case round =>
    obtain ⟨k, hk, rfl, rfl, rfl, hR, hB⟩ := hrel
    have hrg := arF_rng n (l.take k)
    have hlen : (l.take k).length ≤ k := List.length_take_le _ _
    by_cases hlt : k < l.length
    · obtain ⟨ad, rfl, hb0, h1, h2⟩ := (HS.out.below hB) k hlt
      obtain ⟨i1, i2⟩ := HI.out.at_ hlt
      have hsn := arF_snoc n (l.take k) l[k]
      rw [← take_snoc' l k hlt] at hsn
      generalize arF n (l.take k) = p at *
      obtain ⟨p1, p2⟩ := p
      generalize l[k] = e at *
      obtain ⟨lo, hi⟩ := e
      dsimp only at *
      have p20 : 0 ≤ p2 := by omega
      have p21 : p2 ≤ 4611686018427387904 := by omega
      have HR := Lib.hid hR
      clear hR hrg
      by_cases hc : lo ≤ n ∧ n ≤ hi
      · obtain ⟨c1, c2⟩ := hc
        by_cases hz : p2 = 0
        · have HE := Lib.hid (show arF n (l.take (k + 1)) = (hi, p2 + 1) by rw [hsn]; unfold arS; rw [if_pos ⟨c1, c2⟩, if_pos (Or.inl hz)])
          have hd : (p2 == 0) = true := beq_iff_eq.2 hz
          clear hsn hz
          go_wp2_with (go_at_call 17; (with_reducible refine (sp_has_yes _ _ _ _ c1 c2).mono ?_); rintro e w1 ⟨rfl, hb1⟩; obtain ⟨hc1, hf1⟩ := bcell hb1; have hz1 := hb1.size; (try simp at hz1); have z1 : wr.heap.size < w1.heap.size := (by omega))
          go_roundw
          case rel => exact ⟨k + 1, by omega, by go_num, by rw [HE.out], by rw [HE.out], (HR.out.step ((Below.refl _ _).alloc (Nat.le_refl _) _)).step hb1, (hB.alloc hB.size _).trans (hb1.mono (by simp; have := hB.size; omega))⟩
          case measure => simp [intOf]; omega
        · have hd : (p2 == 0) = false := beq_false_of_ne hz
          by_cases hq : hi < p1
          · have HE := Lib.hid (show arF n (l.take (k + 1)) = (hi, p2 + 1) by rw [hsn]; unfold arS; rw [if_pos ⟨c1, c2⟩, if_pos (Or.inr hq)])
            clear hsn hz
            go_wp2_with (go_at_call 17; (with_reducible refine (sp_has_yes _ _ _ _ c1 c2).mono ?_); rintro e w1 ⟨rfl, hb1⟩; obtain ⟨hc1, hf1⟩ := bcell hb1; have hz1 := hb1.size; (try simp at hz1); have z1 : wr.heap.size < w1.heap.size := (by omega))
            go_roundw
            case rel => exact ⟨k + 1, by omega, by go_num, by rw [HE.out], by rw [HE.out], (HR.out.step ((Below.refl _ _).alloc (Nat.le_refl _) _)).step hb1, (hB.alloc hB.size _).trans (hb1.mono (by simp; have := hB.size; omega))⟩
            case measure => simp [intOf]; omega
          · have HE := Lib.hid (show arF n (l.take (k + 1)) = (p1, p2 + 1) by rw [hsn]; unfold arS; rw [if_pos ⟨c1, c2⟩, if_neg (by omega)])
            clear hsn hz
            go_wp2_with (go_at_call 17; (with_reducible refine (sp_has_yes _ _ _ _ c1 c2).mono ?_); rintro e w1 ⟨rfl, hb1⟩; obtain ⟨hc1, hf1⟩ := bcell hb1; have hz1 := hb1.size; (try simp at hz1); have z1 : wr.heap.size < w1.heap.size := (by omega))
            go_roundw
            case rel => exact ⟨k + 1, by omega, by go_num, by rw [HE.out], by rw [HE.out], (HR.out.step ((Below.refl _ _).alloc (Nat.le_refl _) _)).step hb1, (hB.alloc hB.size _).trans (hb1.mono (by simp; have := hB.size; omega))⟩
            case measure => simp [intOf]; omega
      · have HE := Lib.hid (show arF n (l.take (k + 1)) = (p1, p2) by rw [hsn]; unfold arS; rw [if_neg hc])
        have hno : hasB lo hi n = false := by unfold hasB; simp; omega
        have hH : ∀ w : World, Calls Tryd.prog 17 #[.agg #[.int .i64 lo, .int .i64 hi], .int .i64 n] w fun e w' => e = .returned (.bool false) ∧ Below w.heap.size w w' := fun w => by rw [← hno]; exact sp_has lo hi n w
        have HH := Lib.hid hH
        clear hsn hc hno hH
        go_wp2_with (go_at_call 17; (with_reducible refine (HH.out _).mono ?_); rintro e w1 ⟨rfl, hb1⟩)
        go_roundw
        case rel => exact ⟨k + 1, by omega, by go_num, by rw [HE.out], by rw [HE.out], (HR.out.step ((Below.refl _ _).alloc (Nat.le_refl _) _)).step hb1, (hB.alloc hB.size _).trans (hb1.mono (by simp; have := hB.size; omega))⟩
        case measure => simp [intOf]; omega
    · have hle : l.take k = l := List.take_of_length_le (by omega)
      rw [hle]
      obtain ⟨p, hp⟩ : ∃ p, arF n l = p := ⟨_, rfl⟩
      rw [hp]
      have HP := Lib.hid hp
      clear hp hle hrg
      obtain ⟨r0, r1, r2, r3, r4⟩ := hR
      go_wp2_with (fail)
      refine bodyPost_ret (v := .tuple #[.agg #[.int .i64 n, .int .i64 p.1], .int .i64 p.2]) (by first | (simp [results, Tryd.results64, go_sem]; done) | (simp only [results, Tryd.results64]; go_simp; done) | (simp only [results, Tryd.results64]; go_simp; omega)) rfl (⟨by rw [HP.out], (by repeat (first | with_reducible assumption | exact Below.refl _ _ | refine Below.drew ?_ | refine Below.setCell ?_ (by first | omega | (simp; done) | (simp; omega)) _ | refine Below.alloc ?_ (by first | omega | (simp; done) | (simp; omega)) _))⟩)
def voS (l : List (Int × Int)) (p : (Int × Int) × Int) (s : Int × Int) : (Int × Int) × Int := if p.2 < (arF s.1 l).2 ∨ ((arF s.1 l).2 = p.2 ∧ s.1 < p.1.1) then ((s.1, (arF s.1 l).1), (arF s.1 l).2) else p
def voF (l m : List (Int × Int)) : (Int × Int) × Int := m.foldl (voS l) ((0, 0), 0)
theorem voF_snoc (l m : List (Int × Int)) (s : Int × Int) : voF l (m ++ [s]) = voS l (voF l m) s := by unfold voF; rw [List.foldl_append]; rfl
theorem voF_rng (l m : List (Int × Int)) : 0 ≤ (voF l m).2 ∧ (voF l m).2 ≤ l.length := by
  unfold voF
  suffices h : ∀ (m : List (Int × Int)) (p : (Int × Int) × Int), 0 ≤ p.2 → p.2 ≤ l.length → 0 ≤ (m.foldl (voS l) p).2 ∧ (m.foldl (voS l) p).2 ≤ l.length from h m _ (by simp) (by simp)
  intro m
  induction m with
  | nil => intro p h0 h1; exact ⟨h0, h1⟩
  | cons s t ih =>
    intro p h0 h1
    have h2 : 0 ≤ (voS l p s).2 ∧ (voS l p s).2 ≤ l.length := by
      unfold voS
      split
      · exact arF_rng s.1 l
      · exact ⟨h0, h1⟩
    exact ih _ h2.1 h2.2
set_option maxRecDepth 100000 in
set_option maxHeartbeats 4000000 in
theorem vote_bad (A : Option Addr) (c : Nat) (l : List (Int × Int)) (w : World) (hS : Sps w A l) (hl : l.length ≤ 4611686018427387904) (h : anyBad l = true) : Calls Tryd.prog 23 #[.slice A l.length c] w fun e w' => e = .returned (.tuple #[.agg #[.int .i64 0, .int .i64 0], .int .i64 0, errV 1]) ∧ Below w.heap.size w w' := by
  have hSa : Sps (w.alloc (.cells #[.int .i64 0, .int .i64 0] 24)) A l := hS.below ((Below.refl _ _).alloc (Nat.le_refl _) _)
  have HSa := Lib.hid hSa
  clear hSa
  have HH := Lib.hid h
  clear h hS
  go_enter Tryd.func23, Tryd.ntmps23
  go_wp2_with (go_at_call 62; (with_reducible refine (contains_yes _ _ _ _ HSa.out hl HH.out).mono ?_); rintro e w1 ⟨rfl, hb1⟩; obtain ⟨hc1, hf1⟩ := bcell hb1; have hz1 := hb1.size; (try simp at hz1); have z1 : w.heap.size < w1.heap.size := (by omega))
  have hBB : Below w.heap.size w w1 := ((Below.refl _ _).alloc (Nat.le_refl _) _).trans (hb1.mono (by simp))
  refine bodyPost_ret (v := .tuple #[.agg #[.int .i64 0, .int .i64 0], .int .i64 0, errV 1]) (by first | (simp [results, Tryd.results23, go_sem]; done) | (simp only [results, Tryd.results23]; go_simp; done) | (simp only [results, Tryd.results23]; go_simp; omega)) rfl (⟨rfl, (by repeat (first | with_reducible assumption | exact hBB | exact Below.refl _ _ | refine Below.drew ?_ | refine Below.setCell ?_ (by first | omega | (simp; done) | (simp; omega)) _ | refine Below.alloc ?_ (by first | omega | (simp; done) | (simp; omega)) _))⟩)
set_option maxRecDepth 100000 in
set_option maxHeartbeats 4000000 in
theorem vote_long (A : Option Addr) (c : Nat) (l : List (Int × Int)) (w : World) (hS : Sps w A l) (hl : l.length ≤ 4611686018427387904) (h : anyBad l = false) (h2 : 16 < l.length) : Calls Tryd.prog 23 #[.slice A l.length c] w fun e w' => e = .returned (.tuple #[.agg #[.int .i64 0, .int .i64 0], .int .i64 0, errV 1]) ∧ Below w.heap.size w w' := by
  have hSa : Sps (w.alloc (.cells #[.int .i64 0, .int .i64 0] 24)) A l := hS.below ((Below.refl _ _).alloc (Nat.le_refl _) _)
  have HSa := Lib.hid hSa
  clear hSa
  have HH := Lib.hid h
  clear h hS
  go_enter Tryd.func23, Tryd.ntmps23
  go_wp2_with (go_at_call 62; (with_reducible refine (contains_no _ _ _ _ HSa.out hl HH.out).mono ?_); rintro e w1 ⟨rfl, hb1⟩; obtain ⟨hc1, hf1⟩ := bcell hb1; have hz1 := hb1.size; (try simp at hz1); have z1 : w.heap.size < w1.heap.size := (by omega))
  have hBB : Below w.heap.size w w1 := ((Below.refl _ _).alloc (Nat.le_refl _) _).trans (hb1.mono (by simp))
  refine bodyPost_ret (v := .tuple #[.agg #[.int .i64 0, .int .i64 0], .int .i64 0, errV 1]) (by first | (simp [results, Tryd.results23, go_sem]; done) | (simp only [results, Tryd.results23]; go_simp; done) | (simp only [results, Tryd.results23]; go_simp; omega)) rfl (⟨rfl, (by repeat (first | with_reducible assumption | exact hBB | exact Below.refl _ _ | refine Below.drew ?_ | refine Below.setCell ?_ (by first | omega | (simp; done) | (simp; omega)) _ | refine Below.alloc ?_ (by first | omega | (simp; done) | (simp; omega)) _))⟩)
set_option maxRecDepth 100000 in
theorem vote_none (A : Option Addr) (c : Nat) (w : World) : Calls Tryd.prog 23 #[.slice A 0 c] w fun e w' => e = .returned (.tuple #[.agg #[.int .i64 0, .int .i64 0], .int .i64 0, errV 6]) ∧ Below w.heap.size w w' := by
  have hC : ∀ w : World, Calls Tryd.prog 62 #[.slice A 0 c, .func (.func 63) #[] #[]] w fun e w' => e = .returned (.bool false) ∧ Below w.heap.size w w' := fun w => contains_no A c [] w (fun i h => absurd h (Nat.not_lt_zero i)) (by simp) rfl
  go_enter Tryd.func23, Tryd.ntmps23
  go_wp2_with (go_at_call 62; (with_reducible refine (hC _).mono ?_); rintro e w1 ⟨rfl, hb1⟩; obtain ⟨hc1, hf1⟩ := bcell hb1; have hz1 := hb1.size; (try simp at hz1); have z1 : w.heap.size < w1.heap.size := (by omega))
  have hBB : Below w.heap.size w w1 := ((Below.refl _ _).alloc (Nat.le_refl _) _).trans (hb1.mono (by simp))
  refine bodyPost_ret (v := .tuple #[.agg #[.int .i64 0, .int .i64 0], .int .i64 0, errV 6]) (by first | (simp [results, Tryd.results23, go_sem]; done) | (simp only [results, Tryd.results23]; go_simp; done) | (simp only [results, Tryd.results23]; go_simp; omega)) rfl (⟨rfl, (by repeat (first | with_reducible assumption | exact hBB | exact Below.refl _ _ | refine Below.drew ?_ | refine Below.setCell ?_ (by first | omega | (simp; done) | (simp; omega)) _ | refine Below.alloc ?_ (by first | omega | (simp; done) | (simp; omega)) _))⟩)
theorem R2.put {b : Nat} {x y : Value} {w : World} (h : R2 b x y w) (x' y' : Value) : R2 b x' y' ((w.setCell ⟨b, 0, none⟩ x').setCell ⟨b, 1, none⟩ y') := by
  obtain ⟨r0, r1, r2, r3, r4⟩ := h
  exact ⟨by simpa using r0, by go_simp, by go_simp, by go_simp, by go_simp⟩
theorem R2.far {b b' : Nat} {x y : Value} {w : World} (h : R2 b x y w) (hne : b ≠ b') (x' y' : Value) : R2 b x y ((w.setCell ⟨b', 0, none⟩ x').setCell ⟨b', 1, none⟩ y') := by
  obtain ⟨r0, r1, r2, r3, r4⟩ := h
  have hne' : b' ≠ b := fun e => hne e.symm
  exact ⟨by simpa using r0, by go_simp, by go_simp, by go_simp, by go_simp⟩
set_option maxRecDepth 100000 in
set_option maxHeartbeats 4000000 in
theorem vote_ok (A : Option Addr) (c : Nat) (l : List (Int × Int)) (w : World) (hS : Sps w A l) (hl : l.length ≤ 4611686018427387904) (hi : SpOk l) (h : anyBad l = false) (h2 : l.length ≤ 16) (h3 : 0 < l.length) : Calls Tryd.prog 23 #[.slice A l.length c] w fun e w' => e = .returned (.tuple #[.agg #[.int .i64 (voF l l).1.1, .int .i64 (voF l l).1.2], .int .i64 (voF l l).2, .nilIface]) ∧ Below w.heap.size w w' := by
  have hSa : Sps (w.alloc (.cells #[.int .i64 0, .int .i64 0] 24)) A l := hS.below ((Below.refl _ _).alloc (Nat.le_refl _) _)
  have HSa := Lib.hid hSa
  clear hSa
  have HH := Lib.hid h
  have HI := Lib.hid hi
  have HS := Lib.hid hS
  have hd0 : (((l.length : Nat) : Int) == 0) = false := beq_false_of_ne (by omega)
  have hd1 : decide ((16 : Int) < (l.length : Int)) = false := decide_eq_false (by omega)
  clear h hi hS
  go_enter Tryd.func23, Tryd.ntmps23
  go_wp2_with (go_at_call 62; (with_reducible refine (contains_no _ _ _ _ HSa.out hl HH.out).mono ?_); rintro e w1 ⟨rfl, hb1⟩; obtain ⟨hc1, hf1⟩ := bcell hb1; have hz1 := hb1.size; (try simp at hz1); have z1 : w.heap.size < w1.heap.size := (by omega))
  have hBB : Below w.heap.size w w1 := ((Below.refl _ _).alloc (Nat.le_refl _) _).trans (hb1.mono (by simp))
  go_loopw [7, 30] (fun m i wr => ∃ k : Nat, k ≤ l.length ∧ i = .int .i64 k ∧ m = .int .i64 (voF l (l.take k)).2 ∧ R2 w.heap.size (.int .i64 0) (.int .i64 0) wr ∧ R2 w1.heap.size (.int .i64 (voF l (l.take k)).1.1) (.int .i64 (voF l (l.take k)).1.2) wr ∧ Below w.heap.size w wr) (fun _ i _ => l.length - (intOf i).toNat)
  case atStart => exact ⟨0, Nat.zero_le _, rfl, rfl, ⟨by simp; omega, by go_simp, by go_simp, by go_simp, by go_simp⟩, (show R2 w1.heap.size (.int .i64 0) (.int .i64 0) _ from ⟨by simp, by go_simp, by go_simp, by go_simp, by go_simp⟩), (by repeat (first | with_reducible assumption | exact hBB | exact Below.refl _ _ | refine Below.drew ?_ | refine Below.setCell ?_ (by first | omega | (simp; done) | (simp; omega)) _ | refine Below.alloc ?_ (by first | omega | (simp; done) | (simp; omega)) _))⟩
  case round =>
    obtain ⟨k, hk, rfl, rfl, hR1, hR2, hB⟩ := hrel
    have hrg := voF_rng l (l.take k)
    by_cases hlt : k < l.length
    · obtain ⟨ad, hA, hb0, h1, h2⟩ := (HS.out.below hB) k hlt
      obtain ⟨i1, i2⟩ := HI.out.at_ hlt
      have hsn := voF_snoc l (l.take k) l[k]
      rw [← take_snoc' l k hlt] at hsn
      generalize voF l (l.take k) = p at *
      obtain ⟨⟨p1, p2⟩, p3⟩ := p
      generalize l[k] = e at *
      obtain ⟨lo, hi⟩ := e
      dsimp only at *
      have harg := arF_rng lo l
      have hAR : ∀ wx : World, Sps wx A l → Calls Tryd.prog 64 #[.slice A l.length c, .int .i64 lo] wx fun e w' => e = .returned (.tuple #[.agg #[.int .i64 lo, .int .i64 (arF lo l).1], .int .i64 (arF lo l).2]) ∧ Below wx.heap.size wx w' := fun wx hx => around_c A c l lo wx hx hl i1 HI.out
      obtain ⟨ae, hae⟩ : ∃ ae, arF lo l = ae := ⟨_, rfl⟩
      rw [hae] at harg
      have hAR' : ∀ wx : World, Sps wx A l → Calls Tryd.prog 64 #[.slice A l.length c, .int .i64 lo] wx fun e w' => e = .returned (.tuple #[.agg #[.int .i64 lo, .int .i64 ae.1], .int .i64 ae.2]) ∧ Below wx.heap.size wx w' := fun wx hx => by rw [← hae]; exact hAR wx hx
      clear hAR
      obtain ⟨a1, a2⟩ := ae
      dsimp only at *
      have HAE := Lib.hid hae
      have HAR := Lib.hid hAR'
      have HR1 := Lib.hid hR1
      have HR2 := Lib.hid hR2
      have HS2 : Hid (∀ wx : World, Below wr.heap.size wr wx → Sps wx A l) := Lib.hid fun wx hx => (HS.out.below hB).below hx
      obtain ⟨r0, r1, r2, r3, r4⟩ := hR2
      clear hAR' hR1
      obtain ⟨ad', hA'⟩ : ∃ x, x = ad := ⟨_, rfl⟩
      subst hA
      have zw : w.heap.size < w1.heap.size := by omega
      have q1 : 0 ≤ a2 := harg.1
      have q2 : a2 ≤ 4611686018427387904 := by omega
      have q3 : 0 ≤ p3 := hrg.1
      have q4 : p3 ≤ 4611686018427387904 := by omega
      clear harg hrg
      rcases Int.lt_trichotomy p3 a2 with c1 | c1 | c1
      · have hae := HAE.out
        have HE := Lib.hid (show voF l (l.take (k + 1)) = ((lo, a1), a2) by rw [hsn]; unfold voS; rw [show arF lo l = (a1, a2) from HAE.out]; exact if_pos (Or.inl c1))
        have hd2 : decide (p3 < a2) = true := decide_eq_true c1
        clear hae
        clear hsn
        go_wp2_with (go_at_call 64; (with_reducible refine (HAR.out _ (HS2.out _ ((Below.refl _ _).alloc (Nat.le_refl _) _))).mono ?_); rintro e w2 ⟨rfl, hb2⟩; obtain ⟨hc2, hf2⟩ := bcell hb2; have hz2 := hb2.size; (try simp at hz2); have z2 : wr.heap.size < w2.heap.size := (by omega); have z3 : w1.heap.size < w2.heap.size := (by omega); have z4 : w.heap.size < w2.heap.size := (by omega))
        go_roundw
        case rel => exact ⟨k + 1, by omega, by go_num, by rw [HE.out], ((HR1.out.step (((Below.refl _ _).alloc (Nat.le_refl _) _).trans (hb2.mono (by simp)))).far (by omega) _ _).step ((Below.refl _ _).alloc (Nat.le_refl _) _), by rw [HE.out]; exact ((HR2.out.step (((Below.refl _ _).alloc (Nat.le_refl _) _).trans (hb2.mono (by simp)))).put _ _).step ((Below.refl _ _).alloc (Nat.le_refl _) _), (((hB.trans (Below.mono (((Below.refl _ _).alloc (Nat.le_refl _) _).trans (hb2.mono (by simp))) hB.size)).setCell (by first | omega | (simp; done) | (simp; omega)) _).setCell (by first | omega | (simp; done) | (simp; omega)) _).alloc (by first | omega | (simp; done) | (simp; omega)) _⟩
        case measure => simp [intOf]; omega
      · subst c1
        have hae := HAE.out
        have hd2 : decide (p3 < p3) = false := decide_eq_false (by omega)
        have hd3 : (p3 == p3) = true := beq_iff_eq.2 rfl
        by_cases c2 : lo < p1
        · have hd4 : decide (lo < p1) = true := decide_eq_true c2
          have HE := Lib.hid (show voF l (l.take (k + 1)) = ((lo, a1), p3) by rw [hsn]; unfold voS; rw [show arF lo l = (a1, p3) from HAE.out]; exact if_pos (Or.inr ⟨rfl, c2⟩))
          clear hae
          clear hsn
          go_wp2_with (go_at_call 64; (with_reducible refine (HAR.out _ (HS2.out _ ((Below.refl _ _).alloc (Nat.le_refl _) _))).mono ?_); rintro e w2 ⟨rfl, hb2⟩; obtain ⟨hc2, hf2⟩ := bcell hb2; have hz2 := hb2.size; (try simp at hz2); have z2 : wr.heap.size < w2.heap.size := (by omega); have z3 : w1.heap.size < w2.heap.size := (by omega); have z4 : w.heap.size < w2.heap.size := (by omega))
          go_roundw
          case rel => exact ⟨k + 1, by omega, by go_num, by rw [HE.out], ((HR1.out.step (((Below.refl _ _).alloc (Nat.le_refl _) _).trans (hb2.mono (by simp)))).far (by omega) _ _).step ((Below.refl _ _).alloc (Nat.le_refl _) _), by rw [HE.out]; exact ((HR2.out.step (((Below.refl _ _).alloc (Nat.le_refl _) _).trans (hb2.mono (by simp)))).put _ _).step ((Below.refl _ _).alloc (Nat.le_refl _) _), (((hB.trans (Below.mono (((Below.refl _ _).alloc (Nat.le_refl _) _).trans (hb2.mono (by simp))) hB.size)).setCell (by first | omega | (simp; done) | (simp; omega)) _).setCell (by first | omega | (simp; done) | (simp; omega)) _).alloc (by first | omega | (simp; done) | (simp; omega)) _⟩
          case measure => simp [intOf]; omega
        · have hd4 : decide (lo < p1) = false := decide_eq_false c2
          have HE := Lib.hid (show voF l (l.take (k + 1)) = ((p1, p2), p3) by rw [hsn]; unfold voS; rw [show arF lo l = (a1, p3) from HAE.out]; exact if_neg (by intro h; rcases h with h | h; omega; exact c2 h.2))
          clear hae
          clear hsn
          go_wp2_with (go_at_call 64; (with_reducible refine (HAR.out _ (HS2.out _ ((Below.refl _ _).alloc (Nat.le_refl _) _))).mono ?_); rintro e w2 ⟨rfl, hb2⟩; obtain ⟨hc2, hf2⟩ := bcell hb2; have hz2 := hb2.size; (try simp at hz2); have z2 : wr.heap.size < w2.heap.size := (by omega); have z3 : w1.heap.size < w2.heap.size := (by omega); have z4 : w.heap.size < w2.heap.size := (by omega))
          go_roundw
          case rel => exact ⟨k + 1, by omega, by go_num, by rw [HE.out], (HR1.out.step (((Below.refl _ _).alloc (Nat.le_refl _) _).trans (hb2.mono (by simp)))).step ((Below.refl _ _).alloc (Nat.le_refl _) _), by rw [HE.out]; exact (HR2.out.step (((Below.refl _ _).alloc (Nat.le_refl _) _).trans (hb2.mono (by simp)))).step ((Below.refl _ _).alloc (Nat.le_refl _) _), (hB.trans (Below.mono (((Below.refl _ _).alloc (Nat.le_refl _) _).trans (hb2.mono (by simp))) hB.size)).alloc (by first | omega | (simp; done) | (simp; omega)) _⟩
          case measure => simp [intOf]; omega
      · have hae := HAE.out
        have hd2 : decide (p3 < a2) = false := decide_eq_false (by omega)
        have hd3 : (a2 == p3) = false := beq_false_of_ne (by omega)
        have HE := Lib.hid (show voF l (l.take (k + 1)) = ((p1, p2), p3) by rw [hsn]; unfold voS; rw [show arF lo l = (a1, a2) from HAE.out]; exact if_neg (by intro h; rcases h with h | h <;> omega))
        clear hae
        clear hsn
        go_wp2_with (go_at_call 64; (with_reducible refine (HAR.out _ (HS2.out _ ((Below.refl _ _).alloc (Nat.le_refl _) _))).mono ?_); rintro e w2 ⟨rfl, hb2⟩; obtain ⟨hc2, hf2⟩ := bcell hb2; have hz2 := hb2.size; (try simp at hz2); have z2 : wr.heap.size < w2.heap.size := (by omega); have z3 : w1.heap.size < w2.heap.size := (by omega); have z4 : w.heap.size < w2.heap.size := (by omega))
        go_roundw
        case rel => exact ⟨k + 1, by omega, by go_num, by rw [HE.out], (HR1.out.step (((Below.refl _ _).alloc (Nat.le_refl _) _).trans (hb2.mono (by simp)))).step ((Below.refl _ _).alloc (Nat.le_refl _) _), by rw [HE.out]; exact (HR2.out.step (((Below.refl _ _).alloc (Nat.le_refl _) _).trans (hb2.mono (by simp)))).step ((Below.refl _ _).alloc (Nat.le_refl _) _), (hB.trans (Below.mono (((Below.refl _ _).alloc (Nat.le_refl _) _).trans (hb2.mono (by simp))) hB.size)).alloc (by first | omega | (simp; done) | (simp; omega)) _⟩
        case measure => simp [intOf]; omega
    · have hle : l.take k = l := List.take_of_length_le (by omega)
      rw [hle] at hR2 ⊢
      obtain ⟨p, hp⟩ : ∃ p, voF l l = p := ⟨_, rfl⟩
      rw [hp] at hR2 ⊢
      have HP := Lib.hid hp
      clear hp hle hrg
      obtain ⟨⟨p1, p2⟩, p3⟩ := p
      dsimp only at *
      obtain ⟨r0, r1, r2, r3, r4⟩ := hR1
      obtain ⟨s0, s1, s2, s3, s4⟩ := hR2
      have zw : w.heap.size < w1.heap.size := by omega
      go_wp2_with (fail)
      refine bodyPost_ret (v := .tuple #[.agg #[.int .i64 p1, .int .i64 p2], .int .i64 p3, .nilIface]) (by first | (simp [results, Tryd.results23, go_sem]; done) | (simp only [results, Tryd.results23]; go_simp; done) | (simp only [results, Tryd.results23]; go_simp; omega)) rfl (⟨by rw [HP.out], (by repeat (first | with_reducible assumption | exact Below.refl _ _ | refine Below.drew ?_ | refine Below.setCell ?_ (by first | omega | (simp; done) | (simp; omega)) _ | refine Below.alloc ?_ (by first | omega | (simp; done) | (simp; omega)) _))⟩)
end Go.Proofs.YtgkpbokipnfddaaDoor
