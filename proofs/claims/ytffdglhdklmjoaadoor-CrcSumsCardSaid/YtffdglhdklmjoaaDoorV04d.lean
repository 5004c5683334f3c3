/-
  Layer 4: the statement CrcSums, its walk.
-/
import Derived.Test.YtffdglhdklmjoaaDoorW04s
namespace Go.Proofs.YtffdglhdklmjoaaDoor
open Go.RowKit Go.Extern.Stop Go.Stop Go.Extern
set_option linter.unusedVariables false
set_option linter.unusedSimpArgs false
set_option maxRecDepth 100000 in
set_option maxHeartbeats 16000000 in
theorem sums_yes {w : World} (A : Option Addr) (ca : Nat) (la : List UInt8) (B : Option Addr) (cb : Nat) (lb : List UInt8) (hA : Rd w A la) (hAz : A = none → ca = 0) (hB : Rd w B lb) (hBz : B = none → cb = 0) (hBc : lb.length ≤ cb) (hn : la.length + lb.length ≤ 400) (ho : opensB lb = true) (hg : w.cell? ⟨0, 0, none⟩ = some asHandle) :
    Calls Tryd.prog 10 #[.slice A la.length ca, .slice B lb.length cb] w fun e w' => e = .returned (.bool true) ∧ Below w.heap.size w w' := by
  have hH := Held.start hg
  have hla : la.length ≤ 400 := by omega
  have hlb : lb.length ≤ 400 := by omega
  obtain ⟨S1, hS1⟩ : ∃ S, S = crcMore 0 la := ⟨_, rfl⟩
  obtain ⟨S2, hS2⟩ : ∃ S, S = crcMore S1 lb := ⟨_, rfl⟩
  obtain ⟨q, hq⟩ : ∃ q, q = sealOf la := ⟨_, rfl⟩
  obtain ⟨lc, hlc⟩ : ∃ l, l = la ++ lb := ⟨_, rfl⟩
  have hS1l : S1 < 2 ^ 32 := by rw [hS1]; exact crcMore_lt 0 la
  have hS3 : crcMore 0 lc = S2 := by rw [hlc, hS2, hS1]; exact (crcMore_append la lb 0 (by decide)).symm
  have hlcl : lc.length ≤ 400 := by rw [hlc]; simp; omega
  have HsA : Hid (∀ w : World, Rd w A la → Calls Tryd.prog 58 #[.slice A la.length ca] w fun e w' => e = .returned (.int .u32 (S1 : Nat)) ∧ w = w') := Lib.hid fun w h => by rw [hS1]; exact sum_n A ca _ la w h rfl (by omega)
  have HrA : Hid (∀ w : World, Rd w A la → Calls Tryd.prog 59 #[.slice A la.length ca] w fun e w' => e = .returned (.int .u32 (S1 : Nat)) ∧ w = w') := Lib.hid fun w h => by rw [hS1]; exact rsum_n A ca _ la w h rfl (by omega)
  have HmB : Hid (∀ w : World, Rd w B lb → Calls Tryd.prog 60 #[.int .u32 (S1 : Nat), .slice B lb.length cb] w fun e w' => e = .returned (.int .u32 (S2 : Nat)) ∧ w = w') := Lib.hid fun w h => by rw [hS2]; exact more_c S1 hS1l B cb lb w h (by omega)
  have HrC' : Hid (∀ (C : Option Addr) (cc : Nat) (w : World), Rd w C lc → Calls Tryd.prog 59 #[.slice C lc.length cc] w fun e w' => e = .returned (.int .u32 (S2 : Nat)) ∧ w = w') := Lib.hid fun C cc w h => by rw [← hS3]; exact rsum_n C cc _ lc w h rfl (by omega)
  have HQ := Lib.hid hq
  have HLC := Lib.hid hlc
  clear hS1 hS2 hS3 hS1l hq hlc
  obtain ⟨i0, hi, hz0, hz1, hz2⟩ := info_parts infoU8
  go_enter Tryd.func10, Tryd.ntmps10
  go_wp2_with (first | (at_builtin; refine wpList_append_b rfl (.tmp 17) (.tmp 18) 87 rfl w.heap.size 5 i0 (.int .u8 0) Tryd.underlying87 hi hz0 hz1 hz2 rfl (.slice none 0 0) 0 [] rfl (World.ownsRow_nil _ _ _ _) A ca la rfl hA hAz (by omega) (Nat.le_refl _) ?_; intro v1 w1 hown1 hg1 hat1; have hb1 := (Below.refl w.heap.size w).grown hg1 (Nat.le_refl _) (fun k hk => by cases hk)) | (at_builtin; refine wpList_append_b rfl (.tmp 19) (.tmp 20) 87 rfl w.heap.size 5 i0 (.int .u8 0) Tryd.underlying87 hi hz0 hz1 hz2 rfl v1 _ _ rfl hown1 B cb lb rfl (hB.below hb1) hBz (by omega) hb1.size ?_; intro v2 w2 hown2 hg2 hat2; have hb2 := hb1.grown hg2 hb1.size (fun k hk => (hown1.lt k hk).1)))
  simp only [Nat.zero_add, List.nil_append] at hown2
  replace hown2 := own_app hown2
  rw [← HLC.out] at hown2
  obtain ⟨C, cc, rfl, _, hrC2, _⟩ := own_shape hown2
  have HrC := Lib.hid (HrC'.out C cc)
  clear hown1 hown2 hg1 hg2 HrC'
  obtain ⟨lo, hlo⟩ : ∃ l, l = lb.take (lb.length - 4) := ⟨_, rfl⟩
  have h4 : 4 ≤ lb.length := by
    rcases Nat.lt_or_ge lb.length 4 with h | h
    · rw [opens_short h] at ho; cases ho
    · exact h
  have hll : lb.length - 4 = lo.length := by rw [hlo]; simp
  have hro : ∀ w : World, Rd w B lb → Rd w B lo := fun w h => by rw [hlo]; exact h.take _
  have HPO : Hid (∀ w : World, Rd w B lb → Calls Tryd.prog 56 #[.slice B lb.length cb] w (OkP w lo)) := Lib.hid fun w h => by rw [hlo]; exact popen_yes B cb lb w h (by omega) hBc ho
  have HRO : Hid (∀ w : World, Rd w B lb → Calls Tryd.prog 57 #[.slice B lb.length cb] w fun e w' => e = .returned (.tuple #[.slice B lo.length cb, .int .i64 0]) ∧ Below w.heap.size w w') := Lib.hid fun w h => by rw [← hll]; exact (rop_all B cb lb w h hBz (by omega) hBc h4).1 ho
  have hro0 := hro w hB
  clear hlo hll hro h4 ho
  go_wp2_with (fail)
  go_at_call 56
  (with_reducible refine (HPO.out _ (hB.below hb2)).mono ?_)
  rintro e w3 ⟨O, oc, rfl, _, hrO3, hb3⟩
  go_wp2_with (fail)
  go_at_call 57
  (with_reducible refine (HRO.out _ ((hB.below hb2).below hb3)).mono ?_)
  rintro e w4 ⟨rfl, hb4⟩
  have hS0 : SC w A la B lb C lc O lo B w4 := ⟨((hH.step hb2).step hb3).step hb4, ((hA.below hb2).below hb3).below hb4, ((hB.below hb2).below hb3).below hb4, (hrC2.below hb3).below hb4, hrO3.below hb4, ((hro0.below hb2).below hb3).below hb4⟩
  go_wp2_with (fail)
  refine wp_region_X (S := SC w A la B lb C lc O lo B) (R := fun w w' => Below w.heap.size w w') (V := VC q) (Al := AlOf [some (.slice A la.length ca), some (.int .u32 (S1 : Nat)), some (.slice A la.length ca), some (.int .u32 (S1 : Nat)), some (.bool true), some (.bool true), some (.slice A la.length ca), some (.int .u32 (S1 : Nat)), some (.slice B lb.length cb), some (.int .u32 (S2 : Nat)), some (.slice C lc.length cc), some (.int .u32 (S2 : Nat)), some (.bool true), some (.bool true), some (.bool true), some (.slice A la.length ca), none, some (.string ⟨(q).toArray⟩), some (.slice A la.length ca), none, some (.string ⟨(q).toArray⟩), some (.bool true), some (.bool true), some (.bool true), some (.slice O lo.length oc), some (.string ⟨(lo).toArray⟩), some (.slice B lo.length cb), some (.string ⟨(lo).toArray⟩), some (.bool true), some (.bool true), some (.bool true), some (.nilIface), some (.int .i64 0), some (.int .i64 0), some (.bool true), some (.bool true), some (.bool true), some (.bool true), some (.bool true), some (.bool true)] (CC q)) (spec := [48, 51]) (by kernel_rfl) (fun d v w w' hb h => VC.step d v w w' hb h) (fun w => Below.refl _ _) (fun d hd v w => VC.other d hd v w) (by rfl) (by kernel_rfl) (SC.step hS0 (Below.refl _ _).drew) ?_
  refine anyX_take (i := 0) (v := .slice A la.length ca) rfl (by kernel_rfl) (by kernel_rfl) (by kernel_rfl) rfl ?hy0 ?rest0
  case hy0 => (refine StepX.read (fun w => Below.refl _ _) (by rfl) (fun d e v w => by cases e; exact trivial) (fun wx hSw hvx => ?_); clear hvx hSw; go_simp; first | done | with_reducible rfl)
  try simp only [List.getElem_toArray, List.getElem_cons_succ, List.getElem_cons_zero, Act.put, List.setIfInBounds_toArray, List.set_cons_zero, List.set_cons_succ]
  refine anyX_take (i := 1) (v := .int .u32 (S1 : Nat)) rfl (by kernel_rfl) (by kernel_rfl) (by kernel_rfl) rfl ?hy1 ?rest1
  case hy1 => (refine Or.inl ⟨by rfl, fun wx hSw hvx => ?_⟩; have hSk := hSw; obtain ⟨hHx, hrA, hrB, hrC, hrO, hrQ⟩ := hSw; clear hvx; go_simp; refine Or.inr ⟨_, _, _, rfl, ?_⟩; (with_reducible refine (HsA.out _ hrA).mono ?_); rintro e w' ⟨rfl, rfl⟩; exact ⟨_, rfl, rfl, Below.refl _ _, hSk, (fun d e => by cases e; exact trivial)⟩)
  try simp only [List.getElem_toArray, List.getElem_cons_succ, List.getElem_cons_zero, Act.put, List.setIfInBounds_toArray, List.set_cons_zero, List.set_cons_succ]
  refine anyX_take (i := 2) (v := .slice A la.length ca) rfl (by kernel_rfl) (by kernel_rfl) (by kernel_rfl) rfl ?hy2 ?rest2
  case hy2 => (refine StepX.read (fun w => Below.refl _ _) (by rfl) (fun d e v w => by cases e; exact trivial) (fun wx hSw hvx => ?_); clear hvx hSw; go_simp; first | done | with_reducible rfl)
  try simp only [List.getElem_toArray, List.getElem_cons_succ, List.getElem_cons_zero, Act.put, List.setIfInBounds_toArray, List.set_cons_zero, List.set_cons_succ]
  refine anyX_take (i := 3) (v := .int .u32 (S1 : Nat)) rfl (by kernel_rfl) (by kernel_rfl) (by kernel_rfl) rfl ?hy3 ?rest3
  case hy3 => (refine Or.inl ⟨by rfl, fun wx hSw hvx => ?_⟩; have hSk := hSw; obtain ⟨hHx, hrA, hrB, hrC, hrO, hrQ⟩ := hSw; clear hvx; go_simp; refine Or.inr ⟨_, _, _, rfl, ?_⟩; (with_reducible refine (HrA.out _ hrA).mono ?_); rintro e w' ⟨rfl, rfl⟩; exact ⟨_, rfl, rfl, Below.refl _ _, hSk, (fun d e => by cases e; exact trivial)⟩)
  try simp only [List.getElem_toArray, List.getElem_cons_succ, List.getElem_cons_zero, Act.put, List.setIfInBounds_toArray, List.set_cons_zero, List.set_cons_succ]
  refine anyX_take (i := 4) (v := .bool true) rfl (by kernel_rfl) (by kernel_rfl) (by kernel_rfl) rfl ?hy4 ?rest4
  case hy4 => (refine StepX.read (fun w => Below.refl _ _) (by rfl) (fun d e v w => by cases e; exact trivial) (fun wx hSw hvx => ?_); clear hvx hSw; go_simp; first | done | with_reducible rfl)
  try simp only [List.getElem_toArray, List.getElem_cons_succ, List.getElem_cons_zero, Act.put, List.setIfInBounds_toArray, List.set_cons_zero, List.set_cons_succ]
  refine anyX_take (i := 5) (v := .bool true) rfl (by kernel_rfl) (by kernel_rfl) (by kernel_rfl) rfl ?hy5 ?rest5
  case hy5 => (refine StepX.read (fun w => Below.refl _ _) (by rfl) (fun d e v w => by cases e; exact trivial) (fun wx hSw hvx => ?_); clear hvx hSw; go_simp; first | done | with_reducible rfl)
  try simp only [List.getElem_toArray, List.getElem_cons_succ, List.getElem_cons_zero, Act.put, List.setIfInBounds_toArray, List.set_cons_zero, List.set_cons_succ]
  refine anyX_take (i := 6) (v := .slice A la.length ca) rfl (by kernel_rfl) (by kernel_rfl) (by kernel_rfl) rfl ?hy6 ?rest6
  case hy6 => (refine StepX.read (fun w => Below.refl _ _) (by rfl) (fun d e v w => by cases e; exact trivial) (fun wx hSw hvx => ?_); clear hvx hSw; go_simp; first | done | with_reducible rfl)
  try simp only [List.getElem_toArray, List.getElem_cons_succ, List.getElem_cons_zero, Act.put, List.setIfInBounds_toArray, List.set_cons_zero, List.set_cons_succ]
  refine anyX_take (i := 7) (v := .int .u32 (S1 : Nat)) rfl (by kernel_rfl) (by kernel_rfl) (by kernel_rfl) rfl ?hy7 ?rest7
  case hy7 => (refine Or.inl ⟨by rfl, fun wx hSw hvx => ?_⟩; have hSk := hSw; obtain ⟨hHx, hrA, hrB, hrC, hrO, hrQ⟩ := hSw; clear hvx; go_simp; refine Or.inr ⟨_, _, _, rfl, ?_⟩; (with_reducible refine (HsA.out _ hrA).mono ?_); rintro e w' ⟨rfl, rfl⟩; exact ⟨_, rfl, rfl, Below.refl _ _, hSk, (fun d e => by cases e; exact trivial)⟩)
  try simp only [List.getElem_toArray, List.getElem_cons_succ, List.getElem_cons_zero, Act.put, List.setIfInBounds_toArray, List.set_cons_zero, List.set_cons_succ]
  refine anyX_take (i := 8) (v := .slice B lb.length cb) rfl (by kernel_rfl) (by kernel_rfl) (by kernel_rfl) rfl ?hy8 ?rest8
  case hy8 => (refine StepX.read (fun w => Below.refl _ _) (by rfl) (fun d e v w => by cases e; exact trivial) (fun wx hSw hvx => ?_); clear hvx hSw; go_simp; first | done | with_reducible rfl)
  try simp only [List.getElem_toArray, List.getElem_cons_succ, List.getElem_cons_zero, Act.put, List.setIfInBounds_toArray, List.set_cons_zero, List.set_cons_succ]
  refine anyX_take (i := 9) (v := .int .u32 (S2 : Nat)) rfl (by kernel_rfl) (by kernel_rfl) (by kernel_rfl) rfl ?hy9 ?rest9
  case hy9 => (refine Or.inl ⟨by rfl, fun wx hSw hvx => ?_⟩; have hSk := hSw; obtain ⟨hHx, hrA, hrB, hrC, hrO, hrQ⟩ := hSw; clear hvx; go_simp; refine Or.inr ⟨_, _, _, rfl, ?_⟩; (with_reducible refine (HmB.out _ hrB).mono ?_); rintro e w' ⟨rfl, rfl⟩; exact ⟨_, rfl, rfl, Below.refl _ _, hSk, (fun d e => by cases e; exact trivial)⟩)
  try simp only [List.getElem_toArray, List.getElem_cons_succ, List.getElem_cons_zero, Act.put, List.setIfInBounds_toArray, List.set_cons_zero, List.set_cons_succ]
  refine anyX_take (i := 10) (v := .slice C lc.length cc) rfl (by kernel_rfl) (by kernel_rfl) (by kernel_rfl) rfl ?hy10 ?rest10
  case hy10 => (refine StepX.read (fun w => Below.refl _ _) (by rfl) (fun d e v w => by cases e; exact trivial) (fun wx hSw hvx => ?_); clear hvx hSw; go_simp; first | done | with_reducible rfl)
  try simp only [List.getElem_toArray, List.getElem_cons_succ, List.getElem_cons_zero, Act.put, List.setIfInBounds_toArray, List.set_cons_zero, List.set_cons_succ]
  refine anyX_take (i := 11) (v := .int .u32 (S2 : Nat)) rfl (by kernel_rfl) (by kernel_rfl) (by kernel_rfl) rfl ?hy11 ?rest11
  case hy11 => (refine Or.inl ⟨by rfl, fun wx hSw hvx => ?_⟩; have hSk := hSw; obtain ⟨hHx, hrA, hrB, hrC, hrO, hrQ⟩ := hSw; clear hvx; go_simp; refine Or.inr ⟨_, _, _, rfl, ?_⟩; (with_reducible refine (HrC.out _ hrC).mono ?_); rintro e w' ⟨rfl, rfl⟩; exact ⟨_, rfl, rfl, Below.refl _ _, hSk, (fun d e => by cases e; exact trivial)⟩)
  try simp only [List.getElem_toArray, List.getElem_cons_succ, List.getElem_cons_zero, Act.put, List.setIfInBounds_toArray, List.set_cons_zero, List.set_cons_succ]
  refine anyX_take (i := 12) (v := .bool true) rfl (by kernel_rfl) (by kernel_rfl) (by kernel_rfl) rfl ?hy12 ?rest12
  case hy12 => (refine StepX.read (fun w => Below.refl _ _) (by rfl) (fun d e v w => by cases e; exact trivial) (fun wx hSw hvx => ?_); clear hvx hSw; go_simp; first | done | with_reducible rfl)
  try simp only [List.getElem_toArray, List.getElem_cons_succ, List.getElem_cons_zero, Act.put, List.setIfInBounds_toArray, List.set_cons_zero, List.set_cons_succ]
  refine anyX_take (i := 13) (v := .bool true) rfl (by kernel_rfl) (by kernel_rfl) (by kernel_rfl) rfl ?hy13 ?rest13
  case hy13 => (refine StepX.read (fun w => Below.refl _ _) (by rfl) (fun d e v w => by cases e; exact trivial) (fun wx hSw hvx => ?_); clear hvx hSw; go_simp; first | done | with_reducible rfl)
  try simp only [List.getElem_toArray, List.getElem_cons_succ, List.getElem_cons_zero, Act.put, List.setIfInBounds_toArray, List.set_cons_zero, List.set_cons_succ]
  refine anyX_take (i := 14) (v := .bool true) rfl (by kernel_rfl) (by kernel_rfl) (by kernel_rfl) rfl ?hy14 ?rest14
  case hy14 => (refine StepX.read (fun w => Below.refl _ _) (by rfl) (fun d e v w => by cases e; exact trivial) (fun wx hSw hvx => ?_); clear hvx hSw; go_simp; first | done | with_reducible rfl)
  try simp only [List.getElem_toArray, List.getElem_cons_succ, List.getElem_cons_zero, Act.put, List.setIfInBounds_toArray, List.set_cons_zero, List.set_cons_succ]
  refine anyX_take (i := 15) (v := .slice A la.length ca) rfl (by kernel_rfl) (by kernel_rfl) (by kernel_rfl) rfl ?hy15 ?rest15
  case hy15 => (refine StepX.read (fun w => Below.refl _ _) (by rfl) (fun d e v w => by cases e; exact trivial) (fun wx hSw hvx => ?_); clear hvx hSw; go_simp; first | done | with_reducible rfl)
  try simp only [List.getElem_toArray, List.getElem_cons_succ, List.getElem_cons_zero, Act.put, List.setIfInBounds_toArray, List.set_cons_zero, List.set_cons_succ]
  refine anyX_some (i := 16) (A := Sl4V q) rfl (by kernel_rfl) (by kernel_rfl) (by kernel_rfl) rfl ⟨_, none, 0, rfl⟩ ?hy16 ?rest16
  case hy16 => (refine Or.inl ⟨by rfl, fun wx hSw hvx => ?_⟩; have hSk := hSw; obtain ⟨hHx, hrA, hrB, hrC, hrO, hrQ⟩ := hSw; clear hvx; go_simp; refine Or.inr ⟨_, _, _, rfl, ?_⟩; (with_reducible refine (pseal A ca la q HQ.out _ hrA hAz (by omega)).mono ?_); rintro e w' ⟨y, rfl, hy1, hy2, hb'⟩; exact ⟨y, rfl, hy1, hb', SC.step hSk hb', fun d e => by cases e; exact hy2⟩)
  rintro _ ⟨A16, c16, rfl⟩
  try simp only [List.getElem_toArray, List.getElem_cons_succ, List.getElem_cons_zero, Act.put, List.setIfInBounds_toArray, List.set_cons_zero, List.set_cons_succ]
  refine anyX_take (i := 17) (v := .string ⟨(q).toArray⟩) rfl (by kernel_rfl) (by kernel_rfl) (by kernel_rfl) rfl ?hy17 ?rest17
  case hy17 => (refine StepX.read (fun w => Below.refl _ _) (by rfl) (fun d e v w => by cases e; exact trivial) (fun wx hSw hvx => ?_); obtain ⟨A', c', e', hr'⟩ := (hvx 48 (by decide) : Sl4 q _ wx); obtain ⟨rfl, _, rfl⟩ := Value.slice.inj e'.symm; clear hvx e'; have ht := run_text wx 87 9 5 _ c' q hr' Tryd.underlying87 Tryd.underlying5 Tryd.underlying9; clear hr' hSw; go_simp)
  try simp only [List.getElem_toArray, List.getElem_cons_succ, List.getElem_cons_zero, Act.put, List.setIfInBounds_toArray, List.set_cons_zero, List.set_cons_succ]
  refine anyX_take (i := 18) (v := .slice A la.length ca) rfl (by kernel_rfl) (by kernel_rfl) (by kernel_rfl) rfl ?hy18 ?rest18
  case hy18 => (refine StepX.read (fun w => Below.refl _ _) (by rfl) (fun d e v w => by cases e; exact trivial) (fun wx hSw hvx => ?_); clear hvx hSw; go_simp; first | done | with_reducible rfl)
  try simp only [List.getElem_toArray, List.getElem_cons_succ, List.getElem_cons_zero, Act.put, List.setIfInBounds_toArray, List.set_cons_zero, List.set_cons_succ]
  refine anyX_some (i := 19) (A := Sl4V q) rfl (by kernel_rfl) (by kernel_rfl) (by kernel_rfl) rfl ⟨_, none, 0, rfl⟩ ?hy19 ?rest19
  case hy19 => (refine Or.inl ⟨by rfl, fun wx hSw hvx => ?_⟩; have hSk := hSw; obtain ⟨hHx, hrA, hrB, hrC, hrO, hrQ⟩ := hSw; clear hvx; go_simp; refine Or.inr ⟨_, _, _, rfl, ?_⟩; (with_reducible refine (rseal A ca la q HQ.out _ hrA hAz (by omega)).mono ?_); rintro e w' ⟨y, rfl, hy1, hy2, hb'⟩; exact ⟨y, rfl, hy1, hb', SC.step hSk hb', fun d e => by cases e; exact hy2⟩)
  rintro _ ⟨A19, c19, rfl⟩
  try simp only [List.getElem_toArray, List.getElem_cons_succ, List.getElem_cons_zero, Act.put, List.setIfInBounds_toArray, List.set_cons_zero, List.set_cons_succ]
  refine anyX_take (i := 20) (v := .string ⟨(q).toArray⟩) rfl (by kernel_rfl) (by kernel_rfl) (by kernel_rfl) rfl ?hy20 ?rest20
  case hy20 => (refine StepX.read (fun w => Below.refl _ _) (by rfl) (fun d e v w => by cases e; exact trivial) (fun wx hSw hvx => ?_); obtain ⟨A', c', e', hr'⟩ := (hvx 51 (by decide) : Sl4 q _ wx); obtain ⟨rfl, _, rfl⟩ := Value.slice.inj e'.symm; clear hvx e'; have ht := run_text wx 87 9 5 _ c' q hr' Tryd.underlying87 Tryd.underlying5 Tryd.underlying9; clear hr' hSw; go_simp)
  try simp only [List.getElem_toArray, List.getElem_cons_succ, List.getElem_cons_zero, Act.put, List.setIfInBounds_toArray, List.set_cons_zero, List.set_cons_succ]
  refine anyX_take (i := 21) (v := .bool true) rfl (by kernel_rfl) (by kernel_rfl) (by kernel_rfl) rfl ?hy21 ?rest21
  case hy21 => (refine StepX.read (fun w => Below.refl _ _) (by rfl) (fun d e v w => by cases e; exact trivial) (fun wx hSw hvx => ?_); clear hvx hSw; go_simp; first | done | with_reducible rfl)
  try simp only [List.getElem_toArray, List.getElem_cons_succ, List.getElem_cons_zero, Act.put, List.setIfInBounds_toArray, List.set_cons_zero, List.set_cons_succ]
  refine anyX_take (i := 22) (v := .bool true) rfl (by kernel_rfl) (by kernel_rfl) (by kernel_rfl) rfl ?hy22 ?rest22
  case hy22 => (refine StepX.read (fun w => Below.refl _ _) (by rfl) (fun d e v w => by cases e; exact trivial) (fun wx hSw hvx => ?_); clear hvx hSw; go_simp; first | done | with_reducible rfl)
  try simp only [List.getElem_toArray, List.getElem_cons_succ, List.getElem_cons_zero, Act.put, List.setIfInBounds_toArray, List.set_cons_zero, List.set_cons_succ]
  refine anyX_take (i := 23) (v := .bool true) rfl (by kernel_rfl) (by kernel_rfl) (by kernel_rfl) rfl ?hy23 ?rest23
  case hy23 => (refine StepX.read (fun w => Below.refl _ _) (by rfl) (fun d e v w => by cases e; exact trivial) (fun wx hSw hvx => ?_); clear hvx hSw; go_simp; first | done | with_reducible rfl)
  try simp only [List.getElem_toArray, List.getElem_cons_succ, List.getElem_cons_zero, Act.put, List.setIfInBounds_toArray, List.set_cons_zero, List.set_cons_succ]
  refine anyX_take (i := 24) (v := .slice O lo.length oc) rfl (by kernel_rfl) (by kernel_rfl) (by kernel_rfl) rfl ?hy24 ?rest24
  case hy24 => (refine StepX.read (fun w => Below.refl _ _) (by rfl) (fun d e v w => by cases e; exact trivial) (fun wx hSw hvx => ?_); clear hvx hSw; go_simp; first | done | with_reducible rfl)
  try simp only [List.getElem_toArray, List.getElem_cons_succ, List.getElem_cons_zero, Act.put, List.setIfInBounds_toArray, List.set_cons_zero, List.set_cons_succ]
  refine anyX_take (i := 25) (v := .string ⟨(lo).toArray⟩) rfl (by kernel_rfl) (by kernel_rfl) (by kernel_rfl) rfl ?hy25 ?rest25
  case hy25 => (refine StepX.read (fun w => Below.refl _ _) (by rfl) (fun d e v w => by cases e; exact trivial) (fun wx hSw hvx => ?_); clear hvx; obtain ⟨hHx, hrA, hrB, hrC, hrO, hrQ⟩ := hSw; have ht := run_text wx 87 9 5 O oc lo hrO Tryd.underlying87 Tryd.underlying5 Tryd.underlying9; clear hrA hrB hrC hrO hrQ; go_simp)
  try simp only [List.getElem_toArray, List.getElem_cons_succ, List.getElem_cons_zero, Act.put, List.setIfInBounds_toArray, List.set_cons_zero, List.set_cons_succ]
  refine anyX_take (i := 26) (v := .slice B lo.length cb) rfl (by kernel_rfl) (by kernel_rfl) (by kernel_rfl) rfl ?hy26 ?rest26
  case hy26 => (refine StepX.read (fun w => Below.refl _ _) (by rfl) (fun d e v w => by cases e; exact trivial) (fun wx hSw hvx => ?_); clear hvx hSw; go_simp; first | done | with_reducible rfl)
  try simp only [List.getElem_toArray, List.getElem_cons_succ, List.getElem_cons_zero, Act.put, List.setIfInBounds_toArray, List.set_cons_zero, List.set_cons_succ]
  refine anyX_take (i := 27) (v := .string ⟨(lo).toArray⟩) rfl (by kernel_rfl) (by kernel_rfl) (by kernel_rfl) rfl ?hy27 ?rest27
  case hy27 => (refine StepX.read (fun w => Below.refl _ _) (by rfl) (fun d e v w => by cases e; exact trivial) (fun wx hSw hvx => ?_); clear hvx; obtain ⟨hHx, hrA, hrB, hrC, hrO, hrQ⟩ := hSw; have ht := run_text wx 87 9 5 B cb lo hrQ Tryd.underlying87 Tryd.underlying5 Tryd.underlying9; clear hrA hrB hrC hrO hrQ; go_simp)
  try simp only [List.getElem_toArray, List.getElem_cons_succ, List.getElem_cons_zero, Act.put, List.setIfInBounds_toArray, List.set_cons_zero, List.set_cons_succ]
  refine anyX_take (i := 28) (v := .bool true) rfl (by kernel_rfl) (by kernel_rfl) (by kernel_rfl) rfl ?hy28 ?rest28
  case hy28 => (refine StepX.read (fun w => Below.refl _ _) (by rfl) (fun d e v w => by cases e; exact trivial) (fun wx hSw hvx => ?_); clear hvx hSw; go_simp; first | done | with_reducible rfl)
  try simp only [List.getElem_toArray, List.getElem_cons_succ, List.getElem_cons_zero, Act.put, List.setIfInBounds_toArray, List.set_cons_zero, List.set_cons_succ]
  refine anyX_take (i := 29) (v := .bool true) rfl (by kernel_rfl) (by kernel_rfl) (by kernel_rfl) rfl ?hy29 ?rest29
  case hy29 => (refine StepX.read (fun w => Below.refl _ _) (by rfl) (fun d e v w => by cases e; exact trivial) (fun wx hSw hvx => ?_); clear hvx hSw; go_simp; first | done | with_reducible rfl)
  try simp only [List.getElem_toArray, List.getElem_cons_succ, List.getElem_cons_zero, Act.put, List.setIfInBounds_toArray, List.set_cons_zero, List.set_cons_succ]
  refine anyX_take (i := 30) (v := .bool true) rfl (by kernel_rfl) (by kernel_rfl) (by kernel_rfl) rfl ?hy30 ?rest30
  case hy30 => (refine StepX.read (fun w => Below.refl _ _) (by rfl) (fun d e v w => by cases e; exact trivial) (fun wx hSw hvx => ?_); clear hvx hSw; go_simp; first | done | with_reducible rfl)
  try simp only [List.getElem_toArray, List.getElem_cons_succ, List.getElem_cons_zero, Act.put, List.setIfInBounds_toArray, List.set_cons_zero, List.set_cons_succ]
  refine anyX_take (i := 31) (v := .nilIface) rfl (by kernel_rfl) (by kernel_rfl) (by kernel_rfl) rfl ?hy31 ?rest31
  case hy31 => (refine StepX.read (fun w => Below.refl _ _) (by rfl) (fun d e v w => by cases e; exact trivial) (fun wx hSw hvx => ?_); clear hvx hSw; go_simp; first | done | with_reducible rfl)
  try simp only [List.getElem_toArray, List.getElem_cons_succ, List.getElem_cons_zero, Act.put, List.setIfInBounds_toArray, List.set_cons_zero, List.set_cons_succ]
  refine anyX_take (i := 32) (v := .int .i64 0) rfl (by kernel_rfl) (by kernel_rfl) (by kernel_rfl) rfl ?hy32 ?rest32
  case hy32 => (refine Or.inl ⟨by rfl, fun wx hSw hvx => ?_⟩; have hSk := hSw; obtain ⟨hHx, hrA, hrB, hrC, hrO, hrQ⟩ := hSw; clear hvx; go_simp; refine Or.inr ⟨_, _, _, rfl, ?_⟩; (with_reducible refine (num04_nil _).mono ?_); rintro e w' ⟨rfl, hb'⟩; exact ⟨_, rfl, rfl, hb', SC.step hSk hb', (fun d e => by cases e; exact trivial)⟩)
  try simp only [List.getElem_toArray, List.getElem_cons_succ, List.getElem_cons_zero, Act.put, List.setIfInBounds_toArray, List.set_cons_zero, List.set_cons_succ]
  refine anyX_take (i := 33) (v := .int .i64 0) rfl (by kernel_rfl) (by kernel_rfl) (by kernel_rfl) rfl ?hy33 ?rest33
  case hy33 => (refine StepX.read (fun w => Below.refl _ _) (by rfl) (fun d e v w => by cases e; exact trivial) (fun wx hSw hvx => ?_); clear hvx hSw; go_simp; first | done | with_reducible rfl)
  try simp only [List.getElem_toArray, List.getElem_cons_succ, List.getElem_cons_zero, Act.put, List.setIfInBounds_toArray, List.set_cons_zero, List.set_cons_succ]
  refine anyX_take (i := 34) (v := .bool true) rfl (by kernel_rfl) (by kernel_rfl) (by kernel_rfl) rfl ?hy34 ?rest34
  case hy34 => (refine StepX.read (fun w => Below.refl _ _) (by rfl) (fun d e v w => by cases e; exact trivial) (fun wx hSw hvx => ?_); clear hvx hSw; go_simp; first | done | with_reducible rfl)
  try simp only [List.getElem_toArray, List.getElem_cons_succ, List.getElem_cons_zero, Act.put, List.setIfInBounds_toArray, List.set_cons_zero, List.set_cons_succ]
  refine anyX_take (i := 35) (v := .bool true) rfl (by kernel_rfl) (by kernel_rfl) (by kernel_rfl) rfl ?hy35 ?rest35
  case hy35 => (refine StepX.read (fun w => Below.refl _ _) (by rfl) (fun d e v w => by cases e; exact trivial) (fun wx hSw hvx => ?_); clear hvx hSw; go_simp; first | done | with_reducible rfl)
  try simp only [List.getElem_toArray, List.getElem_cons_succ, List.getElem_cons_zero, Act.put, List.setIfInBounds_toArray, List.set_cons_zero, List.set_cons_succ]
  refine anyX_take (i := 36) (v := .bool true) rfl (by kernel_rfl) (by kernel_rfl) (by kernel_rfl) rfl ?hy36 ?rest36
  case hy36 => (refine StepX.read (fun w => Below.refl _ _) (by rfl) (fun d e v w => by cases e; exact trivial) (fun wx hSw hvx => ?_); clear hvx hSw; go_simp; first | done | with_reducible rfl)
  try simp only [List.getElem_toArray, List.getElem_cons_succ, List.getElem_cons_zero, Act.put, List.setIfInBounds_toArray, List.set_cons_zero, List.set_cons_succ]
  refine anyX_take (i := 37) (v := .bool true) rfl (by kernel_rfl) (by kernel_rfl) (by kernel_rfl) rfl ?hy37 ?rest37
  case hy37 => (refine Or.inl ⟨by rfl, fun wx hSw hvx => ?_⟩; have hSk := hSw; obtain ⟨hHx, hrA, hrB, hrC, hrO, hrQ⟩ := hSw; clear hvx; go_simp; refine Or.inr ⟨_, _, _, rfl, ?_⟩; (with_reducible refine (sure04 _ (Held.handle (w0 := w) hHx)).mono ?_); rintro e w' ⟨rfl, hb'⟩; exact ⟨_, rfl, rfl, hb', SC.step hSk hb', (fun d e => by cases e; exact trivial)⟩)
  try simp only [List.getElem_toArray, List.getElem_cons_succ, List.getElem_cons_zero, Act.put, List.setIfInBounds_toArray, List.set_cons_zero, List.set_cons_succ]
  refine anyX_take (i := 38) (v := .bool true) rfl (by kernel_rfl) (by kernel_rfl) (by kernel_rfl) rfl ?hy38 ?rest38
  case hy38 => (refine StepX.read (fun w => Below.refl _ _) (by rfl) (fun d e v w => by cases e; exact trivial) (fun wx hSw hvx => ?_); clear hvx hSw; go_simp; first | done | with_reducible rfl)
  try simp only [List.getElem_toArray, List.getElem_cons_succ, List.getElem_cons_zero, Act.put, List.setIfInBounds_toArray, List.set_cons_zero, List.set_cons_succ]
  refine anyX_take (i := 39) (v := .bool true) rfl (by kernel_rfl) (by kernel_rfl) (by kernel_rfl) rfl ?hy39 ?rest39
  case hy39 => (refine StepX.read (fun w => Below.refl _ _) (by rfl) (fun d e v w => by cases e; exact trivial) (fun wx hSw hvx => ?_); clear hvx hSw; go_simp; first | done | with_reducible rfl)
  try simp only [List.getElem_toArray, List.getElem_cons_succ, List.getElem_cons_zero, Act.put, List.setIfInBounds_toArray, List.set_cons_zero, List.set_cons_succ]
  refine anyX_done (by kernel_rfl) (fun wx hSw _ => ?_) _
  go_wp2_with (fail)
  go_ret
  exact ⟨rfl, Held.below (w0 := w) hSw.1⟩
set_option maxRecDepth 100000 in
set_option maxHeartbeats 16000000 in
theorem sums_no {w : World} (A : Option Addr) (ca : Nat) (la : List UInt8) (B : Option Addr) (cb : Nat) (lb : List UInt8) (hA : Rd w A la) (hAz : A = none → ca = 0) (hB : Rd w B lb) (hBz : B = none → cb = 0) (hBc : lb.length ≤ cb) (hn : la.length + lb.length ≤ 400) (ho : opensB lb = false) (hg : w.cell? ⟨0, 0, none⟩ = some asHandle) :
    Calls Tryd.prog 10 #[.slice A la.length ca, .slice B lb.length cb] w fun e w' => e = .returned (.bool true) ∧ Below w.heap.size w w' := by
  have hH := Held.start hg
  have hla : la.length ≤ 400 := by omega
  have hlb : lb.length ≤ 400 := by omega
  obtain ⟨S1, hS1⟩ : ∃ S, S = crcMore 0 la := ⟨_, rfl⟩
  obtain ⟨S2, hS2⟩ : ∃ S, S = crcMore S1 lb := ⟨_, rfl⟩
  obtain ⟨q, hq⟩ : ∃ q, q = sealOf la := ⟨_, rfl⟩
  obtain ⟨lc, hlc⟩ : ∃ l, l = la ++ lb := ⟨_, rfl⟩
  have hS1l : S1 < 2 ^ 32 := by rw [hS1]; exact crcMore_lt 0 la
  have hS3 : crcMore 0 lc = S2 := by rw [hlc, hS2, hS1]; exact (crcMore_append la lb 0 (by decide)).symm
  have hlcl : lc.length ≤ 400 := by rw [hlc]; simp; omega
  have HsA : Hid (∀ w : World, Rd w A la → Calls Tryd.prog 58 #[.slice A la.length ca] w fun e w' => e = .returned (.int .u32 (S1 : Nat)) ∧ w = w') := Lib.hid fun w h => by rw [hS1]; exact sum_n A ca _ la w h rfl (by omega)
  have HrA : Hid (∀ w : World, Rd w A la → Calls Tryd.prog 59 #[.slice A la.length ca] w fun e w' => e = .returned (.int .u32 (S1 : Nat)) ∧ w = w') := Lib.hid fun w h => by rw [hS1]; exact rsum_n A ca _ la w h rfl (by omega)
  have HmB : Hid (∀ w : World, Rd w B lb → Calls Tryd.prog 60 #[.int .u32 (S1 : Nat), .slice B lb.length cb] w fun e w' => e = .returned (.int .u32 (S2 : Nat)) ∧ w = w') := Lib.hid fun w h => by rw [hS2]; exact more_c S1 hS1l B cb lb w h (by omega)
  have HrC' : Hid (∀ (C : Option Addr) (cc : Nat) (w : World), Rd w C lc → Calls Tryd.prog 59 #[.slice C lc.length cc] w fun e w' => e = .returned (.int .u32 (S2 : Nat)) ∧ w = w') := Lib.hid fun C cc w h => by rw [← hS3]; exact rsum_n C cc _ lc w h rfl (by omega)
  have HQ := Lib.hid hq
  have HLC := Lib.hid hlc
  clear hS1 hS2 hS3 hS1l hq hlc
  obtain ⟨i0, hi, hz0, hz1, hz2⟩ := info_parts infoU8
  go_enter Tryd.func10, Tryd.ntmps10
  go_wp2_with (first | (at_builtin; refine wpList_append_b rfl (.tmp 17) (.tmp 18) 87 rfl w.heap.size 5 i0 (.int .u8 0) Tryd.underlying87 hi hz0 hz1 hz2 rfl (.slice none 0 0) 0 [] rfl (World.ownsRow_nil _ _ _ _) A ca la rfl hA hAz (by omega) (Nat.le_refl _) ?_; intro v1 w1 hown1 hg1 hat1; have hb1 := (Below.refl w.heap.size w).grown hg1 (Nat.le_refl _) (fun k hk => by cases hk)) | (at_builtin; refine wpList_append_b rfl (.tmp 19) (.tmp 20) 87 rfl w.heap.size 5 i0 (.int .u8 0) Tryd.underlying87 hi hz0 hz1 hz2 rfl v1 _ _ rfl hown1 B cb lb rfl (hB.below hb1) hBz (by omega) hb1.size ?_; intro v2 w2 hown2 hg2 hat2; have hb2 := hb1.grown hg2 hb1.size (fun k hk => (hown1.lt k hk).1)))
  simp only [Nat.zero_add, List.nil_append] at hown2
  replace hown2 := own_app hown2
  rw [← HLC.out] at hown2
  obtain ⟨C, cc, rfl, _, hrC2, _⟩ := own_shape hown2
  have HrC := Lib.hid (HrC'.out C cc)
  clear hown1 hown2 hg1 hg2 HrC'
  have HPO : Hid (∀ w : World, Rd w B lb → Calls Tryd.prog 56 #[.slice B lb.length cb] w fun e w' => e = .returned (.tuple #[.slice none 0 0, errV 4]) ∧ Below w.heap.size w w') := Lib.hid fun w h => popen_no B cb lb w h (by omega) hBc ho
  have HRO : Hid (∀ w : World, Rd w B lb → Calls Tryd.prog 57 #[.slice B lb.length cb] w fun e w' => e = .returned (.tuple #[.slice none 0 0, .int .i64 4]) ∧ Below w.heap.size w w') := Lib.hid fun w h => ropen_no B cb lb w h hBz (by omega) hBc ho
  clear ho
  go_wp2_with (fail)
  go_at_call 56
  (with_reducible refine (HPO.out _ (hB.below hb2)).mono ?_)
  rintro e w3 ⟨rfl, hb3⟩
  go_wp2_with (fail)
  go_at_call 57
  (with_reducible refine (HRO.out _ ((hB.below hb2).below hb3)).mono ?_)
  rintro e w4 ⟨rfl, hb4⟩
  have hS0 : SC w A la B lb C lc none [] none w4 := ⟨((hH.step hb2).step hb3).step hb4, ((hA.below hb2).below hb3).below hb4, ((hB.below hb2).below hb3).below hb4, (hrC2.below hb3).below hb4, Rd.nil _ _, Rd.nil _ _⟩
  go_wp2_with (fail)
  refine wp_region_X (S := SC w A la B lb C lc none [] none) (R := fun w w' => Below w.heap.size w w') (V := VC q) (Al := AlOf [some (.slice A la.length ca), some (.int .u32 (S1 : Nat)), some (.slice A la.length ca), some (.int .u32 (S1 : Nat)), some (.bool true), some (.bool true), some (.slice A la.length ca), some (.int .u32 (S1 : Nat)), some (.slice B lb.length cb), some (.int .u32 (S2 : Nat)), some (.slice C lc.length cc), some (.int .u32 (S2 : Nat)), some (.bool true), some (.bool true), some (.bool true), some (.slice A la.length ca), none, some (.string ⟨(q).toArray⟩), some (.slice A la.length ca), none, some (.string ⟨(q).toArray⟩), some (.bool true), some (.bool true), some (.bool true), some (.slice none 0 0), some (.string ⟨([] : List UInt8).toArray⟩), some (.slice none 0 0), some (.string ⟨([] : List UInt8).toArray⟩), some (.bool true), some (.bool true), some (.bool true), some (errV 4), some (.int .i64 4), some (.int .i64 4), some (.bool true), some (.bool true), some (.bool true), some (.bool true), some (.bool true), some (.bool true)] (CC q)) (spec := [48, 51]) (by kernel_rfl) (fun d v w w' hb h => VC.step d v w w' hb h) (fun w => Below.refl _ _) (fun d hd v w => VC.other d hd v w) (by rfl) (by kernel_rfl) (SC.step hS0 (Below.refl _ _).drew) ?_
  refine anyX_take (i := 0) (v := .slice A la.length ca) rfl (by kernel_rfl) (by kernel_rfl) (by kernel_rfl) rfl ?hy0 ?rest0
  case hy0 => (refine StepX.read (fun w => Below.refl _ _) (by rfl) (fun d e v w => by cases e; exact trivial) (fun wx hSw hvx => ?_); clear hvx hSw; go_simp; first | done | with_reducible rfl)
  try simp only [List.getElem_toArray, List.getElem_cons_succ, List.getElem_cons_zero, Act.put, List.setIfInBounds_toArray, List.set_cons_zero, List.set_cons_succ]
  refine anyX_take (i := 1) (v := .int .u32 (S1 : Nat)) rfl (by kernel_rfl) (by kernel_rfl) (by kernel_rfl) rfl ?hy1 ?rest1
  case hy1 => (refine Or.inl ⟨by rfl, fun wx hSw hvx => ?_⟩; have hSk := hSw; obtain ⟨hHx, hrA, hrB, hrC, hrO, hrQ⟩ := hSw; clear hvx; go_simp; refine Or.inr ⟨_, _, _, rfl, ?_⟩; (with_reducible refine (HsA.out _ hrA).mono ?_); rintro e w' ⟨rfl, rfl⟩; exact ⟨_, rfl, rfl, Below.refl _ _, hSk, (fun d e => by cases e; exact trivial)⟩)
  try simp only [List.getElem_toArray, List.getElem_cons_succ, List.getElem_cons_zero, Act.put, List.setIfInBounds_toArray, List.set_cons_zero, List.set_cons_succ]
  refine anyX_take (i := 2) (v := .slice A la.length ca) rfl (by kernel_rfl) (by kernel_rfl) (by kernel_rfl) rfl ?hy2 ?rest2
  case hy2 => (refine StepX.read (fun w => Below.refl _ _) (by rfl) (fun d e v w => by cases e; exact trivial) (fun wx hSw hvx => ?_); clear hvx hSw; go_simp; first | done | with_reducible rfl)
  try simp only [List.getElem_toArray, List.getElem_cons_succ, List.getElem_cons_zero, Act.put, List.setIfInBounds_toArray, List.set_cons_zero, List.set_cons_succ]
  refine anyX_take (i := 3) (v := .int .u32 (S1 : Nat)) rfl (by kernel_rfl) (by kernel_rfl) (by kernel_rfl) rfl ?hy3 ?rest3
  case hy3 => (refine Or.inl ⟨by rfl, fun wx hSw hvx => ?_⟩; have hSk := hSw; obtain ⟨hHx, hrA, hrB, hrC, hrO, hrQ⟩ := hSw; clear hvx; go_simp; refine Or.inr ⟨_, _, _, rfl, ?_⟩; (with_reducible refine (HrA.out _ hrA).mono ?_); rintro e w' ⟨rfl, rfl⟩; exact ⟨_, rfl, rfl, Below.refl _ _, hSk, (fun d e => by cases e; exact trivial)⟩)
  try simp only [List.getElem_toArray, List.getElem_cons_succ, List.getElem_cons_zero, Act.put, List.setIfInBounds_toArray, List.set_cons_zero, List.set_cons_succ]
  refine anyX_take (i := 4) (v := .bool true) rfl (by kernel_rfl) (by kernel_rfl) (by kernel_rfl) rfl ?hy4 ?rest4
  case hy4 => (refine StepX.read (fun w => Below.refl _ _) (by rfl) (fun d e v w => by cases e; exact trivial) (fun wx hSw hvx => ?_); clear hvx hSw; go_simp; first | done | with_reducible rfl)
  try simp only [List.getElem_toArray, List.getElem_cons_succ, List.getElem_cons_zero, Act.put, List.setIfInBounds_toArray, List.set_cons_zero, List.set_cons_succ]
  refine anyX_take (i := 5) (v := .bool true) rfl (by kernel_rfl) (by kernel_rfl) (by kernel_rfl) rfl ?hy5 ?rest5
  case hy5 => (refine StepX.read (fun w => Below.refl _ _) (by rfl) (fun d e v w => by cases e; exact trivial) (fun wx hSw hvx => ?_); clear hvx hSw; go_simp; first | done | with_reducible rfl)
  try simp only [List.getElem_toArray, List.getElem_cons_succ, List.getElem_cons_zero, Act.put, List.setIfInBounds_toArray, List.set_cons_zero, List.set_cons_succ]
  refine anyX_take (i := 6) (v := .slice A la.length ca) rfl (by kernel_rfl) (by kernel_rfl) (by kernel_rfl) rfl ?hy6 ?rest6
  case hy6 => (refine StepX.read (fun w => Below.refl _ _) (by rfl) (fun d e v w => by cases e; exact trivial) (fun wx hSw hvx => ?_); clear hvx hSw; go_simp; first | done | with_reducible rfl)
  try simp only [List.getElem_toArray, List.getElem_cons_succ, List.getElem_cons_zero, Act.put, List.setIfInBounds_toArray, List.set_cons_zero, List.set_cons_succ]
  refine anyX_take (i := 7) (v := .int .u32 (S1 : Nat)) rfl (by kernel_rfl) (by kernel_rfl) (by kernel_rfl) rfl ?hy7 ?rest7
  case hy7 => (refine Or.inl ⟨by rfl, fun wx hSw hvx => ?_⟩; have hSk := hSw; obtain ⟨hHx, hrA, hrB, hrC, hrO, hrQ⟩ := hSw; clear hvx; go_simp; refine Or.inr ⟨_, _, _, rfl, ?_⟩; (with_reducible refine (HsA.out _ hrA).mono ?_); rintro e w' ⟨rfl, rfl⟩; exact ⟨_, rfl, rfl, Below.refl _ _, hSk, (fun d e => by cases e; exact trivial)⟩)
  try simp only [List.getElem_toArray, List.getElem_cons_succ, List.getElem_cons_zero, Act.put, List.setIfInBounds_toArray, List.set_cons_zero, List.set_cons_succ]
  refine anyX_take (i := 8) (v := .slice B lb.length cb) rfl (by kernel_rfl) (by kernel_rfl) (by kernel_rfl) rfl ?hy8 ?rest8
  case hy8 => (refine StepX.read (fun w => Below.refl _ _) (by rfl) (fun d e v w => by cases e; exact trivial) (fun wx hSw hvx => ?_); clear hvx hSw; go_simp; first | done | with_reducible rfl)
  try simp only [List.getElem_toArray, List.getElem_cons_succ, List.getElem_cons_zero, Act.put, List.setIfInBounds_toArray, List.set_cons_zero, List.set_cons_succ]
  refine anyX_take (i := 9) (v := .int .u32 (S2 : Nat)) rfl (by kernel_rfl) (by kernel_rfl) (by kernel_rfl) rfl ?hy9 ?rest9
  case hy9 => (refine Or.inl ⟨by rfl, fun wx hSw hvx => ?_⟩; have hSk := hSw; obtain ⟨hHx, hrA, hrB, hrC, hrO, hrQ⟩ := hSw; clear hvx; go_simp; refine Or.inr ⟨_, _, _, rfl, ?_⟩; (with_reducible refine (HmB.out _ hrB).mono ?_); rintro e w' ⟨rfl, rfl⟩; exact ⟨_, rfl, rfl, Below.refl _ _, hSk, (fun d e => by cases e; exact trivial)⟩)
  try simp only [List.getElem_toArray, List.getElem_cons_succ, List.getElem_cons_zero, Act.put, List.setIfInBounds_toArray, List.set_cons_zero, List.set_cons_succ]
  refine anyX_take (i := 10) (v := .slice C lc.length cc) rfl (by kernel_rfl) (by kernel_rfl) (by kernel_rfl) rfl ?hy10 ?rest10
  case hy10 => (refine StepX.read (fun w => Below.refl _ _) (by rfl) (fun d e v w => by cases e; exact trivial) (fun wx hSw hvx => ?_); clear hvx hSw; go_simp; first | done | with_reducible rfl)
  try simp only [List.getElem_toArray, List.getElem_cons_succ, List.getElem_cons_zero, Act.put, List.setIfInBounds_toArray, List.set_cons_zero, List.set_cons_succ]
  refine anyX_take (i := 11) (v := .int .u32 (S2 : Nat)) rfl (by kernel_rfl) (by kernel_rfl) (by kernel_rfl) rfl ?hy11 ?rest11
  case hy11 => (refine Or.inl ⟨by rfl, fun wx hSw hvx => ?_⟩; have hSk := hSw; obtain ⟨hHx, hrA, hrB, hrC, hrO, hrQ⟩ := hSw; clear hvx; go_simp; refine Or.inr ⟨_, _, _, rfl, ?_⟩; (with_reducible refine (HrC.out _ hrC).mono ?_); rintro e w' ⟨rfl, rfl⟩; exact ⟨_, rfl, rfl, Below.refl _ _, hSk, (fun d e => by cases e; exact trivial)⟩)
  try simp only [List.getElem_toArray, List.getElem_cons_succ, List.getElem_cons_zero, Act.put, List.setIfInBounds_toArray, List.set_cons_zero, List.set_cons_succ]
  refine anyX_take (i := 12) (v := .bool true) rfl (by kernel_rfl) (by kernel_rfl) (by kernel_rfl) rfl ?hy12 ?rest12
  case hy12 => (refine StepX.read (fun w => Below.refl _ _) (by rfl) (fun d e v w => by cases e; exact trivial) (fun wx hSw hvx => ?_); clear hvx hSw; go_simp; first | done | with_reducible rfl)
  try simp only [List.getElem_toArray, List.getElem_cons_succ, List.getElem_cons_zero, Act.put, List.setIfInBounds_toArray, List.set_cons_zero, List.set_cons_succ]
  refine anyX_take (i := 13) (v := .bool true) rfl (by kernel_rfl) (by kernel_rfl) (by kernel_rfl) rfl ?hy13 ?rest13
  case hy13 => (refine StepX.read (fun w => Below.refl _ _) (by rfl) (fun d e v w => by cases e; exact trivial) (fun wx hSw hvx => ?_); clear hvx hSw; go_simp; first | done | with_reducible rfl)
  try simp only [List.getElem_toArray, List.getElem_cons_succ, List.getElem_cons_zero, Act.put, List.setIfInBounds_toArray, List.set_cons_zero, List.set_cons_succ]
  refine anyX_take (i := 14) (v := .bool true) rfl (by kernel_rfl) (by kernel_rfl) (by kernel_rfl) rfl ?hy14 ?rest14
  case hy14 => (refine StepX.read (fun w => Below.refl _ _) (by rfl) (fun d e v w => by cases e; exact trivial) (fun wx hSw hvx => ?_); clear hvx hSw; go_simp; first | done | with_reducible rfl)
  try simp only [List.getElem_toArray, List.getElem_cons_succ, List.getElem_cons_zero, Act.put, List.setIfInBounds_toArray, List.set_cons_zero, List.set_cons_succ]
  refine anyX_take (i := 15) (v := .slice A la.length ca) rfl (by kernel_rfl) (by kernel_rfl) (by kernel_rfl) rfl ?hy15 ?rest15
  case hy15 => (refine StepX.read (fun w => Below.refl _ _) (by rfl) (fun d e v w => by cases e; exact trivial) (fun wx hSw hvx => ?_); clear hvx hSw; go_simp; first | done | with_reducible rfl)
  try simp only [List.getElem_toArray, List.getElem_cons_succ, List.getElem_cons_zero, Act.put, List.setIfInBounds_toArray, List.set_cons_zero, List.set_cons_succ]
  refine anyX_some (i := 16) (A := Sl4V q) rfl (by kernel_rfl) (by kernel_rfl) (by kernel_rfl) rfl ⟨_, none, 0, rfl⟩ ?hy16 ?rest16
  case hy16 => (refine Or.inl ⟨by rfl, fun wx hSw hvx => ?_⟩; have hSk := hSw; obtain ⟨hHx, hrA, hrB, hrC, hrO, hrQ⟩ := hSw; clear hvx; go_simp; refine Or.inr ⟨_, _, _, rfl, ?_⟩; (with_reducible refine (pseal A ca la q HQ.out _ hrA hAz (by omega)).mono ?_); rintro e w' ⟨y, rfl, hy1, hy2, hb'⟩; exact ⟨y, rfl, hy1, hb', SC.step hSk hb', fun d e => by cases e; exact hy2⟩)
  rintro _ ⟨A16, c16, rfl⟩
  try simp only [List.getElem_toArray, List.getElem_cons_succ, List.getElem_cons_zero, Act.put, List.setIfInBounds_toArray, List.set_cons_zero, List.set_cons_succ]
  refine anyX_take (i := 17) (v := .string ⟨(q).toArray⟩) rfl (by kernel_rfl) (by kernel_rfl) (by kernel_rfl) rfl ?hy17 ?rest17
  case hy17 => (refine StepX.read (fun w => Below.refl _ _) (by rfl) (fun d e v w => by cases e; exact trivial) (fun wx hSw hvx => ?_); obtain ⟨A', c', e', hr'⟩ := (hvx 48 (by decide) : Sl4 q _ wx); obtain ⟨rfl, _, rfl⟩ := Value.slice.inj e'.symm; clear hvx e'; have ht := run_text wx 87 9 5 _ c' q hr' Tryd.underlying87 Tryd.underlying5 Tryd.underlying9; clear hr' hSw; go_simp)
  try simp only [List.getElem_toArray, List.getElem_cons_succ, List.getElem_cons_zero, Act.put, List.setIfInBounds_toArray, List.set_cons_zero, List.set_cons_succ]
  refine anyX_take (i := 18) (v := .slice A la.length ca) rfl (by kernel_rfl) (by kernel_rfl) (by kernel_rfl) rfl ?hy18 ?rest18
  case hy18 => (refine StepX.read (fun w => Below.refl _ _) (by rfl) (fun d e v w => by cases e; exact trivial) (fun wx hSw hvx => ?_); clear hvx hSw; go_simp; first | done | with_reducible rfl)
  try simp only [List.getElem_toArray, List.getElem_cons_succ, List.getElem_cons_zero, Act.put, List.setIfInBounds_toArray, List.set_cons_zero, List.set_cons_succ]
  refine anyX_some (i := 19) (A := Sl4V q) rfl (by kernel_rfl) (by kernel_rfl) (by kernel_rfl) rfl ⟨_, none, 0, rfl⟩ ?hy19 ?rest19
  case hy19 => (refine Or.inl ⟨by rfl, fun wx hSw hvx => ?_⟩; have hSk := hSw; obtain ⟨hHx, hrA, hrB, hrC, hrO, hrQ⟩ := hSw; clear hvx; go_simp; refine Or.inr ⟨_, _, _, rfl, ?_⟩; (with_reducible refine (rseal A ca la q HQ.out _ hrA hAz (by omega)).mono ?_); rintro e w' ⟨y, rfl, hy1, hy2, hb'⟩; exact ⟨y, rfl, hy1, hb', SC.step hSk hb', fun d e => by cases e; exact hy2⟩)
  rintro _ ⟨A19, c19, rfl⟩
  try simp only [List.getElem_toArray, List.getElem_cons_succ, List.getElem_cons_zero, Act.put, List.setIfInBounds_toArray, List.set_cons_zero, List.set_cons_succ]
  refine anyX_take (i := 20) (v := .string ⟨(q).toArray⟩) rfl (by kernel_rfl) (by kernel_rfl) (by kernel_rfl) rfl ?hy20 ?rest20
  case hy20 => (refine StepX.read (fun w => Below.refl _ _) (by rfl) (fun d e v w => by cases e; exact trivial) (fun wx hSw hvx => ?_); obtain ⟨A', c', e', hr'⟩ := (hvx 51 (by decide) : Sl4 q _ wx); obtain ⟨rfl, _, rfl⟩ := Value.slice.inj e'.symm; clear hvx e'; have ht := run_text wx 87 9 5 _ c' q hr' Tryd.underlying87 Tryd.underlying5 Tryd.underlying9; clear hr' hSw; go_simp)
  try simp only [List.getElem_toArray, List.getElem_cons_succ, List.getElem_cons_zero, Act.put, List.setIfInBounds_toArray, List.set_cons_zero, List.set_cons_succ]
  refine anyX_take (i := 21) (v := .bool true) rfl (by kernel_rfl) (by kernel_rfl) (by kernel_rfl) rfl ?hy21 ?rest21
  case hy21 => (refine StepX.read (fun w => Below.refl _ _) (by rfl) (fun d e v w => by cases e; exact trivial) (fun wx hSw hvx => ?_); clear hvx hSw; go_simp; first | done | with_reducible rfl)
  try simp only [List.getElem_toArray, List.getElem_cons_succ, List.getElem_cons_zero, Act.put, List.setIfInBounds_toArray, List.set_cons_zero, List.set_cons_succ]
  refine anyX_take (i := 22) (v := .bool true) rfl (by kernel_rfl) (by kernel_rfl) (by kernel_rfl) rfl ?hy22 ?rest22
  case hy22 => (refine StepX.read (fun w => Below.refl _ _) (by rfl) (fun d e v w => by cases e; exact trivial) (fun wx hSw hvx => ?_); clear hvx hSw; go_simp; first | done | with_reducible rfl)
  try simp only [List.getElem_toArray, List.getElem_cons_succ, List.getElem_cons_zero, Act.put, List.setIfInBounds_toArray, List.set_cons_zero, List.set_cons_succ]
  refine anyX_take (i := 23) (v := .bool true) rfl (by kernel_rfl) (by kernel_rfl) (by kernel_rfl) rfl ?hy23 ?rest23
  case hy23 => (refine StepX.read (fun w => Below.refl _ _) (by rfl) (fun d e v w => by cases e; exact trivial) (fun wx hSw hvx => ?_); clear hvx hSw; go_simp; first | done | with_reducible rfl)
  try simp only [List.getElem_toArray, List.getElem_cons_succ, List.getElem_cons_zero, Act.put, List.setIfInBounds_toArray, List.set_cons_zero, List.set_cons_succ]
  refine anyX_take (i := 24) (v := .slice none 0 0) rfl (by kernel_rfl) (by kernel_rfl) (by kernel_rfl) rfl ?hy24 ?rest24
  case hy24 => (refine StepX.read (fun w => Below.refl _ _) (by rfl) (fun d e v w => by cases e; exact trivial) (fun wx hSw hvx => ?_); clear hvx hSw; go_simp; first | done | with_reducible rfl)
  try simp only [List.getElem_toArray, List.getElem_cons_succ, List.getElem_cons_zero, Act.put, List.setIfInBounds_toArray, List.set_cons_zero, List.set_cons_succ]
  refine anyX_take (i := 25) (v := .string ⟨([] : List UInt8).toArray⟩) rfl (by kernel_rfl) (by kernel_rfl) (by kernel_rfl) rfl ?hy25 ?rest25
  case hy25 => (refine StepX.read (fun w => Below.refl _ _) (by rfl) (fun d e v w => by cases e; exact trivial) (fun wx hSw hvx => ?_); clear hvx; obtain ⟨hHx, hrA, hrB, hrC, hrO, hrQ⟩ := hSw; have ht := (show (convert 87 9 (.slice none 0 0)).run Tryd.prog wx = .ok (.string ⟨#[]⟩) wx from run_text wx 87 9 5 none 0 [] hrO Tryd.underlying87 Tryd.underlying5 Tryd.underlying9); clear hrA hrB hrC hrO hrQ; go_simp)
  try simp only [List.getElem_toArray, List.getElem_cons_succ, List.getElem_cons_zero, Act.put, List.setIfInBounds_toArray, List.set_cons_zero, List.set_cons_succ]
  refine anyX_take (i := 26) (v := .slice none 0 0) rfl (by kernel_rfl) (by kernel_rfl) (by kernel_rfl) rfl ?hy26 ?rest26
  case hy26 => (refine StepX.read (fun w => Below.refl _ _) (by rfl) (fun d e v w => by cases e; exact trivial) (fun wx hSw hvx => ?_); clear hvx hSw; go_simp; first | done | with_reducible rfl)
  try simp only [List.getElem_toArray, List.getElem_cons_succ, List.getElem_cons_zero, Act.put, List.setIfInBounds_toArray, List.set_cons_zero, List.set_cons_succ]
  refine anyX_take (i := 27) (v := .string ⟨([] : List UInt8).toArray⟩) rfl (by kernel_rfl) (by kernel_rfl) (by kernel_rfl) rfl ?hy27 ?rest27
  case hy27 => (refine StepX.read (fun w => Below.refl _ _) (by rfl) (fun d e v w => by cases e; exact trivial) (fun wx hSw hvx => ?_); clear hvx; obtain ⟨hHx, hrA, hrB, hrC, hrO, hrQ⟩ := hSw; have ht := (show (convert 87 9 (.slice none 0 0)).run Tryd.prog wx = .ok (.string ⟨#[]⟩) wx from run_text wx 87 9 5 none 0 [] hrQ Tryd.underlying87 Tryd.underlying5 Tryd.underlying9); clear hrA hrB hrC hrO hrQ; go_simp)
  try simp only [List.getElem_toArray, List.getElem_cons_succ, List.getElem_cons_zero, Act.put, List.setIfInBounds_toArray, List.set_cons_zero, List.set_cons_succ]
  refine anyX_take (i := 28) (v := .bool true) rfl (by kernel_rfl) (by kernel_rfl) (by kernel_rfl) rfl ?hy28 ?rest28
  case hy28 => (refine StepX.read (fun w => Below.refl _ _) (by rfl) (fun d e v w => by cases e; exact trivial) (fun wx hSw hvx => ?_); clear hvx hSw; go_simp; first | done | with_reducible rfl)
  try simp only [List.getElem_toArray, List.getElem_cons_succ, List.getElem_cons_zero, Act.put, List.setIfInBounds_toArray, List.set_cons_zero, List.set_cons_succ]
  refine anyX_take (i := 29) (v := .bool true) rfl (by kernel_rfl) (by kernel_rfl) (by kernel_rfl) rfl ?hy29 ?rest29
  case hy29 => (refine StepX.read (fun w => Below.refl _ _) (by rfl) (fun d e v w => by cases e; exact trivial) (fun wx hSw hvx => ?_); clear hvx hSw; go_simp; first | done | with_reducible rfl)
  try simp only [List.getElem_toArray, List.getElem_cons_succ, List.getElem_cons_zero, Act.put, List.setIfInBounds_toArray, List.set_cons_zero, List.set_cons_succ]
  refine anyX_take (i := 30) (v := .bool true) rfl (by kernel_rfl) (by kernel_rfl) (by kernel_rfl) rfl ?hy30 ?rest30
  case hy30 => (refine StepX.read (fun w => Below.refl _ _) (by rfl) (fun d e v w => by cases e; exact trivial) (fun wx hSw hvx => ?_); clear hvx hSw; go_simp; first | done | with_reducible rfl)
  try simp only [List.getElem_toArray, List.getElem_cons_succ, List.getElem_cons_zero, Act.put, List.setIfInBounds_toArray, List.set_cons_zero, List.set_cons_succ]
  refine anyX_take (i := 31) (v := errV 4) rfl (by kernel_rfl) (by kernel_rfl) (by kernel_rfl) rfl ?hy31 ?rest31
  case hy31 => (refine StepX.read (fun w => Below.refl _ _) (by rfl) (fun d e v w => by cases e; exact trivial) (fun wx hSw hvx => ?_); clear hvx hSw; go_simp; first | done | with_reducible rfl)
  try simp only [List.getElem_toArray, List.getElem_cons_succ, List.getElem_cons_zero, Act.put, List.setIfInBounds_toArray, List.set_cons_zero, List.set_cons_succ]
  refine anyX_take (i := 32) (v := .int .i64 4) rfl (by kernel_rfl) (by kernel_rfl) (by kernel_rfl) rfl ?hy32 ?rest32
  case hy32 => (refine Or.inl ⟨by rfl, fun wx hSw hvx => ?_⟩; have hSk := hSw; obtain ⟨hHx, hrA, hrB, hrC, hrO, hrQ⟩ := hSw; clear hvx; go_simp; refine Or.inr ⟨_, _, _, rfl, ?_⟩; (with_reducible refine (num04_err 4 _ (Held.handle (w0 := w) hHx)).mono ?_); rintro e w' ⟨rfl, hb'⟩; exact ⟨_, rfl, rfl, hb', SC.step hSk hb', (fun d e => by cases e; exact trivial)⟩)
  try simp only [List.getElem_toArray, List.getElem_cons_succ, List.getElem_cons_zero, Act.put, List.setIfInBounds_toArray, List.set_cons_zero, List.set_cons_succ]
  refine anyX_take (i := 33) (v := .int .i64 4) rfl (by kernel_rfl) (by kernel_rfl) (by kernel_rfl) rfl ?hy33 ?rest33
  case hy33 => (refine StepX.read (fun w => Below.refl _ _) (by rfl) (fun d e v w => by cases e; exact trivial) (fun wx hSw hvx => ?_); clear hvx hSw; go_simp; first | done | with_reducible rfl)
  try simp only [List.getElem_toArray, List.getElem_cons_succ, List.getElem_cons_zero, Act.put, List.setIfInBounds_toArray, List.set_cons_zero, List.set_cons_succ]
  refine anyX_take (i := 34) (v := .bool true) rfl (by kernel_rfl) (by kernel_rfl) (by kernel_rfl) rfl ?hy34 ?rest34
  case hy34 => (refine StepX.read (fun w => Below.refl _ _) (by rfl) (fun d e v w => by cases e; exact trivial) (fun wx hSw hvx => ?_); clear hvx hSw; go_simp; first | done | with_reducible rfl)
  try simp only [List.getElem_toArray, List.getElem_cons_succ, List.getElem_cons_zero, Act.put, List.setIfInBounds_toArray, List.set_cons_zero, List.set_cons_succ]
  refine anyX_take (i := 35) (v := .bool true) rfl (by kernel_rfl) (by kernel_rfl) (by kernel_rfl) rfl ?hy35 ?rest35
  case hy35 => (refine StepX.read (fun w => Below.refl _ _) (by rfl) (fun d e v w => by cases e; exact trivial) (fun wx hSw hvx => ?_); clear hvx hSw; go_simp; first | done | with_reducible rfl)
  try simp only [List.getElem_toArray, List.getElem_cons_succ, List.getElem_cons_zero, Act.put, List.setIfInBounds_toArray, List.set_cons_zero, List.set_cons_succ]
  refine anyX_take (i := 36) (v := .bool true) rfl (by kernel_rfl) (by kernel_rfl) (by kernel_rfl) rfl ?hy36 ?rest36
  case hy36 => (refine StepX.read (fun w => Below.refl _ _) (by rfl) (fun d e v w => by cases e; exact trivial) (fun wx hSw hvx => ?_); clear hvx hSw; go_simp; first | done | with_reducible rfl)
  try simp only [List.getElem_toArray, List.getElem_cons_succ, List.getElem_cons_zero, Act.put, List.setIfInBounds_toArray, List.set_cons_zero, List.set_cons_succ]
  refine anyX_take (i := 37) (v := .bool true) rfl (by kernel_rfl) (by kernel_rfl) (by kernel_rfl) rfl ?hy37 ?rest37
  case hy37 => (refine Or.inl ⟨by rfl, fun wx hSw hvx => ?_⟩; have hSk := hSw; obtain ⟨hHx, hrA, hrB, hrC, hrO, hrQ⟩ := hSw; clear hvx; go_simp; refine Or.inr ⟨_, _, _, rfl, ?_⟩; (with_reducible refine (sure04 _ (Held.handle (w0 := w) hHx)).mono ?_); rintro e w' ⟨rfl, hb'⟩; exact ⟨_, rfl, rfl, hb', SC.step hSk hb', (fun d e => by cases e; exact trivial)⟩)
  try simp only [List.getElem_toArray, List.getElem_cons_succ, List.getElem_cons_zero, Act.put, List.setIfInBounds_toArray, List.set_cons_zero, List.set_cons_succ]
  refine anyX_take (i := 38) (v := .bool true) rfl (by kernel_rfl) (by kernel_rfl) (by kernel_rfl) rfl ?hy38 ?rest38
  case hy38 => (refine StepX.read (fun w => Below.refl _ _) (by rfl) (fun d e v w => by cases e; exact trivial) (fun wx hSw hvx => ?_); clear hvx hSw; go_simp; first | done | with_reducible rfl)
  try simp only [List.getElem_toArray, List.getElem_cons_succ, List.getElem_cons_zero, Act.put, List.setIfInBounds_toArray, List.set_cons_zero, List.set_cons_succ]
  refine anyX_take (i := 39) (v := .bool true) rfl (by kernel_rfl) (by kernel_rfl) (by kernel_rfl) rfl ?hy39 ?rest39
  case hy39 => (refine StepX.read (fun w => Below.refl _ _) (by rfl) (fun d e v w => by cases e; exact trivial) (fun wx hSw hvx => ?_); clear hvx hSw; go_simp; first | done | with_reducible rfl)
  try simp only [List.getElem_toArray, List.getElem_cons_succ, List.getElem_cons_zero, Act.put, List.setIfInBounds_toArray, List.set_cons_zero, List.set_cons_succ]
  refine anyX_done (by kernel_rfl) (fun wx hSw _ => ?_) _
  go_wp2_with (fail)
  go_ret
  exact ⟨rfl, Held.below (w0 := w) hSw.1⟩
theorem sums_over {w : World} (A : Option Addr) (ca : Nat) (la : List UInt8) (B : Option Addr) (cb : Nat) (lb : List UInt8) (hA : Rd w A la) (hAz : A = none → ca = 0) (hB : Rd w B lb) (hBz : B = none → cb = 0) (hBc : lb.length ≤ cb) (hla : la.length ≤ 140737488351232) (hlb : lb.length ≤ 140737488351232) (hn : 400 < la.length + lb.length) (hg : w.cell? ⟨0, 0, none⟩ = some asHandle) :
    Calls Tryd.prog 10 #[.slice A la.length ca, .slice B lb.length cb] w fun e w' => e = .returned (.bool true) ∧ Below w.heap.size w w' := by
  have hH := Held.start hg
  go_enter Tryd.func10, Tryd.ntmps10
  go_wp2_with (fail)
  go_at_call 55
  (with_reducible refine (sure04 _ (Held.handle (w0 := w) hH)).mono ?_)
  rintro e w1 ⟨rfl, hb1⟩
  go_wp2_with (fail)
  go_ret
  exact ⟨rfl, hb1⟩
theorem walkCrcSums {w : World} (A : Option Addr) (ca : Nat) (la : List UInt8) (B : Option Addr) (cb : Nat) (lb : List UInt8) (hA : Rd w A la) (hAz : A = none → ca = 0) (hla : la.length ≤ 140737488351232) (hB : Rd w B lb) (hBz : B = none → cb = 0) (hlb : lb.length ≤ 140737488351232) (hBc : lb.length ≤ cb) (hg : w.cell? ⟨0, 0, none⟩ = some asHandle) :
    Calls Tryd.prog 10 #[.slice A la.length ca, .slice B lb.length cb] w fun e w' => e = .returned (.bool true) ∧ Below w.heap.size w w' := by
  by_cases hn : la.length + lb.length ≤ 400
  · by_cases ho : opensB lb = true
    · exact sums_yes A ca la B cb lb hA hAz hB hBz hBc hn ho hg
    · exact sums_no A ca la B cb lb hA hAz hB hBz hBc hn (by simpa using ho) hg
  · exact sums_over A ca la B cb lb hA hAz hB hBz hBc hla hlb (by omega) hg
end Go.Proofs.YtffdglhdklmjoaaDoor
