/-
  Layer 5: the statement FieldsPut, its walk.
-/
import Derived.Test.YtffdglhdklmjoaaDoorW05s
namespace Go.Proofs.YtffdglhdklmjoaaDoor
open Go.RowKit Go.Extern.Stop Go.Stop Go.Extern
set_option linter.unusedVariables false
set_option linter.unusedSimpArgs false
set_option maxRecDepth 100000 in
set_option maxHeartbeats 16000000 in
theorem put_ok {w : World} (B : Option Addr) (cb : Nat) (lb : List UInt8) (v : Int) (sx : ByteArray) (hrd : Rd w B lb) (hBz : B = none → cb = 0) (hv : InR v) (hl6 : lb.length ≤ 600) (hs : sx.size ≤ 255) (hg : w.cell? ⟨0, 0, none⟩ = some asHandle) :
    Calls Tryd.prog 13 #[.slice B lb.length cb, .int .i64 v, .string sx] w fun e w' => e = .returned (.bool true) ∧ Below w.heap.size w w' := by
  have hH := Held.start hg
  obtain ⟨l2, hl2⟩ : ∃ x, x = lb ++ leB (u64of v) 2 := ⟨_, rfl⟩
  have Hl2 := Lib.hid hl2
  clear hl2
  obtain ⟨l4, hl4⟩ : ∃ x, x = lb ++ leB (u64of v) 4 := ⟨_, rfl⟩
  have Hl4 := Lib.hid hl4
  clear hl4
  obtain ⟨l8, hl8⟩ : ∃ x, x = lb ++ leB (u64of v) 8 := ⟨_, rfl⟩
  have Hl8 := Lib.hid hl8
  clear hl8
  obtain ⟨lt, hlt⟩ : ∃ x, x = lb ++ txt sx := ⟨_, rfl⟩
  have HLT := Lib.hid hlt
  clear hlt
  go_enter Tryd.func13, Tryd.ntmps13
  go_wp2_with (fail)
  go_at_call 77
  (with_reducible refine (text_ok B cb lb sx _ hrd hBz (by omega) hs).mono ?_)
  rintro e w1 ⟨v1, rfl, ho1, hb1⟩
  rw [← HLT.out] at ho1
  obtain ⟨T, cT, rfl, _, hrT1, _, _⟩ := own_shape ho1
  go_wp2_with (fail)
  go_at_call 78
  (with_reducible refine (rtext_ok B cb lb sx _ (hrd.below hb1) hBz (by omega) hs).mono ?_)
  rintro e w2 ⟨v2, rfl, ho2, hb2⟩
  rw [← HLT.out] at ho2
  obtain ⟨U, cU, rfl, _, hrU2, _, _⟩ := own_shape ho2
  have hS0 : SF w B lb T lt U lt w2 := ⟨(hH.step hb1).step hb2, (hrd.below hb1).below hb2, hrT1.below hb2, hrU2⟩
  clear ho1 ho2 hrT1 hrU2
  go_wp2_with (fail)
  refine wp_region_X (S := SF w B lb T lt U lt) (R := fun w w' => Below w.heap.size w w') (V := VF l2 l4 l8) (Al := AlOf [some (.slice B lb.length cb), some (.int .i64 v), some (.int .u16 (IntKind.u16.wrap v)), none, some (.string ⟨(l2).toArray⟩), some (.slice B lb.length cb), some (.int .i64 v), some (.int .u64 (IntKind.u64.wrap v)), none, some (.string ⟨(l2).toArray⟩), some (.bool true), some (.bool true), some (.slice B lb.length cb), some (.int .i64 v), some (.int .u32 (IntKind.u32.wrap v)), none, some (.string ⟨(l4).toArray⟩), some (.slice B lb.length cb), some (.int .i64 v), some (.int .u64 (IntKind.u64.wrap v)), none, some (.string ⟨(l4).toArray⟩), some (.bool true), some (.bool true), some (.bool true), some (.slice B lb.length cb), some (.int .i64 v), none, some (.string ⟨(l8).toArray⟩), some (.slice B lb.length cb), some (.int .i64 v), some (.int .u64 (IntKind.u64.wrap v)), none, some (.string ⟨(l8).toArray⟩), some (.bool true), some (.bool true), some (.bool true), some (.slice T lt.length cT), some (.string ⟨(lt).toArray⟩), some (.slice U lt.length cU), some (.string ⟨(lt).toArray⟩), some (.bool true), some (.bool true), some (.bool true), some (.nilIface), some (.int .i64 0), some (.int .i64 0), some (.bool true), some (.bool true), some (.bool true), some (.bool true), some (.bool true), some (.bool true)] (CF l2 l4 l8)) (spec := [35, 40, 47, 52, 59, 64]) (by kernel_rfl) (fun d v w w' hb h => VF.step d v w w' hb h) (fun w => Below.refl _ _) (fun d hd v w => VF.other d hd v w) (by rfl) (by kernel_rfl) (SF.step hS0 (Below.refl _ _).drew) ?_
  refine anyX_take (i := 0) (v := .slice B lb.length cb) rfl (by kernel_rfl) (by kernel_rfl) (by kernel_rfl) rfl ?hy0 ?rest0
  case hy0 => (refine StepX.read (fun w => Below.refl _ _) (by rfl) (fun d e v w => by cases e; exact trivial) (fun wx hSw hvx => ?_); clear hvx hSw; go_simp; first | done | with_reducible rfl)
  try simp only [List.getElem_toArray, List.getElem_cons_succ, List.getElem_cons_zero, Act.put, List.setIfInBounds_toArray, List.set_cons_zero, List.set_cons_succ]
  refine anyX_take (i := 1) (v := .int .i64 v) rfl (by kernel_rfl) (by kernel_rfl) (by kernel_rfl) rfl ?hy1 ?rest1
  case hy1 => (refine StepX.read (fun w => Below.refl _ _) (by rfl) (fun d e v w => by cases e; exact trivial) (fun wx hSw hvx => ?_); clear hvx hSw; go_simp; first | done | with_reducible rfl)
  try simp only [List.getElem_toArray, List.getElem_cons_succ, List.getElem_cons_zero, Act.put, List.setIfInBounds_toArray, List.set_cons_zero, List.set_cons_succ]
  refine anyX_take (i := 2) (v := .int .u16 (IntKind.u16.wrap v)) rfl (by kernel_rfl) (by kernel_rfl) (by kernel_rfl) rfl ?hy2 ?rest2
  case hy2 => (refine StepX.read (fun w => Below.refl _ _) (by rfl) (fun d e v w => by cases e; exact trivial) (fun wx hSw hvx => ?_); clear hvx hSw; go_simp; first | done | with_reducible rfl)
  try simp only [List.getElem_toArray, List.getElem_cons_succ, List.getElem_cons_zero, Act.put, List.setIfInBounds_toArray, List.set_cons_zero, List.set_cons_succ]
  refine anyX_some (i := 3) (A := SlV l2) rfl (by kernel_rfl) (by kernel_rfl) (by kernel_rfl) rfl ⟨_, none, 0, rfl⟩ ?hy3 ?rest3
  case hy3 => (refine Or.inl ⟨by rfl, fun wx hSw hvx => ?_⟩; have hSk := hSw; obtain ⟨hHx, hrB, hrT, hrU⟩ := hSw; clear hvx; go_simp; refine Or.inr ⟨_, _, _, rfl, ?_⟩; (with_reducible refine (pput2 B cb lb v hv l2 Hl2.out _ hrB hBz (by omega)).mono ?_); rintro e w' ⟨y, rfl, hy1, hy2, hb'⟩; exact ⟨y, rfl, hy1, hb', SF.step hSk hb', fun d e => by cases e; exact hy2⟩)
  rintro _ ⟨A3, c3, rfl⟩
  try simp only [List.getElem_toArray, List.getElem_cons_succ, List.getElem_cons_zero, Act.put, List.setIfInBounds_toArray, List.set_cons_zero, List.set_cons_succ]
  refine anyX_take (i := 4) (v := .string ⟨(l2).toArray⟩) rfl (by kernel_rfl) (by kernel_rfl) (by kernel_rfl) rfl ?hy4 ?rest4
  case hy4 => (refine StepX.read (fun w => Below.refl _ _) (by rfl) (fun d e v w => by cases e; exact trivial) (fun wx hSw hvx => ?_); obtain ⟨A', c', e', hr'⟩ := (hvx 35 (by decide) : Sl l2 _ wx); obtain ⟨rfl, _, rfl⟩ := Value.slice.inj e'.symm; clear hvx e'; have ht := run_text wx 87 9 5 _ c' l2 hr' Tryd.underlying87 Tryd.underlying5 Tryd.underlying9; clear hr' hSw; go_simp)
  try simp only [List.getElem_toArray, List.getElem_cons_succ, List.getElem_cons_zero, Act.put, List.setIfInBounds_toArray, List.set_cons_zero, List.set_cons_succ]
  refine anyX_take (i := 5) (v := .slice B lb.length cb) rfl (by kernel_rfl) (by kernel_rfl) (by kernel_rfl) rfl ?hy5 ?rest5
  case hy5 => (refine StepX.read (fun w => Below.refl _ _) (by rfl) (fun d e v w => by cases e; exact trivial) (fun wx hSw hvx => ?_); clear hvx hSw; go_simp; first | done | with_reducible rfl)
  try simp only [List.getElem_toArray, List.getElem_cons_succ, List.getElem_cons_zero, Act.put, List.setIfInBounds_toArray, List.set_cons_zero, List.set_cons_succ]
  refine anyX_take (i := 6) (v := .int .i64 v) rfl (by kernel_rfl) (by kernel_rfl) (by kernel_rfl) rfl ?hy6 ?rest6
  case hy6 => (refine StepX.read (fun w => Below.refl _ _) (by rfl) (fun d e v w => by cases e; exact trivial) (fun wx hSw hvx => ?_); clear hvx hSw; go_simp; first | done | with_reducible rfl)
  try simp only [List.getElem_toArray, List.getElem_cons_succ, List.getElem_cons_zero, Act.put, List.setIfInBounds_toArray, List.set_cons_zero, List.set_cons_succ]
  refine anyX_take (i := 7) (v := .int .u64 (IntKind.u64.wrap v)) rfl (by kernel_rfl) (by kernel_rfl) (by kernel_rfl) rfl ?hy7 ?rest7
  case hy7 => (refine StepX.read (fun w => Below.refl _ _) (by rfl) (fun d e v w => by cases e; exact trivial) (fun wx hSw hvx => ?_); clear hvx hSw; go_simp; first | done | with_reducible rfl)
  try simp only [List.getElem_toArray, List.getElem_cons_succ, List.getElem_cons_zero, Act.put, List.setIfInBounds_toArray, List.set_cons_zero, List.set_cons_succ]
  refine anyX_some (i := 8) (A := SlV l2) rfl (by kernel_rfl) (by kernel_rfl) (by kernel_rfl) rfl ⟨_, none, 0, rfl⟩ ?hy8 ?rest8
  case hy8 => (refine Or.inl ⟨by rfl, fun wx hSw hvx => ?_⟩; have hSk := hSw; obtain ⟨hHx, hrB, hrT, hrU⟩ := hSw; clear hvx; go_simp; refine Or.inr ⟨_, _, _, rfl, ?_⟩; (with_reducible refine (rput2 B cb lb v hv l2 Hl2.out _ hrB hBz (by omega)).mono ?_); rintro e w' ⟨y, rfl, hy1, hy2, hb'⟩; exact ⟨y, rfl, hy1, hb', SF.step hSk hb', fun d e => by cases e; exact hy2⟩)
  rintro _ ⟨A8, c8, rfl⟩
  try simp only [List.getElem_toArray, List.getElem_cons_succ, List.getElem_cons_zero, Act.put, List.setIfInBounds_toArray, List.set_cons_zero, List.set_cons_succ]
  refine anyX_take (i := 9) (v := .string ⟨(l2).toArray⟩) rfl (by kernel_rfl) (by kernel_rfl) (by kernel_rfl) rfl ?hy9 ?rest9
  case hy9 => (refine StepX.read (fun w => Below.refl _ _) (by rfl) (fun d e v w => by cases e; exact trivial) (fun wx hSw hvx => ?_); obtain ⟨A', c', e', hr'⟩ := (hvx 40 (by decide) : Sl l2 _ wx); obtain ⟨rfl, _, rfl⟩ := Value.slice.inj e'.symm; clear hvx e'; have ht := run_text wx 87 9 5 _ c' l2 hr' Tryd.underlying87 Tryd.underlying5 Tryd.underlying9; clear hr' hSw; go_simp)
  try simp only [List.getElem_toArray, List.getElem_cons_succ, List.getElem_cons_zero, Act.put, List.setIfInBounds_toArray, List.set_cons_zero, List.set_cons_succ]
  refine anyX_take (i := 10) (v := .bool true) rfl (by kernel_rfl) (by kernel_rfl) (by kernel_rfl) rfl ?hy10 ?rest10
  case hy10 => (refine StepX.read (fun w => Below.refl _ _) (by rfl) (fun d e v w => by cases e; exact trivial) (fun wx hSw hvx => ?_); clear hvx hSw; go_simp; first | done | with_reducible rfl)
  try simp only [List.getElem_toArray, List.getElem_cons_succ, List.getElem_cons_zero, Act.put, List.setIfInBounds_toArray, List.set_cons_zero, List.set_cons_succ]
  refine anyX_take (i := 11) (v := .bool true) rfl (by kernel_rfl) (by kernel_rfl) (by kernel_rfl) rfl ?hy11 ?rest11
  case hy11 => (refine StepX.read (fun w => Below.refl _ _) (by rfl) (fun d e v w => by cases e; exact trivial) (fun wx hSw hvx => ?_); clear hvx hSw; go_simp; first | done | with_reducible rfl)
  try simp only [List.getElem_toArray, List.getElem_cons_succ, List.getElem_cons_zero, Act.put, List.setIfInBounds_toArray, List.set_cons_zero, List.set_cons_succ]
  refine anyX_take (i := 12) (v := .slice B lb.length cb) rfl (by kernel_rfl) (by kernel_rfl) (by kernel_rfl) rfl ?hy12 ?rest12
  case hy12 => (refine StepX.read (fun w => Below.refl _ _) (by rfl) (fun d e v w => by cases e; exact trivial) (fun wx hSw hvx => ?_); clear hvx hSw; go_simp; first | done | with_reducible rfl)
  try simp only [List.getElem_toArray, List.getElem_cons_succ, List.getElem_cons_zero, Act.put, List.setIfInBounds_toArray, List.set_cons_zero, List.set_cons_succ]
  refine anyX_take (i := 13) (v := .int .i64 v) rfl (by kernel_rfl) (by kernel_rfl) (by kernel_rfl) rfl ?hy13 ?rest13
  case hy13 => (refine StepX.read (fun w => Below.refl _ _) (by rfl) (fun d e v w => by cases e; exact trivial) (fun wx hSw hvx => ?_); clear hvx hSw; go_simp; first | done | with_reducible rfl)
  try simp only [List.getElem_toArray, List.getElem_cons_succ, List.getElem_cons_zero, Act.put, List.setIfInBounds_toArray, List.set_cons_zero, List.set_cons_succ]
  refine anyX_take (i := 14) (v := .int .u32 (IntKind.u32.wrap v)) rfl (by kernel_rfl) (by kernel_rfl) (by kernel_rfl) rfl ?hy14 ?rest14
  case hy14 => (refine StepX.read (fun w => Below.refl _ _) (by rfl) (fun d e v w => by cases e; exact trivial) (fun wx hSw hvx => ?_); clear hvx hSw; go_simp; first | done | with_reducible rfl)
  try simp only [List.getElem_toArray, List.getElem_cons_succ, List.getElem_cons_zero, Act.put, List.setIfInBounds_toArray, List.set_cons_zero, List.set_cons_succ]
  refine anyX_some (i := 15) (A := SlV l4) rfl (by kernel_rfl) (by kernel_rfl) (by kernel_rfl) rfl ⟨_, none, 0, rfl⟩ ?hy15 ?rest15
  case hy15 => (refine Or.inl ⟨by rfl, fun wx hSw hvx => ?_⟩; have hSk := hSw; obtain ⟨hHx, hrB, hrT, hrU⟩ := hSw; clear hvx; go_simp; refine Or.inr ⟨_, _, _, rfl, ?_⟩; (with_reducible refine (pput4 B cb lb v hv l4 Hl4.out _ hrB hBz (by omega)).mono ?_); rintro e w' ⟨y, rfl, hy1, hy2, hb'⟩; exact ⟨y, rfl, hy1, hb', SF.step hSk hb', fun d e => by cases e; exact hy2⟩)
  rintro _ ⟨A15, c15, rfl⟩
  try simp only [List.getElem_toArray, List.getElem_cons_succ, List.getElem_cons_zero, Act.put, List.setIfInBounds_toArray, List.set_cons_zero, List.set_cons_succ]
  refine anyX_take (i := 16) (v := .string ⟨(l4).toArray⟩) rfl (by kernel_rfl) (by kernel_rfl) (by kernel_rfl) rfl ?hy16 ?rest16
  case hy16 => (refine StepX.read (fun w => Below.refl _ _) (by rfl) (fun d e v w => by cases e; exact trivial) (fun wx hSw hvx => ?_); obtain ⟨A', c', e', hr'⟩ := (hvx 47 (by decide) : Sl l4 _ wx); obtain ⟨rfl, _, rfl⟩ := Value.slice.inj e'.symm; clear hvx e'; have ht := run_text wx 87 9 5 _ c' l4 hr' Tryd.underlying87 Tryd.underlying5 Tryd.underlying9; clear hr' hSw; go_simp)
  try simp only [List.getElem_toArray, List.getElem_cons_succ, List.getElem_cons_zero, Act.put, List.setIfInBounds_toArray, List.set_cons_zero, List.set_cons_succ]
  refine anyX_take (i := 17) (v := .slice B lb.length cb) rfl (by kernel_rfl) (by kernel_rfl) (by kernel_rfl) rfl ?hy17 ?rest17
  case hy17 => (refine StepX.read (fun w => Below.refl _ _) (by rfl) (fun d e v w => by cases e; exact trivial) (fun wx hSw hvx => ?_); clear hvx hSw; go_simp; first | done | with_reducible rfl)
  try simp only [List.getElem_toArray, List.getElem_cons_succ, List.getElem_cons_zero, Act.put, List.setIfInBounds_toArray, List.set_cons_zero, List.set_cons_succ]
  refine anyX_take (i := 18) (v := .int .i64 v) rfl (by kernel_rfl) (by kernel_rfl) (by kernel_rfl) rfl ?hy18 ?rest18
  case hy18 => (refine StepX.read (fun w => Below.refl _ _) (by rfl) (fun d e v w => by cases e; exact trivial) (fun wx hSw hvx => ?_); clear hvx hSw; go_simp; first | done | with_reducible rfl)
  try simp only [List.getElem_toArray, List.getElem_cons_succ, List.getElem_cons_zero, Act.put, List.setIfInBounds_toArray, List.set_cons_zero, List.set_cons_succ]
  refine anyX_take (i := 19) (v := .int .u64 (IntKind.u64.wrap v)) rfl (by kernel_rfl) (by kernel_rfl) (by kernel_rfl) rfl ?hy19 ?rest19
  case hy19 => (refine StepX.read (fun w => Below.refl _ _) (by rfl) (fun d e v w => by cases e; exact trivial) (fun wx hSw hvx => ?_); clear hvx hSw; go_simp; first | done | with_reducible rfl)
  try simp only [List.getElem_toArray, List.getElem_cons_succ, List.getElem_cons_zero, Act.put, List.setIfInBounds_toArray, List.set_cons_zero, List.set_cons_succ]
  refine anyX_some (i := 20) (A := SlV l4) rfl (by kernel_rfl) (by kernel_rfl) (by kernel_rfl) rfl ⟨_, none, 0, rfl⟩ ?hy20 ?rest20
  case hy20 => (refine Or.inl ⟨by rfl, fun wx hSw hvx => ?_⟩; have hSk := hSw; obtain ⟨hHx, hrB, hrT, hrU⟩ := hSw; clear hvx; go_simp; refine Or.inr ⟨_, _, _, rfl, ?_⟩; (with_reducible refine (rput4 B cb lb v hv l4 Hl4.out _ hrB hBz (by omega)).mono ?_); rintro e w' ⟨y, rfl, hy1, hy2, hb'⟩; exact ⟨y, rfl, hy1, hb', SF.step hSk hb', fun d e => by cases e; exact hy2⟩)
  rintro _ ⟨A20, c20, rfl⟩
  try simp only [List.getElem_toArray, List.getElem_cons_succ, List.getElem_cons_zero, Act.put, List.setIfInBounds_toArray, List.set_cons_zero, List.set_cons_succ]
  refine anyX_take (i := 21) (v := .string ⟨(l4).toArray⟩) rfl (by kernel_rfl) (by kernel_rfl) (by kernel_rfl) rfl ?hy21 ?rest21
  case hy21 => (refine StepX.read (fun w => Below.refl _ _) (by rfl) (fun d e v w => by cases e; exact trivial) (fun wx hSw hvx => ?_); obtain ⟨A', c', e', hr'⟩ := (hvx 52 (by decide) : Sl l4 _ wx); obtain ⟨rfl, _, rfl⟩ := Value.slice.inj e'.symm; clear hvx e'; have ht := run_text wx 87 9 5 _ c' l4 hr' Tryd.underlying87 Tryd.underlying5 Tryd.underlying9; clear hr' hSw; go_simp)
  try simp only [List.getElem_toArray, List.getElem_cons_succ, List.getElem_cons_zero, Act.put, List.setIfInBounds_toArray, List.set_cons_zero, List.set_cons_succ]
  refine anyX_take (i := 22) (v := .bool true) rfl (by kernel_rfl) (by kernel_rfl) (by kernel_rfl) rfl ?hy22 ?rest22
  case hy22 => (refine StepX.read (fun w => Below.refl _ _) (by rfl) (fun d e v w => by cases e; exact trivial) (fun wx hSw hvx => ?_); clear hvx hSw; go_simp; first | done | with_reducible rfl)
  try simp only [List.getElem_toArray, List.getElem_cons_succ, List.getElem_cons_zero, Act.put, List.setIfInBounds_toArray, List.set_cons_zero, List.set_cons_succ]
  refine anyX_take (i := 23) (v := .bool true) rfl (by kernel_rfl) (by kernel_rfl) (by kernel_rfl) rfl ?hy23 ?rest23
  case hy23 => (refine StepX.read (fun w => Below.refl _ _) (by rfl) (fun d e v w => by cases e; exact trivial) (fun wx hSw hvx => ?_); clear hvx hSw; go_simp; first | done | with_reducible rfl)
  try simp only [List.getElem_toArray, List.getElem_cons_succ, List.getElem_cons_zero, Act.put, List.setIfInBounds_toArray, List.set_cons_zero, List.set_cons_succ]
  refine anyX_take (i := 24) (v := .bool true) rfl (by kernel_rfl) (by kernel_rfl) (by kernel_rfl) rfl ?hy24 ?rest24
  case hy24 => (refine StepX.read (fun w => Below.refl _ _) (by rfl) (fun d e v w => by cases e; exact trivial) (fun wx hSw hvx => ?_); clear hvx hSw; go_simp; first | done | with_reducible rfl)
  try simp only [List.getElem_toArray, List.getElem_cons_succ, List.getElem_cons_zero, Act.put, List.setIfInBounds_toArray, List.set_cons_zero, List.set_cons_succ]
  refine anyX_take (i := 25) (v := .slice B lb.length cb) rfl (by kernel_rfl) (by kernel_rfl) (by kernel_rfl) rfl ?hy25 ?rest25
  case hy25 => (refine StepX.read (fun w => Below.refl _ _) (by rfl) (fun d e v w => by cases e; exact trivial) (fun wx hSw hvx => ?_); clear hvx hSw; go_simp; first | done | with_reducible rfl)
  try simp only [List.getElem_toArray, List.getElem_cons_succ, List.getElem_cons_zero, Act.put, List.setIfInBounds_toArray, List.set_cons_zero, List.set_cons_succ]
  refine anyX_take (i := 26) (v := .int .i64 v) rfl (by kernel_rfl) (by kernel_rfl) (by kernel_rfl) rfl ?hy26 ?rest26
  case hy26 => (refine StepX.read (fun w => Below.refl _ _) (by rfl) (fun d e v w => by cases e; exact trivial) (fun wx hSw hvx => ?_); clear hvx hSw; go_simp; first | done | with_reducible rfl)
  try simp only [List.getElem_toArray, List.getElem_cons_succ, List.getElem_cons_zero, Act.put, List.setIfInBounds_toArray, List.set_cons_zero, List.set_cons_succ]
  refine anyX_some (i := 27) (A := SlV l8) rfl (by kernel_rfl) (by kernel_rfl) (by kernel_rfl) rfl ⟨_, none, 0, rfl⟩ ?hy27 ?rest27
  case hy27 => (refine Or.inl ⟨by rfl, fun wx hSw hvx => ?_⟩; have hSk := hSw; obtain ⟨hHx, hrB, hrT, hrU⟩ := hSw; clear hvx; go_simp; refine Or.inr ⟨_, _, _, rfl, ?_⟩; (with_reducible refine (pput8 B cb lb v hv l8 Hl8.out _ hrB hBz (by omega)).mono ?_); rintro e w' ⟨y, rfl, hy1, hy2, hb'⟩; exact ⟨y, rfl, hy1, hb', SF.step hSk hb', fun d e => by cases e; exact hy2⟩)
  rintro _ ⟨A27, c27, rfl⟩
  try simp only [List.getElem_toArray, List.getElem_cons_succ, List.getElem_cons_zero, Act.put, List.setIfInBounds_toArray, List.set_cons_zero, List.set_cons_succ]
  refine anyX_take (i := 28) (v := .string ⟨(l8).toArray⟩) rfl (by kernel_rfl) (by kernel_rfl) (by kernel_rfl) rfl ?hy28 ?rest28
  case hy28 => (refine StepX.read (fun w => Below.refl _ _) (by rfl) (fun d e v w => by cases e; exact trivial) (fun wx hSw hvx => ?_); obtain ⟨A', c', e', hr'⟩ := (hvx 59 (by decide) : Sl l8 _ wx); obtain ⟨rfl, _, rfl⟩ := Value.slice.inj e'.symm; clear hvx e'; have ht := run_text wx 87 9 5 _ c' l8 hr' Tryd.underlying87 Tryd.underlying5 Tryd.underlying9; clear hr' hSw; go_simp)
  try simp only [List.getElem_toArray, List.getElem_cons_succ, List.getElem_cons_zero, Act.put, List.setIfInBounds_toArray, List.set_cons_zero, List.set_cons_succ]
  refine anyX_take (i := 29) (v := .slice B lb.length cb) rfl (by kernel_rfl) (by kernel_rfl) (by kernel_rfl) rfl ?hy29 ?rest29
  case hy29 => (refine StepX.read (fun w => Below.refl _ _) (by rfl) (fun d e v w => by cases e; exact trivial) (fun wx hSw hvx => ?_); clear hvx hSw; go_simp; first | done | with_reducible rfl)
  try simp only [List.getElem_toArray, List.getElem_cons_succ, List.getElem_cons_zero, Act.put, List.setIfInBounds_toArray, List.set_cons_zero, List.set_cons_succ]
  refine anyX_take (i := 30) (v := .int .i64 v) rfl (by kernel_rfl) (by kernel_rfl) (by kernel_rfl) rfl ?hy30 ?rest30
  case hy30 => (refine StepX.read (fun w => Below.refl _ _) (by rfl) (fun d e v w => by cases e; exact trivial) (fun wx hSw hvx => ?_); clear hvx hSw; go_simp; first | done | with_reducible rfl)
  try simp only [List.getElem_toArray, List.getElem_cons_succ, List.getElem_cons_zero, Act.put, List.setIfInBounds_toArray, List.set_cons_zero, List.set_cons_succ]
  refine anyX_take (i := 31) (v := .int .u64 (IntKind.u64.wrap v)) rfl (by kernel_rfl) (by kernel_rfl) (by kernel_rfl) rfl ?hy31 ?rest31
  case hy31 => (refine StepX.read (fun w => Below.refl _ _) (by rfl) (fun d e v w => by cases e; exact trivial) (fun wx hSw hvx => ?_); clear hvx hSw; go_simp; first | done | with_reducible rfl)
  try simp only [List.getElem_toArray, List.getElem_cons_succ, List.getElem_cons_zero, Act.put, List.setIfInBounds_toArray, List.set_cons_zero, List.set_cons_succ]
  refine anyX_some (i := 32) (A := SlV l8) rfl (by kernel_rfl) (by kernel_rfl) (by kernel_rfl) rfl ⟨_, none, 0, rfl⟩ ?hy32 ?rest32
  case hy32 => (refine Or.inl ⟨by rfl, fun wx hSw hvx => ?_⟩; have hSk := hSw; obtain ⟨hHx, hrB, hrT, hrU⟩ := hSw; clear hvx; go_simp; refine Or.inr ⟨_, _, _, rfl, ?_⟩; (with_reducible refine (rput8 B cb lb v hv l8 Hl8.out _ hrB hBz (by omega)).mono ?_); rintro e w' ⟨y, rfl, hy1, hy2, hb'⟩; exact ⟨y, rfl, hy1, hb', SF.step hSk hb', fun d e => by cases e; exact hy2⟩)
  rintro _ ⟨A32, c32, rfl⟩
  try simp only [List.getElem_toArray, List.getElem_cons_succ, List.getElem_cons_zero, Act.put, List.setIfInBounds_toArray, List.set_cons_zero, List.set_cons_succ]
  refine anyX_take (i := 33) (v := .string ⟨(l8).toArray⟩) rfl (by kernel_rfl) (by kernel_rfl) (by kernel_rfl) rfl ?hy33 ?rest33
  case hy33 => (refine StepX.read (fun w => Below.refl _ _) (by rfl) (fun d e v w => by cases e; exact trivial) (fun wx hSw hvx => ?_); obtain ⟨A', c', e', hr'⟩ := (hvx 64 (by decide) : Sl l8 _ wx); obtain ⟨rfl, _, rfl⟩ := Value.slice.inj e'.symm; clear hvx e'; have ht := run_text wx 87 9 5 _ c' l8 hr' Tryd.underlying87 Tryd.underlying5 Tryd.underlying9; clear hr' hSw; go_simp)
  try simp only [List.getElem_toArray, List.getElem_cons_succ, List.getElem_cons_zero, Act.put, List.setIfInBounds_toArray, List.set_cons_zero, List.set_cons_succ]
  refine anyX_take (i := 34) (v := .bool true) rfl (by kernel_rfl) (by kernel_rfl) (by kernel_rfl) rfl ?hy34 ?rest34
  case hy34 => (refine StepX.read (fun w => Below.refl _ _) (by rfl) (fun d e v w => by cases e; exact trivial) (fun wx hSw hvx => ?_); clear hvx hSw; go_simp; first | done | with_reducible rfl)
  try simp only [List.getElem_toArray, List.getElem_cons_succ, List.getElem_cons_zero, Act.put, List.setIfInBounds_toArray, List.set_cons_zero, List.set_cons_succ]
  refine anyX_take (i := 35) (v := .bool true) rfl (by kernel_rfl) (by kernel_rfl) (by kernel_rfl) rfl ?hy35 ?rest35
  case hy35 => (refine StepX.read (fun w => Below.refl _ _) (by rfl) (fun d e v w => by cases e; exact trivial) (fun wx hSw hvx => ?_); clear hvx hSw; go_simp; first | done | with_reducible rfl)
  try simp only [List.getElem_toArray, List.getElem_cons_succ, List.getElem_cons_zero, Act.put, List.setIfInBounds_toArray, List.set_cons_zero, List.set_cons_succ]
  refine anyX_take (i := 36) (v := .bool true) rfl (by kernel_rfl) (by kernel_rfl) (by kernel_rfl) rfl ?hy36 ?rest36
  case hy36 => (refine StepX.read (fun w => Below.refl _ _) (by rfl) (fun d e v w => by cases e; exact trivial) (fun wx hSw hvx => ?_); clear hvx hSw; go_simp; first | done | with_reducible rfl)
  try simp only [List.getElem_toArray, List.getElem_cons_succ, List.getElem_cons_zero, Act.put, List.setIfInBounds_toArray, List.set_cons_zero, List.set_cons_succ]
  refine anyX_take (i := 37) (v := .slice T lt.length cT) rfl (by kernel_rfl) (by kernel_rfl) (by kernel_rfl) rfl ?hy37 ?rest37
  case hy37 => (refine StepX.read (fun w => Below.refl _ _) (by rfl) (fun d e v w => by cases e; exact trivial) (fun wx hSw hvx => ?_); clear hvx hSw; go_simp; first | done | with_reducible rfl)
  try simp only [List.getElem_toArray, List.getElem_cons_succ, List.getElem_cons_zero, Act.put, List.setIfInBounds_toArray, List.set_cons_zero, List.set_cons_succ]
  refine anyX_take (i := 38) (v := .string ⟨(lt).toArray⟩) rfl (by kernel_rfl) (by kernel_rfl) (by kernel_rfl) rfl ?hy38 ?rest38
  case hy38 => (refine StepX.read (fun w => Below.refl _ _) (by rfl) (fun d e v w => by cases e; exact trivial) (fun wx hSw hvx => ?_); clear hvx; obtain ⟨hHx, hrB, hrT, hrU⟩ := hSw; have ht := run_text wx 87 9 5 T cT lt hrT Tryd.underlying87 Tryd.underlying5 Tryd.underlying9; clear hrB hrT hrU; go_simp)
  try simp only [List.getElem_toArray, List.getElem_cons_succ, List.getElem_cons_zero, Act.put, List.setIfInBounds_toArray, List.set_cons_zero, List.set_cons_succ]
  refine anyX_take (i := 39) (v := .slice U lt.length cU) rfl (by kernel_rfl) (by kernel_rfl) (by kernel_rfl) rfl ?hy39 ?rest39
  case hy39 => (refine StepX.read (fun w => Below.refl _ _) (by rfl) (fun d e v w => by cases e; exact trivial) (fun wx hSw hvx => ?_); clear hvx hSw; go_simp; first | done | with_reducible rfl)
  try simp only [List.getElem_toArray, List.getElem_cons_succ, List.getElem_cons_zero, Act.put, List.setIfInBounds_toArray, List.set_cons_zero, List.set_cons_succ]
  refine anyX_take (i := 40) (v := .string ⟨(lt).toArray⟩) rfl (by kernel_rfl) (by kernel_rfl) (by kernel_rfl) rfl ?hy40 ?rest40
  case hy40 => (refine StepX.read (fun w => Below.refl _ _) (by rfl) (fun d e v w => by cases e; exact trivial) (fun wx hSw hvx => ?_); clear hvx; obtain ⟨hHx, hrB, hrT, hrU⟩ := hSw; have ht := run_text wx 87 9 5 U cU lt hrU Tryd.underlying87 Tryd.underlying5 Tryd.underlying9; clear hrB hrT hrU; go_simp)
  try simp only [List.getElem_toArray, List.getElem_cons_succ, List.getElem_cons_zero, Act.put, List.setIfInBounds_toArray, List.set_cons_zero, List.set_cons_succ]
  refine anyX_take (i := 41) (v := .bool true) rfl (by kernel_rfl) (by kernel_rfl) (by kernel_rfl) rfl ?hy41 ?rest41
  case hy41 => (refine StepX.read (fun w => Below.refl _ _) (by rfl) (fun d e v w => by cases e; exact trivial) (fun wx hSw hvx => ?_); clear hvx hSw; go_simp; first | done | with_reducible rfl)
  try simp only [List.getElem_toArray, List.getElem_cons_succ, List.getElem_cons_zero, Act.put, List.setIfInBounds_toArray, List.set_cons_zero, List.set_cons_succ]
  refine anyX_take (i := 42) (v := .bool true) rfl (by kernel_rfl) (by kernel_rfl) (by kernel_rfl) rfl ?hy42 ?rest42
  case hy42 => (refine StepX.read (fun w => Below.refl _ _) (by rfl) (fun d e v w => by cases e; exact trivial) (fun wx hSw hvx => ?_); clear hvx hSw; go_simp; first | done | with_reducible rfl)
  try simp only [List.getElem_toArray, List.getElem_cons_succ, List.getElem_cons_zero, Act.put, List.setIfInBounds_toArray, List.set_cons_zero, List.set_cons_succ]
  refine anyX_take (i := 43) (v := .bool true) rfl (by kernel_rfl) (by kernel_rfl) (by kernel_rfl) rfl ?hy43 ?rest43
  case hy43 => (refine StepX.read (fun w => Below.refl _ _) (by rfl) (fun d e v w => by cases e; exact trivial) (fun wx hSw hvx => ?_); clear hvx hSw; go_simp; first | done | with_reducible rfl)
  try simp only [List.getElem_toArray, List.getElem_cons_succ, List.getElem_cons_zero, Act.put, List.setIfInBounds_toArray, List.set_cons_zero, List.set_cons_succ]
  refine anyX_take (i := 44) (v := .nilIface) rfl (by kernel_rfl) (by kernel_rfl) (by kernel_rfl) rfl ?hy44 ?rest44
  case hy44 => (refine StepX.read (fun w => Below.refl _ _) (by rfl) (fun d e v w => by cases e; exact trivial) (fun wx hSw hvx => ?_); clear hvx hSw; go_simp; first | done | with_reducible rfl)
  try simp only [List.getElem_toArray, List.getElem_cons_succ, List.getElem_cons_zero, Act.put, List.setIfInBounds_toArray, List.set_cons_zero, List.set_cons_succ]
  refine anyX_take (i := 45) (v := .int .i64 0) rfl (by kernel_rfl) (by kernel_rfl) (by kernel_rfl) rfl ?hy45 ?rest45
  case hy45 => (refine Or.inl ⟨by rfl, fun wx hSw hvx => ?_⟩; have hSk := hSw; obtain ⟨hHx, hrB, hrT, hrU⟩ := hSw; clear hvx; go_simp; refine Or.inr ⟨_, _, _, rfl, ?_⟩; (with_reducible refine (num05_nil _).mono ?_); rintro e w' ⟨rfl, hb'⟩; exact ⟨_, rfl, rfl, hb', SF.step hSk hb', (fun d e => by cases e; exact trivial)⟩)
  try simp only [List.getElem_toArray, List.getElem_cons_succ, List.getElem_cons_zero, Act.put, List.setIfInBounds_toArray, List.set_cons_zero, List.set_cons_succ]
  refine anyX_take (i := 46) (v := .int .i64 0) rfl (by kernel_rfl) (by kernel_rfl) (by kernel_rfl) rfl ?hy46 ?rest46
  case hy46 => (refine StepX.read (fun w => Below.refl _ _) (by rfl) (fun d e v w => by cases e; exact trivial) (fun wx hSw hvx => ?_); clear hvx hSw; go_simp; first | done | with_reducible rfl)
  try simp only [List.getElem_toArray, List.getElem_cons_succ, List.getElem_cons_zero, Act.put, List.setIfInBounds_toArray, List.set_cons_zero, List.set_cons_succ]
  refine anyX_take (i := 47) (v := .bool true) rfl (by kernel_rfl) (by kernel_rfl) (by kernel_rfl) rfl ?hy47 ?rest47
  case hy47 => (refine StepX.read (fun w => Below.refl _ _) (by rfl) (fun d e v w => by cases e; exact trivial) (fun wx hSw hvx => ?_); clear hvx hSw; go_simp; first | done | with_reducible rfl)
  try simp only [List.getElem_toArray, List.getElem_cons_succ, List.getElem_cons_zero, Act.put, List.setIfInBounds_toArray, List.set_cons_zero, List.set_cons_succ]
  refine anyX_take (i := 48) (v := .bool true) rfl (by kernel_rfl) (by kernel_rfl) (by kernel_rfl) rfl ?hy48 ?rest48
  case hy48 => (refine StepX.read (fun w => Below.refl _ _) (by rfl) (fun d e v w => by cases e; exact trivial) (fun wx hSw hvx => ?_); clear hvx hSw; go_simp; first | done | with_reducible rfl)
  try simp only [List.getElem_toArray, List.getElem_cons_succ, List.getElem_cons_zero, Act.put, List.setIfInBounds_toArray, List.set_cons_zero, List.set_cons_succ]
  refine anyX_take (i := 49) (v := .bool true) rfl (by kernel_rfl) (by kernel_rfl) (by kernel_rfl) rfl ?hy49 ?rest49
  case hy49 => (refine StepX.read (fun w => Below.refl _ _) (by rfl) (fun d e v w => by cases e; exact trivial) (fun wx hSw hvx => ?_); clear hvx hSw; go_simp; first | done | with_reducible rfl)
  try simp only [List.getElem_toArray, List.getElem_cons_succ, List.getElem_cons_zero, Act.put, List.setIfInBounds_toArray, List.set_cons_zero, List.set_cons_succ]
  refine anyX_take (i := 50) (v := .bool true) rfl (by kernel_rfl) (by kernel_rfl) (by kernel_rfl) rfl ?hy50 ?rest50
  case hy50 => (refine Or.inl ⟨by rfl, fun wx hSw hvx => ?_⟩; have hSk := hSw; obtain ⟨hHx, hrB, hrT, hrU⟩ := hSw; clear hvx; go_simp; refine Or.inr ⟨_, _, _, rfl, ?_⟩; (with_reducible refine (sure05 _ (Held.handle (w0 := w) hHx)).mono ?_); rintro e w' ⟨rfl, hb'⟩; exact ⟨_, rfl, rfl, hb', SF.step hSk hb', (fun d e => by cases e; exact trivial)⟩)
  try simp only [List.getElem_toArray, List.getElem_cons_succ, List.getElem_cons_zero, Act.put, List.setIfInBounds_toArray, List.set_cons_zero, List.set_cons_succ]
  refine anyX_take (i := 51) (v := .bool true) rfl (by kernel_rfl) (by kernel_rfl) (by kernel_rfl) rfl ?hy51 ?rest51
  case hy51 => (refine StepX.read (fun w => Below.refl _ _) (by rfl) (fun d e v w => by cases e; exact trivial) (fun wx hSw hvx => ?_); clear hvx hSw; go_simp; first | done | with_reducible rfl)
  try simp only [List.getElem_toArray, List.getElem_cons_succ, List.getElem_cons_zero, Act.put, List.setIfInBounds_toArray, List.set_cons_zero, List.set_cons_succ]
  refine anyX_take (i := 52) (v := .bool true) rfl (by kernel_rfl) (by kernel_rfl) (by kernel_rfl) rfl ?hy52 ?rest52
  case hy52 => (refine StepX.read (fun w => Below.refl _ _) (by rfl) (fun d e v w => by cases e; exact trivial) (fun wx hSw hvx => ?_); clear hvx hSw; go_simp; first | done | with_reducible rfl)
  try simp only [List.getElem_toArray, List.getElem_cons_succ, List.getElem_cons_zero, Act.put, List.setIfInBounds_toArray, List.set_cons_zero, List.set_cons_succ]
  refine anyX_done (by kernel_rfl) (fun wx hSw _ => ?_) _
  go_wp2_with (fail)
  go_ret
  exact ⟨rfl, Held.below (w0 := w) hSw.1⟩
set_option maxRecDepth 100000 in
set_option maxHeartbeats 16000000 in
theorem put_long {w : World} (B : Option Addr) (cb : Nat) (lb : List UInt8) (v : Int) (sx : ByteArray) (hrd : Rd w B lb) (hBz : B = none → cb = 0) (hv : InR v) (hl6 : lb.length ≤ 600) (hs : 255 < sx.size) (hs9 : sx.size ≤ 900) (hg : w.cell? ⟨0, 0, none⟩ = some asHandle) :
    Calls Tryd.prog 13 #[.slice B lb.length cb, .int .i64 v, .string sx] w fun e w' => e = .returned (.bool true) ∧ Below w.heap.size w w' := by
  have hH := Held.start hg
  obtain ⟨l2, hl2⟩ : ∃ x, x = lb ++ leB (u64of v) 2 := ⟨_, rfl⟩
  have Hl2 := Lib.hid hl2
  clear hl2
  obtain ⟨l4, hl4⟩ : ∃ x, x = lb ++ leB (u64of v) 4 := ⟨_, rfl⟩
  have Hl4 := Lib.hid hl4
  clear hl4
  obtain ⟨l8, hl8⟩ : ∃ x, x = lb ++ leB (u64of v) 8 := ⟨_, rfl⟩
  have Hl8 := Lib.hid hl8
  clear hl8
  obtain ⟨lt, hlt⟩ : ∃ x, x = lb ++ txt sx := ⟨_, rfl⟩
  have HLT := Lib.hid hlt
  clear hlt
  go_enter Tryd.func13, Tryd.ntmps13
  go_wp2_with (fail)
  go_at_call 77
  (with_reducible refine (text_long _ sx _ hs (by omega)).mono ?_)
  rintro e w1 ⟨rfl, hb1⟩
  go_wp2_with (fail)
  go_at_call 78
  (with_reducible refine (rtext_long _ sx _ hs (by omega)).mono ?_)
  rintro e w2 ⟨rfl, hb2⟩
  have hS0 : SF w B lb none [] none [] w2 := ⟨(hH.step hb1).step hb2, (hrd.below hb1).below hb2, Rd.nil _ _, Rd.nil _ _⟩
  go_wp2_with (fail)
  refine wp_region_X (S := SF w B lb none [] none []) (R := fun w w' => Below w.heap.size w w') (V := VF l2 l4 l8) (Al := AlOf [some (.slice B lb.length cb), some (.int .i64 v), some (.int .u16 (IntKind.u16.wrap v)), none, some (.string ⟨(l2).toArray⟩), some (.slice B lb.length cb), some (.int .i64 v), some (.int .u64 (IntKind.u64.wrap v)), none, some (.string ⟨(l2).toArray⟩), some (.bool true), some (.bool true), some (.slice B lb.length cb), some (.int .i64 v), some (.int .u32 (IntKind.u32.wrap v)), none, some (.string ⟨(l4).toArray⟩), some (.slice B lb.length cb), some (.int .i64 v), some (.int .u64 (IntKind.u64.wrap v)), none, some (.string ⟨(l4).toArray⟩), some (.bool true), some (.bool true), some (.bool true), some (.slice B lb.length cb), some (.int .i64 v), none, some (.string ⟨(l8).toArray⟩), some (.slice B lb.length cb), some (.int .i64 v), some (.int .u64 (IntKind.u64.wrap v)), none, some (.string ⟨(l8).toArray⟩), some (.bool true), some (.bool true), some (.bool true), some (.slice none 0 0), some (.string ⟨(([] : List UInt8)).toArray⟩), some (.slice none 0 0), some (.string ⟨(([] : List UInt8)).toArray⟩), some (.bool true), some (.bool true), some (.bool true), some (errV 5), some (.int .i64 5), some (.int .i64 5), some (.bool true), some (.bool true), some (.bool true), some (.bool true), some (.bool true), some (.bool true)] (CF l2 l4 l8)) (spec := [35, 40, 47, 52, 59, 64]) (by kernel_rfl) (fun d v w w' hb h => VF.step d v w w' hb h) (fun w => Below.refl _ _) (fun d hd v w => VF.other d hd v w) (by rfl) (by kernel_rfl) (SF.step hS0 (Below.refl _ _).drew) ?_
  refine anyX_take (i := 0) (v := .slice B lb.length cb) rfl (by kernel_rfl) (by kernel_rfl) (by kernel_rfl) rfl ?hy0 ?rest0
  case hy0 => (refine StepX.read (fun w => Below.refl _ _) (by rfl) (fun d e v w => by cases e; exact trivial) (fun wx hSw hvx => ?_); clear hvx hSw; go_simp; first | done | with_reducible rfl)
  try simp only [List.getElem_toArray, List.getElem_cons_succ, List.getElem_cons_zero, Act.put, List.setIfInBounds_toArray, List.set_cons_zero, List.set_cons_succ]
  refine anyX_take (i := 1) (v := .int .i64 v) rfl (by kernel_rfl) (by kernel_rfl) (by kernel_rfl) rfl ?hy1 ?rest1
  case hy1 => (refine StepX.read (fun w => Below.refl _ _) (by rfl) (fun d e v w => by cases e; exact trivial) (fun wx hSw hvx => ?_); clear hvx hSw; go_simp; first | done | with_reducible rfl)
  try simp only [List.getElem_toArray, List.getElem_cons_succ, List.getElem_cons_zero, Act.put, List.setIfInBounds_toArray, List.set_cons_zero, List.set_cons_succ]
  refine anyX_take (i := 2) (v := .int .u16 (IntKind.u16.wrap v)) rfl (by kernel_rfl) (by kernel_rfl) (by kernel_rfl) rfl ?hy2 ?rest2
  case hy2 => (refine StepX.read (fun w => Below.refl _ _) (by rfl) (fun d e v w => by cases e; exact trivial) (fun wx hSw hvx => ?_); clear hvx hSw; go_simp; first | done | with_reducible rfl)
  try simp only [List.getElem_toArray, List.getElem_cons_succ, List.getElem_cons_zero, Act.put, List.setIfInBounds_toArray, List.set_cons_zero, List.set_cons_succ]
  refine anyX_some (i := 3) (A := SlV l2) rfl (by kernel_rfl) (by kernel_rfl) (by kernel_rfl) rfl ⟨_, none, 0, rfl⟩ ?hy3 ?rest3
  case hy3 => (refine Or.inl ⟨by rfl, fun wx hSw hvx => ?_⟩; have hSk := hSw; obtain ⟨hHx, hrB, hrT, hrU⟩ := hSw; clear hvx; go_simp; refine Or.inr ⟨_, _, _, rfl, ?_⟩; (with_reducible refine (pput2 B cb lb v hv l2 Hl2.out _ hrB hBz (by omega)).mono ?_); rintro e w' ⟨y, rfl, hy1, hy2, hb'⟩; exact ⟨y, rfl, hy1, hb', SF.step hSk hb', fun d e => by cases e; exact hy2⟩)
  rintro _ ⟨A3, c3, rfl⟩
  try simp only [List.getElem_toArray, List.getElem_cons_succ, List.getElem_cons_zero, Act.put, List.setIfInBounds_toArray, List.set_cons_zero, List.set_cons_succ]
  refine anyX_take (i := 4) (v := .string ⟨(l2).toArray⟩) rfl (by kernel_rfl) (by kernel_rfl) (by kernel_rfl) rfl ?hy4 ?rest4
  case hy4 => (refine StepX.read (fun w => Below.refl _ _) (by rfl) (fun d e v w => by cases e; exact trivial) (fun wx hSw hvx => ?_); obtain ⟨A', c', e', hr'⟩ := (hvx 35 (by decide) : Sl l2 _ wx); obtain ⟨rfl, _, rfl⟩ := Value.slice.inj e'.symm; clear hvx e'; have ht := run_text wx 87 9 5 _ c' l2 hr' Tryd.underlying87 Tryd.underlying5 Tryd.underlying9; clear hr' hSw; go_simp)
  try simp only [List.getElem_toArray, List.getElem_cons_succ, List.getElem_cons_zero, Act.put, List.setIfInBounds_toArray, List.set_cons_zero, List.set_cons_succ]
  refine anyX_take (i := 5) (v := .slice B lb.length cb) rfl (by kernel_rfl) (by kernel_rfl) (by kernel_rfl) rfl ?hy5 ?rest5
  case hy5 => (refine StepX.read (fun w => Below.refl _ _) (by rfl) (fun d e v w => by cases e; exact trivial) (fun wx hSw hvx => ?_); clear hvx hSw; go_simp; first | done | with_reducible rfl)
  try simp only [List.getElem_toArray, List.getElem_cons_succ, List.getElem_cons_zero, Act.put, List.setIfInBounds_toArray, List.set_cons_zero, List.set_cons_succ]
  refine anyX_take (i := 6) (v := .int .i64 v) rfl (by kernel_rfl) (by kernel_rfl) (by kernel_rfl) rfl ?hy6 ?rest6
  case hy6 => (refine StepX.read (fun w => Below.refl _ _) (by rfl) (fun d e v w => by cases e; exact trivial) (fun wx hSw hvx => ?_); clear hvx hSw; go_simp; first | done | with_reducible rfl)
  try simp only [List.getElem_toArray, List.getElem_cons_succ, List.getElem_cons_zero, Act.put, List.setIfInBounds_toArray, List.set_cons_zero, List.set_cons_succ]
  refine anyX_take (i := 7) (v := .int .u64 (IntKind.u64.wrap v)) rfl (by kernel_rfl) (by kernel_rfl) (by kernel_rfl) rfl ?hy7 ?rest7
  case hy7 => (refine StepX.read (fun w => Below.refl _ _) (by rfl) (fun d e v w => by cases e; exact trivial) (fun wx hSw hvx => ?_); clear hvx hSw; go_simp; first | done | with_reducible rfl)
  try simp only [List.getElem_toArray, List.getElem_cons_succ, List.getElem_cons_zero, Act.put, List.setIfInBounds_toArray, List.set_cons_zero, List.set_cons_succ]
  refine anyX_some (i := 8) (A := SlV l2) rfl (by kernel_rfl) (by kernel_rfl) (by kernel_rfl) rfl ⟨_, none, 0, rfl⟩ ?hy8 ?rest8
  case hy8 => (refine Or.inl ⟨by rfl, fun wx hSw hvx => ?_⟩; have hSk := hSw; obtain ⟨hHx, hrB, hrT, hrU⟩ := hSw; clear hvx; go_simp; refine Or.inr ⟨_, _, _, rfl, ?_⟩; (with_reducible refine (rput2 B cb lb v hv l2 Hl2.out _ hrB hBz (by omega)).mono ?_); rintro e w' ⟨y, rfl, hy1, hy2, hb'⟩; exact ⟨y, rfl, hy1, hb', SF.step hSk hb', fun d e => by cases e; exact hy2⟩)
  rintro _ ⟨A8, c8, rfl⟩
  try simp only [List.getElem_toArray, List.getElem_cons_succ, List.getElem_cons_zero, Act.put, List.setIfInBounds_toArray, List.set_cons_zero, List.set_cons_succ]
  refine anyX_take (i := 9) (v := .string ⟨(l2).toArray⟩) rfl (by kernel_rfl) (by kernel_rfl) (by kernel_rfl) rfl ?hy9 ?rest9
  case hy9 => (refine StepX.read (fun w => Below.refl _ _) (by rfl) (fun d e v w => by cases e; exact trivial) (fun wx hSw hvx => ?_); obtain ⟨A', c', e', hr'⟩ := (hvx 40 (by decide) : Sl l2 _ wx); obtain ⟨rfl, _, rfl⟩ := Value.slice.inj e'.symm; clear hvx e'; have ht := run_text wx 87 9 5 _ c' l2 hr' Tryd.underlying87 Tryd.underlying5 Tryd.underlying9; clear hr' hSw; go_simp)
  try simp only [List.getElem_toArray, List.getElem_cons_succ, List.getElem_cons_zero, Act.put, List.setIfInBounds_toArray, List.set_cons_zero, List.set_cons_succ]
  refine anyX_take (i := 10) (v := .bool true) rfl (by kernel_rfl) (by kernel_rfl) (by kernel_rfl) rfl ?hy10 ?rest10
  case hy10 => (refine StepX.read (fun w => Below.refl _ _) (by rfl) (fun d e v w => by cases e; exact trivial) (fun wx hSw hvx => ?_); clear hvx hSw; go_simp; first | done | with_reducible rfl)
  try simp only [List.getElem_toArray, List.getElem_cons_succ, List.getElem_cons_zero, Act.put, List.setIfInBounds_toArray, List.set_cons_zero, List.set_cons_succ]
  refine anyX_take (i := 11) (v := .bool true) rfl (by kernel_rfl) (by kernel_rfl) (by kernel_rfl) rfl ?hy11 ?rest11
  case hy11 => (refine StepX.read (fun w => Below.refl _ _) (by rfl) (fun d e v w => by cases e; exact trivial) (fun wx hSw hvx => ?_); clear hvx hSw; go_simp; first | done | with_reducible rfl)
  try simp only [List.getElem_toArray, List.getElem_cons_succ, List.getElem_cons_zero, Act.put, List.setIfInBounds_toArray, List.set_cons_zero, List.set_cons_succ]
  refine anyX_take (i := 12) (v := .slice B lb.length cb) rfl (by kernel_rfl) (by kernel_rfl) (by kernel_rfl) rfl ?hy12 ?rest12
  case hy12 => (refine StepX.read (fun w => Below.refl _ _) (by rfl) (fun d e v w => by cases e; exact trivial) (fun wx hSw hvx => ?_); clear hvx hSw; go_simp; first | done | with_reducible rfl)
  try simp only [List.getElem_toArray, List.getElem_cons_succ, List.getElem_cons_zero, Act.put, List.setIfInBounds_toArray, List.set_cons_zero, List.set_cons_succ]
  refine anyX_take (i := 13) (v := .int .i64 v) rfl (by kernel_rfl) (by kernel_rfl) (by kernel_rfl) rfl ?hy13 ?rest13
  case hy13 => (refine StepX.read (fun w => Below.refl _ _) (by rfl) (fun d e v w => by cases e; exact trivial) (fun wx hSw hvx => ?_); clear hvx hSw; go_simp; first | done | with_reducible rfl)
  try simp only [List.getElem_toArray, List.getElem_cons_succ, List.getElem_cons_zero, Act.put, List.setIfInBounds_toArray, List.set_cons_zero, List.set_cons_succ]
  refine anyX_take (i := 14) (v := .int .u32 (IntKind.u32.wrap v)) rfl (by kernel_rfl) (by kernel_rfl) (by kernel_rfl) rfl ?hy14 ?rest14
  case hy14 => (refine StepX.read (fun w => Below.refl _ _) (by rfl) (fun d e v w => by cases e; exact trivial) (fun wx hSw hvx => ?_); clear hvx hSw; go_simp; first | done | with_reducible rfl)
  try simp only [List.getElem_toArray, List.getElem_cons_succ, List.getElem_cons_zero, Act.put, List.setIfInBounds_toArray, List.set_cons_zero, List.set_cons_succ]
  refine anyX_some (i := 15) (A := SlV l4) rfl (by kernel_rfl) (by kernel_rfl) (by kernel_rfl) rfl ⟨_, none, 0, rfl⟩ ?hy15 ?rest15
  case hy15 => (refine Or.inl ⟨by rfl, fun wx hSw hvx => ?_⟩; have hSk := hSw; obtain ⟨hHx, hrB, hrT, hrU⟩ := hSw; clear hvx; go_simp; refine Or.inr ⟨_, _, _, rfl, ?_⟩; (with_reducible refine (pput4 B cb lb v hv l4 Hl4.out _ hrB hBz (by omega)).mono ?_); rintro e w' ⟨y, rfl, hy1, hy2, hb'⟩; exact ⟨y, rfl, hy1, hb', SF.step hSk hb', fun d e => by cases e; exact hy2⟩)
  rintro _ ⟨A15, c15, rfl⟩
  try simp only [List.getElem_toArray, List.getElem_cons_succ, List.getElem_cons_zero, Act.put, List.setIfInBounds_toArray, List.set_cons_zero, List.set_cons_succ]
  refine anyX_take (i := 16) (v := .string ⟨(l4).toArray⟩) rfl (by kernel_rfl) (by kernel_rfl) (by kernel_rfl) rfl ?hy16 ?rest16
  case hy16 => (refine StepX.read (fun w => Below.refl _ _) (by rfl) (fun d e v w => by cases e; exact trivial) (fun wx hSw hvx => ?_); obtain ⟨A', c', e', hr'⟩ := (hvx 47 (by decide) : Sl l4 _ wx); obtain ⟨rfl, _, rfl⟩ := Value.slice.inj e'.symm; clear hvx e'; have ht := run_text wx 87 9 5 _ c' l4 hr' Tryd.underlying87 Tryd.underlying5 Tryd.underlying9; clear hr' hSw; go_simp)
  try simp only [List.getElem_toArray, List.getElem_cons_succ, List.getElem_cons_zero, Act.put, List.setIfInBounds_toArray, List.set_cons_zero, List.set_cons_succ]
  refine anyX_take (i := 17) (v := .slice B lb.length cb) rfl (by kernel_rfl) (by kernel_rfl) (by kernel_rfl) rfl ?hy17 ?rest17
  case hy17 => (refine StepX.read (fun w => Below.refl _ _) (by rfl) (fun d e v w => by cases e; exact trivial) (fun wx hSw hvx => ?_); clear hvx hSw; go_simp; first | done | with_reducible rfl)
  try simp only [List.getElem_toArray, List.getElem_cons_succ, List.getElem_cons_zero, Act.put, List.setIfInBounds_toArray, List.set_cons_zero, List.set_cons_succ]
  refine anyX_take (i := 18) (v := .int .i64 v) rfl (by kernel_rfl) (by kernel_rfl) (by kernel_rfl) rfl ?hy18 ?rest18
  case hy18 => (refine StepX.read (fun w => Below.refl _ _) (by rfl) (fun d e v w => by cases e; exact trivial) (fun wx hSw hvx => ?_); clear hvx hSw; go_simp; first | done | with_reducible rfl)
  try simp only [List.getElem_toArray, List.getElem_cons_succ, List.getElem_cons_zero, Act.put, List.setIfInBounds_toArray, List.set_cons_zero, List.set_cons_succ]
  refine anyX_take (i := 19) (v := .int .u64 (IntKind.u64.wrap v)) rfl (by kernel_rfl) (by kernel_rfl) (by kernel_rfl) rfl ?hy19 ?rest19
  case hy19 => (refine StepX.read (fun w => Below.refl _ _) (by rfl) (fun d e v w => by cases e; exact trivial) (fun wx hSw hvx => ?_); clear hvx hSw; go_simp; first | done | with_reducible rfl)
  try simp only [List.getElem_toArray, List.getElem_cons_succ, List.getElem_cons_zero, Act.put, List.setIfInBounds_toArray, List.set_cons_zero, List.set_cons_succ]
  refine anyX_some (i := 20) (A := SlV l4) rfl (by kernel_rfl) (by kernel_rfl) (by kernel_rfl) rfl ⟨_, none, 0, rfl⟩ ?hy20 ?rest20
  case hy20 => (refine Or.inl ⟨by rfl, fun wx hSw hvx => ?_⟩; have hSk := hSw; obtain ⟨hHx, hrB, hrT, hrU⟩ := hSw; clear hvx; go_simp; refine Or.inr ⟨_, _, _, rfl, ?_⟩; (with_reducible refine (rput4 B cb lb v hv l4 Hl4.out _ hrB hBz (by omega)).mono ?_); rintro e w' ⟨y, rfl, hy1, hy2, hb'⟩; exact ⟨y, rfl, hy1, hb', SF.step hSk hb', fun d e => by cases e; exact hy2⟩)
  rintro _ ⟨A20, c20, rfl⟩
  try simp only [List.getElem_toArray, List.getElem_cons_succ, List.getElem_cons_zero, Act.put, List.setIfInBounds_toArray, List.set_cons_zero, List.set_cons_succ]
  refine anyX_take (i := 21) (v := .string ⟨(l4).toArray⟩) rfl (by kernel_rfl) (by kernel_rfl) (by kernel_rfl) rfl ?hy21 ?rest21
  case hy21 => (refine StepX.read (fun w => Below.refl _ _) (by rfl) (fun d e v w => by cases e; exact trivial) (fun wx hSw hvx => ?_); obtain ⟨A', c', e', hr'⟩ := (hvx 52 (by decide) : Sl l4 _ wx); obtain ⟨rfl, _, rfl⟩ := Value.slice.inj e'.symm; clear hvx e'; have ht := run_text wx 87 9 5 _ c' l4 hr' Tryd.underlying87 Tryd.underlying5 Tryd.underlying9; clear hr' hSw; go_simp)
  try simp only [List.getElem_toArray, List.getElem_cons_succ, List.getElem_cons_zero, Act.put, List.setIfInBounds_toArray, List.set_cons_zero, List.set_cons_succ]
  refine anyX_take (i := 22) (v := .bool true) rfl (by kernel_rfl) (by kernel_rfl) (by kernel_rfl) rfl ?hy22 ?rest22
  case hy22 => (refine StepX.read (fun w => Below.refl _ _) (by rfl) (fun d e v w => by cases e; exact trivial) (fun wx hSw hvx => ?_); clear hvx hSw; go_simp; first | done | with_reducible rfl)
  try simp only [List.getElem_toArray, List.getElem_cons_succ, List.getElem_cons_zero, Act.put, List.setIfInBounds_toArray, List.set_cons_zero, List.set_cons_succ]
  refine anyX_take (i := 23) (v := .bool true) rfl (by kernel_rfl) (by kernel_rfl) (by kernel_rfl) rfl ?hy23 ?rest23
  case hy23 => (refine StepX.read (fun w => Below.refl _ _) (by rfl) (fun d e v w => by cases e; exact trivial) (fun wx hSw hvx => ?_); clear hvx hSw; go_simp; first | done | with_reducible rfl)
  try simp only [List.getElem_toArray, List.getElem_cons_succ, List.getElem_cons_zero, Act.put, List.setIfInBounds_toArray, List.set_cons_zero, List.set_cons_succ]
  refine anyX_take (i := 24) (v := .bool true) rfl (by kernel_rfl) (by kernel_rfl) (by kernel_rfl) rfl ?hy24 ?rest24
  case hy24 => (refine StepX.read (fun w => Below.refl _ _) (by rfl) (fun d e v w => by cases e; exact trivial) (fun wx hSw hvx => ?_); clear hvx hSw; go_simp; first | done | with_reducible rfl)
  try simp only [List.getElem_toArray, List.getElem_cons_succ, List.getElem_cons_zero, Act.put, List.setIfInBounds_toArray, List.set_cons_zero, List.set_cons_succ]
  refine anyX_take (i := 25) (v := .slice B lb.length cb) rfl (by kernel_rfl) (by kernel_rfl) (by kernel_rfl) rfl ?hy25 ?rest25
  case hy25 => (refine StepX.read (fun w => Below.refl _ _) (by rfl) (fun d e v w => by cases e; exact trivial) (fun wx hSw hvx => ?_); clear hvx hSw; go_simp; first | done | with_reducible rfl)
  try simp only [List.getElem_toArray, List.getElem_cons_succ, List.getElem_cons_zero, Act.put, List.setIfInBounds_toArray, List.set_cons_zero, List.set_cons_succ]
  refine anyX_take (i := 26) (v := .int .i64 v) rfl (by kernel_rfl) (by kernel_rfl) (by kernel_rfl) rfl ?hy26 ?rest26
  case hy26 => (refine StepX.read (fun w => Below.refl _ _) (by rfl) (fun d e v w => by cases e; exact trivial) (fun wx hSw hvx => ?_); clear hvx hSw; go_simp; first | done | with_reducible rfl)
  try simp only [List.getElem_toArray, List.getElem_cons_succ, List.getElem_cons_zero, Act.put, List.setIfInBounds_toArray, List.set_cons_zero, List.set_cons_succ]
  refine anyX_some (i := 27) (A := SlV l8) rfl (by kernel_rfl) (by kernel_rfl) (by kernel_rfl) rfl ⟨_, none, 0, rfl⟩ ?hy27 ?rest27
  case hy27 => (refine Or.inl ⟨by rfl, fun wx hSw hvx => ?_⟩; have hSk := hSw; obtain ⟨hHx, hrB, hrT, hrU⟩ := hSw; clear hvx; go_simp; refine Or.inr ⟨_, _, _, rfl, ?_⟩; (with_reducible refine (pput8 B cb lb v hv l8 Hl8.out _ hrB hBz (by omega)).mono ?_); rintro e w' ⟨y, rfl, hy1, hy2, hb'⟩; exact ⟨y, rfl, hy1, hb', SF.step hSk hb', fun d e => by cases e; exact hy2⟩)
  rintro _ ⟨A27, c27, rfl⟩
  try simp only [List.getElem_toArray, List.getElem_cons_succ, List.getElem_cons_zero, Act.put, List.setIfInBounds_toArray, List.set_cons_zero, List.set_cons_succ]
  refine anyX_take (i := 28) (v := .string ⟨(l8).toArray⟩) rfl (by kernel_rfl) (by kernel_rfl) (by kernel_rfl) rfl ?hy28 ?rest28
  case hy28 => (refine StepX.read (fun w => Below.refl _ _) (by rfl) (fun d e v w => by cases e; exact trivial) (fun wx hSw hvx => ?_); obtain ⟨A', c', e', hr'⟩ := (hvx 59 (by decide) : Sl l8 _ wx); obtain ⟨rfl, _, rfl⟩ := Value.slice.inj e'.symm; clear hvx e'; have ht := run_text wx 87 9 5 _ c' l8 hr' Tryd.underlying87 Tryd.underlying5 Tryd.underlying9; clear hr' hSw; go_simp)
  try simp only [List.getElem_toArray, List.getElem_cons_succ, List.getElem_cons_zero, Act.put, List.setIfInBounds_toArray, List.set_cons_zero, List.set_cons_succ]
  refine anyX_take (i := 29) (v := .slice B lb.length cb) rfl (by kernel_rfl) (by kernel_rfl) (by kernel_rfl) rfl ?hy29 ?rest29
  case hy29 => (refine StepX.read (fun w => Below.refl _ _) (by rfl) (fun d e v w => by cases e; exact trivial) (fun wx hSw hvx => ?_); clear hvx hSw; go_simp; first | done | with_reducible rfl)
  try simp only [List.getElem_toArray, List.getElem_cons_succ, List.getElem_cons_zero, Act.put, List.setIfInBounds_toArray, List.set_cons_zero, List.set_cons_succ]
  refine anyX_take (i := 30) (v := .int .i64 v) rfl (by kernel_rfl) (by kernel_rfl) (by kernel_rfl) rfl ?hy30 ?rest30
  case hy30 => (refine StepX.read (fun w => Below.refl _ _) (by rfl) (fun d e v w => by cases e; exact trivial) (fun wx hSw hvx => ?_); clear hvx hSw; go_simp; first | done | with_reducible rfl)
  try simp only [List.getElem_toArray, List.getElem_cons_succ, List.getElem_cons_zero, Act.put, List.setIfInBounds_toArray, List.set_cons_zero, List.set_cons_succ]
  refine anyX_take (i := 31) (v := .int .u64 (IntKind.u64.wrap v)) rfl (by kernel_rfl) (by kernel_rfl) (by kernel_rfl) rfl ?hy31 ?rest31
  case hy31 => (refine StepX.read (fun w => Below.refl _ _) (by rfl) (fun d e v w => by cases e; exact trivial) (fun wx hSw hvx => ?_); clear hvx hSw; go_simp; first | done | with_reducible rfl)
  try simp only [List.getElem_toArray, List.getElem_cons_succ, List.getElem_cons_zero, Act.put, List.setIfInBounds_toArray, List.set_cons_zero, List.set_cons_succ]
  refine anyX_some (i := 32) (A := SlV l8) rfl (by kernel_rfl) (by kernel_rfl) (by kernel_rfl) rfl ⟨_, none, 0, rfl⟩ ?hy32 ?rest32
  case hy32 => (refine Or.inl ⟨by rfl, fun wx hSw hvx => ?_⟩; have hSk := hSw; obtain ⟨hHx, hrB, hrT, hrU⟩ := hSw; clear hvx; go_simp; refine Or.inr ⟨_, _, _, rfl, ?_⟩; (with_reducible refine (rput8 B cb lb v hv l8 Hl8.out _ hrB hBz (by omega)).mono ?_); rintro e w' ⟨y, rfl, hy1, hy2, hb'⟩; exact ⟨y, rfl, hy1, hb', SF.step hSk hb', fun d e => by cases e; exact hy2⟩)
  rintro _ ⟨A32, c32, rfl⟩
  try simp only [List.getElem_toArray, List.getElem_cons_succ, List.getElem_cons_zero, Act.put, List.setIfInBounds_toArray, List.set_cons_zero, List.set_cons_succ]
  refine anyX_take (i := 33) (v := .string ⟨(l8).toArray⟩) rfl (by kernel_rfl) (by kernel_rfl) (by kernel_rfl) rfl ?hy33 ?rest33
  case hy33 => (refine StepX.read (fun w => Below.refl _ _) (by rfl) (fun d e v w => by cases e; exact trivial) (fun wx hSw hvx => ?_); obtain ⟨A', c', e', hr'⟩ := (hvx 64 (by decide) : Sl l8 _ wx); obtain ⟨rfl, _, rfl⟩ := Value.slice.inj e'.symm; clear hvx e'; have ht := run_text wx 87 9 5 _ c' l8 hr' Tryd.underlying87 Tryd.underlying5 Tryd.underlying9; clear hr' hSw; go_simp)
  try simp only [List.getElem_toArray, List.getElem_cons_succ, List.getElem_cons_zero, Act.put, List.setIfInBounds_toArray, List.set_cons_zero, List.set_cons_succ]
  refine anyX_take (i := 34) (v := .bool true) rfl (by kernel_rfl) (by kernel_rfl) (by kernel_rfl) rfl ?hy34 ?rest34
  case hy34 => (refine StepX.read (fun w => Below.refl _ _) (by rfl) (fun d e v w => by cases e; exact trivial) (fun wx hSw hvx => ?_); clear hvx hSw; go_simp; first | done | with_reducible rfl)
  try simp only [List.getElem_toArray, List.getElem_cons_succ, List.getElem_cons_zero, Act.put, List.setIfInBounds_toArray, List.set_cons_zero, List.set_cons_succ]
  refine anyX_take (i := 35) (v := .bool true) rfl (by kernel_rfl) (by kernel_rfl) (by kernel_rfl) rfl ?hy35 ?rest35
  case hy35 => (refine StepX.read (fun w => Below.refl _ _) (by rfl) (fun d e v w => by cases e; exact trivial) (fun wx hSw hvx => ?_); clear hvx hSw; go_simp; first | done | with_reducible rfl)
  try simp only [List.getElem_toArray, List.getElem_cons_succ, List.getElem_cons_zero, Act.put, List.setIfInBounds_toArray, List.set_cons_zero, List.set_cons_succ]
  refine anyX_take (i := 36) (v := .bool true) rfl (by kernel_rfl) (by kernel_rfl) (by kernel_rfl) rfl ?hy36 ?rest36
  case hy36 => (refine StepX.read (fun w => Below.refl _ _) (by rfl) (fun d e v w => by cases e; exact trivial) (fun wx hSw hvx => ?_); clear hvx hSw; go_simp; first | done | with_reducible rfl)
  try simp only [List.getElem_toArray, List.getElem_cons_succ, List.getElem_cons_zero, Act.put, List.setIfInBounds_toArray, List.set_cons_zero, List.set_cons_succ]
  refine anyX_take (i := 37) (v := .slice none 0 0) rfl (by kernel_rfl) (by kernel_rfl) (by kernel_rfl) rfl ?hy37 ?rest37
  case hy37 => (refine StepX.read (fun w => Below.refl _ _) (by rfl) (fun d e v w => by cases e; exact trivial) (fun wx hSw hvx => ?_); clear hvx hSw; go_simp; first | done | with_reducible rfl)
  try simp only [List.getElem_toArray, List.getElem_cons_succ, List.getElem_cons_zero, Act.put, List.setIfInBounds_toArray, List.set_cons_zero, List.set_cons_succ]
  refine anyX_take (i := 38) (v := .string ⟨(([] : List UInt8)).toArray⟩) rfl (by kernel_rfl) (by kernel_rfl) (by kernel_rfl) rfl ?hy38 ?rest38
  case hy38 => (refine StepX.read (fun w => Below.refl _ _) (by rfl) (fun d e v w => by cases e; exact trivial) (fun wx hSw hvx => ?_); clear hvx; obtain ⟨hHx, hrB, hrT, hrU⟩ := hSw; have ht := (show (convert 87 9 (.slice none 0 0)).run Tryd.prog wx = .ok (.string ⟨#[]⟩) wx from run_text wx 87 9 5 none 0 [] hrT Tryd.underlying87 Tryd.underlying5 Tryd.underlying9); clear hrB hrT hrU; go_simp)
  try simp only [List.getElem_toArray, List.getElem_cons_succ, List.getElem_cons_zero, Act.put, List.setIfInBounds_toArray, List.set_cons_zero, List.set_cons_succ]
  refine anyX_take (i := 39) (v := .slice none 0 0) rfl (by kernel_rfl) (by kernel_rfl) (by kernel_rfl) rfl ?hy39 ?rest39
  case hy39 => (refine StepX.read (fun w => Below.refl _ _) (by rfl) (fun d e v w => by cases e; exact trivial) (fun wx hSw hvx => ?_); clear hvx hSw; go_simp; first | done | with_reducible rfl)
  try simp only [List.getElem_toArray, List.getElem_cons_succ, List.getElem_cons_zero, Act.put, List.setIfInBounds_toArray, List.set_cons_zero, List.set_cons_succ]
  refine anyX_take (i := 40) (v := .string ⟨(([] : List UInt8)).toArray⟩) rfl (by kernel_rfl) (by kernel_rfl) (by kernel_rfl) rfl ?hy40 ?rest40
  case hy40 => (refine StepX.read (fun w => Below.refl _ _) (by rfl) (fun d e v w => by cases e; exact trivial) (fun wx hSw hvx => ?_); clear hvx; obtain ⟨hHx, hrB, hrT, hrU⟩ := hSw; have ht := (show (convert 87 9 (.slice none 0 0)).run Tryd.prog wx = .ok (.string ⟨#[]⟩) wx from run_text wx 87 9 5 none 0 [] hrU Tryd.underlying87 Tryd.underlying5 Tryd.underlying9); clear hrB hrT hrU; go_simp)
  try simp only [List.getElem_toArray, List.getElem_cons_succ, List.getElem_cons_zero, Act.put, List.setIfInBounds_toArray, List.set_cons_zero, List.set_cons_succ]
  refine anyX_take (i := 41) (v := .bool true) rfl (by kernel_rfl) (by kernel_rfl) (by kernel_rfl) rfl ?hy41 ?rest41
  case hy41 => (refine StepX.read (fun w => Below.refl _ _) (by rfl) (fun d e v w => by cases e; exact trivial) (fun wx hSw hvx => ?_); clear hvx hSw; go_simp; first | done | with_reducible rfl)
  try simp only [List.getElem_toArray, List.getElem_cons_succ, List.getElem_cons_zero, Act.put, List.setIfInBounds_toArray, List.set_cons_zero, List.set_cons_succ]
  refine anyX_take (i := 42) (v := .bool true) rfl (by kernel_rfl) (by kernel_rfl) (by kernel_rfl) rfl ?hy42 ?rest42
  case hy42 => (refine StepX.read (fun w => Below.refl _ _) (by rfl) (fun d e v w => by cases e; exact trivial) (fun wx hSw hvx => ?_); clear hvx hSw; go_simp; first | done | with_reducible rfl)
  try simp only [List.getElem_toArray, List.getElem_cons_succ, List.getElem_cons_zero, Act.put, List.setIfInBounds_toArray, List.set_cons_zero, List.set_cons_succ]
  refine anyX_take (i := 43) (v := .bool true) rfl (by kernel_rfl) (by kernel_rfl) (by kernel_rfl) rfl ?hy43 ?rest43
  case hy43 => (refine StepX.read (fun w => Below.refl _ _) (by rfl) (fun d e v w => by cases e; exact trivial) (fun wx hSw hvx => ?_); clear hvx hSw; go_simp; first | done | with_reducible rfl)
  try simp only [List.getElem_toArray, List.getElem_cons_succ, List.getElem_cons_zero, Act.put, List.setIfInBounds_toArray, List.set_cons_zero, List.set_cons_succ]
  refine anyX_take (i := 44) (v := errV 5) rfl (by kernel_rfl) (by kernel_rfl) (by kernel_rfl) rfl ?hy44 ?rest44
  case hy44 => (refine StepX.read (fun w => Below.refl _ _) (by rfl) (fun d e v w => by cases e; exact trivial) (fun wx hSw hvx => ?_); clear hvx hSw; go_simp; first | done | with_reducible rfl)
  try simp only [List.getElem_toArray, List.getElem_cons_succ, List.getElem_cons_zero, Act.put, List.setIfInBounds_toArray, List.set_cons_zero, List.set_cons_succ]
  refine anyX_take (i := 45) (v := .int .i64 5) rfl (by kernel_rfl) (by kernel_rfl) (by kernel_rfl) rfl ?hy45 ?rest45
  case hy45 => (refine Or.inl ⟨by rfl, fun wx hSw hvx => ?_⟩; have hSk := hSw; obtain ⟨hHx, hrB, hrT, hrU⟩ := hSw; clear hvx; go_simp; refine Or.inr ⟨_, _, _, rfl, ?_⟩; (with_reducible refine (num05_err 5 _ (Held.handle (w0 := w) hHx)).mono ?_); rintro e w' ⟨rfl, hb'⟩; exact ⟨_, rfl, rfl, hb', SF.step hSk hb', (fun d e => by cases e; exact trivial)⟩)
  try simp only [List.getElem_toArray, List.getElem_cons_succ, List.getElem_cons_zero, Act.put, List.setIfInBounds_toArray, List.set_cons_zero, List.set_cons_succ]
  refine anyX_take (i := 46) (v := .int .i64 5) rfl (by kernel_rfl) (by kernel_rfl) (by kernel_rfl) rfl ?hy46 ?rest46
  case hy46 => (refine StepX.read (fun w => Below.refl _ _) (by rfl) (fun d e v w => by cases e; exact trivial) (fun wx hSw hvx => ?_); clear hvx hSw; go_simp; first | done | with_reducible rfl)
  try simp only [List.getElem_toArray, List.getElem_cons_succ, List.getElem_cons_zero, Act.put, List.setIfInBounds_toArray, List.set_cons_zero, List.set_cons_succ]
  refine anyX_take (i := 47) (v := .bool true) rfl (by kernel_rfl) (by kernel_rfl) (by kernel_rfl) rfl ?hy47 ?rest47
  case hy47 => (refine StepX.read (fun w => Below.refl _ _) (by rfl) (fun d e v w => by cases e; exact trivial) (fun wx hSw hvx => ?_); clear hvx hSw; go_simp; first | done | with_reducible rfl)
  try simp only [List.getElem_toArray, List.getElem_cons_succ, List.getElem_cons_zero, Act.put, List.setIfInBounds_toArray, List.set_cons_zero, List.set_cons_succ]
  refine anyX_take (i := 48) (v := .bool true) rfl (by kernel_rfl) (by kernel_rfl) (by kernel_rfl) rfl ?hy48 ?rest48
  case hy48 => (refine StepX.read (fun w => Below.refl _ _) (by rfl) (fun d e v w => by cases e; exact trivial) (fun wx hSw hvx => ?_); clear hvx hSw; go_simp; first | done | with_reducible rfl)
  try simp only [List.getElem_toArray, List.getElem_cons_succ, List.getElem_cons_zero, Act.put, List.setIfInBounds_toArray, List.set_cons_zero, List.set_cons_succ]
  refine anyX_take (i := 49) (v := .bool true) rfl (by kernel_rfl) (by kernel_rfl) (by kernel_rfl) rfl ?hy49 ?rest49
  case hy49 => (refine StepX.read (fun w => Below.refl _ _) (by rfl) (fun d e v w => by cases e; exact trivial) (fun wx hSw hvx => ?_); clear hvx hSw; go_simp; first | done | with_reducible rfl)
  try simp only [List.getElem_toArray, List.getElem_cons_succ, List.getElem_cons_zero, Act.put, List.setIfInBounds_toArray, List.set_cons_zero, List.set_cons_succ]
  refine anyX_take (i := 50) (v := .bool true) rfl (by kernel_rfl) (by kernel_rfl) (by kernel_rfl) rfl ?hy50 ?rest50
  case hy50 => (refine Or.inl ⟨by rfl, fun wx hSw hvx => ?_⟩; have hSk := hSw; obtain ⟨hHx, hrB, hrT, hrU⟩ := hSw; clear hvx; go_simp; refine Or.inr ⟨_, _, _, rfl, ?_⟩; (with_reducible refine (sure05 _ (Held.handle (w0 := w) hHx)).mono ?_); rintro e w' ⟨rfl, hb'⟩; exact ⟨_, rfl, rfl, hb', SF.step hSk hb', (fun d e => by cases e; exact trivial)⟩)
  try simp only [List.getElem_toArray, List.getElem_cons_succ, List.getElem_cons_zero, Act.put, List.setIfInBounds_toArray, List.set_cons_zero, List.set_cons_succ]
  refine anyX_take (i := 51) (v := .bool true) rfl (by kernel_rfl) (by kernel_rfl) (by kernel_rfl) rfl ?hy51 ?rest51
  case hy51 => (refine StepX.read (fun w => Below.refl _ _) (by rfl) (fun d e v w => by cases e; exact trivial) (fun wx hSw hvx => ?_); clear hvx hSw; go_simp; first | done | with_reducible rfl)
  try simp only [List.getElem_toArray, List.getElem_cons_succ, List.getElem_cons_zero, Act.put, List.setIfInBounds_toArray, List.set_cons_zero, List.set_cons_succ]
  refine anyX_take (i := 52) (v := .bool true) rfl (by kernel_rfl) (by kernel_rfl) (by kernel_rfl) rfl ?hy52 ?rest52
  case hy52 => (refine StepX.read (fun w => Below.refl _ _) (by rfl) (fun d e v w => by cases e; exact trivial) (fun wx hSw hvx => ?_); clear hvx hSw; go_simp; first | done | with_reducible rfl)
  try simp only [List.getElem_toArray, List.getElem_cons_succ, List.getElem_cons_zero, Act.put, List.setIfInBounds_toArray, List.set_cons_zero, List.set_cons_succ]
  refine anyX_done (by kernel_rfl) (fun wx hSw _ => ?_) _
  go_wp2_with (fail)
  go_ret
  exact ⟨rfl, Held.below (w0 := w) hSw.1⟩
theorem put_over {w : World} (B : Option Addr) (cb : Nat) (lb : List UInt8) (v : Int) (sx : ByteArray) (hrd : Rd w B lb) (hBz : B = none → cb = 0) (hv : InR v) (hl : lb.length ≤ 140737488355328) (hs : sx.size ≤ 9223372036854775807) (h : 600 < lb.length ∨ (lb.length ≤ 600 ∧ 900 < sx.size)) (hg : w.cell? ⟨0, 0, none⟩ = some asHandle) :
    Calls Tryd.prog 13 #[.slice B lb.length cb, .int .i64 v, .string sx] w fun e w' => e = .returned (.bool true) ∧ Below w.heap.size w w' := by
  have hH := Held.start hg
  rcases h with h | ⟨h, h2⟩
  all_goals
    go_enter Tryd.func13, Tryd.ntmps13
    go_wp2_with (fail)
    go_at_call 64
    (with_reducible refine (sure05 _ (Held.handle (w0 := w) hH)).mono ?_)
    rintro e w1 ⟨rfl, hb1⟩
    go_wp2_with (fail)
    go_ret
    exact ⟨rfl, hb1⟩
theorem walkFieldsPut {w : World} (B : Option Addr) (cb : Nat) (lb : List UInt8) (v : Int) (sx : ByteArray) (hrd : Rd w B lb) (hBz : B = none → cb = 0) (hl : lb.length ≤ 140737488351232) (hv : InR v) (hs : sx.size ≤ 9223372036854775807) (hg : w.cell? ⟨0, 0, none⟩ = some asHandle) :
    Calls Tryd.prog 13 #[.slice B lb.length cb, .int .i64 v, .string sx] w fun e w' => e = .returned (.bool true) ∧ Below w.heap.size w w' := by
  by_cases h1 : lb.length ≤ 600
  · by_cases h2 : sx.size ≤ 900
    · by_cases h3 : sx.size ≤ 255
      · exact put_ok B cb lb v sx hrd hBz hv h1 h3 hg
      · exact put_long B cb lb v sx hrd hBz hv h1 (by omega) h2 hg
    · exact put_over B cb lb v sx hrd hBz hv (by omega) hs (Or.inr ⟨h1, by omega⟩) hg
  · exact put_over B cb lb v sx hrd hBz hv (by omega) hs (Or.inl (by omega)) hg
end Go.Proofs.YtffdglhdklmjoaaDoor
