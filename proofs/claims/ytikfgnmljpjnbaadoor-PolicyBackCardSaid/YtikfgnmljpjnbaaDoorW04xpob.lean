/-
 crc.Opened.
-/
import Derived.Test.YtikfgnmljpjnbaaDoorW04ypob
import Derived.BigQuiet
import Derived.Deep.QuietTactic
namespace Go.Proofs.YtikfgnmljpjnbaaDoor
open Go.RowKit Go.Extern.Stop Go.Stop Go.Extern
set_option linter.unusedVariables false
set_option linter.unusedSimpArgs false
theorem sum_n (A : Option Addr) (c n : Nat) (l : List UInt8) (w : World) (hrd : Rd w A l) (hn : n = l.length) (hl : l.length ≤ 140737488355328) :
   Calls Tryd.prog 85 #[.slice A n c] w fun e w' => e = .returned (.int .u32 (crcMore 0 l : Nat)) ∧ w = w' := by subst hn; exact sum_c A c l w hrd hl
theorem byte_eq {t : UInt8} {s i : Nat} {d : Int} (hd : d = ((sumByte s i).toNat : Int)) (h : ((t.toNat : Int) != d) = false) : t = sumByte s i := by
 subst hd
 simp at h
 exact UInt8.toNat_inj.1 (by omega)
theorem byte_ne {t : UInt8} {s i : Nat} {d : Int} (hd : d = ((sumByte s i).toNat : Int)) (h : ((t.toNat : Int) != d) = true) : t ≠ sumByte s i := by
 subst hd
 rintro rfl
 simp at h
theorem sb0 (s : Nat) : (s : Int) % 256 = ((sumByte s 0).toNat : Int) := by rw [sumByte_toNat]; simp
theorem sb1 (s : Nat) : (s : Int) / 256 % 256 = ((sumByte s 1).toNat : Int) := by rw [sumByte_toNat]; simp
theorem sb2 (s : Nat) : (s : Int) / 65536 % 256 = ((sumByte s 2).toNat : Int) := by rw [sumByte_toNat]; simp
theorem sb3 (s : Nat) (hs : s < 2 ^ 32) : (s : Int) / 16777216 = ((sumByte s 3).toNat : Int) := by
 rw [sumByte_toNat]
 have h1 : (2 : Nat) ^ (8 * 3) = 16777216 := by decide
 rw [h1, Nat.mod_eq_of_lt (by omega)]; simp
theorem own_shape4 {w : World} {base n : Nat} {v : Value} {l : List UInt8} (h : w.ownsRow base 5 1 v n (bv l)) : ∃ A c, v = .slice A l.length c ∧ (A = none → c = 0) ∧ Rd w A l ∧ n = l.length := by
 have hl : n = l.length := by have := h.1; rw [bv_length] at this; omega
 subst hl
 rcases h.2 with ⟨rfl, h0⟩ | ⟨g, cap, cur, rfl, _⟩
 · refine ⟨none, 0, by rw [h0], fun _ => rfl, ?_, rfl⟩
   rw [List.eq_nil_of_length_eq_zero h0]; exact Rd.nil _ _
 · exact ⟨_, _, rfl, (fun e => by cases e), (Rd.of_own h).1, rfl⟩
theorem own_len {w : World} {base n c : Nat} {A : Option Addr} {xs : List Value} (h : w.ownsRow base 5 1 (.slice A n c) n xs) : n ≤ c := by
 rcases h.2 with ⟨hv, h0⟩ | ⟨g, cap, cur, hv, _, _, hc, _⟩
 · omega
 · injection hv with _ _ e
   omega
def OkP (w : World) (p : List UInt8) (e : Ending) (w' : World) : Prop := ∃ A c, e = .returned (.tuple #[.slice A p.length c, .nilIface]) ∧ (A = none → c = 0) ∧ Rd w' A p ∧ Below w.heap.size w w' ∧ p.length ≤ c
def NoP (w : World) (e : Ending) (w' : World) : Prop := e = .returned (.tuple #[.slice none 0 0, errV 4]) ∧ Below w.heap.size w w'
def OpenP (w : World) (l : List UInt8) (e : Ending) (w' : World) : Prop := (opensB l = true ∧ OkP w (l.take (l.length - 4)) e w') ∨ (opensB l = false ∧ NoP w e w')
theorem opens_short {l : List UInt8} (h : l.length < 4) : opensB l = false := by unfold opensB; exact decide_eq_false (by omega)
theorem open_short (A : Option Addr) (c : Nat) (l : List UInt8) (w : World) (h4 : l.length < 4) :
   Calls Tryd.prog 39 #[.slice A l.length c] w (OpenP w l) := by
 have ho := Lib.hid (opens_short h4)
 have hd : decide ((l.length : Int) < 4) = true := decide_eq_true (by omega)
 go_enter Tryd.func39, Tryd.ntmps39
 go_wp2_with (fail)
 go_ret2
 exact Or.inr ⟨ho.out, rfl, Below.refl _ _⟩
theorem opens_iff4 (p : List UInt8) (t0 t1 t2 t3 : UInt8) : opensB (p ++ [t0, t1, t2, t3]) = true ↔ t0 = sumByte (crcMore 0 p) 0 ∧ t1 = sumByte (crcMore 0 p) 1 ∧ t2 = sumByte (crcMore 0 p) 2 ∧ t3 = sumByte (crcMore 0 p) 3 := by
 unfold opensB
 have e : (p ++ [t0, t1, t2, t3]).length - 4 = p.length := by simp
 rw [e, List.drop_left' rfl, List.take_left' rfl]
 simp [sumBytes]
set_option maxRecDepth 100000 in
set_option maxHeartbeats 8000000 in
theorem open_long (ad : Addr) (c : Nat) (p : List UInt8) (t0 t1 t2 t3 : UInt8) (w : World) (hrd : Rd w (some ad) (p ++ [t0, t1, t2, t3])) (hc : p.length + 4 ≤ c) (hl : p.length + 4 ≤ 140737488355328) :
   Calls Tryd.prog 39 #[.slice (some ad) (p.length + 4) c] w (OpenP w (p ++ [t0, t1, t2, t3])) := by
 obtain ⟨i0, hi, hz0, hz1, hz2⟩ := info_parts infoU84
 have hs := crcMore_lt 0 p
 have hp : Rd w (some ad) p := by have := hrd.take p.length; rwa [List.take_left' rfl] at this
 have ht : Rd w (some (ad.add p.length)) [t0, t1, t2, t3] := by have := hrd.drop p.length; rwa [List.drop_left' rfl] at this
 have hd : decide (((p.length : Int) + 4) < 4) = false := decide_eq_false (by omega)
 go_enter Tryd.func39, Tryd.ntmps39
 go_wp2_with (fail)
 go_quiet (fail)
 go_wp2_with (go_at_call 85; (with_reducible refine (sum_n _ _ _ p _ (hp.below (below_drewN (Below.refl _ _) _)) (by omega) (by omega)).mono ?_); rintro e w' ⟨rfl, rfl⟩)
 obtain ⟨w1, hw1⟩ : ∃ x, x = w.drewN nq := ⟨_, rfl⟩
 have hb1 : Below w.heap.size w w1 := by rw [hw1]; exact below_drewN (Below.refl _ _) _
 rw [← hw1]
 clear hw1
 replace ht := ht.below hb1
 replace hp := hp.below hb1
 clear hrd hd
 go_loop [27] (fun i => ∃ k : Nat, k ≤ 4 ∧ i = .int .i64 k ∧ Hid ([t0, t1, t2, t3].take k = (sumBytes (crcMore 0 p)).take k)) (fun i => 4 - (intOf i).toNat)
 case atStart => exact ⟨0, by omega, rfl, Lib.hid rfl⟩
 case round =>
   obtain ⟨k, hk, rfl, heq⟩ := hrel
   have hc0 := ht.cell0 (by simp)
   have hc1 := ht.cell (i := 1) (by simp)
   have hc2 := ht.cell (i := 2) (by simp)
   have hc3 := ht.cell (i := 3) (by simp)
   simp only [List.getElem_cons_zero, List.getElem_cons_succ] at hc0 hc1 hc2 hc3
   rw [add_lit _ 1 (by decide)] at hc1
   rw [add_lit _ 2 (by decide)] at hc2
   rw [add_lit _ 3 (by decide)] at hc3
   obtain rfl | rfl | rfl | rfl | rfl : k = 0 ∨ k = 1 ∨ k = 2 ∨ k = 3 ∨ k = 4 := by omega
   · go_wp2_with (fail)
     · have hne := byte_ne (sb0 _) (by assumption)
       go_ret2
       exact Or.inr ⟨by
         cases ho : opensB (p ++ [t0, t1, t2, t3]) with
         | false => rfl
         | true => exact absurd ((opens_iff4 p t0 t1 t2 t3).1 ho).1 hne, rfl, hb1⟩
     · have he := byte_eq (sb0 _) (by assumption)
       go_round
       case rel => exact ⟨1, by omega, rfl, Lib.hid (by have h := heq.out; simp [sumBytes] at h ⊢; simp [h, he])⟩
       case measure => simp [intOf]
   · go_wp2_with (fail)
     · have hne := byte_ne (sb1 _) (by assumption)
       go_ret2
       exact Or.inr ⟨by
         cases ho : opensB (p ++ [t0, t1, t2, t3]) with
         | false => rfl
         | true => exact absurd ((opens_iff4 p t0 t1 t2 t3).1 ho).2.1 hne, rfl, hb1⟩
     · have he := byte_eq (sb1 _) (by assumption)
       go_round
       case rel => exact ⟨2, by omega, rfl, Lib.hid (by have h := heq.out; simp [sumBytes] at h ⊢; simp [h, he])⟩
       case measure => simp [intOf]
   · go_wp2_with (fail)
     · have hne := byte_ne (sb2 _) (by assumption)
       go_ret2
       exact Or.inr ⟨by
         cases ho : opensB (p ++ [t0, t1, t2, t3]) with
         | false => rfl
         | true => exact absurd ((opens_iff4 p t0 t1 t2 t3).1 ho).2.2.1 hne, rfl, hb1⟩
     · have he := byte_eq (sb2 _) (by assumption)
       go_round
       case rel => exact ⟨3, by omega, rfl, Lib.hid (by have h := heq.out; simp [sumBytes] at h ⊢; simp [h, he])⟩
       case measure => simp [intOf]
   · go_wp2_with (fail)
     · have hne := byte_ne (sb3 _ hs) (by assumption)
       go_ret2
       exact Or.inr ⟨by
         cases ho : opensB (p ++ [t0, t1, t2, t3]) with
         | false => rfl
         | true => exact absurd ((opens_iff4 p t0 t1 t2 t3).1 ho).2.2.2 hne, rfl, hb1⟩
     · have he := byte_eq (sb3 _ hs) (by assumption)
       go_round
       case rel => exact ⟨4, by omega, rfl, Lib.hid (by have h := heq.out; simp [sumBytes] at h ⊢; simp [h, he])⟩
       case measure => simp [intOf]
   · have ho : opensB (p ++ [t0, t1, t2, t3]) = true := (opens_iff4 p t0 t1 t2 t3).2 (by have h := heq.out; simpa [sumBytes] using h)
     have HO := Lib.hid ho
     clear ho
     go_wp2_with (at_builtin; refine wpList_append_b rfl (.const (.slice none 0 0)) (.tmp 41) 22 rfl w.heap.size 5 i0 (.int .u8 0) Tryd.underlying22 hi hz0 hz1 hz2 rfl (.slice none 0 0) 0 [] rfl (World.ownsRow_nil _ _ _ _) (some ad) c p rfl hp (fun e => by cases e) (by omega) hb1.size ?_; intro v2 w2 hown2 hg2 hat2)
     simp only [Nat.zero_add, List.nil_append] at hown2
     obtain ⟨A2, c2, rfl, hz3, hr3, _⟩ := own_shape4 hown2
     go_ret2
     refine Or.inl ⟨HO.out, ?_⟩
     have e : (p ++ [t0, t1, t2, t3]).take ((p ++ [t0, t1, t2, t3]).length - 4) = p := by simp
     rw [e]
     exact ⟨A2, c2, rfl, hz3, hr3, hb1.grown hg2 hb1.size (fun k hk => by cases hk), own_len hown2⟩
theorem split4 (l : List UInt8) (h : 4 ≤ l.length) : ∃ p t0 t1 t2 t3, l = p ++ [t0, t1, t2, t3] := by
 have e := (List.take_append_drop (l.length - 4) l).symm
 have hl : (l.drop (l.length - 4)).length = 4 := by simp; omega
 match hd : l.drop (l.length - 4), hl with
 | [t0, t1, t2, t3], _ => exact ⟨_, t0, t1, t2, t3, by rw [hd] at e; exact e⟩
theorem opened_c (A : Option Addr) (c : Nat) (l : List UInt8) (w : World) (hrd : Rd w A l) (hc : l.length ≤ c) (hl : l.length ≤ 140737488355328) :
   Calls Tryd.prog 39 #[.slice A l.length c] w (OpenP w l) := by
 by_cases h4 : l.length < 4
 · exact open_short A c l w h4
 · obtain ⟨p, t0, t1, t2, t3, rfl⟩ := split4 l (by omega)
   obtain ⟨ad, rfl, _⟩ := hrd.at_ (i := 0) (by simp)
   have e : (p ++ [t0, t1, t2, t3]).length = p.length + 4 := by simp
   rw [e] at hc hl ⊢
   exact open_long ad c p t0 t1 t2 t3 w hrd hc hl
theorem opened_n (A : Option Addr) (c n : Nat) (l : List UInt8) (w : World) (hrd : Rd w A l) (hn : n = l.length) (hc : l.length ≤ c) (hl : l.length ≤ 140737488355328) :
   Calls Tryd.prog 39 #[.slice A n c] w (OpenP w l) := by subst hn; exact opened_c A c l w hrd hc hl
theorem sealed_n (A : Option Addr) (c n : Nat) (l : List UInt8) (w : World) (hrd : Rd w A l) (hn : n = l.length) (hcz : A = none → c = 0) (hl : l.length ≤ 140737488355000) :
   Calls Tryd.prog 38 #[.slice A n c] w (SealP w l) := by subst hn; exact sealed_c A c l w hrd hcz hl
theorem seal_length (l : List UInt8) : (sealOf l).length = l.length + 4 := by simp [sealOf, sumBytes]
theorem seal_take (l : List UInt8) : (sealOf l).take ((sealOf l).length - 4) = l := by rw [seal_length]; simp [sealOf]
theorem open_seal (A : Option Addr) (c n : Nat) (l : List UInt8) (w : World) (hrd : Rd w A (sealOf l)) (hn : n = l.length + 4) (hc : l.length + 4 ≤ c) (hl : l.length + 4 ≤ 140737488355328) :
   Calls Tryd.prog 39 #[.slice A n c] w (OkP w l) := by
 refine (opened_n A c n (sealOf l) w hrd (by rw [seal_length]; exact hn) (by rw [seal_length]; exact hc) (by rw [seal_length]; exact hl)).mono ?_
 rintro e w' (⟨_, h⟩ | ⟨h, _⟩)
 · rw [seal_take] at h; exact h
 · exact absurd h (by rw [opens_seal]; decide)
theorem own_cap {w : World} {base g n cap : Nat} {xs : List Value} (h : w.ownsRow base 5 1 (.slice (some ⟨g, 0, none⟩) n cap) n xs) : n ≤ cap ∧ base ≤ g ∧ g < w.heap.size := by
 have hl := h.lt g rfl
 rcases h.2 with ⟨hv, _⟩ | ⟨g', cap', cur, hv, _, _, hc, _⟩
 · cases hv
 · injection hv with _ _ e; subst e; exact ⟨hc, hl.1, hl.2⟩
end Go.Proofs.YtikfgnmljpjnbaaDoor
