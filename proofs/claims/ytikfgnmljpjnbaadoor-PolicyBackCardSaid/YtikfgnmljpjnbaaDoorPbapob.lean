/-
 Layer 6: what was sealed is opened, by its kind alone; cut short, longer, or with a bit turned it is not.
-/
import Derived.Test.YtikfgnmljpjnbaaDoorZ6bpob
import Derived.Test.YtikfgnmljpjnbaaDoorNumpob
import Derived.Test.YtikfgnmljpjnbaaDoorW04xpob
import Derived.Test.YtikfgnmljpjnbaaDoorW05gpob
import Derived.Lib.SlBytesConst
namespace Go.Proofs.YtikfgnmljpjnbaaDoor
open Go.RowKit Go.Extern.Stop Go.Stop Go.Extern
set_option linter.unusedVariables false
set_option linter.unusedSimpArgs false
theorem known_pl (k : Int) (w : World) (h0 : 1 ≤ k) (h1 : k ≤ 6) :
   Calls Tryd.prog 36 #[.int .u8 k] w fun e w' => e = .returned (.bool true) ∧ w = w' := by
 go_enter Tryd.func36, Tryd.ntmps36
 go_wp2_with (fail)
 go_ret
 exact ⟨rfl, rfl⟩
theorem Rd.pre (w : World) (l : List UInt8) (cs : Array Value) (T : TypeId) (fr : Nat × Nat) (hcs : cs.toList.take l.length = bv l) : Rd (w.alloc (.cells cs T fr)) (some ⟨w.heap.size, 0, none⟩) l := by
 refine ⟨(fun e => by cases e), fun i hi => ⟨_, rfl, ?_, ?_⟩⟩
 · rw [add_block]; simp
 · have ha : (⟨w.heap.size, 0, none⟩ : Addr).add i = ⟨w.heap.size, i, none⟩ := by
     unfold Addr.add; split
     · rename_i h; rw [h]
     · simp
   rw [ha, Sy.cell_row (heap_alloc_new w _), ← Array.getElem?_toList]
   have h2 := congrArg (fun z => z[i]?) hcs
   simp only [List.getElem?_take, if_pos hi] at h2
   rw [h2, bv_get, List.getElem?_eq_getElem hi]
   rfl
theorem own_base {w : World} {b b' : Nat} {e : TypeId} {size : Nat} {v : Value} {n : Nat} {xs : List Value} (h : w.ownsRow b e size v n xs) (hle : b' ≤ b) : w.ownsRow b' e size v n xs :=
 ⟨h.1, h.2.imp id fun ⟨g, cap, cur, hv, hb, hr⟩ => ⟨g, cap, cur, hv, Nat.le_trans hle hb, hr⟩⟩
def blobOf (k : Int) (l : List UInt8) : List UInt8 := sealOf ([116, 109, UInt8.ofNat k.toNat] ++ leB l.length 2 ++ l)
set_option maxRecDepth 100000 in
set_option maxHeartbeats 4000000 in
theorem seal_pl (A : Option Addr) (c : Nat) (l : List UInt8) (k : Int) (w : World) (hrd : Rd w A l) (hcz : A = none → c = 0) (hl : l.length ≤ 1024) (h0 : 1 ≤ k) (h1 : k ≤ 6) :
   Calls Tryd.prog 9 #[.int .u8 k, .slice A l.length c] w fun e w' => ∃ g cap, e = .returned (.tuple #[.slice (some ⟨g, 0, none⟩) (l.length + 9) cap, .nilIface]) ∧ w'.ownsRow w.heap.size 5 1 (.slice (some ⟨g, 0, none⟩) (l.length + 9) cap) (l.length + 9) (bv (blobOf k l)) ∧ Below w.heap.size w w' := by
 obtain ⟨i0, hi, hz0, hz1, hz2⟩ := info_parts infoU8
 have kc := fun (w : World) (C : Array Value) (n c : Nat) => Lib.run_convert_bytes_const (P := Tryd.prog) w 22 5 C n c Tryd.underlying22 Tryd.underlying5
 have c0 : (w.alloc (.cells #[.int .u8 116, .int .u8 109] 5 (2, 3))).cell? ⟨w.heap.size, 0, none⟩ = some (.int .u8 116) := by
   rw [Sy.cell_row (heap_alloc_new w _)]; rfl
 have c1 : (w.alloc (.cells #[.int .u8 116, .int .u8 109] 5 (2, 3))).cell? ⟨w.heap.size, 1, none⟩ = some (.int .u8 109) := by
   rw [Sy.cell_row (heap_alloc_new w _)]; rfl
 go_enter Tryd.func9, Tryd.ntmps9
 go_wp2_with (go_at_call 36; (with_reducible refine (known_pl k _ h0 h1).mono ?_); rintro e w' ⟨rfl, rfl⟩)
 have hR : Rd (((w.alloc (.cells #[.int .u8 116, .int .u8 109] 5 (2, 3))).alloc (.cells #[.int .u8 k] 5)).alloc (.cells (#[.int .u8 116, .int .u8 109, .int .u8 k] ++ Builtin.zeroCells #[.int .u8 0] ((Question.appendCap 3 2 5).cut (w.tape w.drawn (Question.appendCap 3 2 5)) - 3)) 5)).drew (some ⟨w.heap.size + 1 + 1, 0, none⟩) [116, 109, UInt8.ofNat k.toNat] := by
   have := Rd.pre ((w.alloc (.cells #[.int .u8 116, .int .u8 109] 5 (2, 3))).alloc (.cells #[.int .u8 k] 5)) [116, 109, UInt8.ofNat k.toNat] (#[.int .u8 116, .int .u8 109, .int .u8 k] ++ Builtin.zeroCells #[.int .u8 0] ((Question.appendCap 3 2 5).cut (w.tape w.drawn (Question.appendCap 3 2 5)) - 3)) 5 (0, 0) (by
     rw [Array.toList_append]
     show [Value.int .u8 116, .int .u8 109, .int .u8 k] = [_, _, bV (UInt8.ofNat k.toNat)]
     rw [bV_of (by omega) (by omega)]
     rfl)
   rw [show (((w.alloc (.cells #[.int .u8 116, .int .u8 109] 5 (2, 3))).alloc (.cells #[.int .u8 k] 5))).heap.size = w.heap.size + 1 + 1 by simp] at this
   exact this.below (Below.refl _ _).drew
 have hbA : Below w.heap.size w (((w.alloc (.cells #[.int .u8 116, .int .u8 109] 5 (2, 3))).alloc (.cells #[.int .u8 k] 5)).alloc (.cells (#[.int .u8 116, .int .u8 109, .int .u8 k] ++ Builtin.zeroCells #[.int .u8 0] ((Question.appendCap 3 2 5).cut (w.tape w.drawn (Question.appendCap 3 2 5)) - 3)) 5)).drew := by
   refine Below.drew ?_
   repeat (first | exact Below.refl _ _ | refine Below.alloc ?_ (by simp; try omega) _)
 generalize (((w.alloc (.cells #[.int .u8 116, .int .u8 109] 5 (2, 3))).alloc (.cells #[.int .u8 k] 5)).alloc (.cells (#[.int .u8 116, .int .u8 109, .int .u8 k] ++ Builtin.zeroCells #[.int .u8 0] ((Question.appendCap 3 2 5).cut (w.tape w.drawn (Question.appendCap 3 2 5)) - 3)) 5)).drew = W3 at hR hbA ⊢
 (with_reducible refine (put2_n _ _ _ [116, 109, UInt8.ofNat k.toNat] _ _ _ (by exact hR) (fun e => by cases e) (by simp) (by simp) (by omega) (by omega) rfl).mono ?_)
 rintro e w1 ⟨v1, rfl, hown1, HB1⟩
 have hb1 : Below w.heap.size w w1 := hbA.trans (HB1.mono hbA.size)
 clear kc c0 c1 hR
 obtain ⟨m, hm⟩ : ∃ m, m = [116, 109, UInt8.ofNat k.toNat] ++ leB ((l.length : Int)).toNat 2 := ⟨_, rfl⟩
 rw [← hm] at hown1
 have hml : m.length = 5 := by rw [hm]; simp [leB_length]
 go_wp2_with (at_builtin; refine wpList_append_b rfl (.tmp 24) (.tmp 25) 22 rfl W3.heap.size 5 i0 (.int .u8 0) Tryd.underlying22 hi hz0 hz1 hz2 rfl v1 m.length (bv m) rfl hown1 A c l rfl (hrd.below hb1) hcz (by omega) (HB1.size) ?_; intro v2 w2 hown2 hg2 hat2; have hb2 := hb1.grown hg2 hb1.size (fun k hk => Nat.le_trans hbA.size (hown1.lt k hk).1); rw [← bv_append] at hown2; obtain ⟨A2, c2, rfl, hz2', hr2, _⟩ := own_shape hown2)
 (with_reducible refine (sealed_n _ _ _ (m ++ l) _ (by exact hr2) (by rw [hm]; simp) (by exact hz2') (by rw [List.length_append, hml]; omega)).mono ?_)
 rintro e w3 ⟨g3, cap3, rfl, hown3, HB3⟩
 go_wp2_with (fail)
 go_ret2
 have hlen : (m ++ l).length + 4 = l.length + 9 := by rw [List.length_append, hml]; omega
 have hbl : blobOf k l = sealOf (m ++ l) := by rw [hm, Int.toNat_natCast]; rfl
 rw [hlen] at hown3
 rw [hbl]
 have hn : (leB l.length 2).length + l.length + 1 + 1 + 1 + 4 = l.length + 9 := by rw [leB_length]; omega
 exact ⟨g3, cap3, by
   show Ending.returned (.tuple #[.slice (some ⟨g3, 0, none⟩) ((leB l.length 2).length + l.length + 1 + 1 + 1 + 4) cap3, .nilIface]) = _
   rw [hn], own_base hown3 hb2.size, hb2.trans (HB3.mono hb2.size)⟩
end Go.Proofs.YtikfgnmljpjnbaaDoor
