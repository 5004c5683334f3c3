/-
 Layer 5: a reader of fields, told by its cells.
-/
import Derived.Test.YtikfgnmljpjnbaaDoorW05fpob
namespace Go.Proofs.YtikfgnmljpjnbaaDoor
open Go.RowKit Go.Extern.Stop Go.Stop Go.Extern
set_option linter.unusedVariables false
set_option linter.unusedSimpArgs false
open Go.Shelf
attribute [local go_sem] Oper.semAt_some
structure RdgA (w : World) (g : Nat) (l : List UInt8) (sh : Bool) (A : Option Addr) (c : Nat) : Prop where
 c0 : w.cell? ⟨g, 0, none⟩ = some (.slice A l.length c)
 c1 : w.cell? ⟨g, 1, none⟩ = some (.bool sh)
 f0 : w.frozen? ⟨g, 0, none⟩ = false
 f1 : w.frozen? ⟨g, 1, none⟩ = false
 lt : g < w.heap.size
 nil : A = none → c = 0
 len : l.length ≤ c
 rd : Rd w A l
 off : l ≠ [] → ∀ ad, A = some ad → ad.block ≠ g
def Rdg (w : World) (g : Nat) (l : List UInt8) (sh : Bool) : Prop := ∃ A c, RdgA w g l sh A c
theorem Rdg.lt {w : World} {g : Nat} {l : List UInt8} {sh : Bool} (h : Rdg w g l sh) : g < w.heap.size := by
 obtain ⟨A, c, h⟩ := h
 exact h.lt
theorem rd_lt {w : World} {A : Option Addr} {l : List UInt8} (h : Rd w A l) (hl : l ≠ []) : ∀ ad, A = some ad → ad.block < w.heap.size := fun ad e => by
 have h0 : 0 < l.length := List.length_pos_iff.2 hl
 obtain ⟨ad', e', hb, _⟩ := h.2 0 h0
 rw [e] at e'
 obtain rfl := Option.some.inj e'
 rwa [add_block] at hb
theorem rd_empty (w : World) (A : Option Addr) : Rd w A [] := ⟨fun _ => rfl, fun i hi => absurd hi (Nat.not_lt_zero i)⟩
theorem rd_grown {w w' : World} {g : Nat} {A : Option Addr} {l : List UInt8} (h : Rd w A l) (hg : w.grownBy w' (some g)) (ho : l ≠ [] → ∀ ad, A = some ad → ad.block ≠ g) : Rd w' A l := by
 by_cases hl : l = []
 · subst hl; exact rd_empty _ _
 · exact h.grown hg (fun ad e => by have := ho hl ad e; intro e2; injection e2 with e2; exact this e2)
theorem set_c0 {w : World} {g : Nat} {v : Value} (u : Value) (h : w.cell? ⟨g, 0, none⟩ = some v) : (w.setCell ⟨g, 0, none⟩ u).cell? ⟨g, 0, none⟩ = some u := World.cell?_setCell_same' _ _ _ (by rw [h]; rfl)
def RdgB (B : Nat) (Q : Nat → Nat → Prop) (w : World) (g : Nat) (l : List UInt8) (sh : Bool) : Prop := ∃ A c, RdgA w g l sh A c ∧ (l ≠ [] → ∀ ad, A = some ad → ad.block < B) ∧ ∀ i, i < l.length → ∀ ad, A = some ad → Q ad.block (ad.off + i)
theorem RdgB.rdg {B : Nat} {Q : Nat → Nat → Prop} {w : World} {g : Nat} {l : List UInt8} {sh : Bool} (h : RdgB B Q w g l sh) : Rdg w g l sh := by
 obtain ⟨A, c, h, _⟩ := h
 exact ⟨A, c, h⟩
theorem add_off (a : Addr) (k : Nat) : (a.add k).off = a.off + k := by
 unfold Addr.add
 split
 · rename_i h; subst h; rfl
 · rfl
def TakeG (B : Nat) (Q : Nat → Nat → Prop) (w : World) (g : Nat) (l : List UInt8) (sh : Bool) (k : Nat) (e : Ending) (w' : World) : Prop :=
 ∃ A c, e = .returned (.slice A k c) ∧ Rd w' A (l.take k) ∧ (A = none → c = 0) ∧ k ≤ c ∧ (l.take k ≠ [] → ∀ ad, A = some ad → ad.block ≠ g ∧ ad.block < B) ∧ RdgB B Q w' g (l.drop k) sh ∧ w.grownBy w' (some g)
theorem take_shortG (w : World) (g k : Nat) (l : List UInt8) (sh : Bool) (h : Rdg w g l sh) (hk : l.length < k) (hk2 : k ≤ 140737488355328) :
   Calls Tryd.prog 115 #[.pointer (some ⟨g, 0, none⟩), .int .i64 k] w fun e w' => e = .returned (.slice none 0 0) ∧ Rdg w' g [] true ∧ w.grownBy w' (some g) := by
 obtain ⟨A, c, h⟩ := h
 have hc0 := h.c0
 have hc1 := h.c1
 have hf0 := h.f0
 have hf1 := h.f1
 go_enter Tryd.func115, Tryd.ntmps115
 go_wp2_with (fail)
 go_ret
 refine ⟨rfl, ⟨none, 0, ⟨?_, ?_, ?_, ?_, ?_, fun _ => rfl, Nat.zero_le _, rd_empty _ _, fun hn => absurd rfl hn⟩⟩, gb_trans (gb_set _ _ _ _) (gb_set _ _ _ _)⟩
 · rw [World.cell?_setCell_other _ _ _ _ (by simp)]; exact set_c0 _ hc0
 · exact World.cell?_setCell_same' _ _ _ (by rw [World.cell?_setCell_other _ _ _ _ (by simp), hc1]; rfl)
 · rw [World.frozen?_setCell, World.frozen?_setCell]; exact hf0
 · rw [World.frozen?_setCell, World.frozen?_setCell]; exact hf1
 · simpa using h.lt
set_option maxRecDepth 100000 in
theorem take_okG (B : Nat) (Q : Nat → Nat → Prop) (w : World) (g k : Nat) (l : List UInt8) (sh : Bool) (h : RdgB B Q w g l sh) (hk : k ≤ l.length) (hl : l.length ≤ 140737488355328) :
   Calls Tryd.prog 115 #[.pointer (some ⟨g, 0, none⟩), .int .i64 k] w (TakeG B Q w g l sh k) := by
 obtain ⟨A, c, h, hB, hQ⟩ := h
 have hc0 := h.c0
 have hf0 := h.f0
 have h2 := h.len
 have fin : ∀ (u : Value) (A' : Option Addr) (c' : Nat), u = .slice A' (l.length - k) c' → (A' = none → c' = 0) → l.length - k ≤ c' → Rd w A' (l.drop k) → (l.drop k ≠ [] → ∀ ad, A' = some ad → ad.block ≠ g) → (l.drop k ≠ [] → ∀ ad, A' = some ad → ad.block < B) → (∀ i, i < (l.drop k).length → ∀ ad, A' = some ad → Q ad.block (ad.off + i)) → RdgB B Q (w.setCell ⟨g, 0, none⟩ u) g (l.drop k) sh := fun u A' c' hu g1 g2 g3 g4 g5 g6 =>
   ⟨A', c', ⟨by rw [set_c0 _ hc0, hu, List.length_drop], by rw [World.cell?_setCell_other _ _ _ _ (by simp)]; exact h.c1, by rw [World.frozen?_setCell]; exact h.f0, by rw [World.frozen?_setCell]; exact h.f1, by simpa using h.lt, g1, by rw [List.length_drop]; exact g2, rd_grown g3 (gb_set _ _ _ _) g4, g4⟩, g5, g6⟩
 have hr : ∀ u, Rd (w.setCell ⟨g, 0, none⟩ u) A l := fun u => rd_grown h.rd (gb_set _ _ _ _) h.off
 have hoff : l.take k ≠ [] → ∀ ad, A = some ad → ad.block ≠ g ∧ ad.block < B := fun hn ad e => by
   have hl0 : l ≠ [] := fun e => hn (by rw [e, List.take_nil])
   exact ⟨h.off hl0 ad e, hB hl0 ad e⟩
 have hoff2 : l.drop k ≠ [] → ∀ ad, A = some ad → ad.block ≠ g := fun hn ad e => h.off (fun e => hn (by rw [e, List.drop_nil])) ad e
 have hoff3 : l.drop k ≠ [] → ∀ ad, A = some ad → ad.block < B := fun hn ad e => hB (fun e => hn (by rw [e, List.drop_nil])) ad e
 rcases A with _ | ad
 · obtain rfl := h.rd.1 rfl
   obtain rfl := h.nil rfl
   obtain rfl : k = 0 := by simpa using hk
   go_enter Tryd.func115, Tryd.ntmps115
   go_wp2_with (fail)
   go_ret
   exact ⟨none, 0, rfl, rd_empty _ _, fun _ => rfl, Nat.le_refl _, hoff, fin _ none 0 rfl (fun _ => rfl) (Nat.le_refl _) (rd_empty _ _) hoff2 hoff3 (fun i hi ad e => by cases e), gb_set _ _ _ _⟩
 · by_cases hck : c = k
   · subst hck
     obtain rfl : c = l.length := by omega
     go_enter Tryd.func115, Tryd.ntmps115
     go_wp2_with (fail)
     go_ret
     refine ⟨some ad, l.length, rfl, (hr _).take _, (fun e => by cases e), Nat.le_refl _, hoff, fin _ (some ad) 0 (by simp) (fun e => by cases e) (by omega) ?_ hoff2 hoff3 (fun i hi => by rw [List.drop_length] at hi; exact absurd hi (Nat.not_lt_zero i)), gb_set _ _ _ _⟩
     rw [List.drop_length]; exact rd_empty _ _
   · go_enter Tryd.func115, Tryd.ntmps115
     go_wp2_with (fail)
     go_ret
     exact ⟨some ad, c, rfl, (hr _).take k, (fun e => by cases e), by omega, hoff, fin _ (some (ad.add k)) (c - k) rfl (fun e => by cases e) (by omega) (h.rd.drop k) (fun hn a e => by
       injection e with e
       subst e
       rw [add_block]; exact hoff2 hn ad rfl) (fun hn a e => by
       injection e with e
       subst e
       rw [add_block]; exact hoff3 hn ad rfl) (fun i hi a e => by
       injection e with e
       subst e
       rw [add_block, add_off, Nat.add_assoc]
       rw [List.length_drop] at hi
       exact hQ (k + i) (by omega) ad rfl), gb_set _ _ _ _⟩
set_option maxRecDepth 100000 in
set_option maxHeartbeats 4000000 in
theorem back1_inG (F : Fence) (n : Nat) (h7 : F.fn 123) (hro : F.round = none) (hn : 1 ≤ n) (l Bs N b : Nat) (A : Option Addr) (c : Nat) (bs : List UInt8) (hlen : bs.length ≤ 140737488355328)
   (hBs1 : Bs < N) (hBs2 : Bs ≠ b) (hA : bs ≠ [] → ∀ ad, A = some ad → ad.block < N ∧ ad.block ≠ b) (J Jx : List UInt8 → World → Prop)
   (hY : ∀ pre x W, J pre W → pre.length < bs.length → YieldAt F (n - 1) Tryd.prog l #[bV x] W fun e W' =>
     (e = .returned (.bool true) ∧ J (pre ++ [x]) W' ∧ Kept N b W W') ∨ (e = .returned (.bool false) ∧ Jx (pre ++ [x]) W'))
   (W : World) (hBs : W.cell? ⟨Bs, 0, none⟩ = some (.slice A bs.length c)) (hR : Rd W A bs) (h0 : J [] W) :
   CallsIn F n Tryd.prog 123 #[.func (.yield l) #[] #[], .pointer (some ⟨Bs, 0, none⟩)] W fun e W' => (∃ v, e = .returned v) ∧
     ((∃ ys, ys = bs.reverse ∧ J ys W') ∨ (∃ pre, pre <+: bs.reverse ∧ Jx pre W')) := by
 refine callsIn_of_wp Tryd.func123 rfl h7 ?_ hro
 simp only [Tryd.ntmps123, List.size_toArray, List.length_cons, List.length_nil, Nat.reduceAdd, Nat.reduceSub, Array.replicate_succ, Array.replicate_zero, List.push_toArray, List.append_toArray, List.nil_append, List.cons_append]
 gi_wp2
 gi_loopw [3] (fun i wr => ∃ j : Nat, j ≤ bs.length ∧ i = .int .i64 ((j : Int) - 1) ∧ J (bs.reverse.take (bs.length - j)) wr ∧ Kept N b W wr) (fun i _ => (intOf i + 1).toNat)
 case atStart => exact ⟨bs.length, Nat.le_refl _, rfl, by simpa using h0, Kept.refl _ _ _⟩
 case round =>
   obtain ⟨j, hj, rfl, hJs, hnx⟩ := hrel
   have hcb : wr.cell? ⟨Bs, 0, none⟩ = some (.slice A bs.length c) := (hnx.cell (p := ⟨Bs, 0, none⟩) hBs1 hBs2).trans hBs
   rcases j with _ | m
   · simp only [Int.natCast_zero, Int.zero_sub]
     gi_wp2
     go_end0
     exact ⟨⟨_, rfl⟩, .inl ⟨_, by rw [Nat.sub_zero]; exact List.take_of_length_le (by simp), hJs⟩⟩
   · have hm : m < bs.length := by omega
     rw [show ((m + 1 : Nat) : Int) - 1 = (m : Int) by omega]
     obtain ⟨ad, rfl, _⟩ := hR.at_ hm
     obtain ⟨ha1, ha2⟩ := hA (List.length_pos_iff.1 (by omega)) ad rfl
     have hcx : wr.cell? (ad.add m) = some (.int .u8 (bs[m].toNat : Int)) := (hnx.cell (p := ad.add m) (by rw [add_block]; exact ha1) (by rw [add_block]; exact ha2)).trans (hR.cell hm)
     obtain ⟨fn, tmps, assign, body, hy, hRd⟩ := hY _ bs[m] wr hJs (by simp; omega)
     have hsnoc : bs.reverse.take (bs.length - m) = bs.reverse.take (bs.length - (m + 1)) ++ [bs[m]] := by
       have h1 : bs.length - m = (bs.length - (m + 1)) + 1 := by omega
       have h2 : bs.length - (m + 1) < bs.reverse.length := by simp; omega
       rw [h1, List.take_succ_eq_append_getElem h2]
       congr 2
       simp only [List.getElem_reverse]
       congr 1
       omega
     have HS := Lib.hid hsnoc
     clear hsnoc
     gi_wp2
     refine hRd.mono ?_
     rintro e W3 (⟨rfl, hJ3, hk3⟩ | ⟨rfl, hJx3⟩)
     · gi_wp2
       go_roundw
       case rel => exact ⟨m, by omega, rfl, by rw [HS.out]; exact hJ3, hnx.trans hk3⟩
       case measure => simp [intOf]
     · gi_wp2
       refine bodyPost_ret (results_none rfl _ _ _) rfl ?_
       exact ⟨⟨_, rfl⟩, .inr ⟨_, by rw [← HS.out]; exact List.take_prefix _ _, hJx3⟩⟩
theorem back_stopsG (F : Fence) (n : Nat) (h7 : F.fn 123) (hro : F.round = none) (hn : 1 ≤ n) (Bs N b : Nat) (A : Option Addr) (c : Nat) (bs : List UInt8) (hlen : bs.length ≤ 140737488355328) (w : World)
   (hN : N ≤ w.heap.size) (hBs1 : Bs < N) (hBs2 : Bs ≠ b) (hA : bs ≠ [] → ∀ ad, A = some ad → ad.block < N ∧ ad.block ≠ b) (hBs : w.cell? ⟨Bs, 0, none⟩ = some (.slice A bs.length c)) (hR : Rd w A bs) :
   SeqStopsK F n Tryd.prog 123 #[.pointer (some ⟨Bs, 0, none⟩)] (fun x : UInt8 => #[bV x]) (Kept N b) (fun ys => ys = bs.reverse) (fun pre => pre <+: bs.reverse) bs.length w := fun l J Jx W hW _ _ hY h0 =>
 back1_inG F n h7 hro hn l Bs N b A c bs hlen hBs1 hBs2 hA J Jx hY W ((hW.cell (p := ⟨Bs, 0, none⟩) (Nat.lt_of_lt_of_le hBs1 hN)).trans hBs) (hR.below hW) h0
set_option maxRecDepth 100000 in
set_option maxHeartbeats 4000000 in
theorem valWG (F : Fence) (n : Nat) (hF : F = Fence.wide) (hn : 3 ≤ n) (p : Value) (z : Int) (bs : List UInt8) (hbs : bs.length ≤ 8) (w : World) (Qt : World → Prop)
   (hT : Calls Tryd.prog 115 #[p, .int .i64 z] (w.alloc (.cells #[.int .u64 0] 118)) fun e w1 => ∃ A c, e = .returned (.slice A bs.length c) ∧ Rd w1 A bs ∧ (bs ≠ [] → ∀ ad, A = some ad → ad.block < w.heap.size) ∧
     w.heap.size < w1.heap.size ∧ w1.heap[w.heap.size]? = some (.cells #[.int .u64 0] 118 (0, 0)) ∧ Qt w1) :
   CallsIn F n Tryd.prog 92 #[p, .int .i64 z] w fun e w' => e = .returned (.int .u64 (leV bs : Nat)) ∧ ∃ w1, Qt w1 ∧ w.heap.size < w1.heap.size ∧ Kept w1.heap.size w.heap.size w1 w' := by
 have h1 : 1 ≤ n := by omega
 subst hF
 refine callsIn_of_wp_marks Tryd.func92 rfl trivial ?_ rfl
 simp only [Tryd.ntmps92, List.size_toArray, List.length_cons, List.length_nil, Nat.reduceAdd, Nat.reduceSub, Array.replicate_succ, Array.replicate_zero, List.push_toArray, List.append_toArray, List.nil_append, List.cons_append]
 gi_wp2_with (first | (refine ⟨trivial, ?_⟩; gi_at_call 115; refine (callsIn_wide.2 hT).mono ?_; rintro e w1 ⟨A, c, rfl, hR, hA, hz1, hv, hQt⟩; have HV := Lib.hid hv; clear hv) | (refine ⟨trivial, ?_⟩; gi_at_call 114; refine (callsIn_wide.2 (backward_c _ _ _ _)).mono ?_; rintro e w' ⟨rfl, rfl⟩))
 have hv := HV.out
 have hA' : bs ≠ [] → ∀ ad, A = some ad → ad.block < w1.heap.size + 1 ∧ ad.block ≠ w.heap.size := fun hn ad e => by have := hA hn ad e; omega
 have hcv := cell_of_row (w1.alloc (.cells #[.slice A bs.length c] 22)) w.heap.size 0 _ _ _ ((Below.heap_alloc w1 _ w.heap.size hz1).trans hv)
 have hfv := row_freed ((Below.heap_alloc w1 (.cells #[.slice A bs.length c] 22) w.heap.size hz1).trans hv) 0
 have hRb : Rd (w1.alloc (.cells #[.slice A bs.length c] 22)) A bs := hR.below ((Below.refl _ _).alloc (Nat.le_refl _) _)
 refine wpIn_rangeFunc_ownG rfl h1 (gf := 123) (lb := #[.pointer (some ⟨w1.heap.size, 0, none⟩)]) rfl trivial (enters_of Tryd.func123 (by kernel_rfl) rfl)
   (back_stopsG Fence.wide (n - 1) trivial rfl (by omega) w1.heap.size (w1.heap.size + 1) w.heap.size A c bs (by omega) _ (by simp) (by omega) (by omega) hA' (by simp) hRb) (fun h k => h.trans k) (Kept.obj (by simp)) (Below.refl _ _) (fun _ => rfl)
   (fun pre W => (W.cell? ⟨w.heap.size, 0, none⟩ = some (.int .u64 (beV pre : Nat)) ∧ W.frozen? ⟨w.heap.size, 0, none⟩ = false) ∧ Kept (w1.heap.size + 1) w.heap.size (w1.alloc (.cells #[.slice A bs.length c] 22)) W)
   (fun _ _ _ => False)
   (OwnFrom.and (Own.from (fun s A B row hs hg hr => ⟨cell_kept hs.1 hg hr, (frozen_kept hs.1 hg hr).trans hs.2⟩) _) (Kept.own (by simp) (by simp)))
   (fun _ _ _ _ _ hs _ _ => hs)
   ⟨⟨by rw [hcv]; rfl, hfv⟩, Kept.refl _ _ _⟩
   (fun x => { tmps := #[p, .int .i64 z, undef, undef, .int .u64 0, .pointer (some ⟨w.heap.size, 0, none⟩), bV x, p, .int .i64 z, .slice A bs.length c, .func (.func 123) #[] #[.pointer (some ⟨w1.heap.size, 0, none⟩)], bV x, undef, undef, undef, undef, undef, undef], defers := [] }) ?assign ?body ?done ?stop
 case assign =>
   intro l x W K hK
   gi_wp2
   exact hK
 case body =>
   rintro l pre x W ⟨⟨hc, hf⟩, hK⟩ hlen
   have hb : beV pre < 72057594037927936 := by
     have h1 := beV_lt pre
     have h2 : 256 ^ pre.length ≤ 256 ^ 7 := Nat.pow_le_pow_right (by decide) (by omega)
     have h3 : 256 ^ 7 = 72057594037927936 := by decide
     omega
   have HS := Lib.hid (beV_snoc pre x)
   have HO := shl_or (beV pre) x hb
   have hwr : IntKind.u64.wrap (x.toNat : Int) = (x.toNat : Int) := by
     have hx := x.toNat_lt
     rw [u64of_wrap]; unfold u64of; omega
   generalize beV pre = v at *
   gi_wp2
   refine ⟨(KeepsOthers.setCell _ _ _).from _, Kept.set _ _ _ _, ⟨?_, by rw [World.frozen?_setCell]; exact hf⟩, hK.trans (Kept.set _ _ _ _)⟩
   rw [HS.out]
   exact World.cell?_setCell_same' _ _ _ (by rw [hc]; rfl)
 case done =>
   rintro D ys W hD rfl ⟨⟨hc, _⟩, hK⟩ hKD
   gi_wp2
   refine ⟨by simp, .inl ⟨_, _, rfl, run_takeDeferred hKD, ?_⟩⟩
   refine ⟨_, results_tmp rfl _ _ _, rfl, w1, hQt, hz1, ?_⟩
   have k1 : Kept w1.heap.size w.heap.size w1 (w1.alloc (.cells #[.slice A bs.length c] 22)) := ⟨rfl, rfl, rfl, by simp, fun k hk _ => Below.heap_alloc _ _ k hk⟩
   have k2 : Kept w1.heap.size w.heap.size (w1.alloc (.cells #[.slice A bs.length c] 22)) W := ⟨hK.os, hK.tape, hK.output, hK.size, fun k hk hn => hK.block k (by omega) hn⟩
   exact k1.trans (k2.trans (Kept.obj (w := w1) (Nat.le_refl _) W D _ _ (by simp at hD; omega) hKD rfl rfl))
 case stop =>
   rintro D c pre W _ _ h _
   exact h.elim
theorem frozen_of_block {w w' : World} {p : Addr} (h : w'.heap[p.block]? = w.heap[p.block]?) : w'.frozen? p = w.frozen? p := by unfold World.frozen?; rw [h]
theorem rdg_alloc {w : World} {g : Nat} {l : List UInt8} {sh : Bool} (h : Rdg w g l sh) (o : Obj) : Rdg (w.alloc o) g l sh := by
 obtain ⟨A, c, h⟩ := h
 have hb := Below.heap_alloc w o g h.lt
 have b0 : (w.alloc o).cell? ⟨g, 0, none⟩ = w.cell? ⟨g, 0, none⟩ := World.cell?_of_block hb
 have b1 : (w.alloc o).cell? ⟨g, 1, none⟩ = w.cell? ⟨g, 1, none⟩ := World.cell?_of_block hb
 have b2 : (w.alloc o).frozen? ⟨g, 0, none⟩ = w.frozen? ⟨g, 0, none⟩ := frozen_of_block hb
 have b3 : (w.alloc o).frozen? ⟨g, 1, none⟩ = w.frozen? ⟨g, 1, none⟩ := frozen_of_block hb
 exact ⟨A, c, ⟨b0.trans h.c0, b1.trans h.c1, b2.trans h.f0, b3.trans h.f1, by have := h.lt; simp; omega, h.nil, h.len, h.rd.below ((Below.refl _ _).alloc (Nat.le_refl _) _), h.off⟩⟩
theorem rdg_kept {w1 w' : World} {B g N b : Nat} {Q : Nat → Nat → Prop} {l : List UInt8} {sh : Bool} (h : RdgB B Q w1 g l sh) (hK : Kept N b w1 w') (hg : g < b) (hN : b < N) (hs : N ≤ w1.heap.size) (hB : B ≤ b) : RdgB B Q w' g l sh := by
 obtain ⟨A, c, h, hb, hq⟩ := h
 have hgb := hK.block g (by omega) (by omega)
 have b0 : w'.cell? ⟨g, 0, none⟩ = w1.cell? ⟨g, 0, none⟩ := World.cell?_of_block hgb
 have b1 : w'.cell? ⟨g, 1, none⟩ = w1.cell? ⟨g, 1, none⟩ := World.cell?_of_block hgb
 have b2 : w'.frozen? ⟨g, 0, none⟩ = w1.frozen? ⟨g, 0, none⟩ := frozen_of_block hgb
 have b3 : w'.frozen? ⟨g, 1, none⟩ = w1.frozen? ⟨g, 1, none⟩ := frozen_of_block hgb
 refine ⟨A, c, ⟨b0.trans h.c0, b1.trans h.c1, b2.trans h.f0, b3.trans h.f1, by have := h.lt; have := hK.size; omega, h.nil, h.len, ⟨h.rd.1, fun i hi => ?_⟩, h.off⟩, hb, hq⟩
 obtain ⟨ad, e, ha, hc⟩ := h.rd.2 i hi
 have hx := hb (fun e => by rw [e] at hi; exact absurd hi (Nat.not_lt_zero i)) ad e
 exact ⟨ad, e, Nat.lt_of_lt_of_le ha hK.size, (hK.cell (p := ad.add i) (by rw [add_block]; omega) (by rw [add_block]; omega)).trans hc⟩
def ValG (Q : Nat → Nat → Prop) (w : World) (g v : Nat) (l : List UInt8) (sh : Bool) (e : Ending) (w' : World) : Prop := e = .returned (.int .u64 (v : Int)) ∧ RdgB w.heap.size Q w' g l sh ∧ w.grownBy w' (some g)
theorem rdgB_alloc {B : Nat} {Q : Nat → Nat → Prop} {w : World} {g : Nat} {l : List UInt8} {sh : Bool} (h : RdgB B Q w g l sh) (o : Obj) : RdgB B Q (w.alloc o) g l sh := by
 obtain ⟨A, c, h, hB, hQ⟩ := h
 have hb := Below.heap_alloc w o g h.lt
 have b0 : (w.alloc o).cell? ⟨g, 0, none⟩ = w.cell? ⟨g, 0, none⟩ := World.cell?_of_block hb
 have b1 : (w.alloc o).cell? ⟨g, 1, none⟩ = w.cell? ⟨g, 1, none⟩ := World.cell?_of_block hb
 have b2 : (w.alloc o).frozen? ⟨g, 0, none⟩ = w.frozen? ⟨g, 0, none⟩ := frozen_of_block hb
 have b3 : (w.alloc o).frozen? ⟨g, 1, none⟩ = w.frozen? ⟨g, 1, none⟩ := frozen_of_block hb
 exact ⟨A, c, ⟨b0.trans h.c0, b1.trans h.c1, b2.trans h.f0, b3.trans h.f1, by have := h.lt; simp; omega, h.nil, h.len, h.rd.below ((Below.refl _ _).alloc (Nat.le_refl _) _), h.off⟩, hB, hQ⟩
theorem value_okG (Q : Nat → Nat → Prop) (w : World) (z : Int) (g k : Nat) (l : List UInt8) (sh : Bool) (h : RdgB w.heap.size Q w g l sh) (hk : k ≤ l.length) (hk8 : k ≤ 8) (hz : z = (k : Int)) (hl : l.length ≤ 140737488355328) :
   Calls Tryd.prog 92 #[.pointer (some ⟨g, 0, none⟩), .int .i64 z] w (ValG Q w g (leV (l.take k)) (l.drop k) sh) := by
 subst hz
 have hlen : (l.take k).length = k := by simp; omega
 have hgl := h.rdg.lt
 refine callsIn_wide.1 ((valWG Fence.wide 3 rfl (by decide) _ k (l.take k) (by omega) w (fun w1 => RdgB w.heap.size Q w1 g (l.drop k) sh ∧ (w.alloc (.cells #[.int .u64 0] 118)).grownBy w1 (some g)) ((take_okG w.heap.size Q _ g k l sh (rdgB_alloc h _) hk hl).mono ?_)).mono ?_)
 · rintro e w1 ⟨A, c, rfl, hR, h1, h2, h3, h4, h5⟩
   have hs := h5.size
   simp at hs
   refine ⟨A, c, by rw [hlen], hR, fun hn ad e => (h3 hn ad e).2, by omega, ?_, h4, h5⟩
   rw [h5.block w.heap.size (by simp) (by intro e; injection e; omega)]
   exact heap_alloc_new w _
 · rintro e w' ⟨rfl, w1, ⟨h4, h5⟩, hz, hK⟩
   exact ⟨rfl, rdg_kept h4 hK hgl hz (Nat.le_refl _) (Nat.le_refl _), gb_kept h5 hK⟩
theorem value_shortG (Q : Nat → Nat → Prop) (w : World) (z : Int) (g k : Nat) (l : List UInt8) (sh : Bool) (h : RdgB w.heap.size Q w g l sh) (hk : l.length < k) (hk8 : k ≤ 8) (hz : z = (k : Int)) :
   Calls Tryd.prog 92 #[.pointer (some ⟨g, 0, none⟩), .int .i64 z] w (ValG Q w g 0 [] true) := by
 subst hz
 have hgl := h.rdg.lt
 refine callsIn_wide.1 ((valWG Fence.wide 3 rfl (by decide) _ k [] (by simp) w (fun w1 => Rdg w1 g [] true ∧ (w.alloc (.cells #[.int .u64 0] 118)).grownBy w1 (some g)) ((take_shortG _ g k l sh (rdg_alloc h.rdg _) hk (by omega)).mono ?_)).mono ?_)
 · rintro e w1 ⟨rfl, h4, h5⟩
   have hs := h5.size
   simp at hs
   refine ⟨none, 0, rfl, Rd.nil _ _, (fun _ ad e => by cases e), by omega, ?_, h4, h5⟩
   rw [h5.block w.heap.size (by simp) (by intro e; injection e; omega)]
   exact heap_alloc_new w _
 · rintro e w' ⟨rfl, w1, ⟨⟨A, c, h4⟩, h5⟩, hz, hK⟩
   exact ⟨rfl, rdg_kept ⟨A, c, h4, fun hn => absurd rfl hn, fun i hi => absurd hi (Nat.not_lt_zero i)⟩ hK hgl hz (Nat.le_refl _) (Nat.le_refl _), gb_kept h5 hK⟩
theorem value_cG (Q : Nat → Nat → Prop) (w : World) (z : Int) (g k : Nat) (l : List UInt8) (sh : Bool) (h : RdgB w.heap.size Q w g l sh) (hk8 : k ≤ 8) (hz : z = (k : Int)) (hl : l.length ≤ 140737488355328) :
   Calls Tryd.prog 92 #[.pointer (some ⟨g, 0, none⟩), .int .i64 z] w (ValG Q w g (getV l k) (getL l k) (getS l sh k)) := by
 unfold getV getL getS
 by_cases hk : k ≤ l.length
 · simp only [if_pos hk]; exact value_okG Q w z g k l sh h hk hk8 hz hl
 · simp only [if_neg hk]; exact value_shortG Q w z g k l sh h (by omega) hk8 hz
def NumG (Q : Nat → Nat → Prop) (w : World) (g : Nat) (v : Value) (l : List UInt8) (sh : Bool) (e : Ending) (w' : World) : Prop := e = .returned v ∧ RdgB w.heap.size Q w' g l sh ∧ w.grownBy w' (some g)
theorem get1_cG (Q : Nat → Nat → Prop) (w : World) (g : Nat) (l : List UInt8) (sh : Bool) (h : RdgB w.heap.size Q w g l sh) (hl : l.length ≤ 140737488355328) :
   Calls Tryd.prog 50 #[.pointer (some ⟨g, 0, none⟩)] w (NumG Q w g (.int .u8 (getV l 1 : Nat)) (getL l 1) (getS l sh 1)) := by
 have hv : getV l 1 < 256 := by have := getV_lt l 1; have e : 256 ^ 1 = 256 := (by decide); omega
 go_enter Tryd.func50, Tryd.ntmps50
 go_wp2_with (go_at_call 92; (with_reducible refine (value_cG Q _ _ _ 1 _ _ h (by decide) (by simp) hl).mono ?_); rintro e w1 ⟨rfl, h1, h2⟩)
 go_ret
 exact ⟨rfl, h1, h2⟩
theorem get2_cG (Q : Nat → Nat → Prop) (w : World) (g : Nat) (l : List UInt8) (sh : Bool) (h : RdgB w.heap.size Q w g l sh) (hl : l.length ≤ 140737488355328) :
   Calls Tryd.prog 52 #[.pointer (some ⟨g, 0, none⟩)] w (NumG Q w g (.int .u16 (getV l 2 : Nat)) (getL l 2) (getS l sh 2)) := by
 have hv : getV l 2 < 65536 := by have := getV_lt l 2; have e : 256 ^ 2 = 65536 := (by decide); omega
 go_enter Tryd.func52, Tryd.ntmps52
 go_wp2_with (go_at_call 92; (with_reducible refine (value_cG Q _ _ _ 2 _ _ h (by decide) (by simp) hl).mono ?_); rintro e w1 ⟨rfl, h1, h2⟩)
 go_ret
 exact ⟨rfl, h1, h2⟩
theorem get8_cG (Q : Nat → Nat → Prop) (w : World) (g : Nat) (l : List UInt8) (sh : Bool) (h : RdgB w.heap.size Q w g l sh) (hl : l.length ≤ 140737488355328) :
   Calls Tryd.prog 51 #[.pointer (some ⟨g, 0, none⟩)] w (NumG Q w g (.int .i64 (wrap64 (getV l 8 : Nat))) (getL l 8) (getS l sh 8)) := by
 go_enter Tryd.func51, Tryd.ntmps51
 go_wp2_with (go_at_call 92; (with_reducible refine (value_cG Q _ _ _ 8 _ _ h (by decide) (by simp) hl).mono ?_); rintro e w1 ⟨rfl, h1, h2⟩)
 go_ret
 exact ⟨rfl, h1, h2⟩
end Go.Proofs.YtikfgnmljpjnbaaDoor
