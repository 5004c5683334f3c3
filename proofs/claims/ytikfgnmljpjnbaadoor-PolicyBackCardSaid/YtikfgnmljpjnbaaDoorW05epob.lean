/-
 Layer 5: a number out of a reader: a range over a function.
-/
import Derived.RangeFuncNested
import Derived.RangeFuncBound
import Derived.RangeFuncCalls
import Derived.RangeFuncLeaves
import Derived.RangeFuncBox
import Derived.Shelf.Abstract
import Derived.Shelf.RegionOpen
import Derived.OwnWalkIn
import Derived.TacticsInMore
import Derived.LoopNIn
import Derived.LoopIn
import Derived.Test.YtikfgnmljpjnbaaDoorW05dpob
namespace Go.Proofs.YtikfgnmljpjnbaaDoor
open Go.RowKit Go.Extern.Stop Go.Stop Go.Extern
set_option linter.unusedVariables false
set_option linter.unusedSimpArgs false
open Go.Shelf
attribute [local go_sem] Oper.semAt_some
structure Kept (N b : Nat) (W W' : World) : Prop where
 os : W'.os = W.os
 tape : W'.tape = W.tape
 output : W'.output = W.output
 size : W.heap.size ≤ W'.heap.size
 block : ∀ k, k < N → k ≠ b → W'.heap[k]? = W.heap[k]?
theorem Kept.refl (N b : Nat) (W : World) : Kept N b W W := ⟨rfl, rfl, rfl, Nat.le_refl _, fun _ _ _ => rfl⟩
theorem Kept.trans {N b : Nat} {A B C : World} (h : Kept N b A B) (k : Kept N b B C) : Kept N b A C :=
 ⟨k.os.trans h.os, k.tape.trans h.tape, k.output.trans h.output, Nat.le_trans h.size k.size, fun i hi hn => (k.block i hi hn).trans (h.block i hi hn)⟩
theorem Kept.cell {N b : Nat} {W W' : World} (h : Kept N b W W') {p : Addr} (hp : p.block < N) (hn : p.block ≠ b) : W'.cell? p = W.cell? p := World.cell?_of_block (w := W) (h.block p.block hp hn)
theorem Kept.set (N b : Nat) (W : World) (u : Value) : Kept N b W (W.setCell ⟨b, 0, none⟩ u) :=
 ⟨rfl, rfl, rfl, by simp, fun k _ hn => Below.heap_setCell _ _ _ _ hn⟩
theorem Kept.obj {N b : Nat} {w : World} (hN : N ≤ w.heap.size) (W : World) (l : Nat) (o o' : Obj) (hl : w.heap.size ≤ l) (_ : W.heap[l]? = some o) (_ : o.isCells = false) (_ : o.isWalk = false) : Kept N b W (W.putObj l o') :=
 ⟨rfl, rfl, rfl, by simp, fun k hk _ => World.putObj_heap_other (by omega)⟩
theorem Kept.own {β : Type} {N b B : Nat} {w0 : World} (hN : N ≤ w0.heap.size) (hB : N ≤ B) : OwnFrom B (fun (_ : β) W => Kept N b w0 W) :=
 fun _ W W' row hs hg hr => hs.trans ⟨hg.os, hg.tape, hg.output, hg.size, fun k hk _ => hg.block k (by have := hs.size; omega) (fun e => by have := (hr k e.symm).1; omega)⟩
set_option maxRecDepth 100000 in
set_option maxHeartbeats 4000000 in
theorem back1_in (F : Fence) (n : Nat) (h7 : F.fn 123) (hro : F.round = none) (hn : 1 ≤ n) (l Bs N b : Nat) (A : Option Addr) (c : Nat) (bs : List UInt8) (hlen : bs.length ≤ 140737488355328)
   (hBs1 : Bs < N) (hBs2 : Bs ≠ b) (hA : ∀ ad, A = some ad → ad.block < N ∧ ad.block ≠ b) (J Jx : List UInt8 → World → Prop)
   (hY : ∀ pre x W, J pre W → pre.length < bs.length → YieldAt F (n - 1) Tryd.prog l #[bV x] W fun e W' =>
     (e = .returned (.bool true) ∧ J (pre ++ [x]) W' ∧ Kept N b W W') ∨ (e = .returned (.bool false) ∧ Jx (pre ++ [x]) W'))
   (W : World) (hBs : W.cell? ⟨Bs, 0, none⟩ = some (.slice A bs.length c)) (hR : Rd W A bs) (h0 : J [] W) :
   CallsIn F n Tryd.prog 123 #[.func (.yield l) #[] #[], .pointer (some ⟨Bs, 0, none⟩)] W fun e W' => (∃ v, e = .returned v) ∧
     ((∃ ys, ys = bs.reverse ∧ J ys W') ∨ (∃ pre, pre <+: bs.reverse ∧ Jx pre W')) := by
 refine callsIn_of_wp Tryd.func123 rfl h7 ?_ hro
 simp only [Tryd.ntmps123, List.size_toArray, List.length_cons, List.length_nil, Nat.reduceAdd, Nat.reduceSub, Array.replicate_succ, Array.replicate_zero, List.push_toArray, List.append_toArray, List.nil_append, List.cons_append]
 gi_wp2
 gi_loopw [3] (fun i wr => ∃ j : Nat, j ≤ bs.length ∧ i = .int .i64 ((j : Int) - 1) ∧ J (bs.reverse.take (bs.length - j)) wr ∧ Kept N b W wr) (fun i _ => (intOf i + 1).toNat)
 case atStart => exact ⟨bs.length, Nat.le_refl _, rfl, by simpa using h0, Kept.refl _ _ _⟩
 case round =>
   obtain ⟨j, hj, rfl, hJs, hnx⟩ := hrel
   have hcb : wr.cell? ⟨Bs, 0, none⟩ = some (.slice A bs.length c) := (hnx.cell (p := ⟨Bs, 0, none⟩) hBs1 hBs2).trans hBs
   rcases j with _ | m
   · simp only [Int.natCast_zero, Int.zero_sub]
     gi_wp2
     go_end0
     exact ⟨⟨_, rfl⟩, .inl ⟨_, by rw [Nat.sub_zero]; exact List.take_of_length_le (by simp), hJs⟩⟩
   · have hm : m < bs.length := by omega
     rw [show ((m + 1 : Nat) : Int) - 1 = (m : Int) by omega]
     obtain ⟨ad, rfl, _⟩ := hR.at_ hm
     obtain ⟨ha1, ha2⟩ := hA ad rfl
     have hcx : wr.cell? (ad.add m) = some (.int .u8 (bs[m].toNat : Int)) := (hnx.cell (p := ad.add m) (by rw [add_block]; exact ha1) (by rw [add_block]; exact ha2)).trans (hR.cell hm)
     obtain ⟨fn, tmps, assign, body, hy, hRd⟩ := hY _ bs[m] wr hJs (by simp; omega)
     have hsnoc : bs.reverse.take (bs.length - m) = bs.reverse.take (bs.length - (m + 1)) ++ [bs[m]] := by
       have h1 : bs.length - m = (bs.length - (m + 1)) + 1 := by omega
       have h2 : bs.length - (m + 1) < bs.reverse.length := by simp; omega
       rw [h1, List.take_succ_eq_append_getElem h2]
       congr 2
       simp only [List.getElem_reverse]
       congr 1
       omega
     have HS := Lib.hid hsnoc
     clear hsnoc
     gi_wp2
     refine hRd.mono ?_
     rintro e W3 (⟨rfl, hJ3, hk3⟩ | ⟨rfl, hJx3⟩)
     · gi_wp2
       go_roundw
       case rel => exact ⟨m, by omega, rfl, by rw [HS.out]; exact hJ3, hnx.trans hk3⟩
       case measure => simp [intOf]
     · gi_wp2
       refine bodyPost_ret (results_none rfl _ _ _) rfl ?_
       exact ⟨⟨_, rfl⟩, .inr ⟨_, by rw [← HS.out]; exact List.take_prefix _ _, hJx3⟩⟩
theorem back_stops (F : Fence) (n : Nat) (h7 : F.fn 123) (hro : F.round = none) (hn : 1 ≤ n) (Bs N b : Nat) (A : Option Addr) (c : Nat) (bs : List UInt8) (hlen : bs.length ≤ 140737488355328) (w : World)
   (hN : N ≤ w.heap.size) (hBs1 : Bs < N) (hBs2 : Bs ≠ b) (hA : ∀ ad, A = some ad → ad.block < N ∧ ad.block ≠ b) (hBs : w.cell? ⟨Bs, 0, none⟩ = some (.slice A bs.length c)) (hR : Rd w A bs) :
   SeqStopsK F n Tryd.prog 123 #[.pointer (some ⟨Bs, 0, none⟩)] (fun x : UInt8 => #[bV x]) (Kept N b) (fun ys => ys = bs.reverse) (fun pre => pre <+: bs.reverse) bs.length w := fun l J Jx W hW _ _ hY h0 =>
 back1_in F n h7 hro hn l Bs N b A c bs hlen hBs1 hBs2 hA J Jx hY W ((hW.cell (p := ⟨Bs, 0, none⟩) (Nat.lt_of_lt_of_le hBs1 hN)).trans hBs) (hR.below hW) h0
theorem backward_c (A : Option Addr) (n c : Nat) (w : World) :
   Calls Tryd.prog 114 #[.slice A n c] w fun e w' => e = .returned (.func (.func 123) #[] #[.pointer (some ⟨w.heap.size, 0, none⟩)]) ∧ w' = w.alloc (.cells #[.slice A n c] 22) := by
 go_enter Tryd.func114, Tryd.ntmps114
 go_wp2_with (fail)
 go_ret
 exact ⟨rfl, rfl⟩
theorem valW (F : Fence) (n : Nat) (hF : F = Fence.wide) (hn : 3 ≤ n) (p : Value) (z : Int) (bs : List UInt8) (hbs : bs.length ≤ 8) (w : World) (Qt : World → Prop)
   (hT : Calls Tryd.prog 115 #[p, .int .i64 z] (w.alloc (.cells #[.int .u64 0] 118)) fun e w1 => ∃ A c, e = .returned (.slice A bs.length c) ∧ Rd w1 A bs ∧ (∀ ad, A = some ad → ad.block < w.heap.size) ∧
     w.heap.size < w1.heap.size ∧ w1.heap[w.heap.size]? = some (.cells #[.int .u64 0] 118 (0, 0)) ∧ Qt w1) :
   CallsIn F n Tryd.prog 92 #[p, .int .i64 z] w fun e w' => e = .returned (.int .u64 (leV bs : Nat)) ∧ ∃ w1, Qt w1 ∧ w.heap.size < w1.heap.size ∧ Kept w1.heap.size w.heap.size w1 w' := by
 have h1 : 1 ≤ n := by omega
 subst hF
 refine callsIn_of_wp_marks Tryd.func92 rfl trivial ?_ rfl
 simp only [Tryd.ntmps92, List.size_toArray, List.length_cons, List.length_nil, Nat.reduceAdd, Nat.reduceSub, Array.replicate_succ, Array.replicate_zero, List.push_toArray, List.append_toArray, List.nil_append, List.cons_append]
 gi_wp2_with (first | (refine ⟨trivial, ?_⟩; gi_at_call 115; refine (callsIn_wide.2 hT).mono ?_; rintro e w1 ⟨A, c, rfl, hR, hA, hz1, hv, hQt⟩; have HV := Lib.hid hv; clear hv) | (refine ⟨trivial, ?_⟩; gi_at_call 114; refine (callsIn_wide.2 (backward_c _ _ _ _)).mono ?_; rintro e w' ⟨rfl, rfl⟩))
 have hv := HV.out
 have hA' : ∀ ad, A = some ad → ad.block < w1.heap.size + 1 ∧ ad.block ≠ w.heap.size := fun ad e => by have := hA ad e; omega
 have hcv := cell_of_row (w1.alloc (.cells #[.slice A bs.length c] 22)) w.heap.size 0 _ _ _ ((Below.heap_alloc w1 _ w.heap.size hz1).trans hv)
 have hfv := row_freed ((Below.heap_alloc w1 (.cells #[.slice A bs.length c] 22) w.heap.size hz1).trans hv) 0
 have hRb : Rd (w1.alloc (.cells #[.slice A bs.length c] 22)) A bs := hR.below ((Below.refl _ _).alloc (Nat.le_refl _) _)
 refine wpIn_rangeFunc_ownG rfl h1 (gf := 123) (lb := #[.pointer (some ⟨w1.heap.size, 0, none⟩)]) rfl trivial (enters_of Tryd.func123 (by kernel_rfl) rfl)
   (back_stops Fence.wide (n - 1) trivial rfl (by omega) w1.heap.size (w1.heap.size + 1) w.heap.size A c bs (by omega) _ (by simp) (by omega) (by omega) hA' (by simp) hRb) (fun h k => h.trans k) (Kept.obj (by simp)) (Below.refl _ _) (fun _ => rfl)
   (fun pre W => (W.cell? ⟨w.heap.size, 0, none⟩ = some (.int .u64 (beV pre : Nat)) ∧ W.frozen? ⟨w.heap.size, 0, none⟩ = false) ∧ Kept (w1.heap.size + 1) w.heap.size (w1.alloc (.cells #[.slice A bs.length c] 22)) W)
   (fun _ _ _ => False)
   (OwnFrom.and (Own.from (fun s A B row hs hg hr => ⟨cell_kept hs.1 hg hr, (frozen_kept hs.1 hg hr).trans hs.2⟩) _) (Kept.own (by simp) (by simp)))
   (fun _ _ _ _ _ hs _ _ => hs)
   ⟨⟨by rw [hcv]; rfl, hfv⟩, Kept.refl _ _ _⟩
   (fun x => { tmps := #[p, .int .i64 z, undef, undef, .int .u64 0, .pointer (some ⟨w.heap.size, 0, none⟩), bV x, p, .int .i64 z, .slice A bs.length c, .func (.func 123) #[] #[.pointer (some ⟨w1.heap.size, 0, none⟩)], bV x, undef, undef, undef, undef, undef, undef], defers := [] }) ?assign ?body ?done ?stop
 case assign =>
   intro l x W K hK
   gi_wp2
   exact hK
 case body =>
   rintro l pre x W ⟨⟨hc, hf⟩, hK⟩ hlen
   have hb : beV pre < 72057594037927936 := by
     have h1 := beV_lt pre
     have h2 : 256 ^ pre.length ≤ 256 ^ 7 := Nat.pow_le_pow_right (by decide) (by omega)
     have h3 : 256 ^ 7 = 72057594037927936 := by decide
     omega
   have HS := Lib.hid (beV_snoc pre x)
   have HO := shl_or (beV pre) x hb
   have hwr : IntKind.u64.wrap (x.toNat : Int) = (x.toNat : Int) := by
     have hx := x.toNat_lt
     rw [u64of_wrap]; unfold u64of; omega
   generalize beV pre = v at *
   gi_wp2
   refine ⟨(KeepsOthers.setCell _ _ _).from _, Kept.set _ _ _ _, ⟨?_, by rw [World.frozen?_setCell]; exact hf⟩, hK.trans (Kept.set _ _ _ _)⟩
   rw [HS.out]
   exact World.cell?_setCell_same' _ _ _ (by rw [hc]; rfl)
 case done =>
   rintro D ys W hD rfl ⟨⟨hc, _⟩, hK⟩ hKD
   gi_wp2
   refine ⟨by simp, .inl ⟨_, _, rfl, run_takeDeferred hKD, ?_⟩⟩
   refine ⟨_, results_tmp rfl _ _ _, rfl, w1, hQt, hz1, ?_⟩
   have k1 : Kept w1.heap.size w.heap.size w1 (w1.alloc (.cells #[.slice A bs.length c] 22)) := ⟨rfl, rfl, rfl, by simp, fun k hk _ => Below.heap_alloc _ _ k hk⟩
   have k2 : Kept w1.heap.size w.heap.size (w1.alloc (.cells #[.slice A bs.length c] 22)) W := ⟨hK.os, hK.tape, hK.output, hK.size, fun k hk hn => hK.block k (by omega) hn⟩
   exact k1.trans (k2.trans (Kept.obj (w := w1) (Nat.le_refl _) W D _ _ (by simp at hD; omega) hKD rfl rfl))
 case stop =>
   rintro D c pre W _ _ h _
   exact h.elim
theorem rdr_alloc {w : World} {g : Nat} {l : List UInt8} {sh : Bool} (h : Rdr w g l sh) (o : Obj) : Rdr (w.alloc o) g l sh := h.below ((Below.refl _ _).alloc (Nat.le_refl _) _)
theorem rdr_kept {w1 w' : World} {g N b : Nat} {l : List UInt8} {sh : Bool} (h : Rdr w1 g l sh) (hK : Kept N b w1 w') (hg : g < b) (hN : b < N) (hs : N ≤ w1.heap.size) : Rdr w' g l sh := by
 obtain ⟨A, c, h0, h1, h2, h3, h4⟩ := h
 refine ⟨A, c, (hK.block g (by omega) (by omega)).trans h0, h1, h2, ⟨h3.1, fun i hi => ?_⟩, h4⟩
 obtain ⟨ad, e, ha, hc⟩ := h3.2 i hi
 have := h4 ad e
 exact ⟨ad, e, Nat.lt_of_lt_of_le ha hK.size, (hK.cell (p := ad.add i) (by rw [add_block]; omega) (by rw [add_block]; omega)).trans hc⟩
theorem gb_kept {w w1 w' : World} {g : Nat} {o : Obj} (hg : (w.alloc o).grownBy w1 (some g)) (hK : Kept w1.heap.size w.heap.size w1 w') : w.grownBy w' (some g) := by
 have hs := hg.size
 simp at hs
 refine ⟨hK.os.trans hg.os, hK.tape.trans hg.tape, hK.output.trans hg.output, by have := hK.size; omega, fun k hk hn => ?_⟩
 rw [hK.block k (by omega) (by omega), hg.block k (by simp; omega) hn]
 exact Below.heap_alloc _ _ k hk
def ValP (w : World) (g v : Nat) (l : List UInt8) (sh : Bool) (e : Ending) (w' : World) : Prop := e = .returned (.int .u64 (v : Int)) ∧ Rdr w' g l sh ∧ w.grownBy w' (some g)
theorem value_ok (w : World) (z : Int) (g k : Nat) (l : List UInt8) (sh : Bool) (h : Rdr w g l sh) (hk : k ≤ l.length) (hk8 : k ≤ 8) (hz : z = (k : Int)) (hl : l.length ≤ 140737488355328) :
   Calls Tryd.prog 92 #[.pointer (some ⟨g, 0, none⟩), .int .i64 z] w (ValP w g (leV (l.take k)) (l.drop k) sh) := by
 subst hz
 have hlen : (l.take k).length = k := by simp; omega
 have hgl := h.lt
 refine callsIn_wide.1 ((valW Fence.wide 3 rfl (by decide) _ k (l.take k) (by omega) w (fun w1 => Rdr w1 g (l.drop k) sh ∧ (w.alloc (.cells #[.int .u64 0] 118)).grownBy w1 (some g)) ((take_ok _ g k l sh (rdr_alloc h _) hk hl).mono ?_)).mono ?_)
 · rintro e w1 ⟨A, c, rfl, hR, h1, h2, h3, h4, h5⟩
   have hs := h5.size
   simp at hs
   refine ⟨A, c, by rw [hlen], hR, fun ad e => by have := h3 ad e; omega, by omega, ?_, h4, h5⟩
   rw [h5.block w.heap.size (by simp) (by intro e; injection e; omega)]
   exact heap_alloc_new w _
 · rintro e w' ⟨rfl, w1, ⟨h4, h5⟩, hz, hK⟩
   exact ⟨rfl, rdr_kept h4 hK hgl hz (Nat.le_refl _), gb_kept h5 hK⟩
theorem value_short (w : World) (z : Int) (g k : Nat) (l : List UInt8) (sh : Bool) (h : Rdr w g l sh) (hk : l.length < k) (hk8 : k ≤ 8) (hz : z = (k : Int)) :
   Calls Tryd.prog 92 #[.pointer (some ⟨g, 0, none⟩), .int .i64 z] w (ValP w g 0 [] true) := by
 subst hz
 have hgl := h.lt
 refine callsIn_wide.1 ((valW Fence.wide 3 rfl (by decide) _ k [] (by simp) w (fun w1 => Rdr w1 g [] true ∧ (w.alloc (.cells #[.int .u64 0] 118)).grownBy w1 (some g)) ((take_short _ g k l sh (rdr_alloc h _) hk (by omega)).mono ?_)).mono ?_)
 · rintro e w1 ⟨rfl, h4, h5⟩
   have hs := h5.size
   simp at hs
   refine ⟨none, 0, rfl, Rd.nil _ _, (fun ad e => by cases e), by omega, ?_, h4, h5⟩
   rw [h5.block w.heap.size (by simp) (by intro e; injection e; omega)]
   exact heap_alloc_new w _
 · rintro e w' ⟨rfl, w1, ⟨h4, h5⟩, hz, hK⟩
   exact ⟨rfl, rdr_kept h4 hK hgl hz (Nat.le_refl _), gb_kept h5 hK⟩
end Go.Proofs.YtikfgnmljpjnbaaDoor
