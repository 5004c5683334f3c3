/-
  sort.Search at this program, by the library's contract.
-/
import Derived.Test.YtbgmbbkmadkhgaaDoorZzqb
import Derived.Shelf.SlSorted.Search
import Derived.RegionTactic
namespace Go.Proofs.YtbgmbbkmadkhgaaDoor
open Go.RowKit Go.Extern.Stop Go.Stop Go.Extern Go.Shelf Go.Lib Go.Sort Go.Proofs.YtbgmbbkmadkhgaaDoor.Sy
set_option linter.unusedVariables false
set_option linter.unusedSimpArgs false
def srcR : Go.Shelf.Ren := ⟨fun _ => 160, fun n => if n = 3 then 3 else if n = 4 then 4 else if n = 35 then 255 else 62, fun n => n⟩
theorem srcL : Go.Proofs.SlLaysO.n16 Tryd.prog srcR where
  mixed := by kernel_rfl
  f16 := by kernel_rfl
  t3 := by kernel_rfl
  a3 := fun w => by kernel_rfl
  z3 := fun w => by kernel_rfl
  v3 := fun w => by kernel_rfl
  t4 := by kernel_rfl
  a4 := fun w => by kernel_rfl
  z4 := fun w => by kernel_rfl
  v4 := fun w => by kernel_rfl
  t35 := by kernel_rfl
  a35 := fun w => by kernel_rfl
  z35 := fun w => by kernel_rfl
  v35 := fun w => by kernel_rfl
  t38 := by kernel_rfl
  a38 := fun w => by kernel_rfl
  z38 := fun w => by kernel_rfl
  v38 := fun w => by kernel_rfl
abbrev KR : SK := .cons (.int .i64) (.cons (.int .i64) (.cons .str .nil))
theorem at_mono {l : List Value} {n : Nat} (h : zkR l n = true) {a : Nat} : ∀ {b : Nat}, a ≤ b → b < n → Go.RowKit.intOf (l.getD (a * 3) Go.undef) ≤ Go.RowKit.intOf (l.getD (b * 3) Go.undef)
  | 0, hab, _ => by rw [show a = 0 by omega]; omega
  | b + 1, hab, hb => by
    rcases Nat.lt_or_ge b a with h1 | h1
    · rw [show a = b + 1 by omega]; omega
    · have := at_mono h (a := a) (b := b) h1 (by omega)
      have h2 := ((rul_iff _ _).1 (zkR_get h hb)).1
      rw [least_pos (by omega)] at h2
      simp only [Nat.add_sub_cancel] at h2
      omega
def srchN (l : List Value) (sec : Int) : Nat := (List.range (l.length / 3)).countP fun i => !decide (sec < Go.RowKit.intOf (l.getD (i * 3) Go.undef))
set_option maxHeartbeats 2000000 in
theorem clos_c (bz bs b off n cap i : Nat) (sec y : Int) (W : World) (hi : i < n) (hz : W.cell? ⟨bz, 2, none⟩ = some (.slice (some ⟨b, off, none⟩) n cap)) (hx : W.cell? ⟨bs, 0, none⟩ = some (.int .i64 sec)) (hc : W.cell? ⟨b, off + i * 3, none⟩ = some (.int .i64 y)) :
    Calls Tryd.prog 237 (#[.int .i64 i] ++ #[.pointer (some ⟨bz, 0, none⟩), .pointer (some ⟨bs, 0, none⟩)]) W fun e w' => e = .returned (.bool (decide (sec < y))) ∧ ∃ q, w' = W.drewN q := by
  have hiz : (i : Int) < (n : Int) := by omega
  go_enter Tryd.func237, Tryd.ntmps237
  go_wp2
  go_region
  all_goals go_wp2
  all_goals go_ret
  all_goals exact ⟨by first | rfl | simp, 1, rfl⟩
theorem cell_new_m (W : World) (cs : Array Value) (t : TypeId) (k : Nat) (v : Value) (h : cs[k]? = some v) : (W.alloc (.cells cs t)).cell? ⟨W.heap.size, k, none⟩ = some v := by
  rw [World.cell?_alloc_at _ _ _ _ (by simp)]
  exact h
set_option maxHeartbeats 2000000 in
theorem behind_c (w : World) (ok : Nat → Nat → Prop) (nm : ByteArray) (fst sec : Int) (v l : Value) (hd : deepC ok w (.sl KR) v l) (hs : zkR (Sy.rows l) ((Sy.rows l).length / 3) = true) :
    Calls Tryd.prog 205 #[.agg #[.string nm, .int .i64 fst, v], .int .i64 sec] w fun e w' => e = .returned (.int .i64 (srchN (Sy.rows l) sec : Nat)) ∧ Below w.heap.size w w' := by
  obtain ⟨p, n, cap, rfl, h2, h3, h4, h4', h5, h6⟩ := hd
  have hn : (Sy.rows l).length / 3 = n := by rw [h3]; exact Nat.mul_div_cancel n (by decide)
  rw [hn] at hs
  obtain ⟨W0, hW0⟩ : ∃ W0, W0 = (w.alloc (.cells #[.string nm, .int .i64 fst, .slice p n cap] 71)).alloc (.cells #[.int .i64 sec] 2) := ⟨_, rfl⟩
  have hsize : W0.heap.size = w.heap.size + 1 + 1 := by rw [hW0]; simp
  have cz : W0.cell? ⟨w.heap.size, 2, none⟩ = some (.slice p n cap) := by rw [hW0]; exact cell_alloc_sl _ (cell_new_m w _ _ 2 _ rfl)
  have cx : W0.cell? ⟨w.heap.size + 1, 0, none⟩ = some (.int .i64 sec) := by rw [hW0]; have := cell_new_m (w.alloc (.cells #[.string nm, .int .i64 fst, .slice p n cap] 71)) #[.int .i64 sec] 2 0 _ rfl; rwa [World.size_alloc] at this
  have eg : ∀ args w, (callFunc 237 args).run Tryd.prog w = .ok (.enter 237 args) w := enters_of Tryd.func237 (by kernel_rfl) rfl
  have hS := Any.sort_Search srcL 237 #[.pointer (some ⟨w.heap.size, 0, none⟩), .pointer (some ⟨w.heap.size + 1, 0, none⟩)] n (fun i => decide (sec < Go.RowKit.intOf ((Sy.rows l).getD (i * 3) Go.undef))) W0 eg (by omega)
    (fun m os i hi => by
      obtain ⟨b, off, hp, hb, ⟨⟨u, ho, hu, hu2⟩, _⟩⟩ := h6 i hi
      subst hp
      obtain ⟨rfl, hu3⟩ := hu2
      rw [hu3] at hu
      have cc : W0.cell? ⟨b, off + i * 3, none⟩ = some (.int .i64 (Go.RowKit.intOf ((Sy.rows l).getD (i * 3) Go.undef))) := by
        rw [hW0]; exact cell_alloc_sl _ (cell_alloc_sl _ hu)
      exact (clos_c w.heap.size (w.heap.size + 1) b off n cap i sec _ _ hi (cell_grown (by simp [hsize]; omega) cz m os) (cell_grown (by simp [hsize]) cx m os) (cell_grown (by simp [hsize]; omega) cc m os)).mono
        fun _ _ ⟨he, q, hq⟩ => ⟨he, q, #[], by rw [hq, grow_empty]⟩)
    (fun a b hab hb h => by
      have := at_mono hs hab hb
      simp only [decide_eq_true_eq] at h ⊢
      omega)
  have hcn : (List.range n).countP (fun i => !decide (sec < Go.RowKit.intOf ((Sy.rows l).getD (i * 3) Go.undef))) = srchN (Sy.rows l) sec := by rw [srchN, hn]
  rw [hcn] at hS
  change Calls Tryd.prog 160 _ _ _ at hS
  clear cz cx h6 hs hcn
  generalize srchN (Sy.rows l) sec = r at hS ⊢
  go_enter Tryd.func205, Tryd.ntmps205
  go_wp2_with (go_at_call 160; rw [← hW0]; refine hS.mono ?_; rintro e w' ⟨rfl, q, os, rfl⟩)
  go_ret
  refine ⟨rfl, ?_⟩
  rw [← hW0]
  have hB0 : Below w.heap.size w W0 := by rw [hW0]; exact ((Below.refl _ w).alloc (Nat.le_refl _) _).alloc (by simp) _
  exact hB0.trans (below_grown_sl w.heap.size W0 q os (by omega))
theorem good_below {P : Program} {G : Glob} {ρ : Env} {c : Con} (hr : flat c.res = true) (he : c.eat = none)
    (h : AllN c.n.i fun iv => AllN c.n.b fun bv => AllN c.n.v fun vv => AllN c.n.s fun sv => holds { ρ with iv := iv, bv := bv, vv := vv, sv := sv } c.cnd → ∀ (β : Nat → Nat) (ok : Nat → Nat → Prop) (w : World) (xs : List Value), RelT ⟨{ ρ with iv := iv, bv := bv, vv := vv, sv := sv }, β, fun _ => none, ok, w⟩ c.pat xs →
      Calls P c.f xs.toArray w fun e w' => e = .returned (denV { ρ with iv := iv, bv := bv, vv := vv, sv := sv } β c.res) ∧ Below w.heap.size w w') : c.Good P G ρ := by
  intro iv bv vv sv β ok w xs n1 n2 n3 n4 hcnd hok hG hx _
  refine (((((h.all iv n1).all bv n2).all vv n3).all sv n4) hcnd β ok w xs hx).mono ?_
  rintro e w' ⟨rfl, hb⟩
  have hnf : ∀ t, flat t = true → hasNew t = false := by
    intro t
    induction t with
    | hs _ _ _ _ => intro h; cases h
    | agg l ih => intro h; exact ih h
    | tup l ih => intro h; exact ih h
    | cons a b iha ihb => intro h; simp only [flat, Bool.and_eq_true] at h; simp [hasNew, iha h.1, ihb h.2]
    | clo _ _ _ => intro h; first | cases h | (simp [flat] at h)
    | _ => intro h; first | rfl | cases h
  have hex : c.ex xs = none := by unfold Con.ex; rw [he]
  refine ⟨_, fun _ => none, ok, rfl, ⟨⟨hb.os, hb.tape, hb.output, hb.size, fun k hk _ => hb.block k hk⟩, ⟨hb.size, fun b off hbl ho => ⟨ho, hb.cell (p := ⟨b, off, none⟩) hbl⟩⟩, fun b off h => .inl h, fun n T hT => by cases hT⟩, ?_, fun hn => by rw [hnf _ hr] at hn; cases hn⟩
  rw [relab_flat 0 _ hr]
  exact Rel.of hr
end Go.Proofs.YtbgmbbkmadkhgaaDoor
