/-
  A slice among a law's arguments, opened to what it holds.
-/
import Derived.Test.YtbjgopehomnpgaaDoorSyc
import Derived.Test.YtbjgopehomnpgaaDoorSlp
import Derived.SizedLaws
namespace Go.Proofs.YtbjgopehomnpgaaDoor
open Go Go.ChangeShapes Go.WideShapes Go.RowKit Go.Deep Go.Proofs.YtbjgopehomnpgaaDoor.Sy
set_option linter.unusedVariables false
section
variable {H : Type} {enc : TypeId × Value → H} {P : Program} {w : World} {base : Nat} {spare : Nat → Bool} {held : Bool}
theorem sized_field {ts : List TypeId} {ds : List (DataW H)} (h : (DataW.weightsEach P ts ds).all (· ≤ reachBytes) = true) {j : Nat} {t : TypeId} {fs : Array Field} {parts : List (DataW H)} (ht : ts[j]? = some t) (hd : ds[j]? = some (.agg parts)) (hu : P.underlying t = some (.struct fs)) :
    (DataW.weightsEach P (fs.toList.map (·.type)) parts).all (· ≤ reachBytes) = true :=
  List.all_eq_true.2 fun n hn => List.all_eq_true.1 h n (DataW.weights_mem_each ht hd n (by unfold DataW.weights; rw [hu]; exact hn))
theorem deep_open {K : SK} {t e : TypeId} {fuel : Nat} {v : Value} {x : DataW H × List MemPlace} (ht : P.underlying t = some (.slice e)) (hC : P.cellsOf e = K.wd) (hpos : 0 < K.wd) (hB : 0 < P.bytesOf e)
    (hq : ∀ (n : Nat) (cs' : List Value) (y : DataW H × List MemPlace), cs'.length = K.wd → DataW.trod enc P w base spare held n e cs' = some y → ∃ ds : List Value, ds.length = K.wd ∧ ∀ j a, K.get j = some a → deepC (fun _ _ => True) w a (cs'.getD j Go.undef) (ds.getD j Go.undef))
    (h : DataW.trod enc P w base spare held fuel t [v] = some x) (hsz : ∀ el sp, x.1 = .slice el sp → (el.length + sp.length) * P.bytesOf e ≤ reachBytes) :
    ∃ l, deepC (fun _ _ => True) w (.sl K) v l ∧ (Sy.rows l).length / K.wd * P.bytesOf e ≤ reachBytes := by
  rcases open_slice ht h with ⟨h0, _⟩ | ⟨a, len, cap, m, n, D, Pl, hcs, hb, hl, hm, hmm, hx, hi⟩
  · obtain rfl := (List.cons.inj h0).1
    exact ⟨.tuple #[], ⟨none, 0, 0, rfl, rfl, by simp [Sy.rows], Nat.le_refl _, by omega, fun _ => rfl, fun i hi => absurd hi (Nat.not_lt_zero i)⟩, by simp [Sy.rows]⟩
  · obtain rfl := (List.cons.inj hcs).1
    have hlm : len ≤ m := by rw [hmm]; split <;> omega
    have hlen2 : len * P.bytesOf e ≤ reachBytes := by
      have := hsz _ _ (by rw [hx])
      simp only [List.length_map, List.length_range] at this
      exact Nat.le_trans (Nat.mul_le_mul_right _ (Nat.le_add_right _ _)) this
    have hsmall : len ≤ 140737488355328 := by
      have h1 : len * 1 ≤ len * P.bytesOf e := Nat.mul_le_mul_left _ hB
      have h2 := reachBytes_lt
      omega
    have hch : ∀ i, i < len → ∃ q : List Value × List Value, w.cells? base (a.add (i * P.cellsOf e)) (P.cellsOf e) = some q.1 ∧ q.2.length = K.wd ∧ ∀ j b, K.get j = some b → deepC (fun _ _ => True) w b (q.1.getD j Go.undef) (q.2.getD j Go.undef) := fun i h => by
      obtain ⟨cs', h1, h2⟩ := hi i (by omega)
      obtain ⟨_, hcl, _⟩ := World.cells?_some h1
      obtain ⟨ds, h3, h4⟩ := hq n cs' _ (by rw [hcl, hC]) h2
      exact ⟨(cs', ds), h1, h3, h4⟩
    obtain ⟨f, hf⟩ := choose_lt hch
    let l : List Value := (List.range (len * K.wd)).map fun k => (f (k / K.wd)).2.getD (k % K.wd) Go.undef
    have hll : l.length = len * K.wd := by simp [l]
    have hin : ∀ i j, i < len → j < K.wd → i * K.wd + j < len * K.wd := fun i j h1 h2 => by
      have := Nat.mul_le_mul_right K.wd (show i + 1 ≤ len from h1)
      rw [Nat.succ_mul] at this
      omega
    have hlat : ∀ i j, i < len → j < K.wd → l.getD (i * K.wd + j) Go.undef = (f i).2.getD j Go.undef := fun i j h1 h2 => by
      have hk := hin i j h1 h2
      have e1 : (i * K.wd + j) / K.wd = i := by rw [Nat.mul_comm, Nat.mul_add_div hpos, Nat.div_eq_of_lt h2, Nat.add_zero]
      have e2 : (i * K.wd + j) % K.wd = j := by rw [Nat.mul_comm, Nat.mul_add_mod]; exact Nat.mod_eq_of_lt h2
      rw [List.getD_eq_getElem?_getD, List.getElem?_map, List.getElem?_range hk]
      simp [e1, e2]
    have hspot : 0 < len → a.spot = none := fun h0 => by
      obtain ⟨hh, _, _⟩ := hf 0 h0
      obtain ⟨_, hcl, hat⟩ := World.cells?_some hh
      have h1 := hat 0 (by omega)
      have h2 : (f 0).1[0]? = some ((f 0).1[0]'(by rw [hcl, hC]; omega)) := List.getElem?_eq_getElem _
      rw [h2] at h1
      have h3 : (a.add (0 * P.cellsOf e)).add 0 = a := by simp [Addr.add]
      rw [h3] at h1
      obtain ⟨b, o, sp⟩ := a
      cases sp with
      | none => rfl
      | some x =>
        exfalso
        unfold World.cell? at h1
        simp at h1
        split at h1 <;> simp at h1
    have hr : Sy.rows (.tuple l.toArray) = l := rfl
    refine ⟨.tuple l.toArray, ⟨some a, len, cap, rfl, by rw [hr], by rw [hr]; exact hll, hl, hsmall, (fun h => by cases h), fun i hi' => ?_⟩, by rw [hr, hll, Nat.mul_div_cancel _ hpos]; exact hlen2⟩
    obtain ⟨g1, g2, g3⟩ := hf i hi'
    obtain ⟨_, hcl, hat⟩ := World.cells?_some g1
    have hsp := hspot (by omega)
    have hcell : ∀ j, j < K.wd → w.cell? ⟨a.block, a.off + i * K.wd + j, none⟩ = some ((f i).1.getD j Go.undef) := fun j hj => by
      have h1 := hat j (by omega)
      have hv : (f i).1[j]? = some ((f i).1[j]'(by rw [hcl, hC]; exact hj)) := List.getElem?_eq_getElem _
      rw [hv, Go.Deep.add_add] at h1
      have h2 := add_cell h1
      have e0 : i * P.cellsOf e = i * K.wd := by rw [hC]
      rw [e0, ← Nat.add_assoc] at h2
      rw [List.getD_eq_getElem?_getD, hv]
      exact h2
    refine ⟨a.block, a.off, ?_, ?_, deepR_of _ _ _ _ _ fun j b hb' => ?_⟩
    · obtain ⟨b, o, sp⟩ := a
      simp only at hsp
      subst hsp
      rfl
    · exact World.block_lt_of_cell? w ⟨a.block, a.off + i * K.wd + 0, none⟩ (hcell 0 hpos)
    · have hj := K.get_wd _ _ hb'
      refine ⟨_, trivial, hcell j hj, ?_⟩
      rw [hr, hlat i j hi' hj]
      exact g3 j b hb'
theorem deep_openQ {K : SK} {Q : Value → Prop} {t e : TypeId} {fuel : Nat} {v : Value} {x : DataW H × List MemPlace} (ht : P.underlying t = some (.slice e)) (hC : P.cellsOf e = K.wd) (hpos : 0 < K.wd) (hB : 0 < P.bytesOf e)
    (hq : ∀ (n : Nat) (cs' : List Value) (y : DataW H × List MemPlace), cs'.length = K.wd → DataW.trod enc P w base spare held n e cs' = some y → ∃ ds : List Value, ds.length = K.wd ∧ (∀ x ∈ ds, Q x) ∧ ∀ j a, K.get j = some a → deepC (fun _ _ => True) w a (cs'.getD j Go.undef) (ds.getD j Go.undef))
    (h : DataW.trod enc P w base spare held fuel t [v] = some x) (hsz : ∀ el sp, x.1 = .slice el sp → (el.length + sp.length) * P.bytesOf e ≤ reachBytes) :
    ∃ l, deepC (fun _ _ => True) w (.sl K) v l ∧ (Sy.rows l).length / K.wd * P.bytesOf e ≤ reachBytes ∧ ∀ x ∈ Sy.rows l, Q x := by
  rcases open_slice ht h with ⟨h0, _⟩ | ⟨a, len, cap, m, n, D, Pl, hcs, hb, hl, hm, hmm, hx, hi⟩
  · obtain rfl := (List.cons.inj h0).1
    exact ⟨.tuple #[], ⟨none, 0, 0, rfl, rfl, by simp [Sy.rows], Nat.le_refl _, by omega, fun _ => rfl, fun i hi => absurd hi (Nat.not_lt_zero i)⟩, by simp [Sy.rows], fun x hx => by simp [Sy.rows] at hx⟩
  · obtain rfl := (List.cons.inj hcs).1
    have hlm : len ≤ m := by rw [hmm]; split <;> omega
    have hlen2 : len * P.bytesOf e ≤ reachBytes := by
      have := hsz _ _ (by rw [hx])
      simp only [List.length_map, List.length_range] at this
      exact Nat.le_trans (Nat.mul_le_mul_right _ (Nat.le_add_right _ _)) this
    have hsmall : len ≤ 140737488355328 := by
      have h1 : len * 1 ≤ len * P.bytesOf e := Nat.mul_le_mul_left _ hB
      have h2 := reachBytes_lt
      omega
    have hch : ∀ i, i < len → ∃ q : List Value × List Value, w.cells? base (a.add (i * P.cellsOf e)) (P.cellsOf e) = some q.1 ∧ q.2.length = K.wd ∧ (∀ x ∈ q.2, Q x) ∧ ∀ j b, K.get j = some b → deepC (fun _ _ => True) w b (q.1.getD j Go.undef) (q.2.getD j Go.undef) := fun i h => by
      obtain ⟨cs', h1, h2⟩ := hi i (by omega)
      obtain ⟨_, hcl, _⟩ := World.cells?_some h1
      obtain ⟨ds, h3, h5, h4⟩ := hq n cs' _ (by rw [hcl, hC]) h2
      exact ⟨(cs', ds), h1, h3, h5, h4⟩
    obtain ⟨f, hf⟩ := choose_lt hch
    let l : List Value := (List.range (len * K.wd)).map fun k => (f (k / K.wd)).2.getD (k % K.wd) Go.undef
    have hll : l.length = len * K.wd := by simp [l]
    have hin : ∀ i j, i < len → j < K.wd → i * K.wd + j < len * K.wd := fun i j h1 h2 => by
      have := Nat.mul_le_mul_right K.wd (show i + 1 ≤ len from h1)
      rw [Nat.succ_mul] at this
      omega
    have hlat : ∀ i j, i < len → j < K.wd → l.getD (i * K.wd + j) Go.undef = (f i).2.getD j Go.undef := fun i j h1 h2 => by
      have hk := hin i j h1 h2
      have e1 : (i * K.wd + j) / K.wd = i := by rw [Nat.mul_comm, Nat.mul_add_div hpos, Nat.div_eq_of_lt h2, Nat.add_zero]
      have e2 : (i * K.wd + j) % K.wd = j := by rw [Nat.mul_comm, Nat.mul_add_mod]; exact Nat.mod_eq_of_lt h2
      rw [List.getD_eq_getElem?_getD, List.getElem?_map, List.getElem?_range hk]
      simp [e1, e2]
    have hspot : 0 < len → a.spot = none := fun h0 => by
      obtain ⟨hh, _, _⟩ := hf 0 h0
      obtain ⟨_, hcl, hat⟩ := World.cells?_some hh
      have h1 := hat 0 (by omega)
      have h2 : (f 0).1[0]? = some ((f 0).1[0]'(by rw [hcl, hC]; omega)) := List.getElem?_eq_getElem _
      rw [h2] at h1
      have h3 : (a.add (0 * P.cellsOf e)).add 0 = a := by simp [Addr.add]
      rw [h3] at h1
      obtain ⟨b, o, sp⟩ := a
      cases sp with
      | none => rfl
      | some x =>
        exfalso
        unfold World.cell? at h1
        simp at h1
        split at h1 <;> simp at h1
    have hr : Sy.rows (.tuple l.toArray) = l := rfl
    refine ⟨.tuple l.toArray, ⟨some a, len, cap, rfl, by rw [hr], by rw [hr]; exact hll, hl, hsmall, (fun h => by cases h), fun i hi' => ?_⟩, by rw [hr, hll, Nat.mul_div_cancel _ hpos]; exact hlen2, fun x hx => ?_⟩
    rotate_left
    · rw [hr] at hx
      obtain ⟨k, hk, rfl⟩ := List.mem_map.1 hx
      have hk := List.mem_range.1 hk
      obtain ⟨_, g2, g4, _⟩ := hf (k / K.wd) (by rw [Nat.div_lt_iff_lt_mul hpos]; exact hk)
      have hlt : k % K.wd < (f (k / K.wd)).2.length := by rw [g2]; exact Nat.mod_lt _ hpos
      rw [List.getD_eq_getElem?_getD, List.getElem?_eq_getElem hlt]
      exact g4 _ (List.getElem_mem hlt)
    obtain ⟨g1, g2, _, g3⟩ := hf i hi'
    obtain ⟨_, hcl, hat⟩ := World.cells?_some g1
    have hsp := hspot (by omega)
    have hcell : ∀ j, j < K.wd → w.cell? ⟨a.block, a.off + i * K.wd + j, none⟩ = some ((f i).1.getD j Go.undef) := fun j hj => by
      have h1 := hat j (by omega)
      have hv : (f i).1[j]? = some ((f i).1[j]'(by rw [hcl, hC]; exact hj)) := List.getElem?_eq_getElem _
      rw [hv, Go.Deep.add_add] at h1
      have h2 := add_cell h1
      have e0 : i * P.cellsOf e = i * K.wd := by rw [hC]
      rw [e0, ← Nat.add_assoc] at h2
      rw [List.getD_eq_getElem?_getD, hv]
      exact h2
    refine ⟨a.block, a.off, ?_, ?_, deepR_of _ _ _ _ _ fun j b hb' => ?_⟩
    · obtain ⟨b, o, sp⟩ := a
      simp only at hsp
      subst hsp
      rfl
    · exact World.block_lt_of_cell? w ⟨a.block, a.off + i * K.wd + 0, none⟩ (hcell 0 hpos)
    · have hj := K.get_wd _ _ hb'
      refine ⟨_, trivial, hcell j hj, ?_⟩
      rw [hr, hlat i j hi' hj]
      exact g3 j b hb'
/-- a value as its kind may be -/
def inK (v : Value) : Prop := ∀ k n, v = .int k n → (Lit.int k n).wf = true
end
theorem good_run {P : Program} {G : Glob} {ρ : Env} {c : Con} (h : c.Good P G ρ) (he : c.eat = none) (hres : c.res = .bool (.tt true)) (iv : List Int) (bv : List Bool) (vv : List Value) (sv : List ByteArray) (w : World) (xs : List Value)
    (n1 : iv.length = c.n.i) (n2 : bv.length = c.n.b) (n3 : vv.length = c.n.v) (n4 : sv.length = c.n.s) (hc : holds { ρ with iv := iv, bv := bv, vv := vv, sv := sv } c.cnd) (hG : GlobOk G (fun _ _ => True) w)
    (hr : RelT ⟨{ ρ with iv := iv, bv := bv, vv := vv, sv := sv }, fun _ => 0, fun _ => none, fun _ _ => True, w⟩ c.pat xs) :
    Calls P c.f xs.toArray w fun e w' => e = .returned (.bool true) ∧ Below w.heap.size w w' := by
  refine (h iv bv vv sv (fun _ => 0) (fun _ _ => True) w xs n1 n2 n3 n4 hc (fun _ _ _ => trivial) hG hr (fun k e K h => by rw [he] at h; cases h)).mono ?_
  rintro e w' ⟨x, o', ok', rfl, hd, hx, _⟩
  have hex : c.ex xs = none := by unfold Con.ex; rw [he]
  rw [hex] at hd
  have hg := hd.1
  rw [hres] at hx
  refine ⟨by rw [show x = .bool true from hx], ⟨hg.os, hg.tape, hg.output, hg.size, fun k hk => hg.block k hk (by simp)⟩⟩
end Go.Proofs.YtbjgopehomnpgaaDoor
