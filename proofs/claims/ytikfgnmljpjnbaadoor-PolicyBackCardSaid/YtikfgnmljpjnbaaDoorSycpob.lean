/-
 Symbolic walks by reflection, with slices as what they hold: the walk.
-/
import Derived.Test.YtikfgnmljpjnbaaDoorSyqpob
import Derived.Scope
namespace Go.Proofs.YtikfgnmljpjnbaaDoor.Sy
open Go Go.RowKit
set_option linter.unusedVariables false
set_option linter.unusedSimpArgs false
set_option linter.unnecessarySimpa false
/-! Part 15: a region that draws its order. -/

theorem maskOf_bit (ms : List Nat) (l : List Edge) (g : Nat) : (l.foldr (fun e m => if Region.binds .any e then (2 ^ e.on ||| ms.getD e.on 0) ||| m else m) 0).testBit g = true →
   ∃ e ∈ l, Region.binds .any e = true ∧ (e.on = g ∨ (ms.getD e.on 0).testBit g = true) := by
 induction l with
 | nil => intro h; simp at h
 | cons e r ih =>
   intro h
   rw [List.foldr_cons] at h
   split at h
   · rename_i hb
     simp only [Nat.testBit_or, Bool.or_eq_true, Nat.testBit_two_pow, decide_eq_true_eq] at h
     rcases h with (h | h) | h
     · exact ⟨e, by simp, hb, .inl h⟩
     · exact ⟨e, by simp, hb, .inr h⟩
     · obtain ⟨x, h1, h2⟩ := ih h
       exact ⟨x, by simp [h1], h2⟩
   · obtain ⟨x, h1, h2⟩ := ih h
     exact ⟨x, by simp [h1], h2⟩
theorem mkMasks_spec : ∀ (l : List Oper) (ms : List Nat), ∃ X, mkMasks l ms = ms ++ X ∧ X.length = l.length ∧ ∀ (i : Nat) (o : Oper), l[i]? = some o → ∀ g, ((ms ++ X).getD (ms.length + i) 0).testBit g = true →
   ∃ e ∈ o.after.toList, Region.binds .any e = true ∧ (e.on = g ∨ ((ms ++ X).getD e.on 0).testBit g = true)
 | [], ms => ⟨[], by simp [mkMasks], rfl, fun i o h => by simp at h⟩
 | o :: r, ms => by
   obtain ⟨X, h1, h2, h3⟩ := mkMasks_spec r (ms ++ [maskOf ms o])
   refine ⟨maskOf ms o :: X, by simp [mkMasks, h1], by simp [h2], fun i q hq g hg => ?_⟩
   have happ : ms ++ maskOf ms o :: X = ms ++ [maskOf ms o] ++ X := by simp
   cases i with
   | zero =>
     simp at hq
     subst hq
     have : (ms ++ maskOf ms o :: X).getD (ms.length + 0) 0 = maskOf ms o := by simp [List.getD_eq_getElem?_getD]
     rw [this] at hg
     obtain ⟨e, he, hb, hh⟩ := maskOf_bit ms o.after.toList g hg
     refine ⟨e, he, hb, hh.imp id fun h => ?_⟩
     have hlt : e.on < ms.length := by
       rcases Nat.lt_or_ge e.on ms.length with h' | h'
       · exact h'
       · simp [List.getD_eq_getElem?_getD, List.getElem?_eq_none h'] at h
     rw [getD_app hlt]
     exact h
   | succ i =>
     have := h3 i q (by simpa using hq) g (by
       rw [← happ]
       rw [show (ms ++ [maskOf ms o]).length + i = ms.length + (i + 1) by simp; omega]
       exact hg)
     rw [happ]
     exact this
theorem downOk_get : ∀ (l : List Oper) (i j : Nat) (o : Oper), downOk i l = true → l[j]? = some o → ∀ e ∈ o.after, Region.binds .any e = true → e.on < i + j
 | [], _, _, _, _, h => by simp at h
 | o :: r, i, j, q, hd, h => by
   simp only [downOk, Bool.and_eq_true] at hd
   intro e he hb
   cases j with
   | zero =>
     simp at h
     subst h
     have := List.all_eq_true.1 hd.1 e (by simpa using he)
     simpa [hb] using this
   | succ j =>
     have := downOk_get r (i + 1) j q hd.2 (by simpa using h) e he hb
     omega
def Closed (all : Array Oper) (L : Array Bool) : Prop := ∀ (g : Nat) (o : Oper), all[g]? = some o → L.getD g false = true → ∀ e ∈ o.after, Region.binds .any e = true → L.getD e.on false = true
theorem reach_listed {all : Array Oper} {L : Array Bool} (hd : downOk 0 all.toList = true) (hc : Closed all L) : ∀ (j : Nat) (o : Oper), all[j]? = some o → (∀ e ∈ o.after, Region.binds .any e = true → L.getD e.on false = true) → ∀ g, reach (mkMasks all.toList []) j g = true → L.getD g false = true := by
 obtain ⟨X, h1, h2, h3⟩ := mkMasks_spec all.toList []
 rw [List.nil_append] at h1
 intro j
 induction j using Nat.strongRecOn with
 | _ j ih =>
   intro o ho hp g hg
   unfold reach at hg
   rw [h1] at hg
   have ho' : all.toList[j]? = some o := by simpa using ho
   obtain ⟨e, he, hb, hh⟩ := h3 j o ho' g (by simpa using hg)
   have he' : e ∈ o.after := by simpa using he
   have hlt := downOk_get _ _ _ _ hd ho' e he' hb
   rw [Nat.zero_add] at hlt
   rcases hh with rfl | hh
   · exact hp e he' hb
   · have hsz : j < all.size := (Array.getElem?_eq_some_iff.1 ho).1
     have hon : all[e.on]? = some all[e.on] := Array.getElem?_eq_getElem (by omega)
     refine ih e.on hlt _ hon (hc e.on _ hon (hp e he' hb)) g ?_
     unfold reach
     rw [h1]
     simpa using hh
theorem writer_spec {all : Array Oper} {d g : Nat} (h : writer all d = some g) : ∃ o, all[g]? = some o ∧ o.dst = some d := by
 unfold writer at h
 have := List.find?_some h
 simp only [beq_iff_eq] at this
 cases ho : all[g]? with
 | none => rw [ho] at this; cases this
 | some o => rw [ho] at this; exact ⟨o, rfl, this⟩
theorem slotsOk_get {all : Array Oper} : ∀ {as bs : List Tm} {d : Nat}, slotsOk all d as bs = true → as.length = bs.length ∧ ∀ (i : Nat) a b, as[i]? = some a → bs[i]? = some b → writer all (d + i) = none → a = b
 | [], [], _, _ => ⟨rfl, fun i a b h => by simp at h⟩
 | [], _ :: _, _, h => by cases h
 | _ :: _, [], _, h => by cases h
 | a :: as, b :: bs, d, h => by
   simp only [slotsOk, Bool.and_eq_true, Bool.or_eq_true, beq_iff_eq] at h
   obtain ⟨h1, h2⟩ := slotsOk_get h.2
   refine ⟨by simp [h1], fun i x y hx hy hw => ?_⟩
   cases i with
   | zero =>
     simp at hx hy hw
     subst hx hy
     rcases h.1 with h | h
     · rw [hw] at h; cases h
     · exact h
   | succ i => exact h2 i x y (by simpa using hx) (by simpa using hy) (by rw [← hw]; congr 1; omega)
theorem opsOk_get {P : Program} {et : TypeId} {Γ : Ctx} {ms : List Nat} {al : List (Nat × List Tm)} {sts : List (Nat × Nat × Nat × List Tm)} {acc : List (Option (Tm × Out))} {all : Array Oper} {s0 s1 : St} : ∀ {l : List Oper} {r : List (Option (Tm × Out))} {j : Nat}, opsOk P et Γ ms al sts acc all s0 s1 j l r = true →
   ∀ (i : Nat) o, l[i]? = some o → ∃ x, r[i]? = some x ∧ opOk P et Γ ms al sts acc all s0 s1 (j + i) o x = true
 | [], _, _, _ => fun i o h => by simp at h
 | _ :: _, [], _, h => by cases h
 | o :: l, x :: r, j, h => by
   simp only [opsOk, Bool.and_eq_true] at h
   intro i q hq
   cases i with
   | zero => simp at hq; subst hq; exact ⟨x, rfl, h.1⟩
   | succ i =>
     obtain ⟨y, h1, h2⟩ := opsOk_get h.2 i q (by simpa using hq)
     exact ⟨y, by simpa using h1, by rw [show j + (i + 1) = j + 1 + i by omega]; exact h2⟩
theorem maskTm_get (ms : List Nat) (all : Array Oper) (j : Nat) (t0 : List Tm) (l : List Nat) : ∀ (ts : List Tm) (i k : Nat), (maskTm ms all j t0 l i ts)[k]? = (ts[k]?).map fun t => if l.contains (i + k) then seen ms all j (i + k) (t0.getD (i + k) .junk) t else .junk
 | [], i, k => by simp [maskTm]
 | t :: r, i, k => by
   cases k with
   | zero => simp [maskTm]
   | succ k => simp only [maskTm, List.getElem?_cons_succ]; rw [maskTm_get ms all j t0 l r (i + 1) k]; rw [show i + 1 + k = i + (k + 1) by omega]
theorem maskTm_length (ms : List Nat) (all : Array Oper) (j : Nat) (t0 : List Tm) (l : List Nat) : ∀ (ts : List Tm) (i : Nat), (maskTm ms all j t0 l i ts).length = ts.length
 | [], _ => rfl
 | t :: r, i => by simp [maskTm, maskTm_length ms all j t0 l r]
abbrev Sto := Nat × Nat × Nat × List Tm
theorem putAll_mem {l cells : List Tm} {off : Nat} {t : Tm} (h : t ∈ putAll cells off l) : t ∈ cells ∨ t ∈ l := by
 obtain ⟨k, hk⟩ := List.getElem?_of_mem h
 rw [putAll_get] at hk
 split at hk
 · exact .inr (List.mem_of_getElem? hk)
 · exact .inl (List.mem_of_getElem? hk)
theorem applySt_mem {p : Nat → Bool} {id : Nat} {q : Tm → Prop} : ∀ (sts : List Sto) (cs : List Tm), (∀ t ∈ cs, q t) → (∀ s ∈ sts, p s.1 = true → s.2.1 = id → ∀ t ∈ s.2.2.2, q t) → ∀ t ∈ applySt p id sts cs, q t
 | [], cs, h, _ => h
 | s :: r, cs, h, hs => by
   unfold applySt
   refine applySt_mem r _ ?_ (fun x hx => hs x (by simp [hx]))
   split
   · rename_i hc
     intro t ht
     rcases putAll_mem ht with h1 | h1
     · exact h t h1
     · exact hs s (by simp) hc.2 hc.1 t h1
   · exact h
theorem applySt_none {p : Nat → Bool} {id : Nat} : ∀ (sts : List Sto) (cs : List Tm), (∀ s ∈ sts, s.2.1 = id → p s.1 = false) → applySt p id sts cs = cs
 | [], cs, _ => rfl
 | s :: r, cs, h => by
   unfold applySt
   rw [if_neg, applySt_none r cs (fun x hx => h x (by simp [hx]))]
   rintro ⟨h1, h2⟩
   rw [h s (by simp) h1] at h2
   cases h2
theorem applySt_congr {p q : Nat → Bool} {id : Nat} : ∀ (sts : List Sto) (cs : List Tm), (∀ s ∈ sts, p s.1 = q s.1) → applySt p id sts cs = applySt q id sts cs
 | [], cs, _ => rfl
 | s :: r, cs, h => by
   unfold applySt
   rw [h s (by simp), applySt_congr r _ (fun x hx => h x (by simp [hx]))]
theorem applySt_length {p : Nat → Bool} {id : Nat} : ∀ (sts : List Sto) (cs : List Tm), (applySt p id sts cs).length = cs.length
 | [], cs => rfl
 | s :: r, cs => by
   unfold applySt
   rw [applySt_length r]
   split
   · rw [putAll_length]
   · rfl
theorem putAll_comm {cs a b : List Tm} {i j : Nat} (h : i + a.length ≤ j ∨ j + b.length ≤ i) : putAll (putAll cs i a) j b = putAll (putAll cs j b) i a := by
 apply List.ext_getElem?
 intro k
 simp only [putAll_get, putAll_length]
 by_cases h1 : j ≤ k ∧ k < j + b.length ∧ k < cs.length <;> by_cases h2 : i ≤ k ∧ k < i + a.length ∧ k < cs.length
 · omega
 · rw [if_pos h1, if_neg h2, if_pos h1]
 · rw [if_neg h1, if_pos h2, if_pos h2]
 · rw [if_neg h1, if_neg h2, if_neg h2, if_neg h1]
theorem applySt_put {p : Nat → Bool} {id off : Nat} {cells : List Tm} : ∀ (sts : List Sto) (cs : List Tm), (∀ s ∈ sts, s.2.1 = id → p s.1 = true → off + cells.length ≤ s.2.2.1 ∨ s.2.2.1 + s.2.2.2.length ≤ off) → applySt p id sts (putAll cs off cells) = putAll (applySt p id sts cs) off cells
 | [], cs, _ => rfl
 | s :: r, cs, h => by
   unfold applySt
   split
   · rename_i hc
     rw [putAll_comm (h s (by simp) hc.1 hc.2), applySt_put r _ (fun x hx => h x (by simp [hx]))]
   · exact applySt_put r _ (fun x hx => h x (by simp [hx]))
theorem applySt_one {ms : List Nat} {p q : Nat → Bool} {j id off : Nat} {cells : List Tm} : ∀ (sts : List Sto) (cs : List Tm), disjOk ms sts = true → (∀ s ∈ sts, reach ms s.1 j = true → p s.1 = false) → (sts.map (·.1)).Nodup → (j, id, off, cells) ∈ sts → p j = false → (∀ g, q g = if g = j then true else p g) → ∀ i, applySt q i sts cs = if i = id then putAll (applySt p i sts cs) off cells else applySt p i sts cs
 | [], cs, _, _, _, hm, _, _ => by cases hm
 | s :: r, cs, hd, hl, hn, hm, hp, hq => by
   intro i
   simp only [disjOk, Bool.and_eq_true] at hd
   simp only [List.map_cons, List.nodup_cons] at hn
   by_cases hs : s.1 = j
   · have hse : s = (j, id, off, cells) := by
       rcases List.mem_cons.1 hm with h | h
       · exact h.symm
       · exact absurd (List.mem_map.2 ⟨_, h, hs.symm⟩) hn.1
     subst hse
     have hr : ∀ x ∈ r, q x.1 = p x.1 := fun x hx => by
       rw [hq, if_neg]
       intro e
       exact hn.1 (List.mem_map.2 ⟨x, hx, e⟩)
     unfold applySt
     have hqj : q j = true := by rw [hq]; simp
     simp only [hqj, hp, Bool.false_eq_true, and_false, if_false, and_true]
     by_cases hi : i = id
     · subst hi
       rw [if_pos rfl, if_pos rfl, applySt_congr r _ hr, applySt_put]
       intro x hx he hpx
       have := List.all_eq_true.1 hd.1 x hx
       simp only [apartSt, Bool.or_eq_true, bne_iff_ne, ne_eq, decide_eq_true_eq] at this
       rcases this with ((h | h) | h) | h
       · exact absurd he.symm h
       · exact .inl h
       · exact .inr h
       · rw [hl x (by simp [hx]) h] at hpx; cases hpx
     · rw [if_neg (fun e => hi e.symm), if_neg hi, applySt_congr r _ hr]
   · have hm' : (j, id, off, cells) ∈ r := by
       rcases List.mem_cons.1 hm with h | h
       · exact absurd (by rw [← h]) hs
       · exact h
     unfold applySt
     rw [hq, if_neg hs]
     exact applySt_one r _ hd.2 (fun x hx => hl x (by simp [hx])) hn.2 hm' hp hq i
def isSt (out : Out) (id off : Nat) (cells : List Tm) : Prop := out = .store id off cells ∨ (off = 0 ∧ ∃ f a v, out = .mcall f a v id cells)
theorem storesOf_mem {i j id off : Nat} {cells : List Tm} : ∀ {l : List (Option (Tm × Out))}, (j, id, off, cells) ∈ storesOf i l ↔ ∃ n c out, j = i + n ∧ l[n]? = some (some (c, out)) ∧ isSt out id off cells
 | [] => by simp [storesOf]
 | z :: r => by
   have tail : (j, id, off, cells) ∈ storesOf (i + 1) r ↔ ∃ n c out, j = i + (n + 1) ∧ r[n]? = some (some (c, out)) ∧ isSt out id off cells := by
     rw [storesOf_mem]
     constructor
     · rintro ⟨n, c, out, h1, h2⟩; exact ⟨n, c, out, by omega, h2⟩
     · rintro ⟨n, c, out, h1, h2⟩; exact ⟨n, c, out, by omega, h2⟩
   have up : (∃ n c out, j = i + (n + 1) ∧ r[n]? = some (some (c, out)) ∧ isSt out id off cells) → ∃ n c out, j = i + n ∧ (z :: r)[n]? = some (some (c, out)) ∧ isSt out id off cells := by
     rintro ⟨n, c, out, h1, h2, h3⟩; exact ⟨n + 1, c, out, h1, by simpa using h2, h3⟩
   have down : (∀ c out, z = some (c, out) → ¬ isSt out id off cells) → (∃ n c out, j = i + n ∧ (z :: r)[n]? = some (some (c, out)) ∧ isSt out id off cells) → ∃ n c out, j = i + (n + 1) ∧ r[n]? = some (some (c, out)) ∧ isSt out id off cells := by
     rintro hz ⟨n, c, out, h1, h2, h3⟩
     cases n with
     | zero => simp at h2; exact absurd h3 (hz c out h2)
     | succ n => exact ⟨n, c, out, h1, by simpa using h2, h3⟩
   rcases z with _ | ⟨c, out⟩
   · rw [show storesOf i (none :: r) = storesOf (i + 1) r from rfl, tail]; exact ⟨up, down (by simp)⟩
   · cases out with
     | store id' off' cells' =>
       simp only [storesOf, List.mem_cons, tail]
       constructor
       · rintro (h | h)
         · obtain ⟨rfl, rfl, rfl, rfl⟩ : j = i ∧ id = id' ∧ off = off' ∧ cells = cells' := by simpa using h
           exact ⟨0, c, _, rfl, rfl, .inl rfl⟩
         · exact up h
       · rintro ⟨n, c', out, h1, h2, h3⟩
         cases n with
         | zero =>
           simp at h2
           obtain ⟨_, rfl⟩ := h2
           rcases h3 with h3 | ⟨_, f, a, v, h3⟩
           · obtain ⟨rfl, rfl, rfl⟩ := (Out.store.injEq _ _ _ _ _ _ ▸ h3 : _ ∧ _ ∧ _)
             exact .inl (by simp [h1])
           · cases h3
         | succ n => exact .inr ⟨n, c', out, h1, by simpa using h2, h3⟩
     | mcall f a v id' cells' =>
       simp only [storesOf, List.mem_cons, tail]
       constructor
       · rintro (h | h)
         · obtain ⟨rfl, rfl, rfl, rfl⟩ : j = i ∧ id = id' ∧ off = 0 ∧ cells = cells' := by simpa using h
           exact ⟨0, c, _, rfl, rfl, .inr ⟨rfl, _, _, _, rfl⟩⟩
         · exact up h
       · rintro ⟨n, c', out, h1, h2, h3⟩
         cases n with
         | zero =>
           simp at h2
           obtain ⟨_, rfl⟩ := h2
           rcases h3 with h3 | ⟨rfl, f, a, v, h3⟩
           · cases h3
           · obtain ⟨_, _, _, rfl, rfl⟩ := (Out.mcall.injEq _ _ _ _ _ _ _ _ _ _ ▸ h3 : _ ∧ _ ∧ _ ∧ _ ∧ _)
             exact .inl (by simp [h1])
         | succ n => exact .inr ⟨n, c', out, h1, by simpa using h2, h3⟩
     | val v => rw [show storesOf i (some (c, .val v) :: r) = storesOf (i + 1) r from rfl, tail]; exact ⟨up, down (by rintro c' out h; obtain ⟨_, rfl⟩ := Prod.mk.inj (Option.some.inj h); simp [isSt])⟩
     | alloc a e => rw [show storesOf i (some (c, .alloc a e) :: r) = storesOf (i + 1) r from rfl, tail]; exact ⟨up, down (by rintro c' out h; obtain ⟨_, rfl⟩ := Prod.mk.inj (Option.some.inj h); simp [isSt])⟩
     | mk v e => rw [show storesOf i (some (c, .mk v e) :: r) = storesOf (i + 1) r from rfl, tail]; exact ⟨up, down (by rintro c' out h; obtain ⟨_, rfl⟩ := Prod.mk.inj (Option.some.inj h); simp [isSt])⟩
     | call a e v t => rw [show storesOf i (some (c, .call a e v t) :: r) = storesOf (i + 1) r from rfl, tail]; exact ⟨up, down (by rintro c' out h; obtain ⟨_, rfl⟩ := Prod.mk.inj (Option.some.inj h); simp [isSt])⟩
     | acall a e v => rw [show storesOf i (some (c, .acall a e v) :: r) = storesOf (i + 1) r from rfl, tail]; exact ⟨up, down (by rintro c' out h; obtain ⟨_, rfl⟩ := Prod.mk.inj (Option.some.inj h); simp [isSt])⟩
def makes (out : Out) (cs : List Tm) : Prop := ((∃ e, out = .alloc cs e) ∨ ∃ f a, out = .acall f a cs) ∨ (cs = [] ∧ ((∃ v e, out = .mk v e) ∨ ∃ f a v e, out = .call f a v e))
theorem allocsOf_mem {g : Nat} {cs : List Tm} : ∀ {i : Nat} {l : List (Option (Tm × Out))}, (g, cs) ∈ allocsOf i l → ∃ n c out, g = i + n ∧ l[n]? = some (some (c, out)) ∧ makes out cs
 | _, [], h => by simp [allocsOf] at h
 | i, z :: r, h => by
   have tail : (g, cs) ∈ allocsOf (i + 1) r → ∃ n c out, g = i + n ∧ (z :: r)[n]? = some (some (c, out)) ∧ makes out cs := fun h => by
     obtain ⟨n, c, out, h1, h2, h3⟩ := allocsOf_mem h
     exact ⟨n + 1, c, out, by omega, by simpa using h2, h3⟩
   rcases z with _ | ⟨c, out⟩
   · exact tail h
   · cases out with
     | alloc cells e =>
       simp only [allocsOf, List.mem_cons] at h
       rcases h with h | h
       · obtain ⟨rfl, rfl⟩ := Prod.mk.inj h; exact ⟨0, c, _, rfl, rfl, .inl (.inl ⟨e, rfl⟩)⟩
       · exact tail h
     | acall f a cells =>
       simp only [allocsOf, List.mem_cons] at h
       rcases h with h | h
       · obtain ⟨rfl, rfl⟩ := Prod.mk.inj h; exact ⟨0, c, _, rfl, rfl, .inl (.inr ⟨f, a, rfl⟩)⟩
       · exact tail h
     | mk v e =>
       simp only [allocsOf, List.mem_cons] at h
       rcases h with h | h
       · obtain ⟨rfl, rfl⟩ := Prod.mk.inj h; exact ⟨0, c, _, rfl, rfl, .inr ⟨rfl, .inl ⟨v, e, rfl⟩⟩⟩
       · exact tail h
     | call f a v e =>
       simp only [allocsOf, List.mem_cons] at h
       rcases h with h | h
       · obtain ⟨rfl, rfl⟩ := Prod.mk.inj h; exact ⟨0, c, _, rfl, rfl, .inr ⟨rfl, .inr ⟨f, a, v, e, rfl⟩⟩⟩
       · exact tail h
     | val v => exact tail h
     | store _ _ _ => exact tail h
     | mcall _ _ _ _ _ => exact tail h
theorem eatsOf_mem {j n : Nat} : ∀ {i : Nat} {l : List (Option (Tm × Out))}, (j, n) ∈ eatsOf i l ↔ ∃ k c out, j = i + k ∧ l[k]? = some (some (c, out)) ∧ eatOf out = some n
 | i, [] => by simp [eatsOf]
 | i, z :: r => by
   have tail : (j, n) ∈ eatsOf (i + 1) r ↔ ∃ k c out, j = i + (k + 1) ∧ r[k]? = some (some (c, out)) ∧ eatOf out = some n := by
     rw [eatsOf_mem]
     constructor
     · rintro ⟨k, c, out, h1, h2⟩; exact ⟨k, c, out, by omega, h2⟩
     · rintro ⟨k, c, out, h1, h2⟩; exact ⟨k, c, out, by omega, h2⟩
   rcases z with _ | ⟨c, out⟩
   · simp only [eatsOf, tail]
     constructor
     · rintro ⟨k, c, out, h1, h2⟩; exact ⟨k + 1, c, out, h1, by simpa using h2⟩
     · rintro ⟨k, c, out, h1, h2, h3⟩
       cases k with
       | zero => simp at h2
       | succ k => exact ⟨k, c, out, h1, by simpa using h2, h3⟩
   · simp only [eatsOf, List.mem_append, tail]
     constructor
     · rintro (h | ⟨k, c', out', h1, h2⟩)
       · cases he : eatOf out with
         | none => rw [he] at h; simp at h
         | some m =>
           rw [he] at h
           simp only [List.mem_singleton, Prod.mk.injEq] at h
           exact ⟨0, c, out, by omega, rfl, by rw [he, h.2]⟩
       · exact ⟨k + 1, c', out', h1, by simpa using h2⟩
     · rintro ⟨k, c', out', h1, h2, h3⟩
       cases k with
       | zero =>
         simp at h2
         obtain ⟨_, rfl⟩ := h2
         left
         rw [h3]
         simp [h1]
       | succ k => exact .inr ⟨k, c', out', h1, by simpa using h2, h3⟩
theorem nodup_snd {α β : Type} : ∀ {l : List (α × β)}, (l.map (·.2)).Nodup → ∀ a ∈ l, ∀ b ∈ l, a.2 = b.2 → a = b
 | [], _ => fun a h => by cases h
 | x :: r, h => fun a ha b hb he => by
   simp only [List.map_cons, List.nodup_cons] at h
   rcases List.mem_cons.1 ha with rfl | ha' <;> rcases List.mem_cons.1 hb with rfl | hb'
   · rfl
   · exact absurd (List.mem_map.2 ⟨b, hb', he.symm⟩) h.1
   · exact absurd (List.mem_map.2 ⟨a, ha', he⟩) h.1
   · exact nodup_snd h.2 a ha' b hb' he
def Weaker (v a : List Tm) : Prop := v.length = a.length ∧ ∀ (k : Nat) c, v[k]? = some c → c = .junk ∨ a[k]? = some c
theorem Weaker.put {v a : List Tm} (h : Weaker v a) (off : Nat) (l : List Tm) : Weaker (putAll v off l) (putAll a off l) := by
 refine ⟨by rw [putAll_length, putAll_length]; exact h.1, fun k c hk => ?_⟩
 rw [putAll_get] at hk ⊢
 rw [← h.1]
 split at hk
 · rename_i hc; rw [if_pos hc]; exact .inr hk
 · rename_i hc; rw [if_neg hc]; exact h.2 k c hk
theorem Weaker.veil {v a : List Tm} (h : Weaker v a) (off : Nat) (l : List Tm) (b : Bool) : Weaker (putAll v off (l.map fun _ => .junk)) (if b then putAll a off l else a) := by
 refine ⟨by cases b <;> simp [putAll_length, h.1], fun k c hk => ?_⟩
 rw [putAll_get, List.length_map] at hk
 split at hk
 · left
   rw [List.getElem?_map] at hk
   cases hl : l[k - off]? with
   | none => rw [hl] at hk; cases hk
   | some x => rw [hl] at hk; exact (Option.some.inj hk).symm
 · rename_i hc
   rcases h.2 k c hk with h1 | h1
   · exact .inl h1
   · right
     cases b
     · exact h1
     · simp only [if_true]
       rw [putAll_get, ← h.1, if_neg hc]
       exact h1
theorem viewCs_weaker {ms : List Nat} {p : Nat → Bool} {j id : Nat} (h1 : ∀ g, reach ms j g = true → p g = true) (h2 : ∀ g, reach ms g j = true → p g = false) (h3 : p j = false) : ∀ (sts : List Sto) (v a : List Tm), Weaker v a → Weaker (viewCs ms j id sts v) (applySt p id sts a)
 | [], v, a, h => h
 | s :: r, v, a, h => by
   unfold viewCs applySt
   refine viewCs_weaker h1 h2 h3 r _ _ ?_
   by_cases hid : s.2.1 = id
   · rw [if_pos hid]
     by_cases hr : reach ms j s.1 = true
     · rw [if_pos hr, if_pos ⟨hid, h1 _ hr⟩]; exact h.put _ _
     · rw [if_neg hr]
       by_cases hr2 : s.1 = j ∨ reach ms s.1 j = true
       · rw [if_pos hr2, if_neg]
         · exact h
         · rintro ⟨_, hc⟩
           rcases hr2 with hr2 | hr2
           · rw [hr2, h3] at hc; cases hc
           · rw [h2 _ hr2] at hc; cases hc
       · rw [if_neg hr2]
         have := h.veil s.2.2.1 s.2.2.2 (p s.1)
         by_cases hp : p s.1 = true
         · rw [if_pos ⟨hid, hp⟩]; rw [hp] at this; exact this
         · rw [if_neg (fun hc => hp hc.2)]; simp only [Bool.not_eq_true] at hp; rw [hp] at this; exact this
   · rw [if_neg hid, if_neg (fun hc => hid hc.1)]; exact h
theorem BlkOk.weaker {X : Cx} {W : World} {id : Nat} {v a : List Tm} (h : BlkOk X W id a) (hw : Weaker v a) : BlkOk X W id v := by
 intro off c hc
 have hlt : off < a.length := by rw [← hw.1]; exact getElem?_lt hc
 obtain ⟨h1, h2, ⟨x, h3, h4⟩, h5⟩ := h off _ (List.getElem?_eq_getElem hlt)
 refine ⟨h1, h2, ⟨x, h3, ?_⟩, h5⟩
 rcases hw.2 off c hc with rfl | h6
 · exact trivial
 · rw [List.getElem?_eq_getElem hlt] at h6
   rw [← Option.some.inj h6]
   exact h4
theorem getD_set (L : Array Bool) (j g : Nat) (h : j < L.size) : (L.setIfInBounds j true).getD g false = if g = j then true else L.getD g false := by
 simp only [Array.getD_eq_getD_getElem?, Array.getElem?_setIfInBounds]
 by_cases hg : j = g
 · subst hg; simp [h]
 · rw [if_neg hg, if_neg (fun e => hg e.symm)]
def Pres (al : List (Nat × List Tm)) (base : Nat) (L : Array Bool) (id : Nat) : Bool :=
 decide (id < base) || (match al[id - base]? with
   | some (g, _) => L.getD g false
   | none => false)
def blksOf (s0 : St) (acc : List (Option (Tm × Out))) : List (List Tm) := s0.hp ++ (allocsOf 0 acc).map (·.2)
def ownD (s0 : St) (acc : List (Option (Tm × Out))) (L : Array Bool) (i : Nat) : Prop := ∃ ci, (blksOf s0 acc)[i]? = some ci ∧ ci ≠ [] ∧ Pres (allocsOf 0 acc) s0.hp.length L i = true
def labD (s0 : St) (acc : List (Option (Tm × Out))) (L : Array Bool) (n : Nat) : Prop := (blksOf s0 acc)[n]? = some [] ∧ Pres (allocsOf 0 acc) s0.hp.length L n = true
abbrev cxD (B : Base) (ρ : Env) (β : Nat → Nat) (o : Nat → Option Top) (s0 : St) (acc : List (Option (Tm × Out))) (L : Array Bool) (w : World) : Cx := ⟨ρ, β, o, okOf B.ok0 (ownD s0 acc L) β o, w⟩
def There (s0 : St) (acc : List (Option (Tm × Out))) (L : Array Bool) (n : Nat) : Prop :=
 n ∈ s0.lv ∨ (s0.hp.length ≤ n ∧ ∃ g cs, (allocsOf 0 acc)[n - s0.hp.length]? = some (g, cs) ∧ L.getD g false = true ∧ madeBy acc g = true)
structure Inv (B : Base) (all : Array Oper) (acc : List (Option (Tm × Out))) (s0 s1 : St) (ρ : Env) (β : Nat → Nat) (o : Nat → Option Top) (L : Array Bool) (a : Act) (w : World) : Prop where
 dfr : a.defers = []
 len : s1.tm.length = a.tmps.size
 sz : L.size = all.size
 cl : Closed all L
 slot : ∀ d t, s1.tm[d]? = some t → (∀ g, writer all d = some g → L.getD g false = true) → Rel (cxD B ρ β o s0 acc L w) t (a.tmps.getD d Go.undef)
 slot0 : ∀ d t, s0.tm[d]? = some t → (∀ g, writer all d = some g → L.getD g false = false) → Rel (cxD B ρ β o s0 acc L w) t (a.tmps.getD d Go.undef)
 blk : ∀ id cs, (blksOf s0 acc)[id]? = some cs → Pres (allocsOf 0 acc) s0.hp.length L id = true → BlkOk (cxD B ρ β o s0 acc L w) B.W id (applySt (fun g => L.getD g false) id (storesOf 0 acc) cs)
 wk : Wok B (ownD s0 acc L) (labD s0 acc L) β o w
 live : ∀ n, There s0 acc L n → (∀ x ∈ eatsOf 0 acc, x.2 = n → L.getD x.1 false = false) → ∃ T, o n = some T
structure Draw (P : Program) (Γ : Ctx) (all : Array Oper) (s0 s1 : St) (acc : List (Option (Tm × Out))) (ρ : Env) : Prop where
 down : downOk 0 all.toList = true
 nodup : ((allocsOf 0 acc).map (·.1)).Nodup
 slots : slotsOk all 0 s0.tm s1.tm = true
 snd : ((storesOf 0 acc).map (·.1)).Nodup
 dis : disjOk (mkMasks all.toList []) (storesOf 0 acc) = true
 hp : s1.hp = (blksOf s0 acc).mapIdx (fun id cs => applySt (fun _ => true) id (storesOf 0 acc) cs)
 n : s1.n = s0.n
 ops : opsOk P ρ.et Γ (mkMasks all.toList []) (allocsOf 0 acc) (storesOf 0 acc) acc all s0 s1 0 all.toList acc = true
 eats : ((eatsOf 0 acc).map (·.2)).Nodup
 pc : PcOk ρ b0 s1.pc
 pcc : ∀ x ∈ s1.pc, closed x.1 = true
 need : ∀ c out, some (c, out) ∈ acc → ∀ β, denB ρ β c = true
 tmi : ∀ t ∈ s0.tm, s0.idsOk t = true
 hpi : ∀ cs ∈ s0.hp, ∀ t ∈ cs, s0.idsOk t = true
 lvlt : ∀ n ∈ s0.lv, n < s0.hp.length
theorem dst_tm {s1 : St} {x : Tm} {od : Option Tmp} (h : (match od with | some d => s1.tm[d]? == some x || decide (s1.tm.length ≤ d) | none => true) = true) {d : Nat} (hd : od = some d) {t : Tm} (ht : s1.tm[d]? = some t) : t = x := by
 subst hd
 simp only [Bool.or_eq_true, beq_iff_eq, decide_eq_true_eq] at h
 rcases h with h | h
 · rw [ht] at h; exact Option.some.inj h
 · rw [List.getElem?_eq_none h] at ht; cases ht
theorem allowed_pres {all : Array Oper} {al : List (Nat × List Tm)} {base : Nat} {L : Array Bool} (hd : downOk 0 all.toList = true) (hc : Closed all L) {j : Nat} {o : Oper} (ho : all[j]? = some o) (hp : ∀ e ∈ o.after, Region.binds .any e = true → L.getD e.on false = true) :
   ∀ i, allowed (mkMasks all.toList []) al base j i = true → Pres al base L i = true := by
 intro i hi
 unfold allowed at hi
 unfold Pres
 simp only [Bool.or_eq_true] at hi ⊢
 refine hi.imp id fun h => ?_
 cases hal : al[i - base]? with
 | none => rw [hal] at h; cases h
 | some x => rw [hal] at h; exact reach_listed hd hc j o ho hp _ h
theorem newAt_get {al : List (Nat × List Tm)} {base j : Nat} {s1 : St} {od : Option Tmp} {cells : List Tm} {v : Nat → Tm} (h : newAt al base j s1 od cells v = true) : ∃ k, al[k]? = some (j, cells) ∧ ∀ d, od = some d → ∀ t, s1.tm[d]? = some t → t = v (base + k) := by
 unfold newAt at h
 obtain ⟨k, _, hk⟩ := List.any_eq_true.1 h
 simp only [Bool.and_eq_true, beq_iff_eq] at hk
 obtain ⟨⟨hk1, hk2⟩, hk3⟩ := hk
 refine ⟨k, ?_, fun d hd t ht => dst_tm hk3 hd ht⟩
 cases h : al[k]? with
 | none => rw [h] at hk1; cases hk1
 | some y =>
   rw [h] at hk1 hk2
   obtain ⟨g, cs⟩ := y
   simp at hk1 hk2
   rw [hk1, hk2]
section
variable {P : Program} {Γ : Ctx} {all : Array Oper} {s0 s1 : St} {acc : List (Option (Tm × Out))} {ρ : Env} {B : Base}
theorem pres_base {al : List (Nat × List Tm)} {base : Nat} {L : Array Bool} {id : Nat} (h : id < base) : Pres al base L id = true := by unfold Pres; simp [h]
theorem pres_al {al : List (Nat × List Tm)} {base : Nat} {L : Array Bool} {k g : Nat} {cs : List Tm} (h : al[k]? = some (g, cs)) (hL : L.getD g false = true) : Pres al base L (base + k) = true := by
 unfold Pres
 rw [show base + k - base = k by omega, h]
 simp [hL]
theorem slot_ids (D : Draw P Γ all s0 s1 acc ρ) {L : Array Bool} (hc : Closed all L) {d : Nat} {t : Tm} (ht : s1.tm[d]? = some t) (hw : ∀ g, writer all d = some g → L.getD g false = true) : idsIn (Pres (allocsOf 0 acc) s0.hp.length L) t = true := by
 cases hwr : writer all d with
 | none =>
   obtain ⟨h1, h2⟩ := slotsOk_get D.slots
   have hlt : d < s0.tm.length := by rw [h1]; exact getElem?_lt ht
   have := h2 d _ _ (List.getElem?_eq_getElem hlt) ht (by simpa using hwr)
   rw [← this]
   refine idsIn_mono (fun i hi => ?_) _ (D.tmi _ (List.getElem_mem hlt))
   unfold Pres
   rw [hi]
   rfl
 | some g =>
   obtain ⟨o, ho, hdst⟩ := writer_spec hwr
   have hL := hw g hwr
   obtain ⟨x, hx, hok⟩ := opsOk_get D.ops g o (by simpa using ho)
   rw [Nat.zero_add] at hok
   unfold opOk at hok
   simp only [Bool.and_eq_true] at hok
   obtain ⟨⟨_, _⟩, hok⟩ := hok
   have hal := allowed_pres (al := allocsOf 0 acc) (base := s0.hp.length) D.down hc ho (hc g o ho hL)
   cases x with
   | none =>
     simp only [Bool.and_eq_true] at hok
     rw [dst_tm hok.2 hdst ht]
     rfl
   | some co =>
     obtain ⟨c, out⟩ := co
     simp only [Bool.and_eq_true] at hok
     obtain ⟨_, hok⟩ := hok
     cases out with
     | val v =>
       simp only [Bool.and_eq_true] at hok
       rw [dst_tm hok.2 hdst ht]
       exact idsIn_mono hal _ hok.1
     | alloc cells e =>
       simp only [Bool.and_eq_true] at hok
       obtain ⟨k, hk, hkd⟩ := newAt_get hok.2
       rw [hkd d hdst t ht]
       exact pres_al hk hL
     | store id off cells =>
       simp only [Bool.and_eq_true] at hok
       rw [dst_tm hok.2 hdst ht]
       rfl
     | mk v eat =>
       simp only [Bool.and_eq_true] at hok
       obtain ⟨k, hk, hkd⟩ := newAt_get hok.2
       rw [hkd d hdst t ht]
       exact relab_ids (pres_al hk hL) v hok.1.1
     | call f args v eat =>
       simp only [Bool.and_eq_true] at hok
       obtain ⟨k, hk, hkd⟩ := newAt_get hok.2
       rw [hkd d hdst t ht]
       exact relab_ids (pres_al hk hL) v hok.1.1
     | mcall f args v id cells =>
       simp only [Bool.and_eq_true] at hok
       rw [dst_tm hok.2 hdst ht]
       exact idsIn_closed hok.1.1.1.1
     | acall f args cells =>
       simp only [Bool.and_eq_true] at hok
       obtain ⟨k, hk, hkd⟩ := newAt_get hok.2
       rw [hkd d hdst t ht]
       exact pres_al hk hL
theorem listed_size {L : Array Bool} {g : Nat} (h : L.getD g false = true) : g < L.size := by
 rcases Nat.lt_or_ge g L.size with h' | h'
 · exact h'
 · simp [Array.getD_eq_getD_getElem?, Array.getElem?_eq_none h'] at h
theorem cell_ids (D : Draw P Γ all s0 s1 acc ρ) {L : Array Bool} (hsz : L.size = all.size) (hcl : Closed all L) {id : Nat} {cs : List Tm} (hc : (blksOf s0 acc)[id]? = some cs) (hp : Pres (allocsOf 0 acc) s0.hp.length L id = true) :
   ∀ t ∈ applySt (fun g => L.getD g false) id (storesOf 0 acc) cs, idsIn (Pres (allocsOf 0 acc) s0.hp.length L) t = true := by
 have hop : ∀ g, L.getD g false = true → ∀ c out, acc[g]? = some (some (c, out)) → ∃ o, all[g]? = some o ∧ opOk P ρ.et Γ (mkMasks all.toList []) (allocsOf 0 acc) (storesOf 0 acc) acc all s0 s1 g o (some (c, out)) = true ∧ ∀ i, allowed (mkMasks all.toList []) (allocsOf 0 acc) s0.hp.length g i = true → Pres (allocsOf 0 acc) s0.hp.length L i = true := by
   intro g hg c out ha
   have hgs : g < all.size := by rw [← hsz]; exact listed_size hg
   have hog := Array.getElem?_eq_getElem hgs
   obtain ⟨y, hy, hok⟩ := opsOk_get D.ops g all[g] (by simpa using hog)
   rw [Nat.zero_add] at hok
   rw [ha] at hy
   obtain rfl := Option.some.inj hy
   exact ⟨_, hog, hok, allowed_pres D.down hcl hog (hcl g _ hog hg)⟩
 refine applySt_mem _ cs (fun t ht => ?_) (fun s hs hl hid t ht => ?_)
 · unfold blksOf at hc
   rcases Nat.lt_or_ge id s0.hp.length with hid | hid
   · rw [List.getElem?_append_left hid] at hc
     exact idsIn_mono (fun i hi => pres_base (by simpa using hi)) _ (D.hpi cs (List.mem_of_getElem? hc) t ht)
   · rw [List.getElem?_append_right hid, List.getElem?_map] at hc
     cases hal : (allocsOf 0 acc)[id - s0.hp.length]? with
     | none => rw [hal] at hc; cases hc
     | some y =>
       obtain ⟨g, cells⟩ := y
       rw [hal] at hc
       obtain rfl := Option.some.inj hc
       unfold Pres at hp
       rw [hal] at hp
       simp only [Bool.or_eq_true, decide_eq_true_eq] at hp
       obtain ⟨n, c, out, h1, h2, h3⟩ := allocsOf_mem (List.mem_of_getElem? hal)
       rw [Nat.zero_add] at h1
       subst h1
       rcases h3 with (⟨e, rfl⟩ | ⟨f, a, rfl⟩) | ⟨rfl, _⟩
       case inl.inr =>
         obtain ⟨o, _, hok, hpr⟩ := hop g (hp.resolve_left (by omega)) c _ h2
         unfold opOk at hok
         simp only [Bool.and_eq_true] at hok
         exact idsIn_closed (List.all_eq_true.1 hok.2.2.1.1 t ht)
       · obtain ⟨o, _, hok, hpr⟩ := hop g (hp.resolve_left (by omega)) c _ h2
         unfold opOk at hok
         simp only [Bool.and_eq_true] at hok
         exact idsIn_mono hpr _ (List.all_eq_true.1 hok.2.2.1 t ht)
       · cases ht
 · obtain ⟨g, id', off, cells⟩ := s
   obtain ⟨n, c, out, h1, h2, h3⟩ := storesOf_mem.1 hs
   rw [Nat.zero_add] at h1
   subst h1
   obtain ⟨o, _, hok, hpr⟩ := hop g hl c _ h2
   unfold opOk at hok
   simp only [Bool.and_eq_true] at hok
   rcases h3 with rfl | ⟨rfl, f, a, v, rfl⟩
   · simp only [Bool.and_eq_true] at hok
     exact idsIn_mono hpr _ (List.all_eq_true.1 hok.2.2.1.1.2 t ht)
   · simp only [Bool.and_eq_true] at hok
     exact idsIn_closed (List.all_eq_true.1 hok.2.2.1.1.1.2 t ht)
theorem Inv.put {β β' : Nat → Nat} {o o' : Nat → Option Top} {L : Array Bool} {a : Act} {w w' : World} (D : Draw P Γ all s0 s1 acc ρ) (I : Inv B all acc s0 s1 ρ β o L a w) {j : Nat} {op : Oper} (ho : all[j]? = some op) (hj : L.getD j true = false) (hp : ∀ e ∈ op.after, Region.binds .any e = true → L.getD e.on false = true)
   (hwr : ∀ d, op.dst = some d → writer all d = some j)
   {x : Value} (hx : ∀ d t, op.dst = some d → s1.tm[d]? = some t → Rel (cxD B ρ β' o' s0 acc (L.setIfInBounds j true) w') t x)
   (g : Goes (Pres (allocsOf 0 acc) s0.hp.length L) (cxD B ρ β o s0 acc L w) (cxD B ρ β' o' s0 acc (L.setIfInBounds j true) w'))
   (hblk : ∀ id cs, (blksOf s0 acc)[id]? = some cs → Pres (allocsOf 0 acc) s0.hp.length L id = true → BlkOk (cxD B ρ β' o' s0 acc (L.setIfInBounds j true) w') B.W id (applySt (fun g => (L.setIfInBounds j true).getD g false) id (storesOf 0 acc) cs))
   (hnew : ∀ (k : Nat) (cs : List Tm), (allocsOf 0 acc)[k]? = some (j, cs) → BlkOk (cxD B ρ β' o' s0 acc (L.setIfInBounds j true) w') B.W (s0.hp.length + k) (applySt (fun g => (L.setIfInBounds j true).getD g false) (s0.hp.length + k) (storesOf 0 acc) cs))
   (hwk : Wok B (ownD s0 acc (L.setIfInBounds j true)) (labD s0 acc (L.setIfInBounds j true)) β' o' w')
   (hlive : ∀ n, There s0 acc (L.setIfInBounds j true) n → (∀ x ∈ eatsOf 0 acc, x.2 = n → (L.setIfInBounds j true).getD x.1 false = false) → ∃ T, o' n = some T) :
   Inv B all acc s0 s1 ρ β' o' (L.setIfInBounds j true) (a.put op.dst x) w' := by
 have hjs : j < L.size := by
   rcases Nat.lt_or_ge j L.size with h | h
   · exact h
   · simp [Array.getD_eq_getD_getElem?, Array.getElem?_eq_none h] at hj
 have hset : ∀ g, (L.setIfInBounds j true).getD g false = if g = j then true else L.getD g false := fun g => getD_set L j g hjs
 have hlen : (a.put op.dst x).tmps.size = a.tmps.size := by cases op.dst <;> simp [Act.put]
 have hpres' : ∀ i, Pres (allocsOf 0 acc) s0.hp.length (L.setIfInBounds j true) i = true → Pres (allocsOf 0 acc) s0.hp.length L i = true ∨ ∃ (k : Nat) (cs : List Tm), i = s0.hp.length + k ∧ (allocsOf 0 acc)[k]? = some (j, cs) := by
   intro i hi
   unfold Pres at hi ⊢
   simp only [Bool.or_eq_true, decide_eq_true_eq] at hi ⊢
   rcases hi with hi | hi
   · exact .inl (.inl hi)
   · cases hak : (allocsOf 0 acc)[i - s0.hp.length]? with
     | none => rw [hak] at hi; cases hi
     | some y =>
       obtain ⟨g, cs⟩ := y
       rw [hak] at hi
       dsimp only at hi ⊢
       rw [hset] at hi
       by_cases hgj : g = j
       · subst hgj
         by_cases hlt : i < s0.hp.length
         · exact .inl (.inl hlt)
         · exact .inr ⟨i - s0.hp.length, cs, by omega, hak⟩
       · rw [if_neg hgj] at hi
         exact .inl (.inr hi)
 refine
   { dfr := by cases op.dst <;> exact I.dfr
     len := by rw [hlen]; exact I.len
     sz := by rw [Array.size_setIfInBounds]; exact I.sz
     cl := fun g q hq hg e he hbd => ?_
     slot := fun d t ht hw => ?_
     slot0 := fun d t ht hw => ?_
     blk := fun id cs hc hpr => ?_
     wk := hwk
     live := hlive }
 · rw [hset] at hg ⊢
   split
   · rfl
   · by_cases hgj : g = j
     · subst hgj
       rw [ho] at hq
       obtain rfl := Option.some.inj hq
       exact hp e he hbd
     · rw [if_neg hgj] at hg
       exact I.cl g q hq hg e he hbd
 · by_cases hdd : op.dst = some d
   · have hput : (a.put op.dst x).tmps.getD d Go.undef = x := by
       rw [hdd]
       have hlt : d < a.tmps.size := by rw [← I.len]; exact getElem?_lt ht
       simp [Act.put, hlt]
     rw [hput]
     exact hx d t hdd ht
   · have hput : (a.put op.dst x).tmps.getD d Go.undef = a.tmps.getD d Go.undef := by
       cases hod : op.dst with
       | none => rfl
       | some e =>
         have hne : e ≠ d := fun h => hdd (by rw [hod, h])
         simp [Act.put, Array.getElem?_setIfInBounds_ne hne]
     rw [hput]
     have hw' : ∀ g, writer all d = some g → L.getD g false = true := by
       intro g hg
       have := hw g hg
       rw [hset] at this
       by_cases hgj : g = j
       · subst hgj
         obtain ⟨q, hq, hqd⟩ := writer_spec hg
         rw [ho] at hq
         obtain rfl := Option.some.inj hq
         exact absurd hqd hdd
       · rw [if_neg hgj] at this
         exact this
     exact (I.slot d t ht hw').mono g (slot_ids D I.cl ht hw')
 · have hdd : op.dst ≠ some d := fun hdd => by
     have := hw j (hwr d hdd)
     rw [hset, if_pos rfl] at this
     cases this
   have hput : (a.put op.dst x).tmps.getD d Go.undef = a.tmps.getD d Go.undef := by
     cases hod : op.dst with
     | none => rfl
     | some e =>
       have hne : e ≠ d := fun h => hdd (by rw [hod, h])
       simp [Act.put, Array.getElem?_setIfInBounds_ne hne]
   rw [hput]
   have hw' : ∀ g, writer all d = some g → L.getD g false = false := by
     intro g hg
     have := hw g hg
     rw [hset] at this
     split at this
     · cases this
     · exact this
   exact (I.slot0 d t ht hw').mono g (idsIn_mono (fun i hi => pres_base (by simpa using hi)) _ (D.tmi t (List.mem_of_getElem? ht)))
 · rcases hpres' id hpr with h1 | ⟨k, cs', rfl, hk⟩
   · exact hblk id cs hc h1
   · have : (blksOf s0 acc)[s0.hp.length + k]? = some cs' := by
       unfold blksOf
       rw [List.getElem?_append_right (by omega), List.getElem?_map, show s0.hp.length + k - s0.hp.length = k by omega, hk]
       rfl
     rw [this] at hc
     obtain rfl := Option.some.inj hc
     exact hnew k _ hk
theorem ownD_set {L : Array Bool} {j : Nat} (hjs : j < L.size) {i : Nat} : ownD s0 acc (L.setIfInBounds j true) i ↔ ownD s0 acc L i ∨ ∃ (k : Nat) (cs : List Tm), i = s0.hp.length + k ∧ (allocsOf 0 acc)[k]? = some (j, cs) ∧ cs ≠ [] := by
 have hset : ∀ g, (L.setIfInBounds j true).getD g false = if g = j then true else L.getD g false := fun g => getD_set L j g hjs
 constructor
 · rintro ⟨ci, h1, h2, h3⟩
   unfold Pres at h3
   simp only [Bool.or_eq_true, decide_eq_true_eq] at h3
   rcases Nat.lt_or_ge i s0.hp.length with hi | hi
   · exact .inl ⟨ci, h1, h2, pres_base hi⟩
   · rcases h3 with h3 | h3
     · omega
     · cases hak : (allocsOf 0 acc)[i - s0.hp.length]? with
       | none => rw [hak] at h3; cases h3
       | some y =>
         obtain ⟨g, cs⟩ := y
         rw [hak] at h3
         dsimp only at h3
         rw [hset] at h3
         have hcs : ci = cs := by
           unfold blksOf at h1
           rw [List.getElem?_append_right hi, List.getElem?_map, hak] at h1
           exact (Option.some.inj h1).symm
         by_cases hgj : g = j
         · subst hgj
           exact .inr ⟨i - s0.hp.length, cs, by omega, hak, by rw [← hcs]; exact h2⟩
         · rw [if_neg hgj] at h3
           refine .inl ⟨ci, h1, h2, ?_⟩
           unfold Pres
           rw [hak]
           simp [h3]
 · rintro (⟨ci, h1, h2, h3⟩ | ⟨k, cs, rfl, hk, hne⟩)
   · refine ⟨ci, h1, h2, ?_⟩
     unfold Pres at h3 ⊢
     simp only [Bool.or_eq_true, decide_eq_true_eq] at h3 ⊢
     refine h3.imp id fun h => ?_
     cases hak : (allocsOf 0 acc)[i - s0.hp.length]? with
     | none => rw [hak] at h; cases h
     | some y =>
       rw [hak] at h
       dsimp only at h ⊢
       rw [hset, h]
       simp
   · refine ⟨cs, ?_, hne, pres_al hk (by rw [hset]; simp)⟩
     unfold blksOf
     rw [List.getElem?_append_right (by omega), List.getElem?_map, show s0.hp.length + k - s0.hp.length = k by omega, hk]
     rfl
theorem labD_set {L : Array Bool} {j : Nat} (hjs : j < L.size) {n : Nat} (h : labD s0 acc L n) : labD s0 acc (L.setIfInBounds j true) n := by
 obtain ⟨h1, h3⟩ := h
 refine ⟨h1, ?_⟩
 unfold Pres at h3 ⊢
 simp only [Bool.or_eq_true, decide_eq_true_eq] at h3 ⊢
 refine h3.imp id fun h => ?_
 cases hak : (allocsOf 0 acc)[n - s0.hp.length]? with
 | none => rw [hak] at h; cases h
 | some y =>
   rw [hak] at h
   dsimp only at h ⊢
   rw [getD_set L j _ hjs, h]
   simp
theorem ownD_same {L : Array Bool} {j : Nat} (hjs : j < L.size) (hn : ∀ (k : Nat) (cs : List Tm), (allocsOf 0 acc)[k]? = some (j, cs) → cs = []) : ownD s0 acc (L.setIfInBounds j true) = ownD s0 acc L := by
 funext i
 apply propext
 rw [ownD_set hjs]
 constructor
 · rintro (h | ⟨k, cs, _, hk, hne⟩)
   · exact h
   · exact absurd (hn k cs hk) hne
 · exact .inl
theorem Inv.keep {β β' : Nat → Nat} {o o' : Nat → Option Top} {L : Array Bool} {a : Act} {w w' : World} (D : Draw P Γ all s0 s1 acc ρ) (I : Inv B all acc s0 s1 ρ β o L a w) {j : Nat} (hjs : j < L.size) (hns : ∀ s ∈ storesOf 0 acc, s.1 ≠ j)
   (g : Goes (Pres (allocsOf 0 acc) s0.hp.length L) (cxD B ρ β o s0 acc L w) (cxD B ρ β' o' s0 acc (L.setIfInBounds j true) w')) (hb : ∀ i, ownD s0 acc L i → w'.heap[β i]? = w.heap[β i]?) :
   ∀ id cs, (blksOf s0 acc)[id]? = some cs → Pres (allocsOf 0 acc) s0.hp.length L id = true → BlkOk (cxD B ρ β' o' s0 acc (L.setIfInBounds j true) w') B.W id (applySt (fun g => (L.setIfInBounds j true).getD g false) id (storesOf 0 acc) cs) := by
 intro id cs hc hp
 have he : applySt (fun g => (L.setIfInBounds j true).getD g false) id (storesOf 0 acc) cs = applySt (fun g => L.getD g false) id (storesOf 0 acc) cs :=
   applySt_congr _ _ (fun s hs => by rw [getD_set L j s.1 hjs, if_neg (hns s hs)])
 rw [he]
 refine (I.blk id cs hc hp).go g (cell_ids D I.sz I.cl hc hp) (g.β id hp).symm fun hne => hb id ⟨cs, hc, fun h => hne ?_, hp⟩
 subst h
 exact List.eq_nil_of_length_eq_zero (by rw [applySt_length]; rfl)
theorem there_set {L : Array Bool} {j : Nat} (hjs : j < L.size) {n : Nat} (h : There s0 acc (L.setIfInBounds j true) n) : There s0 acc L n ∨ (s0.hp.length ≤ n ∧ ∃ cs, (allocsOf 0 acc)[n - s0.hp.length]? = some (j, cs) ∧ madeBy acc j = true) := by
 rcases h with h | ⟨h1, g, cs, h2, h3, h4⟩
 · exact .inl (.inl h)
 · rw [getD_set L j g hjs] at h3
   by_cases hg : g = j
   · subst hg; exact .inr ⟨h1, cs, h2, h4⟩
   · rw [if_neg hg] at h3
     exact .inl (.inr ⟨h1, g, cs, h2, h3, h4⟩)
theorem eats_set {L : Array Bool} {j n : Nat} (hjs : j < L.size) (h : ∀ x ∈ eatsOf 0 acc, x.2 = n → (L.setIfInBounds j true).getD x.1 false = false) : (∀ x ∈ eatsOf 0 acc, x.2 = n → L.getD x.1 false = false) ∧ (j, n) ∉ eatsOf 0 acc := by
 refine ⟨fun x hx he => ?_, fun hm => ?_⟩
 · have := h x hx he
   rw [getD_set L j x.1 hjs] at this
   split at this
   · cases this
   · exact this
 · have := h (j, n) hm rfl
   rw [getD_set L j j hjs, if_pos rfl] at this
   cases this
end
/-! Part 16: a region that draws its order, walked. -/
section
variable {P : Program} {Γ : Ctx} {all : Array Oper} {s0 s1 : St} {acc : List (Option (Tm × Out))} {ρ : Env} {B : Base}
theorem draw_step (hB : B.Ok) (hGB : B.G = Γ.G) (hg : Γ.Ok P ρ) (D : Draw P Γ all s0 s1 acc ρ) {β : Nat → Nat} {o : Nat → Option Top} {L : Array Bool} {a : Act} {w : World} (I : Inv B all acc s0 s1 ρ β o L a w) {j : Nat} (hr : j ∈ Region.ready .any all L) {Q : Exit → Act → World → Prop} {K : Act → World → Prop}
   (hK : ∀ β' o' a' w', Inv B all acc s0 s1 ρ β' o' (L.setIfInBounds j true) a' w' → K a' w') : wpOp P all Q j K a w := by
 obtain ⟨hj, op, ho, hp⟩ := mem_ready.1 hr
 obtain ⟨x, hx, hok⟩ := opsOk_get D.ops j op (by simpa using ho)
 rw [Nat.zero_add] at hok
 unfold opOk at hok
 simp only [Bool.and_eq_true] at hok
 obtain ⟨⟨hlook, hdst⟩, hok⟩ := hok
 have hjs : j < L.size := by
   rcases Nat.lt_or_ge j L.size with h | h
   · exact h
   · simp [Array.getD_eq_getD_getElem?, Array.getElem?_eq_none h] at hj
 have hjf : L.getD j false = false := by
   simp [Array.getD_eq_getD_getElem?, Array.getElem?_eq_getElem hjs] at hj ⊢
   exact hj
 have hset : ∀ g, (L.setIfInBounds j true).getD g false = if g = j then true else L.getD g false := fun g => getD_set L j g hjs
 have hwr : ∀ d, op.dst = some d → writer all d = some j := fun d hd => by
   rw [hd] at hdst
   simpa using hdst
 have hreach : ∀ g, reach (mkMasks all.toList []) j g = true → L.getD g false = true := fun g h => reach_listed D.down I.cl j op ho hp g h
 have hunreach : ∀ g, reach (mkMasks all.toList []) g j = true → L.getD g false = false := fun g h => by
   cases hl : L.getD g false with
   | false => rfl
   | true =>
     have hgs : g < all.size := by rw [← I.sz]; exact listed_size hl
     have hog := Array.getElem?_eq_getElem hgs
     have := reach_listed D.down I.cl g all[g] hog (I.cl g _ hog hl) j h
     rw [hjf] at this
     cases this
 have htm : TmOk (cxD B ρ β o s0 acc L w) (viewSt (mkMasks all.toList []) (allocsOf 0 acc) (storesOf 0 acc) all s0 s1 op j).tm a := by
   intro i
   show Rel (cxD B ρ β o s0 acc L w) ((maskTm (mkMasks all.toList []) all j s0.tm (op.looksAt all) 0 s1.tm).getD i .junk) _
   rw [List.getD_eq_getElem?_getD, maskTm_get, Nat.zero_add]
   cases ht : s1.tm[i]? with
   | none => exact trivial
   | some t =>
     simp only [Option.map_some, Option.getD_some]
     split
     · rename_i hc
       have hl := List.all_eq_true.1 hlook i (by simpa using hc)
       unfold seen
       cases hgw : writer all i with
       | none => exact I.slot i t ht fun g h => by rw [hgw] at h; cases h
       | some g =>
         rw [hgw] at hl
         dsimp only
         by_cases hr2 : reach (mkMasks all.toList []) g j = true
         · rw [if_pos hr2]
           have hlt : i < s0.tm.length := by rw [(slotsOk_get D.slots).1]; exact getElem?_lt ht
           have e0 := List.getElem?_eq_getElem hlt
           rw [List.getD_eq_getElem?_getD, e0]
           refine I.slot0 i _ e0 fun g' h => ?_
           rw [hgw] at h
           obtain rfl := Option.some.inj h
           exact hunreach _ hr2
         · rw [if_neg hr2]
           refine I.slot i t ht fun g' h => ?_
           rw [hgw] at h
           obtain rfl := Option.some.inj h
           simp only [Bool.or_eq_true] at hl
           exact hreach _ (hl.resolve_right hr2)
     · exact trivial
 have hlen : (viewSt (mkMasks all.toList []) (allocsOf 0 acc) (storesOf 0 acc) all s0 s1 op j).tm.length = a.tmps.size := by
   show (maskTm (mkMasks all.toList []) all j s0.tm (op.looksAt all) 0 s1.tm).length = _
   rw [maskTm_length]; exact I.len
 have hhp : HpOk (cxD B ρ β o s0 acc L w) B.W (viewHp (mkMasks all.toList []) (allocsOf 0 acc) (storesOf 0 acc) s0.hp j) := by
   intro id cs hc
   unfold viewHp at hc
   rw [List.getElem?_mapIdx] at hc
   have weak : ∀ v a, Weaker v a → Weaker (viewCs (mkMasks all.toList []) j id (storesOf 0 acc) v) (applySt (fun g => L.getD g false) id (storesOf 0 acc) a) := fun v a h => viewCs_weaker hreach hunreach hjf _ v a h
   rcases Nat.lt_or_ge id s0.hp.length with hid | hid
   · rw [List.getElem?_append_left hid] at hc
     rw [List.getElem?_eq_getElem hid] at hc
     obtain rfl := Option.some.inj hc
     have hb : (blksOf s0 acc)[id]? = some s0.hp[id] := by unfold blksOf; rw [List.getElem?_append_left hid, List.getElem?_eq_getElem hid]
     exact (I.blk id _ hb (pres_base hid)).weaker (weak _ _ ⟨rfl, fun k c h => .inr h⟩)
   · rw [List.getElem?_append_right hid, List.getElem?_map] at hc
     cases hal : (allocsOf 0 acc)[id - s0.hp.length]? with
     | none => rw [hal] at hc; cases hc
     | some y =>
       obtain ⟨g, cells⟩ := y
       rw [hal] at hc
       obtain rfl := Option.some.inj hc
       dsimp only
       by_cases hre : reach (mkMasks all.toList []) j g = true
       · have hb : (blksOf s0 acc)[id]? = some cells := by unfold blksOf; rw [List.getElem?_append_right hid, List.getElem?_map, hal]; rfl
         rw [if_pos hre]
         refine (I.blk id _ hb ?_).weaker (weak _ _ ⟨rfl, fun k c h => .inr h⟩)
         unfold Pres
         rw [hal]
         simp only [Bool.or_eq_true]
         exact .inr (hreach g hre)
       · rw [if_neg hre]
         intro off c h
         have hl := (weak [] [] ⟨rfl, fun k c h => .inr h⟩).1
         rw [applySt_length] at hl
         rw [List.getElem?_eq_none (by rw [hl]; exact Nat.zero_le _)] at h
         cases h
 have hpc : PcOk ρ β s1.pc := fun y hy => by rw [(closed_den (D.pcc y hy) β b0).2.1]; exact D.pc y hy
 obtain ⟨hyes, hno⟩ := wanted_of' (X := cxD B ρ β o s0 acc L w) (st := viewSt (mkMasks all.toList []) (allocsOf 0 acc) (storesOf 0 acc) all s0 s1 op j) htm hlen hpc (all := all) (o := op)
 unfold wpOp
 simp only [ho]
 have alj : ∀ (k : Nat) (cs : List Tm), (allocsOf 0 acc)[k]? = some (j, cs) → ∃ c out, x = some (c, out) ∧ makes out cs := by
   intro k cs hk
   obtain ⟨n, c, out, h1, h2, h3⟩ := allocsOf_mem (List.mem_of_getElem? hk)
   rw [Nat.zero_add] at h1
   subst h1
   rw [h2] at hx
   exact ⟨c, out, (Option.some.inj hx).symm, h3⟩
 have nost : (∀ c out id off cells, x = some (c, out) → ¬ isSt out id off cells) → ∀ s ∈ storesOf 0 acc, s.1 ≠ j := by
   intro hne s hs he
   obtain ⟨g, id, off, cells⟩ := s
   obtain ⟨n, c, out, h1, h2, h3⟩ := storesOf_mem.1 hs
   rw [Nat.zero_add] at h1
   dsimp only at he
   subst he h1
   rw [h2] at hx
   exact hne c out id off cells (Option.some.inj hx).symm h3
 have ns0 : ∀ {c0 : Tm} {out0 : Out}, (∀ id off cells, ¬ isSt out0 id off cells) → ∀ c out id off cells, some (c0, out0) = some (c, out) → ¬ isSt out id off cells := fun h c out id off cells he => by
   obtain ⟨_, rfl⟩ := Prod.mk.inj (Option.some.inj he)
   exact h id off cells
 have hmade : madeBy acc j = true → ∃ c out v, x = some (c, out) ∧ hasNew v = true ∧ ((∃ e, out = .mk v e) ∨ ∃ f as e, out = .call f as v e) := fun h => by
   unfold madeBy at h
   split at h
   · rename_i c v e hc
     rw [hc] at hx
     exact ⟨c, _, v, (Option.some.inj hx).symm, h, .inl ⟨e, rfl⟩⟩
   · rename_i c f as v e hc
     rw [hc] at hx
     exact ⟨c, _, v, (Option.some.inj hx).symm, h, .inr ⟨f, as, e, rfl⟩⟩
   · cases h
 have huniq : ∀ (k k' : Nat) (cs cs' : List Tm), (allocsOf 0 acc)[k]? = some (j, cs) → (allocsOf 0 acc)[k']? = some (j, cs') → k = k' := by
   intro k k' cs cs' h1 h2
   have hk : k < ((allocsOf 0 acc).map (·.1)).length := by rw [List.length_map]; exact getElem?_lt h1
   refine (List.getElem?_inj hk D.nodup).1 ?_
   rw [List.getElem?_map, List.getElem?_map, h1, h2]
   rfl
 have nowrite : ∀ s ∈ storesOf 0 acc, L.getD s.1 false = true → Pres (allocsOf 0 acc) s0.hp.length L s.2.1 = true := by
   intro s hs hl
   obtain ⟨g, id, off, cl⟩ := s
   obtain ⟨n, c', out, h1, h2, h3⟩ := storesOf_mem.1 hs
   rw [Nat.zero_add] at h1
   dsimp only at hl ⊢
   subst h1
   have hgs : g < all.size := by rw [← I.sz]; exact listed_size hl
   have hog := Array.getElem?_eq_getElem hgs
   obtain ⟨y, hy, hok'⟩ := opsOk_get D.ops g all[g] (by simpa using hog)
   rw [Nat.zero_add] at hok'
   rw [h2] at hy
   obtain rfl := Option.some.inj hy
   unfold opOk at hok'
   simp only [Bool.and_eq_true] at hok'
   rcases h3 with rfl | ⟨rfl, f, a, v, rfl⟩
   · simp only [Bool.and_eq_true] at hok'
     exact allowed_pres D.down I.cl hog (I.cl g _ hog hl) _ hok'.2.2.1.1.1
   · simp only [Bool.and_eq_true] at hok'
     exact allowed_pres D.down I.cl hog (I.cl g _ hog hl) _ hok'.2.2.1.1.2
 have quiet : (∀ c v e, x ≠ some (c, .mk v e)) → (∀ c f as v e, x ≠ some (c, .call f as v e)) → (∀ c cs e, x ≠ some (c, .alloc cs e)) → (∀ c f as cs, x ≠ some (c, .acall f as cs)) →
     (∀ (k : Nat) (cs : List Tm), (allocsOf 0 acc)[k]? = some (j, cs) → False) ∧ ownD s0 acc (L.setIfInBounds j true) = ownD s0 acc L ∧ (∀ n, There s0 acc (L.setIfInBounds j true) n → There s0 acc L n) := by
   intro h1 h2 h3 h4
   have hn : ∀ (k : Nat) (cs : List Tm), (allocsOf 0 acc)[k]? = some (j, cs) → False := fun k cs hk => by
     obtain ⟨c, out, hxe, hm⟩ := alj k cs hk
     rcases hm with (⟨e, rfl⟩ | ⟨f, as, rfl⟩) | ⟨_, ⟨v, e, rfl⟩ | ⟨f, as, v, e, rfl⟩⟩
     · exact h3 c cs e hxe
     · exact h4 c f as cs hxe
     · exact h1 c v e hxe
     · exact h2 c f as v e hxe
   refine ⟨hn, ownD_same hjs fun k cs hk => (hn k cs hk).elim, fun n hn' => ?_⟩
   rcases there_set hjs hn' with h | ⟨_, cs, hk, _⟩
   · exact h
   · exact (hn _ cs hk).elim
 have wkL : ∀ {β' o' w'} , ownD s0 acc (L.setIfInBounds j true) = ownD s0 acc L → Wok B (ownD s0 acc L) (labD s0 acc L) β' o' w' → Wok B (ownD s0 acc (L.setIfInBounds j true)) (labD s0 acc (L.setIfInBounds j true)) β' o' w' := fun he k => by
   rw [he]
   exact ⟨k.inj, k.lt, k.fr, k.keep, fun n T hT => ⟨labD_set hjs (k.top n T hT).1, (k.top n T hT).2⟩⟩
 cases x with
 | none =>
   simp only [Bool.and_eq_true] at hok
   have hw : Region.wanted op (yielded all a.tmps) = false := by
     refine hno ?_
     have := hok.1
     split at this
     · assumption
     · cases this
   rw [if_neg (by rw [hw]; decide)]
   obtain ⟨q1, q2, q3⟩ := quiet (by simp) (by simp) (by simp) (by simp)
   have g : Goes (Pres (allocsOf 0 acc) s0.hp.length L) (cxD B ρ β o s0 acc L w) (cxD B ρ β o s0 acc (L.setIfInBounds j true) w) := ⟨rfl, fun _ _ => rfl, fun _ _ _ h => h, by simp only [q2]; exact Kept.refl _ _⟩
   refine hK β o _ _ (I.put D ho hj hp hwr (fun d t hd ht => ?_) g (I.keep D hjs (nost (by simp)) g fun _ _ => rfl) (fun k cs hk => (q1 k cs hk).elim) (wkL q2 I.wk) fun n hn he => I.live n (q3 n hn) (eats_set hjs he).1)
   rw [dst_tm hok.2 hd ht]
   exact rfl
 | some co =>
   obtain ⟨c, out⟩ := co
   simp only [Bool.and_eq_true] at hok
   obtain ⟨⟨hwant, hev⟩, hok⟩ := hok
   have hw : Region.wanted op (yielded all a.tmps) = true := by
     refine hyes ?_
     split at hwant
     · assumption
     · cases hwant
   rw [if_pos hw]
   have hev' : evalOp P ρ.et Γ s1.pc (maskTm (mkMasks all.toList []) all j s0.tm (op.looksAt all) 0 s1.tm) (viewHp (mkMasks all.toList []) (allocsOf 0 acc) (storesOf 0 acc) s0.hp j) op.op = .ok c out := by
     split at hev
     · rename_i c' out' he
       simp only [Bool.and_eq_true, beq_iff_eq] at hev
       rw [he, hev.1, hev.2]
     · cases hev
   have hc := D.need c out (List.mem_of_getElem? hx)
   have heat : ∀ n, eatOf out = some n → (j, n) ∈ eatsOf 0 acc := fun n hn => eatsOf_mem.2 ⟨j, c, out, by omega, hx, hn⟩
   have hliveA : ∀ eat, eatOf out = eat → eatAt (mkMasks all.toList []) (allocsOf 0 acc) acc s0 j eat = true → ∀ n, eat = some n → ∃ T, o n = some T := by
     rintro eat hee hea n rfl
     refine I.live n ?_ fun y hy hyn => ?_
     · simp only [eatAt, Bool.or_eq_true] at hea
       rcases hea with hea | hea
       · exact .inl (by simpa using hea)
       · split at hea
         · rename_i g cs hgk
           simp only [Bool.and_eq_true, decide_eq_true_eq] at hea
           exact .inr ⟨hea.1.1, g, cs, hgk, hreach g hea.1.2, hea.2⟩
         · cases hea
     · have := nodup_snd D.eats y hy (j, n) (heat n hee) hyn
       rw [this]
       exact hjf
   have hlive : ∀ n, eatOf out = some n → ∃ T, o n = some T := fun n hn => by
     cases out <;> simp only [eatOf] at hn <;> first | (cases hn; done) | skip
     all_goals
       simp only [Bool.and_eq_true] at hok
       exact hliveA _ rfl hok.1.2 n (by simpa [eatOf] using hn)
   have hout := evalOp_sound (X := cxD B ρ β o s0 acc L w) (W := B.W) htm hhp hpc (I.wk.hok hB) (I.wk.tops ρ) hlive (hc β) hev'
   refine .inl ?_
   have made : ∀ (v : Tm) (eat : Option Nat), (closed v = true ∧ eatAt (mkMasks all.toList []) (allocsOf 0 acc) acc s0 j eat = true ∧ newAt (allocsOf 0 acc) s0.hp.length j s1 op.dst [] (fun k => relab k v) = true) → eatOf out = eat → ((∃ e, out = .mk v e) ∨ ∃ f as e, out = .call f as v e) →
       ∀ (y : Value) (w' : World) (o' : Nat → Option Top) (ok' : Nat → Nat → Prop), Done (okOf B.ok0 (ownD s0 acc L) β o) (exOf o eat) w w' o' ok' → Rel ⟨ρ, β, o', ok', w'⟩ (relab 0 v) y → (hasNew v = true → (o' 0).isSome = true) → K (a.put op.dst y) w' := by
     rintro v eat ⟨hv, hea, hna⟩ hee hvo y w' o' ok' hd hry hnew
     obtain ⟨k, hak, hdk⟩ := newAt_get hna
     have q2 : ownD s0 acc (L.setIfInBounds j true) = ownD s0 acc L := ownD_same hjs fun k' cs hk' => by
       have := huniq k k' _ _ hak hk'
       subst this
       rw [hak] at hk'
       exact (Prod.mk.inj (Option.some.inj hk')).2.symm
     have hnp : Pres (allocsOf 0 acc) s0.hp.length L (s0.hp.length + k) = false := by
       unfold Pres
       have h0 : decide (s0.hp.length + k < s0.hp.length) = false := decide_eq_false (by omega)
       rw [show s0.hp.length + k - s0.hp.length = k by omega, hak, h0]
       exact hjf
     have hml : ¬ labD s0 acc L (s0.hp.length + k) := fun h => by
       have h3 := h.2
       rw [hnp] at h3
       cases h3
     have hlm : labD s0 acc (L.setIfInBounds j true) (s0.hp.length + k) := by
       refine ⟨?_, pres_al hak (by rw [hset]; simp)⟩
       unfold blksOf
       rw [List.getElem?_append_right (by omega), List.getElem?_map, show s0.hp.length + k - s0.hp.length = k by omega, hak]
       rfl
     obtain ⟨k1, k2, k3, k4⟩ := I.wk.done hB (hliveA eat hee hea) hd (m := s0.hp.length + k) hml (lab' := labD s0 acc (L.setIfInBounds j true)) (fun n hn => labD_set hjs hn) hlm
     obtain ⟨o2, ho2⟩ : ∃ o2 : Nat → Option Top, o2 = fun n => if n = s0.hp.length + k then o' 0 else if some n = eat then none else o n := ⟨_, rfl⟩
     rw [← ho2] at k1 k2 k3
     have g : Goes (Pres (allocsOf 0 acc) s0.hp.length L) (cxD B ρ β o s0 acc L w) (cxD B ρ β o2 s0 acc (L.setIfInBounds j true) w') := ⟨rfl, fun _ _ => rfl, fun i hi T hT => by
       have hT' : o2 i = some T := hT
       rw [ho2] at hT'
       dsimp only at hT'
       have hne : i ≠ s0.hp.length + k := by
         rintro rfl
         rw [hnp] at hi
         cases hi
       rw [if_neg hne] at hT'
       split at hT'
       · cases hT'
       · exact hT', by simp only [q2]; exact k2⟩
     have hns : ∀ s ∈ storesOf 0 acc, s.1 ≠ j := nost (ns0 (by
       rcases hvo with ⟨e, rfl⟩ | ⟨f, as, e, rfl⟩ <;> simp [isSt]))
     refine hK β o2 _ _ (I.put D ho hj hp hwr (fun d t hd' ht => ?_) g (I.keep D hjs hns g k4) (fun k' cs hk' => ?_) (by rw [q2]; exact k1) fun n hn he => ?_)
     · rw [hdk d hd' t ht]
       show Rel ⟨ρ, β, o2, okOf B.ok0 (ownD s0 acc (L.setIfInBounds j true)) β o2, w'⟩ _ _
       rw [q2]
       exact (relab_move (ρ := ρ) (β := β) k3 (m := s0.hp.length + k) (by rw [ho2]; simp) v hv).1 y hry
     · have := huniq k k' _ _ hak hk'
       subst this
       rw [hak] at hk'
       obtain ⟨_, rfl⟩ := Prod.mk.inj (Option.some.inj hk')
       intro off c hco
       have : (applySt (fun g => (L.setIfInBounds j true).getD g false) (s0.hp.length + k) (storesOf 0 acc) ([] : List Tm)) = [] := List.eq_nil_of_length_eq_zero (by rw [applySt_length]; rfl)
       rw [this] at hco
       simp at hco
     · obtain ⟨he1, he2⟩ := eats_set hjs he
       have hold : There s0 acc L n → ∃ T, o2 n = some T := fun hth => by
         obtain ⟨T, hT⟩ := I.live n hth he1
         refine ⟨T, ?_⟩
         rw [ho2]
         dsimp only
         have h1 : n ≠ s0.hp.length + k := by
           rintro rfl
           exact hml (I.wk.top _ T hT).1
         have h2 : ¬ some n = eat := fun h => he2 (heat n (by rw [hee]; exact h.symm))
         rw [if_neg h1, if_neg h2]
         exact hT
       rcases there_set hjs hn with h | ⟨h1, cs, h2, h3⟩
       · exact hold h
       · have := huniq k _ _ _ hak h2
         have hnk : n = s0.hp.length + k := by omega
         obtain ⟨c', out', v', hxe, hnv, hvo'⟩ := hmade h3
         obtain ⟨rfl, rfl⟩ := Prod.mk.inj (Option.some.inj hxe)
         have hvv : v' = v := by
           rcases hvo with ⟨e, rfl⟩ | ⟨f, as, e, rfl⟩ <;> rcases hvo' with ⟨e', h⟩ | ⟨f', as', e', h⟩ <;> simp at h
           · exact h.1.symm
           · exact h.2.2.1.symm
         subst hvv
         obtain ⟨T, hT⟩ := Option.isSome_iff_exists.1 (hnew hnv)
         exact ⟨T, by rw [ho2, hnk]; simp [hT]⟩
   unfold Oper.wp
   cases out with
   | val v =>
     obtain ⟨y, h1, h2⟩ := hout
     rw [show (execOp a.eval op).run P w = _ from h1]
     simp only [Bool.and_eq_true] at hok
     obtain ⟨q1, q2, q3⟩ := quiet (by simp) (by simp) (by simp) (by simp)
     have g : Goes (Pres (allocsOf 0 acc) s0.hp.length L) (cxD B ρ β o s0 acc L w) (cxD B ρ β o s0 acc (L.setIfInBounds j true) w) := ⟨rfl, fun _ _ => rfl, fun _ _ _ h => h, by simp only [q2]; exact Kept.refl _ _⟩
     refine hK β o _ _ (I.put D ho hj hp hwr (fun d t hd ht => ?_) g (I.keep D hjs (nost (ns0 (by simp [isSt]))) g fun _ _ => rfl) (fun k cs hk => (q1 k cs hk).elim) (wkL q2 I.wk) fun n hn he => I.live n (q3 n hn) (eats_set hjs he).1)
     rw [dst_tm hok.2 hd ht]
     exact h2.mono g (idsIn_mono (allowed_pres D.down I.cl ho hp) _ hok.1)
   | store id off cells =>
     obtain ⟨xs, nx, h1, h2, h3⟩ := hout
     rw [show (execOp a.eval op).run P w = _ from h1]
     simp only [Bool.and_eq_true] at hok
     obtain ⟨⟨⟨hal, hids⟩, hfit⟩, hd0⟩ := hok
     have hpid := allowed_pres D.down I.cl ho hp id hal
     have hmem : (j, id, off, cells) ∈ storesOf 0 acc := storesOf_mem.2 ⟨j, c, _, by omega, hx, .inl rfl⟩
     obtain ⟨q1, q2, q3⟩ := quiet (by simp) (by simp) (by simp) (by simp)
     cases hbl : (blksOf s0 acc)[id]? with
     | none =>
       have hfit' := hfit
       rw [show (s0.hp ++ (allocsOf 0 acc).map (·.2))[id]? = none from hbl] at hfit'
       cases hfit'
     | some cs0 =>
       have hfit' := hfit
       rw [show (s0.hp ++ (allocsOf 0 acc).map (·.2))[id]? = some cs0 from hbl] at hfit'
       have hle : off + cells.length ≤ cs0.length := by simpa using hfit'
       have hwk : Wok B (ownD s0 acc L) (labD s0 acc L) β o (w.setCells (β id) off xs) ∧ Kept (okOf B.ok0 (ownD s0 acc L) β o) (okOf B.ok0 (ownD s0 acc L) β o) w (w.setCells (β id) off xs) := by
         by_cases hne : cs0 = []
         · subst hne
           have hc0 : cells = [] := List.eq_nil_of_length_eq_zero (by rw [List.length_nil] at hle; omega)
           subst hc0
           have hx0 : xs = [] := List.eq_nil_of_length_eq_zero h2.length.symm
           subst hx0
           exact ⟨I.wk, Kept.refl _ _⟩
         · exact I.wk.store ⟨cs0, hbl, hne, hpid⟩ off xs
       have g : Goes (Pres (allocsOf 0 acc) s0.hp.length L) (cxD B ρ β o s0 acc L w) (cxD B ρ β o s0 acc (L.setIfInBounds j true) (w.setCells (β id) off xs)) := ⟨rfl, fun _ _ => rfl, fun _ _ _ h => h, by simp only [q2]; exact hwk.2⟩
       rcases h3 with rfl | ⟨y0, rfl⟩
       all_goals
         refine hK β o _ _ (I.put D ho hj hp hwr (fun d t hd ht => ?_) g (fun id' cs hcs hp' => ?_) (fun k cs hk => (q1 k cs hk).elim) (wkL q2 hwk.1) fun n hn he => I.live n (q3 n hn) (eats_set hjs he).1)
         · rw [dst_tm hd0 hd ht]
           exact trivial
         · rw [applySt_one (storesOf 0 acc) cs D.dis (fun s _ h => hunreach s.1 h) D.snd hmem hjf hset id']
           by_cases hid : id' = id
           · subst hid
             rw [hbl] at hcs
             obtain rfl := Option.some.inj hcs
             rw [if_pos rfl]
             have := (I.blk id' cs0 hbl hp').put h2 (by rw [applySt_length]; exact hle) hwk.2
             show BlkOk (cxD B ρ β o s0 acc (L.setIfInBounds j true) (w.setCells (β id') off xs)) B.W id' _
             simp only [cxD, q2]
             exact this
           · rw [if_neg hid]
             refine (I.blk id' cs hcs hp').go g (cell_ids D I.sz I.cl hcs hp') rfl fun hne => ?_
             have hne' : cs ≠ [] := fun h => hne (by subst h; exact List.eq_nil_of_length_eq_zero (by rw [applySt_length]; rfl))
             by_cases hcn : cs0 = []
             · subst hcn
               have hc0 : cells = [] := List.eq_nil_of_length_eq_zero (by rw [List.length_nil] at hle; omega)
               subst hc0
               have hx0 : xs = [] := List.eq_nil_of_length_eq_zero h2.length.symm
               subst hx0
               rfl
             · exact heap_setCells _ xs off w _ fun e => hid (I.wk.inj id' id ⟨cs, hcs, hne', hp'⟩ ⟨cs0, hbl, hcn, hpid⟩ e)
   | mk v eat =>
     obtain ⟨y, w', o', ok', h1, h2, h3, h4⟩ := hout
     rw [show (execOp a.eval op).run P w = _ from h1]
     simp only [Bool.and_eq_true] at hok
     exact made v eat ⟨hok.1.1, hok.1.2, hok.2⟩ rfl (.inl ⟨eat, rfl⟩) y w' o' ok' h2 h3 h4
   | call f args v eat =>
     obtain ⟨xs, h1, h2⟩ := hout
     rw [show (execOp a.eval op).run P w = _ from h1]
     simp only [Bool.and_eq_true] at hok
     show Calls P f xs.toArray w _
     refine (evalOp_call (X := cxD B ρ β o s0 acc L w) hg (I.wk.hok hB) (by rw [← hGB]; exact I.wk.glob hB) (I.wk.tops ρ) hlive h2 (hc β) hev').mono ?_
     rintro e w' ⟨y, o', ok', rfl, h3, h4, h5⟩
     exact made v eat ⟨hok.1.1, hok.1.2, hok.2⟩ rfl (.inr ⟨f, args, eat, rfl⟩) y w' o' ok' h3 h4 h5
   | mcall f args v id cells =>
     obtain ⟨xs, h1, h2⟩ := hout
     rw [show (execOp a.eval op).run P w = _ from h1]
     simp only [Bool.and_eq_true] at hok
     obtain ⟨⟨⟨⟨hcv, hcl⟩, hal⟩, hfit⟩, hd0⟩ := hok
     have hpid := allowed_pres D.down I.cl ho hp id hal
     have hmem : (j, id, 0, cells) ∈ storesOf 0 acc := storesOf_mem.2 ⟨j, c, _, by omega, hx, .inr ⟨rfl, f, args, v, rfl⟩⟩
     obtain ⟨q1, q2, q3⟩ := quiet (by simp) (by simp) (by simp) (by simp)
     cases hbl : (blksOf s0 acc)[id]? with
     | none =>
       have hfit' := hfit
       rw [show (s0.hp ++ (allocsOf 0 acc).map (·.2))[id]? = none from hbl] at hfit'
       cases hfit'
     | some cs0 =>
       have hfit' := hfit
       rw [show (s0.hp ++ (allocsOf 0 acc).map (·.2))[id]? = some cs0 from hbl] at hfit'
       simp only [Bool.and_eq_true, decide_eq_true_eq, Bool.not_eq_true', List.isEmpty_eq_false_iff] at hfit'
       obtain ⟨hlen', hcn⟩ := hfit'
       have hown : ownD s0 acc L id := ⟨cs0, hbl, hcn, hpid⟩
       have hne : cells ≠ [] := by rintro rfl; exact hcn (List.eq_nil_of_length_eq_zero hlen'.symm)
       show Calls P f xs.toArray w _
       refine (evalOp_mcall (X := cxD B ρ β o s0 acc L w) (W := B.W) hg (I.wk.hok hB) (by rw [← hGB]; exact I.wk.glob hB) hhp h2 (fun cs _ _ => ⟨(I.wk.lt id hown).2, fun off h => h.2.1 id hown rfl⟩) hne (hc β) hev').mono ?_
       rintro e w' ⟨y, ok', vs, rfl, h3, h4, h4', h5, h6, h7⟩
       obtain ⟨k1, k2, k3⟩ := I.wk.wrote hown h3 h4 h4'
       have g : Goes (Pres (allocsOf 0 acc) s0.hp.length L) (cxD B ρ β o s0 acc L w) (cxD B ρ β o s0 acc (L.setIfInBounds j true) w') := ⟨rfl, fun _ _ => rfl, fun _ _ _ h => h, by simp only [q2]; exact k2⟩
       refine hK β o _ _ (I.put D ho hj hp hwr (fun d t hd ht => ?_) g (fun id' cs hcs hp' => ?_) (fun k cs hk => (q1 k cs hk).elim) (wkL q2 k1) fun n hn he => I.live n (q3 n hn) (eats_set hjs he).1)
       · rw [dst_tm hd0 hd ht]
         exact rel_new hcv (by simp only [q2]; exact k3) h5
       · rw [applySt_one (storesOf 0 acc) cs D.dis (fun s _ h => hunreach s.1 h) D.snd hmem hjf hset id']
         by_cases hid : id' = id
         · subst hid
           rw [hbl] at hcs
           obtain rfl := Option.some.inj hcs
           rw [if_pos rfl, putAll_all (by rw [applySt_length]; exact hlen')]
           exact BlkOk.written (X := cxD B ρ β o s0 acc (L.setIfInBounds j true) w') rfl rfl (I.wk.lt id' hown).1 (k1.lt id' hown).2 hcl (by simp only [q2]; exact k3) h6 h7
         · rw [if_neg hid]
           refine (I.blk id' cs hcs hp').go g (cell_ids D I.sz I.cl hcs hp') rfl fun hne => ?_
           have hne' : cs ≠ [] := fun h => hne (by subst h; exact List.eq_nil_of_length_eq_zero (by rw [applySt_length]; rfl))
           exact h3.block (β id') (I.wk.lt id' ⟨cs, hcs, hne', hp'⟩).2 (fun e => hid (I.wk.inj id' id ⟨cs, hcs, hne', hp'⟩ hown (Option.some.inj e)))
   | acall f args cells =>
     obtain ⟨xs, h1, h2⟩ := hout
     rw [show (execOp a.eval op).run P w = _ from h1]
     simp only [Bool.and_eq_true, Bool.not_eq_true', List.isEmpty_eq_false_iff] at hok
     obtain ⟨⟨hcl, hne⟩, hany⟩ := hok
     obtain ⟨k, hak, hdk⟩ := newAt_get hany
     have hnp : Pres (allocsOf 0 acc) s0.hp.length L (s0.hp.length + k) = false := by
       unfold Pres
       have h0 : decide (s0.hp.length + k < s0.hp.length) = false := decide_eq_false (by omega)
       rw [show s0.hp.length + k - s0.hp.length = k by omega, hak, h0]
       exact hjf
     have hno' : ¬ ownD s0 acc L (s0.hp.length + k) := fun h => by obtain ⟨_, _, _, h3⟩ := h; rw [hnp] at h3; cases h3
     show Calls P f xs.toArray w _
     refine (evalOp_acall (X := cxD B ρ β o s0 acc L w) hg (I.wk.hok hB) (by rw [← hGB]; exact I.wk.glob hB) h2 (hc β) hev').mono ?_
     rintro e w' ⟨b, ok', vs, rfl, h3, h4, h4', h5, h6, h7, h8, h9⟩
     obtain ⟨k1, k2, k3, k4⟩ := I.wk.acalled hB (m := s0.hp.length + k) (b := b) hno' (own' := ownD s0 acc (L.setIfInBounds j true)) (fun i hi hne => by
       rcases (ownD_set hjs).1 hi with h | ⟨k', cs, rfl, hk', _⟩
       · exact h
       · exact absurd (by rw [huniq k k' _ _ hak hk']) hne) h3 h4 h4' h5 h6 h7
     have hag : ∀ i, Pres (allocsOf 0 acc) s0.hp.length L i = true → β i = (if i = s0.hp.length + k then b else β i) := by
       intro i hi
       rw [if_neg]
       rintro rfl
       rw [hnp] at hi
       cases hi
     have g : Goes (Pres (allocsOf 0 acc) s0.hp.length L) (cxD B ρ β o s0 acc L w) (cxD B ρ (fun i => if i = s0.hp.length + k then b else β i) o s0 acc (L.setIfInBounds j true) w') := ⟨rfl, hag, fun _ _ _ h => h, k2⟩
     refine hK (fun i => if i = s0.hp.length + k then b else β i) o _ _ (I.put D ho hj hp hwr (fun d t hd ht => ?_) g (I.keep D hjs (nost (ns0 (by simp [isSt]))) g fun i hi => h3.block _ (I.wk.lt i hi).2 (fun e => by cases e)) (fun k' cs hk' => ?_)
       ⟨k1.inj, k1.lt, k1.fr, k1.keep, fun n T hT => ⟨labD_set hjs (k1.top n T hT).1, (k1.top n T hT).2⟩⟩ fun n hn he => ?_)
     · rw [hdk d hd t ht]
       simp [Rel, denV]
     · have := huniq k k' _ _ hak hk'
       subst this
       rw [hak] at hk'
       obtain ⟨_, rfl⟩ := Prod.mk.inj (Option.some.inj hk')
       have hnone : applySt (fun g => (L.setIfInBounds j true).getD g false) (s0.hp.length + k) (storesOf 0 acc) cells = cells := by
         refine applySt_none _ _ fun s hs hid => ?_
         rw [hset, if_neg (nost (ns0 (by simp [isSt])) s hs)]
         cases hl : L.getD s.1 false with
         | false => rfl
         | true =>
           have := nowrite s hs hl
           rw [hid, hnp] at this
           cases this
       rw [hnone]
       exact BlkOk.written (X := cxD B ρ (fun i => if i = s0.hp.length + k then b else β i) o s0 acc (L.setIfInBounds j true) w') (b := b) rfl (by show (if s0.hp.length + k = s0.hp.length + k then b else β (s0.hp.length + k)) = b; rw [if_pos rfl]) (Nat.le_trans I.wk.fr.size h5) h6 hcl k3 h8 h9
     · rcases there_set hjs hn with h | ⟨_, cs, _, h3⟩
       · exact I.live n h (eats_set hjs he).1
       · obtain ⟨c', out', v', hxe, _, hvo'⟩ := hmade h3
         obtain ⟨_, rfl⟩ := Prod.mk.inj (Option.some.inj hxe)
         rcases hvo' with ⟨e', h⟩ | ⟨f', as', e', h⟩ <;> cases h
   | alloc cells e =>
     obtain ⟨xs, h1, h2⟩ := hout
     rw [show (execOp a.eval op).run P w = _ from h1]
     simp only [Bool.and_eq_true] at hok
     obtain ⟨hids, hany⟩ := hok
     obtain ⟨k, hak, hdk⟩ := newAt_get hany
     have hnp : Pres (allocsOf 0 acc) s0.hp.length L (s0.hp.length + k) = false := by
       unfold Pres
       have h0 : decide (s0.hp.length + k < s0.hp.length) = false := decide_eq_false (by omega)
       rw [show s0.hp.length + k - s0.hp.length = k by omega, hak, h0]
       exact hjf
     have hno' : ¬ ownD s0 acc L (s0.hp.length + k) := fun h => by obtain ⟨_, _, _, h3⟩ := h; rw [hnp] at h3; cases h3
     obtain ⟨k1, k2, k3⟩ := I.wk.alloc (m := s0.hp.length + k) hno' (own' := ownD s0 acc (L.setIfInBounds j true)) (fun i hi hne => by
       rcases (ownD_set hjs).1 hi with h | ⟨k', cs, rfl, hk', _⟩
       · exact h
       · exact absurd (by rw [huniq k k' _ _ hak hk']) hne) (fun i hi => (ownD_set hjs).2 (.inl hi)) (.cells xs.toArray e)
     have hag : ∀ i, Pres (allocsOf 0 acc) s0.hp.length L i = true → β i = (if i = s0.hp.length + k then w.heap.size else β i) := by
       intro i hi
       rw [if_neg]
       rintro rfl
       rw [hnp] at hi
       cases hi
     have g : Goes (Pres (allocsOf 0 acc) s0.hp.length L) (cxD B ρ β o s0 acc L w) (cxD B ρ (fun i => if i = s0.hp.length + k then w.heap.size else β i) o s0 acc (L.setIfInBounds j true) (w.alloc (.cells xs.toArray e))) := ⟨rfl, hag, fun _ _ _ h => h, k2⟩
     refine hK (fun i => if i = s0.hp.length + k then w.heap.size else β i) o _ _ (I.put D ho hj hp hwr (fun d t hd ht => ?_) g (I.keep D hjs (nost (ns0 (by simp [isSt]))) g fun i hi => Below.heap_alloc w _ _ (I.wk.lt i hi).2) (fun k' cs hk' => ?_)
       ⟨k1.inj, k1.lt, k1.fr, k1.keep, fun n T hT => ⟨labD_set hjs (k1.top n T hT).1, (k1.top n T hT).2⟩⟩ fun n hn he => ?_)
     · rw [hdk d hd t ht]
       simp [Rel, denV]
     · have := huniq k k' _ _ hak hk'
       subst this
       rw [hak] at hk'
       obtain ⟨_, rfl⟩ := Prod.mk.inj (Option.some.inj hk')
       have hnone : applySt (fun g => (L.setIfInBounds j true).getD g false) (s0.hp.length + k) (storesOf 0 acc) cells = cells := by
         refine applySt_none _ _ fun s hs hid => ?_
         rw [hset, if_neg (nost (ns0 (by simp [isSt])) s hs)]
         cases hl : L.getD s.1 false with
         | false => rfl
         | true =>
           have := nowrite s hs hl
           rw [hid, hnp] at this
           cases this
       rw [hnone]
       intro off c' hco
       obtain ⟨y, hy, hry⟩ := h2.get off c' hco
       show B.W.heap.size ≤ (if s0.hp.length + k = s0.hp.length + k then w.heap.size else β (s0.hp.length + k)) ∧ _
       simp only [if_true]
       refine ⟨I.wk.fr.size, by simp, ⟨y, ?_, hry.mono g (idsIn_mono (allowed_pres D.down I.cl ho hp) _ (List.all_eq_true.1 hids c' (List.mem_of_getElem? hco)))⟩, by simp⟩
       rw [World.cell?_alloc_new]
       simp [hy]
     · rcases there_set hjs hn with h | ⟨_, cs, _, h3⟩
       · exact I.live n h (eats_set hjs he).1
       · obtain ⟨c', out', v', hxe, _, hvo'⟩ := hmade h3
         obtain ⟨_, rfl⟩ := Prod.mk.inj (Option.some.inj hxe)
         rcases hvo' with ⟨e', h⟩ | ⟨f', as', e', h⟩ <;> cases h
def left (L : Array Bool) : Nat := L.toList.countP (fun b => !b)
theorem left_set {L : Array Bool} {j : Nat} (h : L.getD j true = false) : left (L.setIfInBounds j true) + 1 = left L := by
 have hjs : j < L.size := by
   rcases Nat.lt_or_ge j L.size with h' | h'
   · exact h'
   · simp [Array.getD_eq_getD_getElem?, Array.getElem?_eq_none h'] at h
 have hf : L.toList[j]'(by simpa using hjs) = false := by
   simpa [Array.getD_eq_getD_getElem?, Array.getElem?_eq_getElem hjs] using h
 unfold left
 rw [Array.toList_setIfInBounds]
 have key : ∀ (l : List Bool) (j : Nat) (hj : j < l.length), l[j] = false → (l.set j true).countP (fun b => !b) + 1 = l.countP (fun b => !b) := by
   intro l
   induction l with
   | nil => intro j hj; simp at hj
   | cons b r ih =>
     intro j hj hb
     cases j with
     | zero => simp at hb; subst hb; simp
     | succ j =>
       have := ih j (by simpa using hj) (by simpa using hb)
       simp only [List.set_cons_succ, List.countP_cons]
       omega
 exact key _ _ (by simpa using hjs) hf
theorem ready_least (hd : downOk 0 all.toList = true) {L : Array Bool} (hsz : L.size = all.size) (hr : Region.ready .any all L = []) : ∀ j, j < all.size → L.getD j false = true := by
 intro j
 induction j using Nat.strongRecOn with
 | _ j ih =>
   intro hj
   cases hl : L.getD j false with
   | true => rfl
   | false =>
     have hjs : j < L.size := by omega
     have : j ∈ Region.ready .any all L := by
       rw [mem_ready]
       refine ⟨?_, all[j], Array.getElem?_eq_getElem hj, fun e he hb => ?_⟩
       · simp [Array.getD_eq_getD_getElem?, Array.getElem?_eq_getElem hjs] at hl ⊢
         exact hl
       · have := downOk_get _ _ _ _ hd (show all.toList[j]? = some all[j] by simp [hj]) e he hb
         exact ih e.on (by omega) (by omega)
     rw [hr] at this
     cases this
theorem draw_any (hB : B.Ok) (hGB : B.G = Γ.G) (hg : Γ.Ok P ρ) (D : Draw P Γ all s0 s1 acc ρ) {Q : Exit → Act → World → Prop}
   (hQ : ∀ β o L a w, Inv B all acc s0 s1 ρ β o L a w → (∀ j, j < all.size → L.getD j false = true) → Q .normal a w) :
   ∀ (fuel : Nat) (L : Array Bool) (β : Nat → Nat) (o : Nat → Option Top) (a : Act) (w : World), Inv B all acc s0 s1 ρ β o L a w → left L ≤ fuel → wpAny P .any all Q fuel L a w := by
 intro fuel
 induction fuel with
 | zero =>
   intro L β o a w I hf
   have hr : Region.ready .any all L = [] := by
     cases h : Region.ready .any all L with
     | nil => rfl
     | cons j r =>
       have hm : j ∈ Region.ready .any all L := by rw [h]; simp
       have := left_set (mem_ready.1 hm).1
       omega
   exact ⟨hr, hQ β o L a w I (ready_least D.down I.sz hr)⟩
 | succ fuel ih =>
   intro L β o a w I hf
   refine ⟨fun hr => hQ β o L a w I (ready_least D.down I.sz hr), fun j hj => ?_⟩
   refine draw_step hB hGB hg D I hj fun β' o' a' w' I' => ?_
   refine ih _ β' o' a' w' I' ?_
   have := left_set (mem_ready.1 hj).1
   omega
end
/-! Part 17: the walk is right. -/
theorem dops_path {P : Program} {et : TypeId} {Γ : Ctx} {anns : List Ann} {sh : Sh} {rs : List ResultVar} {K : Value → Prop} {ρ : Env} {all : Array Oper} {s0 : St} {k : List It} : ∀ (n : Nat) (st : St) (l : List Oper) (acc : List (Option (Tm × Out))) (t : Tree),
   run P et Γ anns sh rs n st (.dops all l s0 acc :: k) = some t → t.holds K ρ → PcOk ρ b0 st.pc → (∀ x ∈ st.pc, closed x.1 = true) → (∀ c out, some (c, out) ∈ acc → ∀ β, denB ρ β c = true) →
   ∃ n' s1 acc' t', n' < n ∧ drawOk P et Γ all s0 s1 acc' = true ∧ run P et Γ anns sh rs n' s1 k = some t' ∧ t'.holds K ρ ∧ PcOk ρ b0 s1.pc ∧ (∀ x ∈ s1.pc, closed x.1 = true) ∧ (∀ c out, some (c, out) ∈ acc' → ∀ β, denB ρ β c = true) := by
 intro n
 induction n with
 | zero => intro st l acc t h; cases h
 | succ n ih =>
   intro st l acc t h ht hpc hcl hnd
   have up : (∃ n' s1 acc' t', n' < n ∧ drawOk P et Γ all s0 s1 acc' = true ∧ run P et Γ anns sh rs n' s1 k = some t' ∧ t'.holds K ρ ∧ PcOk ρ b0 s1.pc ∧ (∀ x ∈ s1.pc, closed x.1 = true) ∧ (∀ c out, some (c, out) ∈ acc' → ∀ β, denB ρ β c = true)) →
       ∃ n' s1 acc' t', n' < n + 1 ∧ drawOk P et Γ all s0 s1 acc' = true ∧ run P et Γ anns sh rs n' s1 k = some t' ∧ t'.holds K ρ ∧ PcOk ρ b0 s1.pc ∧ (∀ x ∈ s1.pc, closed x.1 = true) ∧ (∀ c out, some (c, out) ∈ acc' → ∀ β, denB ρ β c = true) := by
     rintro ⟨n', s1, acc', t', h1, h2⟩
     exact ⟨n', s1, acc', t', by omega, h2⟩
   have hlearn : ∀ c b, closed c = true → denB ρ b0 c = b → PcOk ρ b0 (st.learn c b).pc ∧ ∀ x ∈ (st.learn c b).pc, closed x.1 = true := by
     intro c b h1 h2
     refine ⟨fun x hx => ?_, fun x hx => ?_⟩
     · simp only [St.learn, List.mem_append, List.mem_singleton] at hx
       rcases hx with hx | rfl
       · exact hpc x hx
       · exact bare_den ρ b0 c b h2
     · simp only [St.learn, List.mem_append, List.mem_singleton] at hx
       rcases hx with hx | rfl
       · exact hcl x hx
       · exact bare_closed c b h1
   cases l with
   | nil =>
     unfold run at h
     simp only [forceSt_eq, forceA_eq] at h
     split at h
     · rename_i hd
       exact ⟨n, st, acc, t, Nat.lt_succ_self n, hd, h, ht, hpc, hcl, hnd⟩
     · cases h
   | cons o l =>
     unfold run at h
     split at h
     · refine up (ih _ l _ t h ht (by cases o.dst <;> exact hpc) (by cases o.dst <;> exact hcl) fun c out hm => ?_)
       rw [List.mem_append, List.mem_singleton] at hm
       rcases hm with hm | hm
       · exact hnd c out hm
       · cases hm
     · rename_i c _
       obtain ⟨hc, ⟨hb, x, hx, hxt⟩ | ⟨hb, x, hx, hxt⟩⟩ := branch_spec h ht
       · exact up (ih _ (o :: l) acc x hx hxt (hlearn c true hc hb).1 (hlearn c true hc hb).2 hnd)
       · exact up (ih _ (o :: l) acc x hx hxt (hlearn c false hc hb).1 (hlearn c false hc hb).2 hnd)
     · split at h
       · rename_i c out he
         split at h
         · have hned := needT_spec h ht
           obtain ⟨_, x, hx, hxt⟩ := hned b0
           have hpcd : (st.done o.dst out).pc = st.pc := by cases out <;> cases o.dst <;> rfl
           refine up (ih _ l _ x hx hxt (by rw [hpcd]; exact hpc) (by rw [hpcd]; exact hcl) fun c' out' hm => ?_)
           rw [List.mem_append, List.mem_singleton] at hm
           rcases hm with hm | hm
           · exact hnd c' out' hm
           · obtain ⟨rfl, rfl⟩ := Prod.mk.inj (Option.some.inj hm)
             exact fun β => (hned β).1
         · cases h
       · rename_i c _
         obtain ⟨hc, ⟨hb, x, hx, hxt⟩ | ⟨hb, x, hx, hxt⟩⟩ := branch_spec h ht
         · exact up (ih _ (o :: l) acc x hx hxt (hlearn c true hc hb).1 (hlearn c true hc hb).2 hnd)
         · exact up (ih _ (o :: l) acc x hx hxt (hlearn c false hc hb).1 (hlearn c false hc hb).2 hnd)
       · cases h
     · cases h
theorem opsOk_len {P : Program} {et : TypeId} {Γ : Ctx} {ms : List Nat} {al : List (Nat × List Tm)} {sts : List Sto} {acc : List (Option (Tm × Out))} {all : Array Oper} {s0 s1 : St} : ∀ {l : List Oper} {r : List (Option (Tm × Out))} {j : Nat}, opsOk P et Γ ms al sts acc all s0 s1 j l r = true → r.length = l.length
 | [], [], _, _ => rfl
 | [], _ :: _, _, h => by cases h
 | _ :: _, [], _, h => by cases h
 | o :: l, x :: r, j, h => by
   simp only [opsOk, Bool.and_eq_true] at h
   simp [opsOk_len h.2]
theorem draw_sound {P : Program} {Γ : Ctx} {anns : List Ann} {sh : Sh} {rs : List ResultVar} {K : Value → Prop} {B : Base} {ρ : Env} {β : Nat → Nat} {o : Nat → Option Top} {w : World} {st : St} {a : Act} {k : List It} {Q : Exit → Act → World → Prop} {id : Nat} {ops : Array Oper} {t : Tree} {n : Nat}
   (hm : P.follows .mixedOrders = true) (hB : B.Ok) (hGB : B.G = Γ.G) (hg : Γ.Ok P ρ) (m : Match B ρ β o st a w) (h : run P ρ.et Γ anns sh rs n st (.dops ops ops.toList st [] :: k) = some t) (ht : t.holds K ρ)
   (hk : ∀ n' st' a' w' β' o' t', n' < n → run P ρ.et Γ anns sh rs n' st' k = some t' → t'.holds K ρ → Match B ρ β' o' st' a' w' → Q .normal a' w') : (Code.region id ops true).wp P Q a w := by
 obtain ⟨n', s1, acc, t', hn, hd, hr, ht', hpc, hcl, hnd⟩ := dops_path n st _ _ t h ht m.pc m.pcc (fun c out hm => by cases hm)
 unfold drawOk at hd
 simp only [Bool.and_eq_true, decide_eq_true_eq, beq_iff_eq] at hd
 obtain ⟨⟨⟨⟨⟨⟨⟨⟨⟨⟨d1, d2⟩, d3⟩, d7⟩, d8⟩, d4⟩, d5⟩, d6⟩, d9⟩, d10⟩, d11⟩ := hd
 replace d4 : s1.hp = (blksOf st acc).mapIdx (fun id cs => applySt (fun _ => true) id (storesOf 0 acc) cs) := d4
 have hlvlt : ∀ n ∈ st.lv, n < st.hp.length := fun n hn => by
   obtain ⟨T, hT⟩ := m.live n hn
   exact getElem?_lt (show st.hp[n]? = some [] from (m.wk.top n T hT).1)
 have D : Draw P Γ ops st s1 acc ρ := { down := d1, nodup := d2, slots := d3, snd := d7, dis := d8, hp := d4, n := d5, ops := d6, eats := d9, pc := hpc, pcc := hcl, need := hnd, tmi := m.tmi, hpi := m.hpi, lvlt := hlvlt }
 obtain ⟨e1, e2⟩ := slotsOk_get d3
 have hfalse : ∀ g, (Array.replicate ops.size false).getD g false = false := fun g => by
   rcases Nat.lt_or_ge g ops.size with h | h <;> simp [Array.getD_eq_getD_getElem?, Array.getElem?_replicate, h]
 have hpres : ∀ i, Pres (allocsOf 0 acc) st.hp.length (Array.replicate ops.size false) i = true ↔ i < st.hp.length := by
   intro i
   constructor
   · intro hi
     unfold Pres at hi
     simp only [Bool.or_eq_true, decide_eq_true_eq] at hi
     rcases hi with hi | hi
     · exact hi
     · split at hi
       · rw [hfalse] at hi; cases hi
       · cases hi
   · exact pres_base
 have hblk : ∀ i, i < st.hp.length → (blksOf st acc)[i]? = st.hp[i]? := fun i hi => by unfold blksOf; rw [List.getElem?_append_left hi]
 have hownE : ownD st acc (Array.replicate ops.size false) = ownOf st.hp := by
   funext i
   apply propext
   constructor
   · rintro ⟨ci, h1, h2, h3⟩
     rw [hblk i ((hpres i).1 h3)] at h1
     exact ⟨ci, h1, h2⟩
   · rintro ⟨ci, h1, h2⟩
     have hi := getElem?_lt h1
     exact ⟨ci, by rw [hblk i hi]; exact h1, h2, (hpres i).2 hi⟩
 have hlabE : ∀ n, labOf st.hp n → labD st acc (Array.replicate ops.size false) n := fun n h => by
   have hi := getElem?_lt (show st.hp[n]? = some [] from h)
   exact ⟨by rw [hblk n hi]; exact h, (hpres n).2 hi⟩
 have hkd : Kept (okOf B.ok0 (ownOf st.hp) β o) (okOf B.ok0 (ownOf st.hp) β o) w w.drew := ⟨Nat.le_refl _, fun _ _ _ h => ⟨h, rfl⟩⟩
 have gd : Goes (fun _ => true) (cxOf B ρ β o st.hp w) (cxD B ρ β o st acc (Array.replicate ops.size false) w.drew) := ⟨rfl, fun _ _ => rfl, fun _ _ _ h => h, by simp only [hownE]; exact hkd⟩
 have hall1 : ∀ t, idsIn (fun _ => true) t = true := by
   intro t
   induction t with
   | hs lab K t ih => cases lab <;> simp [idsIn, ih]
   | _ => simp_all [idsIn]
 have I : Inv B ops acc st s1 ρ β o (Array.replicate ops.size false) a w.drew :=
   { dfr := m.dfr
     len := by rw [← e1]; exact m.len
     sz := by simp
     cl := fun g op _ hl => by rw [hfalse] at hl; cases hl
     slot := fun d t htd hw => by
       have hwn : writer ops d = none := by
         cases hwr : writer ops d with
         | none => rfl
         | some g => have := hw g hwr; rw [hfalse] at this; cases this
       have hlt : d < st.tm.length := by rw [e1]; exact getElem?_lt htd
       have h0 := e2 d _ _ (List.getElem?_eq_getElem hlt) htd (by simpa using hwn)
       have := m.tm d
       rw [List.getD_eq_getElem?_getD, List.getElem?_eq_getElem hlt, h0] at this
       exact Rel.mono this gd (hall1 _)
     slot0 := fun d t htd _ => by
       have := m.tm d
       rw [List.getD_eq_getElem?_getD, htd] at this
       exact Rel.mono this gd (hall1 _)
     blk := fun id cs hc hp => by
       have hid := (hpres id).1 hp
       rw [hblk id hid] at hc
       rw [applySt_none _ _ (fun s _ _ => hfalse s.1)]
       exact (m.hp id cs hc).go gd (fun t _ => hall1 t) rfl fun _ => rfl
     wk := by
       rw [hownE]
       exact ⟨m.wk.inj, m.wk.lt, ⟨m.wk.fr.os, m.wk.fr.tape, m.wk.fr.output, m.wk.fr.size, m.wk.fr.block⟩, m.wk.keep, fun n T hT => ⟨hlabE n (m.wk.top n T hT).1, (m.wk.top n T hT).2.1.same fun b hb => rfl, (m.wk.top n T hT).2.2⟩⟩
     live := fun n hn _ => by
       rcases hn with hn | ⟨_, g, cs, _, h3, _⟩
       · exact m.live n hn
       · rw [hfalse] at h3; cases h3 }
 refine wp_region_any hm (draw_any hB hGB hg D (fun β' o' L a' w' I' hall => ?_) ops.size _ β o a _ I ?_)
 · refine hk n' s1 a' w' β' o' t' hn hr ht' ?_
   have hallL : ∀ g c out, acc[g]? = some (some (c, out)) → L.getD g false = true := fun g c out h => by
     refine hall g ?_
     have := opsOk_len d6
     have hlt := getElem?_lt h
     rw [this] at hlt
     simpa using hlt
   have hpr : ∀ i, Pres (allocsOf 0 acc) st.hp.length L i = true ↔ i < s1.hp.length := by
     intro i
     have hs1 : s1.hp.length = st.hp.length + (allocsOf 0 acc).length := by rw [d4]; simp [blksOf]
     rw [hs1]
     constructor
     · intro hi
       unfold Pres at hi
       simp only [Bool.or_eq_true, decide_eq_true_eq] at hi
       rcases hi with hi | hi
       · omega
       · split at hi
         · rename_i y hy
           have := getElem?_lt hy
           omega
         · cases hi
     · intro hi
       rcases Nat.lt_or_ge i st.hp.length with h | h
       · exact pres_base h
       · have hlt : i - st.hp.length < (allocsOf 0 acc).length := by omega
         have hak := List.getElem?_eq_getElem hlt
         obtain ⟨k', c, out, h1, h2, _⟩ := allocsOf_mem (g := ((allocsOf 0 acc)[i - st.hp.length]).1) (cs := ((allocsOf 0 acc)[i - st.hp.length]).2) (List.getElem_mem hlt)
         rw [Nat.zero_add] at h1
         unfold Pres
         rw [hak]
         simp only [Bool.or_eq_true]
         exact .inr (hallL _ c out (by rw [h1]; exact h2))
   have happ : ∀ (id : Nat) (c0 : List Tm), applySt (fun g => L.getD g false) id (storesOf 0 acc) c0 = applySt (fun _ => true) id (storesOf 0 acc) c0 := fun id c0 =>
     applySt_congr _ _ fun s hs => by
       obtain ⟨g, id', off, cells⟩ := s
       obtain ⟨k', c, out, h1, h2, _⟩ := storesOf_mem.1 hs
       rw [Nat.zero_add] at h1
       exact hallL _ c _ (by rw [h1]; exact h2)
   have hget : ∀ (id : Nat) cs, s1.hp[id]? = some cs → ∃ c0, (blksOf st acc)[id]? = some c0 ∧ cs = applySt (fun g => L.getD g false) id (storesOf 0 acc) c0 ∧ Pres (allocsOf 0 acc) st.hp.length L id = true := by
     intro id cs hc
     have hlt := getElem?_lt hc
     rw [d4, List.getElem?_mapIdx] at hc
     cases hb : (blksOf st acc)[id]? with
     | none => rw [hb] at hc; cases hc
     | some c0 =>
       rw [hb] at hc
       exact ⟨c0, rfl, by rw [happ]; exact (Option.some.inj hc).symm, (hpr id).2 hlt⟩
   have hput : ∀ (id : Nat) c0, (blksOf st acc)[id]? = some c0 → s1.hp[id]? = some (applySt (fun _ => true) id (storesOf 0 acc) c0) := fun id c0 hb => by
     rw [d4, List.getElem?_mapIdx, hb]; rfl
   have hnil : ∀ (id : Nat) (c0 : List Tm), applySt (fun _ => true) id (storesOf 0 acc) c0 = [] ↔ c0 = [] := fun id c0 => by
     rw [← List.length_eq_zero_iff, ← List.length_eq_zero_iff, applySt_length]
   have hown1 : ownD st acc L = ownOf s1.hp := by
     funext i
     apply propext
     constructor
     · rintro ⟨ci, h1, h2, _⟩
       exact ⟨_, hput i ci h1, fun h => h2 ((hnil i ci).1 h)⟩
     · rintro ⟨ci, h1, h2⟩
       obtain ⟨c0, g1, g2, g3⟩ := hget i ci h1
       refine ⟨c0, g1, fun h => h2 ?_, g3⟩
       rw [g2, happ, hnil, h]
   have hlab1 : ∀ n, labD st acc L n → labOf s1.hp n := fun n h => by
     unfold labOf
     rw [hput n [] h.1, (hnil n []).2 rfl]
   have hids : ∀ t, idsIn (Pres (allocsOf 0 acc) st.hp.length L) t = true → s1.idsOk t = true := fun t h => idsIn_mono (fun i hi => by simpa using (hpr i).1 hi) _ h
   have hcx : cxOf B ρ β' o' s1.hp w' = cxD B ρ β' o' st acc L w' := by simp only [cxOf, cxD, hown1]
   exact
     { dfr := I'.dfr
       len := I'.len
       tm := fun i => by
         rw [hcx]
         cases hti : s1.tm[i]? with
         | none =>
           have : s1.tm.getD i .junk = .junk := by simp [List.getD_eq_getElem?_getD, hti]
           rw [this]
           exact trivial
         | some t =>
           rw [List.getD_eq_getElem?_getD, hti]
           refine I'.slot i t hti fun g hgw => ?_
           obtain ⟨op, ho, _⟩ := writer_spec hgw
           exact hall g (Array.getElem?_eq_some_iff.1 ho).1
       tmi := fun t htm => by
         obtain ⟨d, hd⟩ := List.getElem?_of_mem htm
         exact hids t (slot_ids D I'.cl hd (fun g hgw => by
           obtain ⟨op, ho, _⟩ := writer_spec hgw
           exact hall g (Array.getElem?_eq_some_iff.1 ho).1))
       hp := fun id cs hc => by
         obtain ⟨c0, h1, rfl, h3⟩ := hget id cs hc
         rw [hcx]
         exact I'.blk id c0 h1 h3
       hpi := fun cs hc t htc => by
         obtain ⟨id, hid⟩ := List.getElem?_of_mem hc
         obtain ⟨c0, h1, rfl, h3⟩ := hget id cs hid
         exact hids t (cell_ids D I'.sz I'.cl h1 h3 t htc)
       wk := by
         have := I'.wk
         rw [hown1] at this
         exact ⟨this.inj, this.lt, this.fr, this.keep, fun n T hT => ⟨hlab1 n (this.top n T hT).1, (this.top n T hT).2⟩⟩
       pc := hpc
       pcc := hcl
       n := by rw [d5]; exact m.n
       live := fun n hn => by
         have := List.all_eq_true.1 d11 n hn
         simp only [Bool.and_eq_true, Bool.not_eq_true', Bool.or_eq_true] at this
         obtain ⟨h1, h2⟩ := this
         have hne : ∀ x ∈ eatsOf 0 acc, x.2 = n → L.getD x.1 false = false := fun x hx hxn => by
           have := List.any_eq_false.1 h1 x hx
           simp [hxn] at this
         rcases h2 with h2 | h2
         · exact I'.live n (.inl (by simpa using h2)) hne
         · split at h2
           · rename_i g cs hgk
             simp only [Bool.and_eq_true, decide_eq_true_eq] at h2
             refine I'.live n (.inr ⟨h2.1, g, cs, hgk, ?_, h2.2⟩) hne
             obtain ⟨k', c, out, q1, q2, _⟩ := allocsOf_mem (List.mem_of_getElem? hgk)
             rw [Nat.zero_add] at q1
             exact hallL g c out (by rw [q1]; exact q2)
           · cases h2 }
 · unfold left
   simp only [Array.toList_replicate]
   refine Nat.le_trans (List.countP_le_length) ?_
   simp
theorem back_ends {K : Value → Prop} {B : Base} {ρ : Env} {β : Nat → Nat} {o : Nat → Option Top} {st : St} {a : Act} {w : World} {hd : Head} {J : Act → World → Prop} {t : Tree} (m : Match B ρ β o st a w) (hc : Corr B ρ (.back hd :: []) (.back J :: []))
   (h : (if fits hd (solve hd st) st && closed (subst (solve hd st) hd.inv) && closed (subst (solve hd st) hd.mes) then some (Tree.back (subst (solve hd st) hd.inv) (subst (solve hd st) hd.mes) hd.mes) else none) = some t) (ht : t.holds K ρ) : J a w := by
 cases hc with
 | back hc' h1 h2 h3 h4 h5 h6 h7 h8 h9 =>
   split at h
   · rename_i hcond
     simp only [Bool.and_eq_true] at hcond
     obtain ⟨⟨c1, c2⟩, c3⟩ := hcond
     obtain rfl := Option.some.inj h
     obtain ⟨hinv, hmes⟩ := ht
     obtain ⟨li, lb, lv, ls, o2, l1, l2, l3, l4, hs, m0⟩ := fits_match m h1 h2 h3 h4 h5 c1
     have hσ : (solve hd st).ok = true := by
       unfold fits at c1
       simp only [Bool.and_eq_true] at c1
       exact c1.1.1.1.1.1.1.1
     refine h9 li lb lv ls β o2 a w l1 l2 l3 l4 ?_ ?_ m0
     · rw [holds_iff] at hinv ⊢
       rw [(subst_den _ b0 _ hσ _).2.1, hs] at hinv
       exact hinv
     · rw [(subst_den _ b0 _ hσ _).1, hs] at hmes
       have hk : inScope hd.st.n hd.mes = true := by
         unfold headOk at h4
         simp only [Bool.and_eq_true] at h4
         exact h4.1.2
       rw [(scope_den h6 h7 b0 hd.mes hk).1, ← h8] at hmes
       exact hmes
   · cases h
theorem run_sound {P : Program} {Γ : Ctx} {anns : List Ann} {fn : Func} {sh : Sh} {K : Value → Prop} {B : Base} (hm : P.follows .mixedOrders = true) (hB : B.Ok) (hGB : B.G = Γ.G) : ∀ (n : Nat) (ρ : Env) (β : Nat → Nat) (o : Nat → Option Top) (st : St) (k : List It) (s : List SIt) (t : Tree) (a : Act) (w : World),
   (Γ.Ok P ρ) → run P ρ.et Γ anns sh fn.results.toList n st k = some t → t.holds K ρ → Match B ρ β o st a w → Corr B ρ k s → kwp P (bodyPost P fn (RetQ B sh K)) s .normal a w := by
 intro n
 induction n using Nat.strongRecOn with
 | _ n ih =>
   intro ρ β o st k s t a w hg h ht m hc
   cases n with
   | zero => cases h
   | succ n =>
     have ih1 := fun ρ' β' o' st' k' s' t' a' w' => ih n (Nat.lt_succ_self n) ρ' β' o' st' k' s' t' a' w'
     cases hc with
     | nil => exact retT_sound hB m h ht
     | blk hc' =>
       rename_i id k s
       show kwp P _ s .normal a w
       unfold run at h
       exact ih1 ρ β o st _ _ t a w hg h ht m hc'
     | again hc' =>
       rename_i c k s
       show wpIn P c (kwp P _ s) a w
       unfold run at h
       exact wp_in (ih1 ρ β o st _ (.code c :: .again c :: s) t a w hg h ht m (.code (.again hc')))
     | ops hc' =>
       rename_i all l k s
       show wpList P all (kwp P _ s) l a w
       cases l with
       | nil => exact ih1 ρ β o st _ _ t a w hg h ht m hc'
       | cons op l =>
         unfold run at h
         unfold wpList
         split at h
         · rename_i hw
           rw [(wanted_of m).2 hw]
           exact ih1 ρ β o _ _ (.ops all l :: s) t _ w hg h ht (m.put op.dst (v := .cst .undef) rfl rfl) (.ops hc')
         · rename_i c hw
           obtain ⟨hcl, ⟨hb, x, hx, hxt⟩ | ⟨hb, x, hx, hxt⟩⟩ := branch_spec h ht
           · exact ih1 ρ β o _ _ (.ops all (op :: l) :: s) x a w hg hx hxt (m.learn hcl hb) (.ops hc')
           · exact ih1 ρ β o _ _ (.ops all (op :: l) :: s) x a w hg hx hxt (m.learn hcl hb) (.ops hc')
         · rename_i hw
           split at h
           · rename_i c out he
             split at h
             · rename_i hok
               obtain ⟨hcb, x, hx, hxt⟩ := needT_spec h ht β
               rw [(wanted_of m).1 hw]
               simp only [if_true]
               refine .inl (op_step m hB hGB hg he hcb hok fun β' o' a' w' m' => ?_)
               exact ih1 ρ β' o' _ _ (.ops all l :: s) x a' w' hg hx hxt m' (.ops hc')
             · cases h
           · rename_i c he
             obtain ⟨hcl, ⟨hb, x, hx, hxt⟩ | ⟨hb, x, hx, hxt⟩⟩ := branch_spec h ht
             · exact ih1 ρ β o _ _ (.ops all (op :: l) :: s) x a w hg hx hxt (m.learn hcl hb) (.ops hc')
             · exact ih1 ρ β o _ _ (.ops all (op :: l) :: s) x a w hg hx hxt (m.learn hcl hb) (.ops hc')
           · cases h
         · cases h
     | code hc' =>
       rename_i c k s
       show c.wp P (kwp P _ s) a w
       unfold run at h
       split at h
       · exact wp_skip (ih1 ρ β o st _ _ t a w hg h ht m hc')
       · exact wp_seq (ih1 ρ β o st _ (.code _ :: .code _ :: s) t a w hg h ht m (.code (.code hc')))
       · rename_i cnd x y
         split at h
         · rename_i b hcnd
           have hev : a.eval cnd = .bool (denB ρ β b) := evalO_rel m.tm hcnd
           split at h
           · rename_i hd
             rw [decT_den m.pcb hd] at hev
             exact wp_cond_true hev (ih1 ρ β o st _ (.code _ :: s) t a w hg h ht m (.code hc'))
           · rename_i hd
             rw [decT_den m.pcb hd] at hev
             exact wp_cond_false hev (ih1 ρ β o st _ (.code _ :: s) t a w hg h ht m (.code hc'))
           · obtain ⟨hcl, ⟨hb, z, hx, hxt⟩ | ⟨hb, z, hx, hxt⟩⟩ := branch_spec h ht
             · rw [(closed_den hcl β b0).2.1, hb] at hev
               exact wp_cond_true hev (ih1 ρ β o _ _ (.code _ :: s) z a w hg hx hxt (m.learn hcl hb) (.code hc'))
             · rw [(closed_den hcl β b0).2.1, hb] at hev
               exact wp_cond_false hev (ih1 ρ β o _ _ (.code _ :: s) z a w hg hx hxt (m.learn hcl hb) (.code hc'))
         · cases h
       · exact wp_block (ih1 ρ β o st _ (.code _ :: .blk _ :: s) t a w hg h ht m (.code (.blk hc')))
       · split at h
         · rename_i k' hp
           obtain ⟨s', h1, h2⟩ := popTo_kwp (P := P) (Q := bodyPost P fn (RetQ B sh K)) hc' hp
           exact wp_exit (h2 a w (ih1 ρ β o st _ s' t a w hg h ht m h1))
         · cases h
       · exact wp_ret (kwp_ret (retT_sound hB m h ht) s)
       · split at h
         · rename_i st' hf
           exact ih1 ρ β o st' _ (.code _ :: s) t a w hg h ht (m.frzFor hB hf) (.code hc')
         · exact wp_region_list (ih1 ρ β o st _ (.ops _ _ :: s) t a w hg h ht m (.ops hc'))
       · split at h
         · rename_i st' hf
           exact ih1 ρ β o st' _ (.code _ :: s) t a w hg h ht (m.frzFor hB hf) (.code hc')
         exact draw_sound hm hB hGB hg m h ht fun n' st' a' w' β' o' t' hn hr ht' m' => ih n' (by omega) ρ β' o' st' _ s t' a' w' hg hr ht' m' hc'
       · rename_i body
         split at h
         · rename_i an _
           dsimp only at h
           split at h
           · rename_i hcond
             simp only [Bool.and_eq_true] at hcond
             obtain ⟨⟨c1, c2⟩, c3⟩ := hcond
             cases hr : run P ρ.et Γ anns sh fn.results.toList n (headOf an st body).st (.code body :: .back (headOf an st body) :: k) with
             | none => rw [hr] at h; cases h
             | some x =>
               rw [hr] at h
               obtain rfl := Option.some.inj h
               obtain ⟨hpre, hall⟩ := ht
               have hok := c1
               have hn : ρ.has (headOf an st body).n := m.n
               have hpc : PcOk ρ b0 (headOf an st body).st.pc := m.pc
               generalize hh : headOf an st body = hd at *
               have hnew : hd.st.n = hd.n.add an.new := by rw [← hh]; rfl
               obtain ⟨li, lb, lv, ls, o2, l1, l2, l3, l4, hs, m0⟩ := fits_match m (Env.ext.refl ρ) hn hnew hok hpc c2
               have hσ : (solve hd st).ok = true := by
                 unfold fits at c2
                 simp only [Bool.and_eq_true] at c2
                 exact c2.1.1.1.1.1.1.1
               have hinv0 : holds (ρ.more li lb lv ls) hd.inv := by
                 rw [holds_iff] at hpre ⊢
                 rw [(subst_den ρ b0 _ hσ _).2.1, hs] at hpre
                 exact hpre
               refine wp_loop_ghost (fun j a' w' => ∃ li lb lv ls β o, li.length = an.new.i ∧ lb.length = an.new.b ∧ lv.length = an.new.v ∧ ls.length = an.new.s ∧ holds (ρ.more li lb lv ls) hd.inv ∧ (denI (ρ.more li lb lv ls) b0 hd.mes).toNat = j ∧ Match B (ρ.more li lb lv ls) β o hd.st a' w') ⟨li, lb, lv, ls, β, o2, l1, l2, l3, l4, hinv0, rfl, m0⟩ ?_
               rintro j a' w' ⟨li', lb', lv', ls', β', o', e1, e2, e3, e4, hi, hj, m'⟩
               have hx := (((hall.all li' e1).all lb' e2).all lv' e3).all ls' e4 hi
               have hco : Corr B (ρ.more li' lb' lv' ls') (.back hd :: k) (.back (fun a' w' => ∃ m, m < j ∧ ∃ li lb lv ls β o, li.length = an.new.i ∧ lb.length = an.new.b ∧ lv.length = an.new.v ∧ ls.length = an.new.s ∧ holds (ρ.more li lb lv ls) hd.inv ∧ (denI (ρ.more li lb lv ls) b0 hd.mes).toNat = m ∧ Match B (ρ.more li lb lv ls) β o hd.st a' w') :: s) := by
                 refine .back (hc'.more _ _ _ _) ⟨li', lb', lv', ls', rfl⟩ hn hnew hok hpc m'.n (Env.ext.refl _) hj.symm ?_
                 intro li lb lv ls β o a w l1 l2 l3 l4 hi hlt m
                 exact ⟨_, hlt, li, lb, lv, ls, β, o, l1, l2, l3, l4, hi, rfl, m⟩
               exact ih1 (ρ.more li' lb' lv' ls') β' o' hd.st _ (.code body :: .back _ :: s) x a' w' ⟨hg.l, hg.m, hg.a⟩ hr hx m' (.code hco)
           · cases h
         · exact wp_unroll (ih1 ρ β o st _ (.code _ :: .again _ :: s) t a w hg h ht m (.code (.again hc')))
       · exact wp_sc (ih1 ρ β o st _ (.code _ :: .scp _ :: s) t a w hg h ht m (.code (.scp hc')))
       · exact wp_label (ih1 ρ β o st _ _ t a w hg h ht m hc')
       · rename_i l
         refine wp_goto ?_
         split at h
         · rename_i hd hgt
           obtain ⟨J, hJ, hq⟩ := goTo_kwp (P := P) (Q := bodyPost P fn (RetQ B sh K)) hc' hgt
           exact hq a w (back_ends m hJ h ht)
         · rename_i rest body k' hgt
           obtain ⟨hfl, s', hc2, hq⟩ := goTo_kwp (P := P) (Q := bodyPost P fn (RetQ B sh K)) hc' hgt
           refine hq a w ?_
           split at h
           · rename_i an _
             dsimp only at h
             split at h
             · rename_i hcond
               simp only [Bool.and_eq_true] at hcond
               obtain ⟨⟨c1, c2⟩, c3⟩ := hcond
               cases hr : run P ρ.et Γ anns sh fn.results.toList n (headOf an st rest).st (.code rest :: .gbk l (headOf an st rest) :: .scp body :: k') with
               | none => rw [hr] at h; cases h
               | some x =>
                 rw [hr] at h
                 obtain rfl := Option.some.inj h
                 obtain ⟨hpre, hall⟩ := ht
                 have hok := c1
                 have hn : ρ.has (headOf an st rest).n := m.n
                 have hpc : PcOk ρ b0 (headOf an st rest).st.pc := m.pc
                 generalize hh : headOf an st rest = hd at *
                 have hnew : hd.st.n = hd.n.add an.new := by rw [← hh]; rfl
                 obtain ⟨li, lb, lv, ls, o2, l1, l2, l3, l4, hs, m0⟩ := fits_match m (Env.ext.refl ρ) hn hnew hok hpc c2
                 have hσ : (solve hd st).ok = true := by
                   unfold fits at c2
                   simp only [Bool.and_eq_true] at c2
                   exact c2.1.1.1.1.1.1.1
                 have hinv0 : holds (ρ.more li lb lv ls) hd.inv := by
                   rw [holds_iff] at hpre ⊢
                   rw [(subst_den ρ b0 _ hσ _).2.1, hs] at hpre
                   exact hpre
                 refine wp_at_ghost hfl (fun j a' w' => ∃ li lb lv ls β o, li.length = an.new.i ∧ lb.length = an.new.b ∧ lv.length = an.new.v ∧ ls.length = an.new.s ∧ holds (ρ.more li lb lv ls) hd.inv ∧ (denI (ρ.more li lb lv ls) b0 hd.mes).toNat = j ∧ Match B (ρ.more li lb lv ls) β o hd.st a' w') ?_ _ a w ⟨li, lb, lv, ls, β, o2, l1, l2, l3, l4, hinv0, rfl, m0⟩
                 rintro j a' w' ⟨li', lb', lv', ls', β', o', e1, e2, e3, e4, hi, hj, m'⟩
                 have hx := (((hall.all li' e1).all lb' e2).all lv' e3).all ls' e4 hi
                 have hco : Corr B (ρ.more li' lb' lv' ls') (.gbk l hd :: .scp body :: k') (.gbk l (fun a' w' => ∃ m, m < j ∧ ∃ li lb lv ls β o, li.length = an.new.i ∧ lb.length = an.new.b ∧ lv.length = an.new.v ∧ ls.length = an.new.s ∧ holds (ρ.more li lb lv ls) hd.inv ∧ (denI (ρ.more li lb lv ls) b0 hd.mes).toNat = m ∧ Match B (ρ.more li lb lv ls) β o hd.st a' w') :: .scp body :: s') := by
                   refine .gbk (.scp (hc2.more _ _ _ _)) ⟨li', lb', lv', ls', rfl⟩ hn hnew hok hpc m'.n (Env.ext.refl _) hj.symm ?_
                   intro li lb lv ls β o a w l1 l2 l3 l4 hi hlt m
                   exact ⟨_, hlt, li, lb, lv, ls, β, o, l1, l2, l3, l4, hi, rfl, m⟩
                 exact ih1 (ρ.more li' lb' lv' ls') β' o' hd.st _ (.code rest :: .gbk l _ :: .scp body :: s') x a' w' ⟨hg.l, hg.m, hg.a⟩ hr hx m' (.code hco)
             · cases h
           · exact wp_at (ih1 ρ β o st _ (.code rest :: .scp body :: s') t a w hg h ht m (.code (.scp hc2)))
         · cases h
       · cases h
     | back hc' h1 h2 h3 h4 h5 h6 h7 h8 h9 =>
       rename_i ρ0 ρ1 hd J k s new n0
       unfold run at h
       dsimp only at h
       show J a w
       exact back_ends m (.back .nil h1 h2 h3 h4 h5 h6 h7 h8 h9) h ht
     | scp hc' =>
       rename_i cc k s
       show kwp P _ s .normal a w
       unfold run at h
       exact ih1 ρ β o st _ _ t a w hg h ht m hc'
     | gbk hc' h1 h2 h3 h4 h5 h6 h7 h8 h9 =>
       rename_i ρ0 ρ1 hd J k s new n0 l
       show kwp P _ s .normal a w
       unfold run at h
       exact ih1 ρ β o st _ _ t a w hg h ht m hc'
/-! Part 18: a function's contract from its walk. -/
def startArgs (eat : Option (Nat × TypeId × SK)) (args : List Tm) : List Tm :=
 match eat with
 | some (k, e, K) => match args[k]? with
   | some (.hs _ K' t) => if K = K' then args.set k (.hs (.id 0 e) K t) else args
   | _ => args
 | none => args
def start (fn : Func) (eat : Option (Nat × TypeId × SK)) (args : List Tm) (n : Cnt) : St :=
 { tm := startArgs eat args ++ List.replicate (fn.ntmps - args.length) (.cst .undef), hp := match eat with | some _ => [[]] | none => [], pc := [], n := n, lv := match eat with | some _ => [0] | none => [] }
def bodyOf (fn : Func) : Code := fn.body.getD .skip
def walk (P : Program) (et : TypeId) (Γ : Ctx) (anns : List Ann) (sh : Sh) (c : Con) (n : Cnt) (fuel : Nat) : Option Tree :=
 match P.funcs[c.f]? with
 | some fn => if fn.body.isSome && c.pat.all closed && isSh sh c.res then run P et Γ anns sh fn.results.toList fuel (start fn c.eat c.pat n) [.code (bodyOf fn)] else none
 | none => none
mutual
def typ : SK → Value → Prop
 | .int k, c => c = .int k (intOf c)
 | .bool, c => c = .bool (boolOf c)
 | .str, c => c = .string (strOf c)
 | .sl r, c => c = .tuple (rows c).toArray ∧ ∃ n, n ≤ 140737488355328 ∧ (rows c).length = n * r.wd ∧ ∀ i, i < n → typR r (rows c) (i * r.wd)
 | _, _ => False
termination_by structural x => x
def typR : SK → List Value → Nat → Prop
 | .cons a r, l, j => typ a (l.getD j Go.undef) ∧ typR r l (j + 1)
 | _, _, _ => True
termination_by structural x => x
end
theorem deep_typ {ok : Nat → Nat → Prop} {w : World} : ∀ K : SK, (∀ v c, deepC ok w K v c → typ K c) ∧ (∀ b off l j, deepR ok w K b off l j → typR K l j) := by
 intro K
 induction K with
 | sl r ih =>
   refine ⟨fun v c hd => ?_, fun _ _ _ _ _ => trivial⟩
   obtain ⟨p, n, cap, h1, h2, h3, h4, h4', h5, h6⟩ := hd
   exact ⟨h2, n, h4', h3, fun i hi => by
     obtain ⟨b, off, _, _, g⟩ := h6 i hi
     exact ih.2 _ _ _ _ g⟩
 | cons a r iha ihr =>
   refine ⟨fun _ _ hd => hd.elim, fun b off l j hd => ?_⟩
   obtain ⟨⟨u, _, _, h3⟩, h4⟩ := hd
   exact ⟨iha.1 _ _ h3, ihr.2 _ _ _ _ h4⟩
 | int k => exact ⟨fun _ _ hd => hd.2, fun _ _ _ _ _ => trivial⟩
 | bool => exact ⟨fun _ _ hd => hd.2, fun _ _ _ _ _ => trivial⟩
 | str => exact ⟨fun _ _ hd => hd.2, fun _ _ _ _ _ => trivial⟩
 | nil => exact ⟨fun _ _ hd => hd.elim, fun _ _ _ _ _ => trivial⟩
mutual
def patTyp (ρ : Env) : Tm → Prop
 | .hs _ K t => typ (.sl K) (denV ρ b0 t)
 | .ep K t _ _ => typ (.sl K) (denV ρ b0 t)
 | .clo _ l => patTypL ρ l
 | .agg l => patTypL ρ l
 | .tup l => patTypL ρ l
 | _ => True
termination_by structural x => x
def patTypL (ρ : Env) : Tm → Prop
 | .cons a b => patTyp ρ a ∧ patTypL ρ b
 | _ => True
termination_by structural x => x
end
def patsTyp (ρ : Env) : List Tm → Prop
 | [] => True
 | t :: r => patTyp ρ t ∧ patsTyp ρ r
theorem rel_typ {X : Cx} : ∀ t, closed t = true → (∀ v, Rel X t v → patTyp X.ρ t) ∧ (∀ vs, RelL X t vs → patTypL X.ρ t) := by
 intro t
 induction t with
 | hs lab K t _ =>
   intro hc
   refine ⟨fun v h => ?_, fun vs h => trivial⟩
   have := (deep_typ (.sl K)).1 _ _ h.1
   show typ (.sl K) (denV X.ρ b0 t)
   rw [← (closed_den (idsIn_hs hc) X.β b0).2.2.1]
   exact this
 | ep K t i j _ _ =>
   intro hc
   refine ⟨fun v h => ?_, fun vs h => trivial⟩
   obtain ⟨b, off, n, cap, h1, _⟩ := h
   have := (deep_typ (.sl K)).1 _ _ h1
   simp only [closed, idsIn, Bool.and_eq_true] at hc
   show typ (.sl K) (denV X.ρ b0 t)
   rw [← (closed_den hc.1 X.β b0).2.2.1]
   exact this
 | clo f l ih => intro hc; exact ⟨fun v ⟨vs, _, h⟩ => (ih hc).2 vs h, fun _ _ => trivial⟩
 | agg l ih => intro hc; exact ⟨fun v ⟨vs, _, h⟩ => (ih hc).2 vs h, fun _ _ => trivial⟩
 | tup l ih => intro hc; exact ⟨fun v ⟨vs, _, h⟩ => (ih hc).2 vs h, fun _ _ => trivial⟩
 | cons a b iha ihb =>
   intro hc
   simp only [closed, idsIn, Bool.and_eq_true] at hc
   refine ⟨fun _ _ => trivial, fun vs h => ?_⟩
   cases vs with
   | nil => exact h.elim
   | cons v r => exact ⟨(iha hc.1).1 v h.1, (ihb hc.2).2 r h.2⟩
 | _ => intro _; exact ⟨fun _ _ => trivial, fun _ _ => trivial⟩
theorem rels_typ {X : Cx} : ∀ {ts : List Tm} {vs : List Value}, RelT X ts vs → ts.all closed = true → patsTyp X.ρ ts
 | [], [], _, _ => trivial
 | [], _ :: _, h, _ => h.elim
 | _ :: _, [], h, _ => h.elim
 | t :: ts, v :: vs, h, hc => by
   simp only [List.all_cons, Bool.and_eq_true] at hc
   exact ⟨(rel_typ t hc.1).1 v h.1, rels_typ h.2 hc.2⟩
def startQ (fn : Func) (eat : Option (Nat × TypeId × SK)) (args : List Tm) (n : Cnt) (Q : List (Tm × Bool)) : St := { start fn eat args n with pc := Q }
def walkQ (P : Program) (et : TypeId) (Γ : Ctx) (anns : List Ann) (sh : Sh) (c : Con) (n : Cnt) (fuel : Nat) (Q : List (Tm × Bool)) : Option Tree :=
 match P.funcs[c.f]? with
 | some fn => if fn.body.isSome && c.pat.all closed && isSh sh c.res && Q.all (fun x => closed x.1) then run P et Γ anns sh fn.results.toList fuel (startQ fn c.eat c.pat n Q) [.code (bodyOf fn)] else none
 | none => none
theorem good_of_walkQ {P : Program} {Γ : Ctx} {anns : List Ann} {sh : Sh} {c : Con} {fuel : Nat} {Q : List (Tm × Bool)} {t : Tree} {et : TypeId} {ρ : Env} (hm : P.follows .mixedOrders = true) (hw : walkQ P et Γ anns sh c c.n fuel Q = some t) (hQ : ∀ ρ, holds ρ c.cnd → PcOk ρ b0 Q) (het : ρ.et = et)
   (hg : ∀ iv bv vv sv, Γ.Ok P { ρ with iv := iv, bv := bv, vv := vv, sv := sv })
   (ht : AllN c.n.i fun iv => AllN c.n.b fun bv => AllN c.n.v fun vv => AllN c.n.s fun sv => holds { ρ with iv := iv, bv := bv, vv := vv, sv := sv } c.cnd → patsTyp { ρ with iv := iv, bv := bv, vv := vv, sv := sv } c.pat → t.holds (fun d => d = denV { ρ with iv := iv, bv := bv, vv := vv, sv := sv } b0 c.res) { ρ with iv := iv, bv := bv, vv := vv, sv := sv }) :
   c.Good P Γ.G ρ := by
 intro iv bv vv sv β ok w xs n1 n2 n3 n4 hcnd hok hG hr heat
 subst het
 unfold walkQ at hw
 split at hw
 · rename_i fn hf
   split at hw
   · rename_i hb
     simp only [Bool.and_eq_true] at hb
     obtain ⟨⟨⟨hb, ha⟩, hsh⟩, hqc⟩ := hb
     obtain ⟨cd, hc⟩ := Option.isSome_iff_exists.1 hb
     have hbo : bodyOf fn = cd := by unfold bodyOf; rw [hc]; rfl
     rw [hbo] at hw
     have hlen : xs.toArray.size = c.pat.length := by rw [hr.length]; simp
     let B : Base := ⟨w, fun b off => ok b off ∨ some b = c.ex xs, ok, c.ex xs, Γ.G⟩
     have hB : B.Ok := ⟨fun b off h => .inl (hok b off h), fun b h off => .inr h, fun b off h => h, hG⟩
     let o0 : Nat → Option Top := fun k => match c.eat with
       | some (j, e, K) => if k = 0 then (xs[j]?).map fun u => ⟨u, e, K.wd⟩ else none
       | none => none
     have hT0 : ∀ k T, o0 k = some T → k = 0 ∧ ∃ j e K u, c.eat = some (j, e, K) ∧ xs[j]? = some u ∧ T = ⟨u, e, K.wd⟩ ∧ TopOk w T ∧ (∀ b, topBlk u = some b → ∀ off, ok b off → off < lenOfV u * K.wd) ∧ c.ex xs = topBlk u := fun k T hT => by
       simp only [o0] at hT
       split at hT
       · rename_i j e K he
         split at hT
         · rename_i hk
           obtain ⟨u, hu, t1, t2⟩ := heat j e K he
           rw [hu] at hT
           obtain rfl := Option.some.inj hT
           exact ⟨hk, j, e, K, u, he, hu, rfl, t1, t2, by simp [Con.ex, he, hu]⟩
         · cases hT
       · cases hT
     have hcall : Calls P c.f xs.toArray w (RetQ B sh fun d => d = denV { ρ with iv := iv, bv := bv, vv := vv, sv := sv } b0 c.res) := by
       refine calls_of_wp hf hc ?_
       rw [hlen]
       have hhp : ∀ (i : Nat) (cs : List Tm), (startQ fn c.eat c.pat c.n Q).hp[i]? = some cs → cs = [] := fun i cs h => by
         simp only [startQ, start] at h
         split at h
         · cases i with
           | zero => simpa using h.symm
           | succ i => simp at h
         · simp at h
       have hown : ∀ i, ¬ ownOf (startQ fn c.eat c.pat c.n Q).hp i := fun i ⟨ci, h1, h2⟩ => h2 (hhp i ci h1)
       have hkeep0 : ∀ b off, ok b off → okOf B.ok0 (ownOf (startQ fn c.eat c.pat c.n Q).hp) b0 o0 b off := fun b off ho => ⟨.inl ho, fun i hi => (hown i hi).elim, fun k T hT hbT => by
         obtain ⟨_, j, e, K, u, _, _, rfl, _, t2, _⟩ := hT0 k T hT
         exact t2 b hbT off ho⟩
       have hpat : ∀ (i : Nat) t v, (startArgs c.eat c.pat)[i]? = some t → xs[i]? = some v → Rel (cxOf B { ρ with iv := iv, bv := bv, vv := vv, sv := sv } b0 o0 (startQ fn c.eat c.pat c.n Q).hp w) t v ∧ idsIn (fun i => decide (i < (startQ fn c.eat c.pat c.n Q).hp.length)) t = true := fun i t v ht' hv => by
         have base : ∀ t', c.pat[i]? = some t' → Rel (cxOf B { ρ with iv := iv, bv := bv, vv := vv, sv := sv } b0 o0 (startQ fn c.eat c.pat c.n Q).hp w) t' v ∧ closed t' = true := fun t' hp => by
           obtain ⟨v', g1, g2⟩ := hr.get i t' hp
           rw [hv] at g1
           obtain rfl := Option.some.inj g1
           have hcl := List.all_eq_true.1 ha t' (List.mem_of_getElem? hp)
           refine ⟨g2.mono (p := fun _ => false) { ρ := rfl, β := fun i hi => (by cases hi), o := fun i hi => (by cases hi), k := ⟨Nat.le_refl _, fun b off _ ho => ⟨hkeep0 b off ho, rfl⟩⟩ } hcl, hcl⟩
         unfold startArgs at ht'
         split at ht'
         · rename_i j e K he
           split at ht'
           · rename_i lab K' q hj
             split at ht'
             · rename_i hKK
               subst hKK
               rw [List.getElem?_set] at ht'
               split at ht'
               · rename_i hji
                 subst hji
                 split at ht'
                 · obtain rfl := Option.some.inj ht'
                   obtain ⟨g1, g2⟩ := base _ hj
                   refine ⟨⟨g1.1, fun k' e' hl T hT => ?_⟩, ?_⟩
                   · obtain ⟨rfl, rfl⟩ := Lab.id.inj hl
                     have hT' : o0 0 = some T := hT
                     obtain ⟨_, j', e', K', u, he', hu, rfl, _⟩ := hT0 0 T hT'
                     rw [he] at he'
                     obtain ⟨rfl, h'⟩ := Prod.mk.inj (Option.some.inj he')
                     obtain ⟨rfl, rfl⟩ := Prod.mk.inj h'
                     rw [hv] at hu
                     obtain rfl := Option.some.inj hu
                     rfl
                   · simp only [idsIn, Bool.and_eq_true, startQ, start, he]
                     exact ⟨by simp, idsIn_closed (idsIn_hs g2)⟩
                 · cases ht'
               · obtain ⟨g1, g2⟩ := base _ ht'
                 exact ⟨g1, idsIn_closed g2⟩
             · obtain ⟨g1, g2⟩ := base _ ht'
               exact ⟨g1, idsIn_closed g2⟩
           · obtain ⟨g1, g2⟩ := base _ ht'
             exact ⟨g1, idsIn_closed g2⟩
         · obtain ⟨g1, g2⟩ := base _ ht'
           exact ⟨g1, idsIn_closed g2⟩
       have hsl : (startArgs c.eat c.pat).length = c.pat.length := by
         unfold startArgs
         split
         · split
           · split <;> simp
           · rfl
         · rfl
       refine run_sound hm hB rfl fuel { ρ with iv := iv, bv := bv, vv := vv, sv := sv } b0 o0 (startQ fn c.eat c.pat c.n Q) _ [.code cd] t _ w (hg iv bv vv sv) hw (((((ht.all iv n1).all bv n2).all vv n3).all sv n4) hcnd (rels_typ hr ha)) ?_ (.code .nil)
       exact
         { dfr := rfl
           len := by simp [startQ, start, hsl, hr.length]
           tm := fun i => by
             simp only [startQ, start]
             rcases Nat.lt_or_ge i c.pat.length with hi | hi
             · have hi' : i < xs.length := by rw [← hr.length]; exact hi
               have e1 := List.getElem?_eq_getElem (show i < (startArgs c.eat c.pat).length by rw [hsl]; exact hi)
               have e2 := List.getElem?_eq_getElem hi'
               have := (hpat i _ _ e1 e2).1
               simp only [List.getD_eq_getElem?_getD, List.getElem?_append_left (show i < (startArgs c.eat c.pat).length by rw [hsl]; exact hi), e1, Option.getD_some, Array.getD_eq_getD_getElem?]
               rw [Array.getElem?_append_left (by simpa using hi'), List.getElem?_toArray, e2]
               exact this
             · have hi' : xs.length ≤ i := by rw [← hr.length]; exact hi
               simp only [List.getD_eq_getElem?_getD, List.getElem?_append_right (show (startArgs c.eat c.pat).length ≤ i by rw [hsl]; exact hi), List.getElem?_replicate, Array.getD_eq_getD_getElem?]
               have hv : ((xs.toArray ++ Array.replicate (fn.ntmps - c.pat.length) Go.undef)[i]?).getD Go.undef = Go.undef := by
                 rw [Array.getElem?_append_right (by simpa using hi')]
                 simp only [Array.getElem?_replicate]
                 split <;> rfl
               rw [hv]
               by_cases hlt : i - (startArgs c.eat c.pat).length < fn.ntmps - c.pat.length
               · rw [if_pos hlt]; exact rfl
               · rw [if_neg hlt]; exact trivial
           tmi := fun x hx => by
             simp only [startQ, start, List.mem_append, List.mem_replicate] at hx
             rcases hx with hx | ⟨_, rfl⟩
             · obtain ⟨i, hi⟩ := List.getElem?_of_mem hx
               have hlt := getElem?_lt hi
               rw [hsl, hr.length] at hlt
               exact (hpat i x _ hi (List.getElem?_eq_getElem hlt)).2
             · rfl
           hp := fun id cs h => by
             have := hhp id cs h
             subst this
             intro off c' hc'
             simp at hc'
           hpi := fun cs h t ht' => by
             obtain ⟨i, hi⟩ := List.getElem?_of_mem h
             have := hhp i cs hi
             subst this
             cases ht'
           wk := ⟨fun i j hi => (hown i hi).elim, fun i hi => (hown i hi).elim, ⟨rfl, rfl, rfl, Nat.le_refl _, fun _ _ _ => rfl⟩, fun b off _ ho => ⟨hkeep0 b off ho, rfl⟩, fun k T hT => by
             obtain ⟨rfl, j, e, K, u, he, hu, rfl, t1, t2, t3⟩ := hT0 k T hT
             refine ⟨by simp [labOf, startQ, start, he], t1, fun b hb => ⟨.inr (by show some b = c.ex xs; rw [t3]; exact hb.symm), fun i hi => (hown i hi).elim, fun k' T' hT' _ => (hT0 k' T' hT').1⟩⟩⟩
           pc := hQ _ hcnd
           pcc := fun x hx => List.all_eq_true.1 hqc x hx
           n := ⟨n1, n2, n3, n4⟩
           live := fun k hk => by
             simp only [startQ, start] at hk
             split at hk
             · rename_i y he
               obtain ⟨j, e, K⟩ := y
               obtain ⟨u, hu, _⟩ := heat j e K he
               simp only [List.mem_singleton] at hk
               subst hk
               exact ⟨⟨u, e, K.wd⟩, by simp [o0, he, hu]⟩
             · cases hk }
     refine hcall.mono ?_
     rintro e w' ⟨r, ρr, x, o', ok', h1, h2, h3, h4, h5, h6⟩
     obtain ⟨s1, _, s3⟩ := sh_rel (ρ := ρr) (ρ' := { ρ with iv := iv, bv := bv, vv := vv, sv := sv }) (β := β) (o := o') (ok := ok') (w := w') (n := 0) sh r c.res h2 hsh
     exact ⟨x, o', ok', h1, h4, s1 h3 x h5, fun hn => h6 (by rw [s3]; exact hn)⟩
   · cases hw
 · cases hw
theorem good_of_walk {P : Program} {Γ : Ctx} {anns : List Ann} {sh : Sh} {c : Con} {fuel : Nat} {t : Tree} {et : TypeId} {ρ : Env} (hm : P.follows .mixedOrders = true) (hw : walk P et Γ anns sh c c.n fuel = some t) (het : ρ.et = et)
   (hg : ∀ iv bv vv sv, Γ.Ok P { ρ with iv := iv, bv := bv, vv := vv, sv := sv })
   (ht : AllN c.n.i fun iv => AllN c.n.b fun bv => AllN c.n.v fun vv => AllN c.n.s fun sv => holds { ρ with iv := iv, bv := bv, vv := vv, sv := sv } c.cnd → patsTyp { ρ with iv := iv, bv := bv, vv := vv, sv := sv } c.pat → t.holds (fun d => d = denV { ρ with iv := iv, bv := bv, vv := vv, sv := sv } b0 c.res) { ρ with iv := iv, bv := bv, vv := vv, sv := sv }) :
   c.Good P Γ.G ρ := by
 refine good_of_walkQ (Q := []) (fuel := fuel) (sh := sh) (anns := anns) hm ?_ (fun _ _ x hx => by cases hx) het hg ht
 rw [← hw]
 unfold walk walkQ
 split
 · simp only [List.all_nil, Bool.and_true]; rfl
 · rfl
theorem ok_nil {P : Program} {G : Glob} {ρ : Env} {ro : List TypeId} : Ctx.Ok ⟨[], G, ro, [], []⟩ P ρ := ⟨fun x h => (by cases h), fun x h => (by cases h), fun x h => (by cases h)⟩
theorem ok_cons {P : Program} {G : Glob} {ρ : Env} {ro : List TypeId} {m : List MCon} {a : List ACon} {c : Con} {l : List Con} (h : c.Good P G ρ) (hl : Ctx.Ok ⟨l, G, ro, m, a⟩ P ρ) : Ctx.Ok ⟨c :: l, G, ro, m, a⟩ P ρ := ⟨fun x hx => by
 rcases List.mem_cons.1 hx with rfl | hx
 · exact h
 · exact hl.l x hx, hl.m, hl.a⟩
theorem ok_mcons {P : Program} {G : Glob} {ρ : Env} {ro : List TypeId} {m : List MCon} {a : List ACon} {c : MCon} {l : List Con} (h : c.Good P G ρ) (hl : Ctx.Ok ⟨l, G, ro, m, a⟩ P ρ) : Ctx.Ok ⟨l, G, ro, c :: m, a⟩ P ρ := ⟨hl.l, fun x hx => by
 rcases List.mem_cons.1 hx with rfl | hx
 · exact h
 · exact hl.m x hx, hl.a⟩
theorem ok_acons {P : Program} {G : Glob} {ρ : Env} {ro : List TypeId} {m : List MCon} {a : List ACon} {c : ACon} {l : List Con} (h : c.Good P G ρ) (hl : Ctx.Ok ⟨l, G, ro, m, a⟩ P ρ) : Ctx.Ok ⟨l, G, ro, m, c :: a⟩ P ρ := ⟨hl.l, hl.m, fun x hx => by
 rcases List.mem_cons.1 hx with rfl | hx
 · exact h
 · exact hl.a x hx⟩
theorem MCon.Good.env {P : Program} {G : Glob} {ρ : Env} {c : MCon} (h : c.Good P G ρ) (iv : List Int) (bv : List Bool) (vv : List Value) (sv : List ByteArray) : c.Good P G { ρ with iv := iv, bv := bv, vv := vv, sv := sv } := fun iv' bv' vv' sv' => h iv' bv' vv' sv'
theorem ACon.Good.env {P : Program} {G : Glob} {ρ : Env} {c : ACon} (h : c.Good P G ρ) (iv : List Int) (bv : List Bool) (vv : List Value) (sv : List ByteArray) : c.Good P G { ρ with iv := iv, bv := bv, vv := vv, sv := sv } := fun iv' bv' vv' sv' => h iv' bv' vv' sv'
theorem Con.Good.env {P : Program} {G : Glob} {ρ : Env} {c : Con} (h : c.Good P G ρ) (iv : List Int) (bv : List Bool) (vv : List Value) (sv : List ByteArray) : c.Good P G { ρ with iv := iv, bv := bv, vv := vv, sv := sv } := fun iv' bv' vv' sv' => h iv' bv' vv' sv'
/-! Part 19: contracts among plain values; more function symbols. -/
def symIn (nI nB nV : Nat) : Tm → Bool
 | .iapp f a => decide (f < nI) && symIn nI nB nV a
 | .bapp f a => decide (f < nB) && symIn nI nB nV a
 | .vapp f a => decide (f < nV) && symIn nI nB nV a
 | .sapp f a => decide (f < nV) && symIn nI nB nV a
 | .clo _ a => symIn nI nB nV a
 | .i2 _ a b => symIn nI nB nV a && symIn nI nB nV b
 | .b2 _ a b => symIn nI nB nV a && symIn nI nB nV b
 | .veq a b => symIn nI nB nV a && symIn nI nB nV b
 | .cons a b => symIn nI nB nV a && symIn nI nB nV b
 | .ep _ a b _ => symIn nI nB nV a && symIn nI nB nV b
 | .wrap _ a => symIn nI nB nV a
 | .ofI a => symIn nI nB nV a
 | .ofB a => symIn nI nB nV a
 | .vop _ a => symIn nI nB nV a
 | .hs _ _ a => symIn nI nB nV a
 | .blen a => symIn nI nB nV a
 | .not a => symIn nI nB nV a
 | .int _ a => symIn nI nB nV a
 | .bool a => symIn nI nB nV a
 | .agg a => symIn nI nB nV a
 | .tup a => symIn nI nB nV a
 | .err a => symIn nI nB nV a
 | .iface _ a => symIn nI nB nV a
 | _ => true
structure Agree (nI nB nV : Nat) (ρ ρ' : Env) : Prop where
 et : ρ'.et = ρ.et
 i : ∀ f, f < nI → ρ'.fi f = ρ.fi f
 b : ∀ f, f < nB → ρ'.fb f = ρ.fb f
 v : ∀ f, f < nV → ρ'.fv f = ρ.fv f
theorem sym_den {nI nB nV : Nat} {ρ ρ' : Env} (g : Agree nI nB nV ρ ρ') (h1 : ρ'.iv = ρ.iv) (h2 : ρ'.bv = ρ.bv) (h3 : ρ'.vv = ρ.vv) (h4 : ρ'.sv = ρ.sv) (β : Nat → Nat) : ∀ t, symIn nI nB nV t = true → denI ρ' β t = denI ρ β t ∧ denB ρ' β t = denB ρ β t ∧ denV ρ' β t = denV ρ β t ∧ denL ρ' β t = denL ρ β t := by
 intro t
 induction t with
 | iapp f a ih => intro h; simp only [symIn, Bool.and_eq_true, decide_eq_true_eq] at h; obtain ⟨a1, a2, a3, a4⟩ := ih h.2; simp [denI, denB, denV, denL, a4, g.i f h.1]
 | bapp f a ih => intro h; simp only [symIn, Bool.and_eq_true, decide_eq_true_eq] at h; obtain ⟨a1, a2, a3, a4⟩ := ih h.2; simp [denI, denB, denV, denL, a4, g.b f h.1]
 | vapp f a ih => intro h; simp only [symIn, Bool.and_eq_true, decide_eq_true_eq] at h; obtain ⟨a1, a2, a3, a4⟩ := ih h.2; simp [denI, denB, denV, denL, a4, g.v f h.1]
 | sapp f a ih => intro h; simp only [symIn, Bool.and_eq_true, decide_eq_true_eq] at h; obtain ⟨a1, a2, a3, a4⟩ := ih h.2; simp [denI, denB, denV, denL, a4, g.v f h.1]
 | i2 o a b iha ihb => intro h; simp only [symIn, Bool.and_eq_true] at h; obtain ⟨a1, a2, a3, a4⟩ := iha h.1; obtain ⟨b1, b2, b3, b4⟩ := ihb h.2; simp [denI, denB, denV, denL, a1, b1]
 | b2 o a b iha ihb => intro h; simp only [symIn, Bool.and_eq_true] at h; obtain ⟨a1, a2, a3, a4⟩ := iha h.1; obtain ⟨b1, b2, b3, b4⟩ := ihb h.2; simp [denI, denB, denV, denL, a1, b1, a2, b2]
 | veq a b iha ihb => intro h; simp only [symIn, Bool.and_eq_true] at h; obtain ⟨a1, a2, a3, a4⟩ := iha h.1; obtain ⟨b1, b2, b3, b4⟩ := ihb h.2; simp [denI, denB, denV, denL, a3, b3]
 | cons a b iha ihb => intro h; simp only [symIn, Bool.and_eq_true] at h; obtain ⟨a1, a2, a3, a4⟩ := iha h.1; obtain ⟨b1, b2, b3, b4⟩ := ihb h.2; simp [denI, denB, denV, denL, a3, b4]
 | ep K a b j _ _ => intro _; simp [denI, denB, denV, denL]
 | var i => intro _; simp [denI, denB, denV, denL, h1]
 | bvar i => intro _; simp [denI, denB, denV, denL, h2]
 | opq i => intro _; simp [denI, denB, denV, denL, h3]
 | str i => intro _; simp [denI, denB, denV, denL, h4]
 | wrap k a ih => intro h; obtain ⟨a1, a2, a3, a4⟩ := ih h; simp [denI, denB, denV, denL, a1]
 | blen a ih => intro h; obtain ⟨a1, a2, a3, a4⟩ := ih h; simp [denI, denB, denV, denL, a3]
 | ofI a ih => intro h; obtain ⟨a1, a2, a3, a4⟩ := ih h; simp [denI, denB, denV, denL, a3]
 | ofB a ih => intro h; obtain ⟨a1, a2, a3, a4⟩ := ih h; simp [denI, denB, denV, denL, a3]
 | vop o a ih => intro h; obtain ⟨a1, a2, a3, a4⟩ := ih h; simp [denI, denB, denV, denL, a4]
 | hs lab K a ih => intro h; obtain ⟨a1, a2, a3, a4⟩ := ih h; simp [denI, denB, denV, denL, a3]
 | not a ih => intro h; obtain ⟨a1, a2, a3, a4⟩ := ih h; simp [denI, denB, denV, denL, a2]
 | int k a ih => intro h; obtain ⟨a1, a2, a3, a4⟩ := ih h; simp [denI, denB, denV, denL, a1]
 | bool a ih => intro h; obtain ⟨a1, a2, a3, a4⟩ := ih h; simp [denI, denB, denV, denL, a2]
 | agg a ih => intro h; obtain ⟨a1, a2, a3, a4⟩ := ih h; simp [denI, denB, denV, denL, a4]
 | tup a ih => intro h; obtain ⟨a1, a2, a3, a4⟩ := ih h; simp [denI, denB, denV, denL, a4]
 | clo f a ih => intro h; obtain ⟨a1, a2, a3, a4⟩ := ih h; simp [denI, denB, denV, denL, a4]
 | err a ih => intro h; obtain ⟨a1, a2, a3, a4⟩ := ih h; simp [denI, denB, denV, denL, a1, g.et]
 | iface t a ih => intro h; obtain ⟨a1, a2, a3, a4⟩ := ih h; simp [denI, denB, denV, denL, a3]
 | _ => intro _; simp [denI, denB, denV, denL]
theorem sym_rel {nI nB nV : Nat} {ρ ρ' : Env} (g : Agree nI nB nV ρ ρ') (h1 : ρ'.iv = ρ.iv) (h2 : ρ'.bv = ρ.bv) (h3 : ρ'.vv = ρ.vv) (h4 : ρ'.sv = ρ.sv) {β : Nat → Nat} {o : Nat → Option Top} {ok : Nat → Nat → Prop} {w : World} : ∀ t, symIn nI nB nV t = true →
   (∀ v, Rel ⟨ρ', β, o, ok, w⟩ t v ↔ Rel ⟨ρ, β, o, ok, w⟩ t v) ∧ (∀ vs, RelL ⟨ρ', β, o, ok, w⟩ t vs ↔ RelL ⟨ρ, β, o, ok, w⟩ t vs) := by
 have hd := sym_den g h1 h2 h3 h4 β
 intro t
 induction t with
 | agg l ih => intro h; have := (ih h).2; exact ⟨fun v => by simp only [Rel]; exact exists_congr fun vs => and_congr_right fun _ => this vs, fun vs => by simp [RelL]⟩
 | tup l ih => intro h; have := (ih h).2; exact ⟨fun v => by simp only [Rel]; exact exists_congr fun vs => and_congr_right fun _ => this vs, fun vs => by simp [RelL]⟩
 | clo f l ih => intro h; have := (ih h).2; exact ⟨fun v => by simp only [Rel]; exact exists_congr fun vs => and_congr_right fun _ => this vs, fun vs => by simp [RelL]⟩
 | cons a b iha ihb =>
   intro h
   have hc := hd _ h
   simp only [symIn, Bool.and_eq_true] at h
   have e1 := (iha h.1).1
   have e2 := (ihb h.2).2
   refine ⟨fun v => by simp only [Rel]; rw [hc.2.2.1], fun vs => ?_⟩
   cases vs with
   | nil => simp [RelL]
   | cons v r => simp only [RelL]; rw [e1 v, e2 r]
 | hs lab K t _ => intro h; have := (hd t h).2.2.1; exact ⟨fun v => by simp only [Rel, this], fun vs => by simp [RelL]⟩
 | ep K t i j _ _ => intro h; simp only [symIn, Bool.and_eq_true] at h; have e1 := (hd t h.1).2.2.1; have e2 := (hd i h.2).1; exact ⟨fun v => by simp only [Rel, e1, e2], fun vs => by simp [RelL]⟩
 | junk => intro _; exact ⟨fun v => Iff.rfl, fun vs => by simp [RelL]⟩
 | _ => intro h; have := (hd _ h).2.2.1; exact ⟨fun v => by simp only [Rel, this], fun vs => by simp [RelL]⟩
theorem sym_relab {nI nB nV n : Nat} : ∀ t, symIn nI nB nV t = true → symIn nI nB nV (relab n t) = true := by
 intro t
 induction t with
 | hs lab K t ih => intro h; cases lab <;> exact h
 | agg l ih => exact ih
 | tup l ih => exact ih
 | clo f l ih => exact ih
 | cons a b iha ihb => intro h; simp only [symIn, relab, Bool.and_eq_true] at h ⊢; exact ⟨iha h.1, ihb h.2⟩
 | _ => intro h; exact h
theorem Con.Good.up {P : Program} {G : Glob} {nI nB nV : Nat} {ρ ρ' : Env} {c : Con} (h : c.Good P G ρ) (g : Agree nI nB nV ρ ρ') (hs : (symIn nI nB nV c.cnd && symIn nI nB nV c.res && c.pat.all (symIn nI nB nV)) = true) : c.Good P G ρ' := by
 simp only [Bool.and_eq_true] at hs
 intro iv bv vv sv β ok w xs n1 n2 n3 n4 hcnd hok hG hx he
 have g' : Agree nI nB nV { ρ with iv := iv, bv := bv, vv := vv, sv := sv } { ρ' with iv := iv, bv := bv, vv := vv, sv := sv } := ⟨g.et, g.i, g.b, g.v⟩
 have hc : holds { ρ with iv := iv, bv := bv, vv := vv, sv := sv } c.cnd := by
   rw [holds_iff] at hcnd ⊢
   rw [← (sym_den g' rfl rfl rfl rfl b0 c.cnd hs.1.1).2.1]
   exact hcnd
 refine (h iv bv vv sv β ok w xs n1 n2 n3 n4 hc hok hG (RelT.of hx.length fun i t v ht hv => ?_) he).mono ?_
 · obtain ⟨v', e1, e2⟩ := hx.get i t ht
   rw [hv] at e1
   obtain rfl := Option.some.inj e1
   exact ((sym_rel g' rfl rfl rfl rfl t (List.all_eq_true.1 hs.2 t (List.mem_of_getElem? ht))).1 v).1 e2
 · rintro e w' ⟨y, o', ok', e1, e2, e3, e4⟩
   exact ⟨y, o', ok', e1, e2, ((sym_rel g' rfl rfl rfl rfl _ (sym_relab c.res hs.1.2)).1 y).2 e3, e4⟩
theorem symT_rel {nI nB nV : Nat} {ρ ρ' : Env} (g : Agree nI nB nV ρ ρ') (h1 : ρ'.iv = ρ.iv) (h2 : ρ'.bv = ρ.bv) (h3 : ρ'.vv = ρ.vv) (h4 : ρ'.sv = ρ.sv) {β : Nat → Nat} {o : Nat → Option Top} {ok : Nat → Nat → Prop} {w : World} {ts : List Tm} (hs : ts.all (symIn nI nB nV) = true) (vs : List Value) : RelT ⟨ρ', β, o, ok, w⟩ ts vs ↔ RelT ⟨ρ, β, o, ok, w⟩ ts vs := by
 constructor
 · intro h
   exact RelT.of h.length fun i t v ht hv => by
     obtain ⟨v', e1, e2⟩ := h.get i t ht
     rw [hv] at e1
     obtain rfl := Option.some.inj e1
     exact ((sym_rel g h1 h2 h3 h4 t (List.all_eq_true.1 hs t (List.mem_of_getElem? ht))).1 v).1 e2
 · intro h
   exact RelT.of h.length fun i t v ht hv => by
     obtain ⟨v', e1, e2⟩ := h.get i t ht
     rw [hv] at e1
     obtain rfl := Option.some.inj e1
     exact ((sym_rel g h1 h2 h3 h4 t (List.all_eq_true.1 hs t (List.mem_of_getElem? ht))).1 v).2 e2
theorem MCon.Good.up {P : Program} {G : Glob} {nI nB nV : Nat} {ρ ρ' : Env} {c : MCon} (h : c.Good P G ρ) (g : Agree nI nB nV ρ ρ') (hs : (symIn nI nB nV c.cnd && symIn nI nB nV c.res && c.post.all (symIn nI nB nV) && c.pat.all (symIn nI nB nV)) = true) : c.Good P G ρ' := by
 simp only [Bool.and_eq_true] at hs
 intro iv bv vv sv β ok w xs us b n1 n2 n3 n4 hcnd hok hG hb hx0 hbo hul huc hx
 have g' : Agree nI nB nV { ρ with iv := iv, bv := bv, vv := vv, sv := sv } { ρ' with iv := iv, bv := bv, vv := vv, sv := sv } := ⟨g.et, g.i, g.b, g.v⟩
 have hc : holds { ρ with iv := iv, bv := bv, vv := vv, sv := sv } c.cnd := by
   rw [holds_iff] at hcnd ⊢
   rw [← (sym_den g' rfl rfl rfl rfl b0 c.cnd hs.1.1.1).2.1]
   exact hcnd
 refine (h iv bv vv sv β ok w xs us b n1 n2 n3 n4 hc hok hG hb hx0 hbo hul huc ((symT_rel g' rfl rfl rfl rfl hs.2 _).1 hx)).mono ?_
 rintro e w' ⟨y, ok', vs, e1, e2, e3, e3', e4, e5, e6⟩
 exact ⟨y, ok', vs, e1, e2, e3, e3', ((sym_rel g' rfl rfl rfl rfl _ hs.1.1.2).1 y).2 e4, (symT_rel g' rfl rfl rfl rfl hs.1.2 _).2 e5, e6⟩
theorem ACon.Good.up {P : Program} {G : Glob} {nI nB nV : Nat} {ρ ρ' : Env} {c : ACon} (h : c.Good P G ρ) (g : Agree nI nB nV ρ ρ') (hs : (symIn nI nB nV c.cnd && c.cells.all (symIn nI nB nV) && c.pat.all (symIn nI nB nV)) = true) : c.Good P G ρ' := by
 simp only [Bool.and_eq_true] at hs
 intro iv bv vv sv β ok w xs n1 n2 n3 n4 hcnd hok hG hx
 have g' : Agree nI nB nV { ρ with iv := iv, bv := bv, vv := vv, sv := sv } { ρ' with iv := iv, bv := bv, vv := vv, sv := sv } := ⟨g.et, g.i, g.b, g.v⟩
 have hc : holds { ρ with iv := iv, bv := bv, vv := vv, sv := sv } c.cnd := by
   rw [holds_iff] at hcnd ⊢
   rw [← (sym_den g' rfl rfl rfl rfl b0 c.cnd hs.1.1).2.1]
   exact hcnd
 refine (h iv bv vv sv β ok w xs n1 n2 n3 n4 hc hok hG ((symT_rel g' rfl rfl rfl rfl hs.2 _).1 hx)).mono ?_
 rintro e w' ⟨b, ok', vs, e1, e2, e3, e3', e4, e5, e6, e7, e8⟩
 exact ⟨b, ok', vs, e1, e2, e3, e3', e4, e5, e6, (symT_rel g' rfl rfl rfl rfl hs.1.2 _).2 e7, e8⟩
abbrev Hyp_ (c : Con) (t : Tree) (ρ : Env) : Prop := holds ρ c.cnd → patsTyp ρ c.pat → t.holds (fun v_ => v_ = denV ρ b0 c.res) ρ
