/-
 Slices of bytes, as lists of bytes: reading, appending, turning into a text.
-/
import Derived.Test.YtikfgnmljpjnbaaDoorNumpob
import Derived.Maps.AppendAt
import Derived.Deep.AppendLies
import Derived.Laws.OwnMore
import Derived.Laws.MakeOwn
import Derived.Laws.IdiomStrings
import Derived.Laws.AppendOwnNone
import Derived.Lib.BufferRead
import Derived.RegionTactic
import Derived.OwnWalk
import Derived.ChangeSlices
import Derived.OpenShut
namespace Go.Proofs.YtikfgnmljpjnbaaDoor
open Go.RowKit Go.ChangeShapes Go.WideShapes
abbrev bV (x : UInt8) : Value := .int .u8 (x.toNat : Int)
def bv (l : List UInt8) : List Value := l.map bV
theorem bv_length (l : List UInt8) : (bv l).length = l.length := by simp [bv]
theorem bv_append (a b : List UInt8) : bv (a ++ b) = bv a ++ bv b := by simp [bv]
theorem bv_one (l : List UInt8) : ∀ u ∈ bv l, u.oneCell' = true := by
 intro u hu
 obtain ⟨x, _, rfl⟩ := List.mem_map.1 hu
 rfl
theorem bv_get (l : List UInt8) (i : Nat) : (bv l)[i]? = l[i]?.map bV := by simp [bv]
def Rd (w : World) (A : Option Addr) (l : List UInt8) : Prop := (A = none → l = []) ∧ ∀ i (h : i < l.length), ∃ ad, A = some ad ∧ (ad.add i).block < w.heap.size ∧ w.cell? (ad.add i) = some (bV l[i])
theorem Rd.nil (w : World) (A : Option Addr) : Rd w A [] := ⟨fun _ => rfl, fun i h => absurd h (Nat.not_lt_zero i)⟩
theorem Rd.at_ {w : World} {A : Option Addr} {l : List UInt8} (h : Rd w A l) {i : Nat} (hi : i < l.length) : ∃ ad, A = some ad ∧ (ad.add i).block < w.heap.size ∧ w.cell? (ad.add i) = some (bV l[i]) := h.2 i hi
theorem add0 (a : Addr) : a.add 0 = a := by unfold Addr.add; simp
theorem add_lit (a : Addr) (n : Nat) (h : n ≠ 0) : a.add n = ⟨a.block, a.off + n, none⟩ := by unfold Addr.add; simp [h]
theorem Rd.cell0 {w : World} {ad : Addr} {l : List UInt8} (h : Rd w (some ad) l) (hi : 0 < l.length) : w.cell? ad = some (.int .u8 (l[0].toNat : Int)) := by
 obtain ⟨a, e, _, h2⟩ := h.2 0 hi
 injection e with e
 subst e
 rwa [add0] at h2
theorem Rd.cell {w : World} {ad : Addr} {l : List UInt8} (h : Rd w (some ad) l) {i : Nat} (hi : i < l.length) : w.cell? (ad.add i) = some (.int .u8 (l[i].toNat : Int)) := by
 obtain ⟨a, e, _, h2⟩ := h.2 i hi
 injection e with e
 subst e
 exact h2
theorem Rd.below {w w' : World} {A : Option Addr} {l : List UInt8} (h : Rd w A l) (hb : Below w.heap.size w w') : Rd w' A l :=
 ⟨h.1, fun i hi => by
   obtain ⟨ad, e, h1, h2⟩ := h.2 i hi
   exact ⟨ad, e, Nat.lt_of_lt_of_le h1 hb.size, by rw [hb.cell h1]; exact h2⟩⟩
theorem add_block (a : Addr) (n : Nat) : (a.add n).block = a.block := by unfold Addr.add; split <;> rfl
theorem add_add (a : Addr) (i j : Nat) : (a.add i).add j = a.add (i + j) := by
 unfold Addr.add
 by_cases hi : i = 0 <;> by_cases hj : j = 0 <;> simp [hi, hj, Nat.add_assoc]
theorem Rd.grown {w w' : World} {A : Option Addr} {l : List UInt8} {row : Option Nat} (h : Rd w A l) (hg : w.grownBy w' row) (hr : ∀ ad, A = some ad → some ad.block ≠ row) : Rd w' A l :=
 ⟨h.1, fun i hi => by
   obtain ⟨ad, e, h1, h2⟩ := h.2 i hi
   refine ⟨ad, e, Nat.lt_of_lt_of_le h1 hg.size, ?_⟩
   rw [World.cell?_of_block (hg.block _ h1 (by rw [add_block]; exact hr ad e))]; exact h2⟩
theorem Rd.take {w : World} {A : Option Addr} {l : List UInt8} (h : Rd w A l) (k : Nat) : Rd w A (l.take k) :=
 ⟨fun e => by rw [h.1 e]; simp, fun i hi => by
   have hi' : i < l.length := by simp at hi; omega
   obtain ⟨ad, e, h1, h2⟩ := h.2 i hi'
   exact ⟨ad, e, h1, by rw [h2]; simp⟩⟩
theorem Rd.drop {w : World} {ad : Addr} {l : List UInt8} (h : Rd w (some ad) l) (k : Nat) : Rd w (some (ad.add k)) (l.drop k) :=
 ⟨(fun e => by cases e), fun i hi => by
   have hi' : k + i < l.length := by simp at hi; omega
   obtain ⟨ad', e, h1, h2⟩ := h.2 (k + i) hi'
   injection e with e
   subst e
   refine ⟨_, rfl, ?_, ?_⟩
   · rw [add_add]; exact h1
   · rw [add_add, h2]; simp⟩
theorem Rd.of_own {w : World} {base : Nat} {e : TypeId} {A : Option Addr} {c n : Nat} {l : List UInt8} (h : w.ownsRow base e 1 (.slice A n c) n (bv l)) : Rd w A l ∧ n = l.length := by
 have hl : n = l.length := by have := h.1; rw [bv_length] at this; omega
 refine ⟨⟨?_, fun i hi => ?_⟩, hl⟩
 · rintro rfl
   rcases h.2 with ⟨_, h0⟩ | ⟨g, cap, cur, hv, _⟩
   · exact List.eq_nil_of_length_eq_zero (by omega)
   · cases hv
 · rcases h.2 with ⟨_, h0⟩ | ⟨g, cap, cur, hv, _, hg, _⟩
   · omega
   · injection hv with hA
     subst hA
     have hc := h.cells (g := g) rfl i (bV l[i]) (by rw [bv_get, List.getElem?_eq_getElem hi]; rfl)
     exact ⟨_, rfl, World.block_lt_of_cell? w _ hc, hc⟩
theorem Rd.same {w : World} {A : Option Addr} {l m : List UInt8} (h : Rd w A l) (h' : Rd w A m) (hl : l.length = m.length) : l = m := by
 refine List.ext_getElem hl fun i h1 h2 => ?_
 obtain ⟨a, e, _, c⟩ := h.2 i h1
 obtain ⟨a', e', _, c'⟩ := h'.2 i h2
 rw [e] at e'
 injection e' with e'
 subst e'
 rw [c] at c'
 injection c' with c'
 injection c' with _ c'
 exact UInt8.toNat_inj.1 (by omega)
theorem Rd.lit (w : World) (l : List UInt8) (cs : Array Value) (T : TypeId) (fr : Nat × Nat) (hcs : cs = (bv l).toArray) : Rd (w.alloc (.cells cs T fr)) (some ⟨w.heap.size, 0, none⟩) l := by
 subst hcs
 refine ⟨(fun e => by cases e), fun i hi => ⟨_, rfl, ?_, ?_⟩⟩
 · rw [add_block]; simp
 · have ha : (⟨w.heap.size, 0, none⟩ : Addr).add i = ⟨w.heap.size, i, none⟩ := by
     by_cases h0 : i = 0
     · subst h0; rw [add0]
     · rw [add_lit _ _ h0]; simp
   rw [ha]
   rw [cell_of_row _ _ _ _ _ fr (heap_alloc_new w _)]
   simp [bv, hi]
variable {P : Program}
theorem run_text (w : World) (src dst e : TypeId) (A : Option Addr) (c : Nat) (l : List UInt8) (h : Rd w A l) (hs : P.underlying src = some (.slice e)) (he : P.underlying e = some (.int .u8)) (hd : P.underlying dst = some .string) :
   (convert src dst (.slice A l.length c)).run P w = .ok (.string ⟨l.toArray⟩) w := by
 rcases A with _ | ad
 · have := h.1 rfl
   subst this
   exact Go.Lib.run_convert_nil_bytes w src dst e c hs he hd
 · refine run_convert_bytes_back w src dst e ad c l hs he hd ?_
   intro j hj
   obtain ⟨a, e1, _, h2⟩ := h.2 j hj
   injection e1 with e1
   subst e1
   exact h2
theorem run_append_b (w : World) (base : Nat) (t ty e : TypeId) (i : TypeInfo) (z : Value) (ht : P.underlying t = some (.slice e)) (hi : P.info? e = some i) (hz : i.zero = some z)
   (hsize : i.size = 1) (hby : i.bytes = 1) (hzs : z.cells.size = 1) (v : Value) (n : Nat) (xs : List Value) (hown : w.ownsRow base e 1 v n xs)
   (A : Option Addr) (c : Nat) (l : List UInt8) (hr : Rd w A l) (hc : A = none → c = 0) (hb : n + l.length ≤ 140737488355328) (hbase : base ≤ w.heap.size) :
   ∃ v' w', (Builtin.append_ #[t, t] ty #[v, .slice A l.length c]).run P w = .ok v' w' ∧ w'.ownsRow base e 1 v' (n + l.length) (xs ++ bv l) ∧ w.grownBy w' v.ownBlock ∧
     (v'.ownBlock = v.ownBlock ∨ v'.ownBlock = some w.heap.size) := by
 rcases A with _ | ad
 · have hl := hr.1 rfl
   have hc0 := hc rfl
   subst hl hc0
   exact ⟨v, w, run_append_owned_none (P := P) (w := w) base t ty e i 1 ht hi v n xs hown, by simpa [bv] using hown, World.grownBy.refl w _, .inl rfl⟩
 · have hcells : ∀ j u, (bv l)[j]? = some u → w.cell? (ad.add j) = some u := by
     intro j u hu
     rw [bv_get] at hu
     rcases Nat.lt_or_ge j l.length with hj | hj
     · rw [List.getElem?_eq_getElem hj] at hu
       obtain ⟨a, e1, _, h2⟩ := hr.2 j hj
       injection e1 with e1
       subst e1
       rw [h2]; exact hu
     · rw [List.getElem?_eq_none hj] at hu; cases hu
   obtain ⟨v', w', hrun, h2, h3, _, h5⟩ := run_append_own_at (P := P) w base t ty e i z 1 1 ht hi hz hsize hby hzs (by decide) v n xs hown ad l.length c (bv l) (by rw [bv_length]; omega) hcells (bv_one l) (by unfold maxLen; omega) (by omega) hbase
   exact ⟨v', w', hrun, h2, h3, h5⟩
theorem wpList_append_b {w : World} {ops : Array Oper} {rest : List Oper} {o : Oper} {a : Act} {Q : Exit → Act → World → Prop} (hgd : o.guard = none) (s x : Operand) (t : TypeId)
   (ho : o.op = .call { callee := .builtin .append, args := #[s, x], argTypes := #[t, t] })
   (base : Nat) (e : TypeId) (i : TypeInfo) (z : Value) (ht : P.underlying t = some (.slice e)) (hi : P.info? e = some i) (hz : i.zero = some z)
   (hsize : i.size = 1) (hby : i.bytes = 1) (hzs : z.cells.size = 1) (v : Value) (n : Nat) (xs : List Value) (hs : a.eval s = v) (hown : w.ownsRow base e 1 v n xs)
   (A : Option Addr) (c : Nat) (l : List UInt8) (hx : a.eval x = .slice A l.length c) (hr : Rd w A l) (hc : A = none → c = 0) (hb : n + l.length ≤ 140737488355328) (hbase : base ≤ w.heap.size)
   (h : ∀ v' w', w'.ownsRow base e 1 v' (n + l.length) (xs ++ bv l) → w.grownBy w' v.ownBlock → (v'.ownBlock = v.ownBlock ∨ v'.ownBlock = some w.heap.size) → wpList P ops Q rest (a.put o.dst v') w') : wpList P ops Q (o :: rest) a w := by
 refine wpList_plain hgd fun K hK => ?_
 obtain ⟨v', w', hrun, h2, h3, h4⟩ := run_append_b (P := P) w base t o.type e i z ht hi hz hsize hby hzs v n xs hown A c l hr hc hb hbase
 unfold Oper.wp
 simp only [execOp, ho, resolve, invoke, builtin, Sem.run_bind, Sem.run_pure, Result.andThen_ok, List.map_toArray, List.map_cons, List.map_nil, hs, hx, hrun]
 exact hK _ _ (h v' w' h2 h3 h4)
end Go.Proofs.YtikfgnmljpjnbaaDoor
