/-
 A law's arguments, opened to what they hold, whatever their types: by the layout of a type's cells.
-/
import Derived.Test.YtikfgnmljpjnbaaDoorSyopob
namespace Go.Proofs.YtikfgnmljpjnbaaDoor
open Go Go.ChangeShapes Go.WideShapes Go.RowKit Go.Deep Go.Proofs.YtikfgnmljpjnbaaDoor.Sy
set_option linter.unusedVariables false
def cellB : SK → Nat
 | .int k => k.bits / 8
 | .bool => 1
 | .str => 16
 | .sl _ => 24
 | _ => 0
def byK : SK → Nat
 | .cons a r => cellB a + byK r
 | _ => 0
mutual
def fineC : SK → Value → Prop
 | .int k, c => (Lit.int k (Go.RowKit.intOf c)).wf = true
 | .str, c => (strOf c).size ≤ reachBytes
 | .sl r, c => (Sy.rows c).length / r.wd * byK r ≤ reachBytes ∧ ∀ i, i < (Sy.rows c).length / r.wd → fineR r (Sy.rows c) (i * r.wd)
 | _, _ => True
termination_by structural x => x
def fineR : SK → List Value → Nat → Prop
 | .cons a r, l, j => fineC a (l.getD j Go.undef) ∧ fineR r l (j + 1)
 | _, _, _ => True
termination_by structural x => x
end
theorem fineR_of : ∀ (K : SK) (l : List Value) (j : Nat), (∀ m a, K.get m = some a → fineC a (l.getD (j + m) Go.undef)) → fineR K l j := by
 intro K
 induction K with
 | cons a r _ ih =>
   intro l j h
   exact ⟨h 0 a rfl, ih l (j + 1) fun m b hb => by have := h (m + 1) b hb; rwa [show j + (m + 1) = j + 1 + m by omega] at this⟩
 | _ => intro l j _; trivial
theorem app_wd : ∀ a b : SK, (a.app b).wd = a.wd + b.wd := by
 intro a
 induction a with
 | cons x r _ ih => intro b; show (r.app b).wd + 1 = _; rw [ih]; show _ = r.wd + 1 + b.wd; omega
 | _ => intro b; show b.wd = 0 + b.wd; omega
theorem app_get : ∀ (a b : SK) (j : Nat) (x : SK), (a.app b).get j = some x → (j < a.wd ∧ a.get j = some x) ∨ (a.wd ≤ j ∧ b.get (j - a.wd) = some x) := by
 intro a
 induction a with
 | cons y r _ ih =>
   intro b j x h
   cases j with
   | zero => left; exact ⟨by show 0 < r.wd + 1; omega, h⟩
   | succ j =>
     rcases ih b j x h with ⟨h1, h2⟩ | ⟨h1, h2⟩
     · left; exact ⟨by show j + 1 < r.wd + 1; omega, h2⟩
     · right; exact ⟨by show r.wd + 1 ≤ j + 1; omega, by show b.get (j + 1 - (r.wd + 1)) = _; rwa [show j + 1 - (r.wd + 1) = j - r.wd by omega]⟩
 | _ => intro b j x h; right; exact ⟨Nat.zero_le _, h⟩
section
variable {H : Type} {enc : TypeId × Value → H} {P : Program} {w : World} {base : Nat} {spare : Nat → Bool} {held : Bool}
structure CellsOk (w : World) (K : SK) (cs ds : List Value) : Prop where
 lc : cs.length = K.wd
 ld : ds.length = K.wd
 at_ : ∀ j a, K.get j = some a → deepC (fun _ _ => True) w a (cs.getD j Go.undef) (ds.getD j Go.undef) ∧ fineC a (ds.getD j Go.undef)
theorem CellsOk.app {a b : SK} {cs ds cs' ds' : List Value} (h : CellsOk w a cs ds) (k : CellsOk w b cs' ds') : CellsOk w (a.app b) (cs ++ cs') (ds ++ ds') := by
 refine ⟨by rw [List.length_append, h.lc, k.lc, app_wd], by rw [List.length_append, h.ld, k.ld, app_wd], fun j x hx => ?_⟩
 rcases app_get a b j x hx with ⟨h1, h2⟩ | ⟨h1, h2⟩
 · have := h.at_ j x h2
   rwa [List.getD_eq_getElem?_getD, List.getD_eq_getElem?_getD, List.getElem?_append_left (by rw [h.lc]; exact h1), List.getElem?_append_left (by rw [h.ld]; exact h1), ← List.getD_eq_getElem?_getD, ← List.getD_eq_getElem?_getD]
 · have := k.at_ _ x h2
   rwa [List.getD_eq_getElem?_getD, List.getD_eq_getElem?_getD, List.getElem?_append_right (by rw [h.lc]; exact h1), List.getElem?_append_right (by rw [h.ld]; exact h1), h.lc, h.ld, ← List.getD_eq_getElem?_getD, ← List.getD_eq_getElem?_getD]
def layF (P : Program) (g : TypeId → Option SK) : List Field → Nat → Option SK
 | [], _ => some .nil
 | f :: r, o => match g f.type with
   | some a => if f.offset = o ∧ P.cellsOf f.type = a.wd then (layF P g r (o + a.wd)).map fun b => a.app b else none
   | none => none
def layK (P : Program) : Nat → TypeId → Option SK
 | 0, _ => none
 | d + 1, t => match P.underlying t with
   | some (.int k) => some (.cons (.int k) .nil)
   | some .bool => some (.cons .bool .nil)
   | some .string => some (.cons .str .nil)
   | some (.slice e) => match layK P d e with
     | some r => if 0 < r.wd ∧ P.cellsOf e = r.wd ∧ 0 < P.bytesOf e ∧ byK r ≤ P.bytesOf e then some (.cons (.sl r) .nil) else none
     | none => none
   | some (.struct fs) => match layF P (layK P d) fs.toList 0 with
     | some K => if P.cellsOf t = K.wd then some K else none
     | none => none
   | some (.array n e) => match layK P d e with
     | some r => if P.cellsOf e = r.wd ∧ P.cellsOf t = n * r.wd then some (SK.times n r) else none
     | none => none
   | _ => none
abbrev LightW (P : Program) (t : TypeId) (x : DataW H) : Prop := (DataW.weights P t x).all (· ≤ reachBytes) = true
theorem all_app {α : Type} {p : α → Bool} {l m : List α} (h : (l ++ m).all p = true) : l.all p = true ∧ m.all p = true := by rw [List.all_append, Bool.and_eq_true] at h; exact h
theorem weightsAll_get {e : TypeId} : ∀ {l : List (DataW H)}, (DataW.weightsAll P e l).all (· ≤ reachBytes) = true → ∀ (i : Nat) (d : DataW H), l[i]? = some d → LightW P e d
 | [], _, i, d, h => by simp at h
 | x :: r, h, i, d, hd => by
   unfold DataW.weightsAll at h
   obtain ⟨h1, h2⟩ := all_app h
   cases i with
   | zero => obtain rfl := Option.some.inj hd; exact h1
   | succ i => exact weightsAll_get h2 i d hd
def OpensAt (enc : TypeId × Value → H) (P : Program) (w : World) (base : Nat) (spare : Nat → Bool) (held : Bool) (t : TypeId) (K : SK) : Prop :=
 ∀ (fuel : Nat) (cs : List Value) (x : DataW H × List MemPlace), DataW.trod enc P w base spare held fuel t cs = some x → LightW P t x.1 → ∃ ds, CellsOk w K cs ds
theorem layF_open {g : TypeId → Option SK} (hg : ∀ t K, g t = some K → OpensAt enc P w base spare held t K) : ∀ (fs : List Field) (o : Nat) (K : SK) (xs : List (DataW H × List MemPlace)) (n : Nat) (cs : List Value), layF P g fs o = some K → xs.length = fs.length →
   (∀ (i : Nat) (f : Field), fs[i]? = some f → DataW.trod enc P w base spare held n f.type ((cs.drop f.offset).take (P.cellsOf f.type)) = xs[i]?) → (DataW.weightsEach P (fs.map (·.type)) (xs.map (·.1))).all (· ≤ reachBytes) = true → cs.length = o + K.wd → ∃ ds, CellsOk w K (cs.drop o) ds
 | [], o, K, xs, n, cs, h, _, _, _, hl => by
   obtain rfl := Option.some.inj h
   have : cs.drop o = [] := List.drop_eq_nil_of_le (by have : SK.nil.wd = 0 := rfl; omega)
   rw [this]
   exact ⟨[], rfl, rfl, fun j a ha => by cases j <;> cases ha⟩
 | f :: r, o, K, [], n, cs, h, hx, _, _, _ => by cases hx
 | f :: r, o, K, x :: xs, n, cs, h, hx, ht, hw, hl => by
   unfold layF at h
   split at h
   · rename_i a ha
     split at h
     · rename_i hc
       obtain ⟨b, hb, rfl⟩ := Option.map_eq_some_iff.1 h
       rw [app_wd] at hl
       obtain ⟨w1, w2⟩ := all_app (show (DataW.weights P f.type x.1 ++ DataW.weightsEach P (r.map (·.type)) (xs.map (·.1))).all (· ≤ reachBytes) = true from hw)
       obtain ⟨ds1, h1⟩ := hg _ _ ha n _ x (ht 0 f rfl) w1
       obtain ⟨ds2, h2⟩ := layF_open hg r (o + a.wd) b xs n cs hb (by simpa using hx) (fun i f' hf' => ht (i + 1) f' hf') w2 (by omega)
       have e : cs.drop o = (cs.drop f.offset).take (P.cellsOf f.type) ++ cs.drop (o + a.wd) := by
         rw [hc.1, hc.2, ← List.drop_drop, List.take_append_drop]
       exact ⟨ds1 ++ ds2, by rw [e]; exact h1.app h2⟩
     · cases h
   · cases h
theorem layA_open {e : TypeId} {r : SK} (hr : OpensAt enc P w base spare held e r) (hs : P.cellsOf e = r.wd) : ∀ (n i0 : Nat) (xs : List (DataW H × List MemPlace)) (m : Nat) (cs : List Value), xs.length = n →
   (∀ (i : Nat), i < n → DataW.trod enc P w base spare held m e ((cs.drop ((i0 + i) * r.wd)).take r.wd) = xs[i]?) → (DataW.weightsAll P e (xs.map (·.1))).all (· ≤ reachBytes) = true → cs.length = (i0 + n) * r.wd → ∃ ds, CellsOk w (SK.times n r) (cs.drop (i0 * r.wd)) ds
 | 0, i0, xs, m, cs, _, _, _, hl => by
   have : cs.drop (i0 * r.wd) = [] := List.drop_eq_nil_of_le (by rw [hl]; exact Nat.le_refl _)
   rw [this]
   exact ⟨[], rfl, rfl, fun j a ha => by cases j <;> cases ha⟩
 | n + 1, i0, [], m, cs, hx, _, _, _ => by cases hx
 | n + 1, i0, x :: xs, m, cs, hx, ht, hw, hl => by
   obtain ⟨w1, w2⟩ := all_app (show (DataW.weights P e x.1 ++ DataW.weightsAll P e (xs.map (·.1))).all (· ≤ reachBytes) = true from hw)
   obtain ⟨ds1, h1⟩ := hr m _ x (ht 0 (by omega)) w1
   obtain ⟨ds2, h2⟩ := layA_open hr hs n (i0 + 1) xs m cs (by simpa using hx) (fun i hi => by have := ht (i + 1) (by omega); rwa [show i0 + (i + 1) = i0 + 1 + i by omega] at this) w2 (by rw [hl]; congr 1; omega)
   have e1 : cs.drop (i0 * r.wd) = (cs.drop ((i0 + 0) * r.wd)).take r.wd ++ cs.drop ((i0 + 1) * r.wd) := by
     rw [Nat.add_zero, Nat.succ_mul, ← List.drop_drop, List.take_append_drop]
   exact ⟨ds1 ++ ds2, by rw [e1]; exact h1.app h2⟩
theorem layS_open {t e : TypeId} {K : SK} (ht : P.underlying t = some (.slice e)) (hC : P.cellsOf e = K.wd) (hpos : 0 < K.wd) (hB : 0 < P.bytesOf e) (hby : byK K ≤ P.bytesOf e) (hq : OpensAt enc P w base spare held e K) : OpensAt enc P w base spare held t (.cons (.sl K) .nil) := by
 intro fuel cs x h hlw
 rcases open_slice ht h with ⟨h0, _⟩ | ⟨a, len, cap, m, n, D, Pl, hcs, hb, hl, hm, hmm, hx, hi⟩
 · subst h0
   refine ⟨[.tuple #[]], rfl, rfl, fun j a ha => ?_⟩
   match j, ha with
   | 0, ha =>
     obtain rfl := Option.some.inj ha
     exact ⟨⟨none, 0, 0, rfl, rfl, by simp [Sy.rows], Nat.le_refl _, by omega, fun _ => rfl, fun i hi => absurd hi (Nat.not_lt_zero i)⟩, by simp [Sy.rows], fun i hi => by simp [Sy.rows] at hi⟩
 · subst hcs
   have hlm : len ≤ m := by rw [hmm]; split <;> omega
   rw [hx] at hlw
   have hw : LightW P t (DataW.slice ((List.range len).map D) ((List.range (m - len)).map fun j => D (len + j))) := hlw
   unfold LightW DataW.weights at hw
   rw [ht] at hw
   simp only [List.all_cons, Bool.and_eq_true, List.all_append, decide_eq_true_eq, List.length_map, List.length_range] at hw
   obtain ⟨hw1, hw2, _⟩ := hw
   have hlen2 : len * P.bytesOf e ≤ reachBytes := Nat.le_trans (Nat.mul_le_mul_right _ (Nat.le_add_right _ _)) hw1
   have hsmall : len ≤ 140737488355328 := by
     have h1 : len * 1 ≤ len * P.bytesOf e := Nat.mul_le_mul_left _ hB
     have h2 := reachBytes_lt
     omega
   have hch : ∀ i, i < len → ∃ q : List Value × List Value, w.cells? base (a.add (i * P.cellsOf e)) (P.cellsOf e) = some q.1 ∧ CellsOk w K q.1 q.2 := fun i h => by
     obtain ⟨cs', h1, h2⟩ := hi i (by omega)
     obtain ⟨ds, h3⟩ := hq n cs' _ h2 (weightsAll_get hw2 i (D i) (by rw [List.getElem?_map, List.getElem?_range h]; rfl))
     exact ⟨(cs', ds), h1, h3⟩
   obtain ⟨f, hf⟩ := choose_lt hch
   let l : List Value := (List.range (len * K.wd)).map fun k => (f (k / K.wd)).2.getD (k % K.wd) Go.undef
   have hll : l.length = len * K.wd := by simp [l]
   have hin : ∀ i j, i < len → j < K.wd → i * K.wd + j < len * K.wd := fun i j h1 h2 => by
     have := Nat.mul_le_mul_right K.wd (show i + 1 ≤ len from h1)
     rw [Nat.succ_mul] at this
     omega
   have hlat : ∀ i j, i < len → j < K.wd → l.getD (i * K.wd + j) Go.undef = (f i).2.getD j Go.undef := fun i j h1 h2 => by
     have hk := hin i j h1 h2
     have e1 : (i * K.wd + j) / K.wd = i := by rw [Nat.mul_comm, Nat.mul_add_div hpos, Nat.div_eq_of_lt h2, Nat.add_zero]
     have e2 : (i * K.wd + j) % K.wd = j := by rw [Nat.mul_comm, Nat.mul_add_mod]; exact Nat.mod_eq_of_lt h2
     rw [List.getD_eq_getElem?_getD, List.getElem?_map, List.getElem?_range hk]
     simp [e1, e2]
   have hspot : 0 < len → a.spot = none := fun h0 => by
     obtain ⟨hh, _⟩ := hf 0 h0
     obtain ⟨_, hcl, hat⟩ := World.cells?_some hh
     have h1 := hat 0 (by omega)
     have h2 : (f 0).1[0]? = some ((f 0).1[0]'(by rw [hcl, hC]; omega)) := List.getElem?_eq_getElem _
     rw [h2] at h1
     have h3 : (a.add (0 * P.cellsOf e)).add 0 = a := by simp [Addr.add]
     rw [h3] at h1
     obtain ⟨b, o, sp⟩ := a
     cases sp with
     | none => rfl
     | some x =>
       exfalso
       unfold World.cell? at h1
       simp at h1
       split at h1 <;> simp at h1
   have hr : Sy.rows (.tuple l.toArray) = l := rfl
   refine ⟨[.tuple l.toArray], rfl, rfl, fun j0 a0 ha0 => ?_⟩
   match j0, ha0 with
   | 0, ha0 =>
     obtain rfl := Option.some.inj ha0
     refine ⟨⟨some a, len, cap, rfl, by show _ = Value.tuple (Sy.rows (.tuple l.toArray)).toArray; rw [hr]; rfl, by show (Sy.rows (.tuple l.toArray)).length = _; rw [hr]; exact hll, hl, hsmall, (fun h => by cases h), fun i hi' => ?_⟩, (by show (Sy.rows (.tuple l.toArray)).length / K.wd * byK K ≤ reachBytes; rw [hr, hll, Nat.mul_div_cancel _ hpos]; exact Nat.le_trans (Nat.mul_le_mul_left _ hby) hlen2), fun i hi' => fineR_of _ _ _ fun j b hb' => ?_⟩
     · obtain ⟨g1, g2⟩ := hf i hi'
       obtain ⟨_, hcl, hat⟩ := World.cells?_some g1
       have hsp := hspot (by omega)
       have hcell : ∀ j, j < K.wd → w.cell? ⟨a.block, a.off + i * K.wd + j, none⟩ = some ((f i).1.getD j Go.undef) := fun j hj => by
         have h1 := hat j (by omega)
         have hv : (f i).1[j]? = some ((f i).1[j]'(by rw [hcl, hC]; exact hj)) := List.getElem?_eq_getElem _
         rw [hv, Go.Deep.add_add] at h1
         have h2 := add_cell h1
         have e0 : i * P.cellsOf e = i * K.wd := by rw [hC]
         rw [e0, ← Nat.add_assoc] at h2
         rw [List.getD_eq_getElem?_getD, hv]
         exact h2
       refine ⟨a.block, a.off, ?_, ?_, deepR_of _ _ _ _ _ fun j b hb' => ?_⟩
       · obtain ⟨b, o, sp⟩ := a
         simp only at hsp
         subst hsp
         rfl
       · exact World.block_lt_of_cell? w ⟨a.block, a.off + i * K.wd + 0, none⟩ (hcell 0 hpos)
       · have hj := K.get_wd _ _ hb'
         refine ⟨_, trivial, hcell j hj, ?_⟩
         show deepC _ w b _ ((Sy.rows (.tuple l.toArray)).getD _ _)
         rw [hr, hlat i j hi' hj]
         exact (g2.at_ j b hb').1
     · have hi2 : i < len := by
         change i < (Sy.rows (.tuple l.toArray)).length / K.wd at hi'
         rw [hr, hll, Nat.mul_div_cancel _ hpos] at hi'
         exact hi'
       have hj := K.get_wd _ _ hb'
       show fineC b ((Sy.rows (.tuple l.toArray)).getD _ _)
       rw [hr, hlat i j hi2 hj]
       exact ((hf i hi2).2.at_ j b hb').2
theorem lay_open : ∀ (d : Nat) (t : TypeId) (K : SK), layK P d t = some K → OpensAt enc P w base spare held t K
 | 0, _, _, h => by cases h
 | d + 1, t, K, h => by
   unfold layK at h
   split at h
   · rename_i k hu
     obtain rfl := Option.some.inj h
     intro fuel cs x hx _
     obtain ⟨n, rfl, _, hw⟩ := Go.DataW.trod_int hu hx
     exact ⟨[.int k n], rfl, rfl, fun j a ha => by match j, ha with | 0, ha => obtain rfl := Option.some.inj ha; exact ⟨⟨rfl, rfl⟩, hw⟩⟩
   · rename_i hu
     obtain rfl := Option.some.inj h
     intro fuel cs x hx _
     obtain ⟨b, rfl, _⟩ := Go.DataW.trod_bool hu hx
     exact ⟨[.bool b], rfl, rfl, fun j a ha => by match j, ha with | 0, ha => obtain rfl := Option.some.inj ha; exact ⟨⟨rfl, rfl⟩, trivial⟩⟩
   · rename_i hu
     obtain rfl := Option.some.inj h
     intro fuel cs x hx hlw
     obtain ⟨s, rfl, hxe, _⟩ := Go.DataW.trod_string hu hx
     refine ⟨[.string s], rfl, rfl, fun j a ha => by
       match j, ha with
       | 0, ha =>
         obtain rfl := Option.some.inj ha
         refine ⟨⟨rfl, rfl⟩, ?_⟩
         rw [hxe] at hlw
         have : LightW P t (DataW.lit (H := H) (.string s.data.toList)) := hlw
         unfold LightW DataW.weights at this
         simp only [List.all_cons, List.all_nil, Bool.and_true, decide_eq_true_eq, Array.length_toList] at this
         exact this⟩
   · rename_i e hu
     split at h
     · rename_i r hr
       split at h
       · rename_i hc
         obtain rfl := Option.some.inj h
         exact layS_open hu hc.2.1 hc.1 hc.2.2.1 hc.2.2.2 (lay_open d e r hr)
       · cases h
     · cases h
   · rename_i fs hu
     split at h
     · rename_i K' hK
       split at h
       · rename_i hc
         obtain rfl := Option.some.inj h
         intro fuel cs x hx hlw
         obtain ⟨xs, n, _, rfl, hl, hlen, hf⟩ := Go.DataW.trod_struct hu hx
         have hw : LightW P t (DataW.agg (xs.map (·.1))) := hlw
         unfold LightW DataW.weights at hw
         rw [hu] at hw
         obtain ⟨ds, hds⟩ := layF_open (fun t K hK => lay_open d t K hK) fs.toList 0 K' xs n cs hK (by simpa using hlen) (fun i f hf' => hf i f (by rw [← Array.getElem?_toList]; exact hf')) hw (by rw [hl, hc, Nat.zero_add])
         exact ⟨ds, hds⟩
       · cases h
     · cases h
   · rename_i n e hu
     split at h
     · rename_i r hr
       split at h
       · rename_i hc
         obtain rfl := Option.some.inj h
         intro fuel cs x hx hlw
         obtain ⟨xs, m, _, rfl, hl, hlen, hf⟩ := Go.DataW.trod_array hu hx
         have hw : LightW P t (DataW.agg (xs.map (·.1))) := hlw
         unfold LightW DataW.weights at hw
         rw [hu] at hw
         obtain ⟨ds, hds⟩ := layA_open (lay_open d e r hr) hc.1 n 0 xs m cs hlen (fun i hi => by have := hf i hi; rw [hc.1] at this; rw [Nat.zero_add]; exact this) hw (by rw [hl, hc.2, Nat.zero_add])
         rw [Nat.zero_mul, List.drop_zero] at hds
         exact ⟨ds, hds⟩
       · cases h
     · cases h
   · cases h
theorem light_of {ts : List TypeId} {ds : List (DataW H)} (h : (DataW.weightsEach P ts ds).all (· ≤ reachBytes) = true) {j : Nat} {t : TypeId} {d : DataW H} (ht : ts[j]? = some t) (hd : ds[j]? = some d) : LightW P t d :=
 List.all_eq_true.2 fun n hn => List.all_eq_true.1 h n (DataW.weights_mem_each ht hd n hn)
theorem cell_int {k : IntKind} {v c : Value} (h : deepC (fun _ _ => True) w (.int k) v c ∧ fineC (.int k) c) : ∃ n, v = .int k n ∧ c = .int k n ∧ (Lit.int k n).wf = true := by
 obtain ⟨⟨h1, h2⟩, h3⟩ := h
 exact ⟨_, h1.trans h2, h2, h3⟩
theorem cell_bool {v c : Value} (h : deepC (fun _ _ => True) w .bool v c ∧ fineC .bool c) : ∃ b, v = .bool b ∧ c = .bool b := by
 obtain ⟨⟨h1, h2⟩, _⟩ := h
 exact ⟨_, h1.trans h2, h2⟩
theorem cell_str {v c : Value} (h : deepC (fun _ _ => True) w .str v c ∧ fineC .str c) : ∃ s, v = .string s ∧ c = .string s ∧ s.size ≤ reachBytes := by
 obtain ⟨⟨h1, h2⟩, h3⟩ := h
 exact ⟨_, h1.trans h2, h2, h3⟩
end
end Go.Proofs.YtikfgnmljpjnbaaDoor
