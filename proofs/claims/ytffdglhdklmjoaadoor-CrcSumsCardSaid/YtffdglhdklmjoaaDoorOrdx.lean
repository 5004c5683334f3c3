/-
  A region that draws its order, walked once in the order of its text, though its operations make memory that later ones read: chosen slots (spec) hold whatever value of a class Al, of which V is told and stays told under R; all other slots hold one value in every world of the class S.
-/
import Derived.OrdersHeld
import Derived.Deep.RegionHeld3
namespace Go.Proofs.YtffdglhdklmjoaaDoor
open Go
section
variable {P : Program} {ops : Array Oper} {Q : Exit → Act → World → Prop} {md : Region.Mode} {S : World → Prop} {R : World → World → Prop} {V : Tmp → Value → World → Prop} {Al : Nat → Value → Prop}
def slotOf (a : Act) (d : Tmp) : Value := a.tmps.getD d undef
/-- how an operation's run may end -/
def EndsX (P : Program) (S : World → Prop) (R : World → World → Prop) (V : Tmp → Value → World → Prop) (w : World) (dst : Option Tmp) (A : Value → Prop) (r : Result Next) : Prop :=
  (∃ v w', r = .ok (.value v) w' ∧ A v ∧ R w w' ∧ S w' ∧ ∀ d, dst = some d → V d v w') ∨
  (∃ f args w1, r = .ok (.enter f args) w1 ∧ Calls P f args w1 fun e w' => ∃ v, e = .returned v ∧ A v ∧ R w w' ∧ S w' ∧ ∀ d, dst = some d → V d v w')
def StepX (P : Program) (ops : Array Oper) (S : World → Prop) (R : World → World → Prop) (V : Tmp → Value → World → Prop) (o : Oper) (A : Value → Prop) (a : Act) : Prop :=
  (Region.wanted o (yielded ops a.tmps) = true ∧ ∀ w, S w → (∀ d, d ∈ o.looksAt ops → V d (slotOf a d) w) → EndsX P S R V w o.dst A ((execOp a.eval o).run P w)) ∨
  (Region.wanted o (yielded ops a.tmps) = false ∧ A undef ∧ ∀ d, o.dst = some d → ∀ w, V d undef w)
theorem slotOf_put (a : Act) (x : Option Tmp) (v : Value) (d : Tmp) (h : x ≠ some d) : slotOf (a.put x v) d = slotOf a d := by
  cases x with
  | none => rfl
  | some e =>
    have hne : e ≠ d := fun he => h (he ▸ rfl)
    simp [slotOf, Act.put, Array.getElem?_setIfInBounds_ne hne]
theorem slotOf_put_same (a : Act) (v : Value) (d : Tmp) (h : d < a.tmps.size) : slotOf (a.put (some d) v) d = v := by
  simp [slotOf, Act.put, h]
theorem size_put (a : Act) (x : Option Tmp) (v : Value) : (a.put x v).tmps.size = a.tmps.size := by
  cases x <;> simp [Act.put]
theorem StepX.of_same {o : Oper} {A : Value → Prop} {a a' : Act} (hy : StepX P ops S R V o A a) (he : execOp a'.eval o = execOp a.eval o)
    (hw : Region.wanted o (yielded ops a'.tmps) = Region.wanted o (yielded ops a.tmps)) (hs : ∀ d, d ∈ o.looksAt ops → slotOf a' d = slotOf a d) : StepX P ops S R V o A a' := by
  unfold StepX at *
  rw [he, hw]
  rcases hy with ⟨h1, h2⟩ | h
  · exact .inl ⟨h1, fun w hS hv => h2 w hS fun d hd => by rw [← hs d hd]; exact hv d hd⟩
  · exact .inr h
def FinX (ops : Array Oper) (Q : Exit → Act → World → Prop) (S : World → Prop) (V : Tmp → Value → World → Prop) (listed : Array Bool) (a : Act) : Prop :=
  ∀ w, S w → (∀ i o d, ops[i]? = some o → listed.getD i false = true → o.dst = some d → V d (slotOf a d) w) → Q .normal a w
/-- Whatever order is picked from here on. -/
def anyX (P : Program) (md : Region.Mode) (ops : Array Oper) (Q : Exit → Act → World → Prop) (S : World → Prop) (R : World → World → Prop) (V : Tmp → Value → World → Prop) (Al : Nat → Value → Prop) : Nat → Array Bool → Act → Prop
  | 0, listed, a => Region.ready md ops listed = [] ∧ FinX ops Q S V listed a
  | fuel + 1, listed, a => (Region.ready md ops listed = [] → FinX ops Q S V listed a) ∧
    ∀ i ∈ Region.ready md ops listed, ∃ o, ops[i]? = some o ∧ (∃ v, Al i v) ∧ StepX P ops S R V o (Al i) a ∧ ∀ v, Al i v → anyX P md ops Q S R V Al fuel (listed.setIfInBounds i true) (a.put o.dst v)
/-- whoever reads a chosen slot stands behind who writes it -/
def needsX (md : Region.Mode) (ops : Array Oper) (spec : List Tmp) : Bool :=
  ops.toList.all fun oj => (oj.looksAt ops).all fun d => !spec.contains d || oj.after.toList.any fun e => Region.binds md e && ((ops[e.on]?).bind (·.dst) == some d)
def InvX (ops : Array Oper) (S : World → Prop) (V : Tmp → Value → World → Prop) (listed : Array Bool) (a : Act) (w : World) : Prop :=
  S w ∧ ∀ i o d, ops[i]? = some o → listed.getD i false = true → o.dst = some d → V d (slotOf a d) w
theorem InvX.put {spec : List Tmp} {N i : Nat} {o : Oper} {v : Value} {listed : Array Bool} {a : Act} {w w' : World} (hV : ∀ d v w w', R w w' → V d v w → V d v w')
    (hspec : ∀ d, d ∉ spec → ∀ v w, V d v w) (hN : ∀ d, d ∈ spec → d < N) (hi : ops[i]? = some o) (h : InvX ops S V listed a w) (ha : a.tmps.size = N) (hR : R w w') (hS : S w')
    (hv : ∀ d, o.dst = some d → V d v w') : InvX ops S V (listed.setIfInBounds i true) (a.put o.dst v) w' := by
  refine ⟨hS, fun k ok d hk hl hd => ?_⟩
  by_cases hsd : d ∈ spec
  · by_cases ho : o.dst = some d
    · have hval := hv d ho
      rw [ho]
      rw [slotOf_put_same a v d (by rw [ha]; exact hN d hsd)]
      exact hval
    · rw [slotOf_put a o.dst v d ho]
      have hne : k ≠ i := fun e => by subst e; rw [hi] at hk; obtain rfl := Option.some.inj hk; exact ho hd
      have hl' : listed.getD k false = true := by
        simpa [Array.getElem?_setIfInBounds_ne (Ne.symm hne)] using hl
      exact hV d _ w w' hR (h.2 k ok d hk hl' hd)
  · exact hspec d hsd _ _
theorem anyX_any {spec : List Tmp} {N : Nat} (hV : ∀ d v w w', R w w' → V d v w → V d v w') (hrefl : ∀ w, R w w) (hspec : ∀ d, d ∉ spec → ∀ v w, V d v w) (hN : ∀ d, d ∈ spec → d < N) (hneeds : needsX md ops spec = true) :
    ∀ (fuel : Nat) (listed : Array Bool) (a : Act), anyX P md ops Q S R V Al fuel listed a → ∀ w, InvX ops S V listed a w → a.tmps.size = N → wpAny P md ops Q fuel listed a w
  | 0, _, _, h, w, hI, _ => ⟨h.1, h.2 w hI.1 hI.2⟩
  | fuel + 1, listed, a, h, w, hI, ha => ⟨fun h0 => h.1 h0 w hI.1 hI.2, fun i hi => by
      obtain ⟨o, ho, _, hy, hn⟩ := h.2 i hi
      have hlook : ∀ d, d ∈ o.looksAt ops → V d (slotOf a d) w := fun d hd => by
        by_cases hsd : d ∈ spec
        · have hmem : o ∈ ops.toList := by
            obtain ⟨hlt, he⟩ := Array.getElem?_eq_some_iff.1 ho
            rw [← he]; simp
          have h1 := List.all_eq_true.1 hneeds o hmem
          have h2 := List.all_eq_true.1 h1 d hd
          have hc : spec.contains d = true := by simpa using hsd
          rw [hc] at h2
          simp only [Bool.not_true, Bool.false_or] at h2
          obtain ⟨e, hemem, he2⟩ := List.any_eq_true.1 h2
          rw [Bool.and_eq_true] at he2
          obtain ⟨hb, hw⟩ := he2
          obtain ⟨_, o', ho', hall⟩ := mem_ready.1 hi
          rw [ho] at ho'
          obtain rfl := Option.some.inj ho'
          have hl := hall e (by simpa using hemem) hb
          cases hoi : ops[e.on]? with
          | none => rw [hoi] at hw; simp at hw
          | some oi =>
            rw [hoi] at hw
            have hdst : oi.dst = some d := by simpa using hw
            exact hI.2 e.on oi d hoi hl hdst
        · exact hspec d hsd _ _
      unfold Go.wpOp
      simp only [ho]
      rcases hy with ⟨hw, hv⟩ | ⟨hw, hA, hd⟩
      · rw [if_pos hw]
        rcases hv w hI.1 hlook with ⟨v, w', hr, hA, hR, hS', hval⟩ | ⟨f, args, w1, hr, hc⟩
        · refine Or.inl ?_
          simp only [Oper.wp, hr, Oper.upon]
          exact anyX_any hV hrefl hspec hN hneeds fuel _ _ (hn v hA) w' (hI.put hV hspec hN ho ha hR hS' hval) (by rw [size_put]; exact ha)
        · refine Or.inl ?_
          simp only [Oper.wp, hr, Oper.upon]
          refine Calls.mono hc fun e w'' he => ?_
          obtain ⟨v, rfl, hA, hR, hS', hval⟩ := he
          exact anyX_any hV hrefl hspec hN hneeds fuel _ _ (hn v hA) w'' (hI.put hV hspec hN ho ha hR hS' hval) (by rw [size_put]; exact ha)
      · rw [if_neg (by rw [hw]; decide)]
        exact anyX_any hV hrefl hspec hN hneeds fuel _ _ (hn undef hA) w (hI.put hV hspec hN ho ha (hrefl w) hI.1 (fun d h => hd d h w)) (by rw [size_put]; exact ha)⟩
theorem anyX_first {i : Nat} {oi : Oper} (hi : ops[i]? = some oi) (hsel : ∀ (j : Nat) (o : Oper) cs b, ops[j]? = some o → o.op ≠ .select cs b) (hne : ∃ v, Al i v) :
    ∀ (fuel : Nat) (listed : Array Bool) (a : Act),
      (∀ j oj, ops[j]? = some oj → j ≠ i → listed.getD j true = false → (∀ e ∈ oj.after, Region.binds md e = true → e.on ≠ i) → oi.apart ops oj = true) →
      i ∈ Region.ready md ops listed → StepX P ops S R V oi (Al i) a →
      (∀ v, Al i v → anyX P md ops Q S R V Al fuel (listed.setIfInBounds i true) (a.put oi.dst v)) → anyX P md ops Q S R V Al (fuel + 1) listed a := by
  obtain ⟨v0, hv0⟩ := hne
  intro fuel
  induction fuel with
  | zero =>
    intro listed a _ hr hy H
    refine ⟨fun h => (by rw [h] at hr; cases hr), fun j hj => ?_⟩
    by_cases hji : j = i
    · subst hji; exact ⟨oi, hi, ⟨v0, hv0⟩, hy, H⟩
    · have := ready_mono hj hji
      rw [(H v0 hv0).1] at this
      cases this
  | succ fuel ih =>
    intro listed a hfree hr hy H
    refine ⟨fun h => (by rw [h] at hr; cases hr), fun j hj => ?_⟩
    by_cases hji : j = i
    · subst hji; exact ⟨oi, hi, ⟨v0, hv0⟩, hy, H⟩
    · obtain ⟨oj, hoj, hnej, hyj, _⟩ := (H v0 hv0).2 j (ready_mono hj hji)
      obtain ⟨hjun, oj', hoj', hall⟩ := mem_ready.1 hj
      rw [hoj] at hoj'
      obtain rfl := Option.some.inj hoj'
      have hnot : ∀ e ∈ oj.after, Region.binds md e = true → e.on ≠ i := fun e he hb heq => by
        have h1 := hall e he hb
        have h0 := (mem_ready.1 hr).1
        rw [heq] at h1
        rcases Nat.lt_or_ge i listed.size with h' | h'
        · simp [h'] at h0 h1; rw [h0] at h1; cases h1
        · simp [Array.getElem?_eq_none h'] at h1
      have hap := hfree j oj hoj hji hjun hnot
      obtain ⟨h1, h2, h3⟩ := Oper.apart_spec hap
      have hsi : ∀ cs b, oi.op ≠ .select cs b := fun cs b => hsel i oi cs b hi
      have hsj : ∀ cs b, oj.op ≠ .select cs b := fun cs b => hsel j oj cs b hoj
      have hyj' : StepX P ops S R V oj (Al j) a := hyj.of_same (execOp_put oj hsj a oi.dst v0 h1).symm (wanted_put oj a oi.dst v0 h1).symm
        (fun d hd => (slotOf_put a oi.dst v0 d (fun e => h1 d e hd)).symm)
      refine ⟨oj, hoj, hnej, hyj', fun u hu => ?_⟩
      have hyi' : StepX P ops S R V oi (Al i) (a.put oj.dst u) := hy.of_same (execOp_put oi hsi a oj.dst u h3) (wanted_put oi a oj.dst u h3)
        (fun d hd => slotOf_put a oj.dst u d (fun e => h3 d e hd))
      refine ih _ _ ?_ (ready_mono hr (Ne.symm hji)) hyi' ?_
      · intro k ok hk hki hun hno
        refine hfree k ok hk hki ?_ hno
        by_cases hjk : j = k
        · subst hjk; exact hjun
        · rw [getD_set_ne true hjk] at hun; exact hun
      · intro v hv
        obtain ⟨oj2, hoj2, _, _, hn⟩ := (H v hv).2 j (ready_mono hj hji)
        rw [hoj] at hoj2
        obtain rfl := Option.some.inj hoj2
        have := hn u hu
        rw [Array.setIfInBounds_comm _ _ hji]
        rw [Act.put_comm a v u h2] at this
        exact this
/-- The move of a walk: number i is taken first; its value is one -/
theorem anyX_take {i : Nat} {oi : Oper} {v : Value} {fuel : Nat} {listed : Array Bool} {a : Act} (hi : ops[i]? = some oi)
    (hs : Region.noSelect ops = true) (hf : Region.free md ops listed i = true) (hr : (Region.ready md ops listed).contains i = true) (hal : Al i = fun x => x = v) (hy : StepX P ops S R V oi (fun x => x = v) a)
    (h : anyX P md ops Q S R V Al fuel (listed.setIfInBounds i true) (a.put oi.dst v)) : anyX P md ops Q S R V Al (fuel + 1) listed a :=
  anyX_first hi (Region.noSelect_spec hs) ⟨v, by rw [hal]⟩ fuel listed a (Region.free_spec hi hf) (by simpa using hr) (by rw [hal]; exact hy) (fun x hx => by rw [hal] at hx; subst hx; exact h)
/-- its value is any of a class -/
theorem anyX_some {i : Nat} {oi : Oper} {A : Value → Prop} {fuel : Nat} {listed : Array Bool} {a : Act} (hi : ops[i]? = some oi)
    (hs : Region.noSelect ops = true) (hf : Region.free md ops listed i = true) (hr : (Region.ready md ops listed).contains i = true) (hal : Al i = A) (hne : ∃ v, A v) (hy : StepX P ops S R V oi A a)
    (h : ∀ v, A v → anyX P md ops Q S R V Al fuel (listed.setIfInBounds i true) (a.put oi.dst v)) : anyX P md ops Q S R V Al (fuel + 1) listed a :=
  anyX_first hi (Region.noSelect_spec hs) (by rw [hal]; exact hne) fuel listed a (Region.free_spec hi hf) (by simpa using hr) (by rw [hal]; exact hy) (fun x hx => by rw [hal] at hx; exact h x hx)
theorem anyX_done {listed : Array Bool} {a : Act} (hr : Region.ready md ops listed = []) (h : FinX ops Q S V listed a) : ∀ fuel, anyX P md ops Q S R V Al fuel listed a
  | 0 => ⟨hr, h⟩
  | _ + 1 => ⟨fun _ => h, by rw [hr]; simp⟩
theorem wp_region_X {id : Nat} {a : Act} {w : World} {spec : List Tmp} (hm : P.follows .mixedOrders = true) (hV : ∀ d v w w', R w w' → V d v w → V d v w') (hrefl : ∀ w, R w w)
    (hspec : ∀ d, d ∉ spec → ∀ v w, V d v w) (hN : spec.all (fun d => decide (d < a.tmps.size)) = true) (hneeds : needsX .any ops spec = true) (hS : S w.drew)
    (h : anyX P .any ops Q S R V Al ops.size (Array.replicate ops.size false) a) : (Code.region id ops true).wp P Q a w :=
  wp_region_any hm (anyX_any (N := a.tmps.size) hV hrefl hspec (fun d hd => by simpa using List.all_eq_true.1 hN d hd) hneeds _ _ _ h _
    ⟨hS, fun i o d _ hl _ => by
      exfalso
      rcases Nat.lt_or_ge i ops.size with h' | h'
      · simp [h'] at hl
      · simp [h'] at hl⟩ rfl)
/-- what reads only -/
theorem StepX.read {o : Oper} {v : Value} {a : Act} (hrefl : ∀ w, R w w) (hw : Region.wanted o (yielded ops a.tmps) = true) (hd : ∀ d, o.dst = some d → ∀ v w, V d v w)
    (h : ∀ w, S w → (∀ d, d ∈ o.looksAt ops → V d (slotOf a d) w) → (execOp a.eval o).run P w = .ok (.value v) w) : StepX P ops S R V o (fun x => x = v) a :=
  .inl ⟨hw, fun w hS hv => .inl ⟨v, w, h w hS hv, rfl, hrefl w, hS, fun d e => hd d e v w⟩⟩
theorem StepX.none {o : Oper} {a : Act} (hw : Region.wanted o (yielded ops a.tmps) = false) (hd : ∀ d, o.dst = some d → ∀ v w, V d v w) : StepX P ops S R V o (fun x => x = undef) a := .inr ⟨hw, rfl, fun d e w => hd d e _ w⟩
/-- which value, or which class, by a table -/
def AlOf (l : List (Option Value)) (A : Nat → Value → Prop) (i : Nat) (v : Value) : Prop :=
  match l[i]? with
  | some (some x) => v = x
  | _ => A i v
end
end Go.Proofs.YtffdglhdklmjoaaDoor
