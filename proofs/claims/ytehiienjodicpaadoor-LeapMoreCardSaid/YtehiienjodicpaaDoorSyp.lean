/-
  From the second engine to the first: a slice as what it holds, as a slice that lies somewhere.
-/
import Derived.Test.YtehiienjodicpaaDoorSyo
namespace Go.Proofs.YtehiienjodicpaaDoor
open Go Go.RowKit Go.Proofs.YtehiienjodicpaaDoor.Sy
set_option linter.unusedVariables false
def ckOf : SK → List Sx.CK
  | .cons (.int k) r => .int k :: ckOf r
  | .cons .bool r => .bool :: ckOf r
  | .cons .str r => .str :: ckOf r
  | _ => []
theorem ck_get : ∀ (K : SK), (ckOf K).length = K.wd → ∀ (j : Nat) k, (ckOf K)[j]? = some k → ∃ a, K.get j = some a ∧ ∀ (ok : Nat → Nat → Prop) (w : World) v c, deepC ok w a v c → v = c ∧ k.fits c
  | .cons (.int q) r, h, 0, k, hk => by
    obtain rfl := Option.some.inj hk
    exact ⟨_, rfl, fun ok w v c hd => ⟨hd.1, hd.2⟩⟩
  | .cons .bool r, h, 0, k, hk => by
    obtain rfl := Option.some.inj hk
    exact ⟨_, rfl, fun ok w v c hd => ⟨hd.1, hd.2⟩⟩
  | .cons .str r, h, 0, k, hk => by
    obtain rfl := Option.some.inj hk
    exact ⟨_, rfl, fun ok w v c hd => ⟨hd.1, hd.2⟩⟩
  | .cons (.int q) r, h, j + 1, k, hk => ck_get r (by simpa [ckOf, SK.wd] using h) j k hk
  | .cons .bool r, h, j + 1, k, hk => ck_get r (by simpa [ckOf, SK.wd] using h) j k hk
  | .cons .str r, h, j + 1, k, hk => ck_get r (by simpa [ckOf, SK.wd] using h) j k hk
  | .cons (.sl _) r, h, _, k, hk => by simp [ckOf] at hk
  | .cons .nil r, h, _, k, hk => by simp [ckOf] at hk
  | .cons (.cons _ _) r, h, _, k, hk => by simp [ckOf] at hk
  | .int _, _, _, k, hk => by simp [ckOf] at hk
  | .bool, _, _, k, hk => by simp [ckOf] at hk
  | .str, _, _, k, hk => by simp [ckOf] at hk
  | .sl _, _, _, k, hk => by simp [ckOf] at hk
  | .nil, _, _, k, hk => by simp [ckOf] at hk
theorem slc_of {ok : Nat → Nat → Prop} {w : World} {K : SK} {v c : Value} (h : deepC ok w (.sl K) v c) (hk : (ckOf K).length = K.wd) (h0 : 0 < K.wd) :
    ∃ s : Sx.Slc, v = s.val ∧ Sx.SlOk w s (ckOf K) ∧ s.all = c ∧ s.esz = K.wd ∧ s.len = (Sy.rows c).length / K.wd ∧ ∀ i j, s.cont i j = (Sy.rows c).getD (i * K.wd + j) Go.undef := by
  obtain ⟨p, n, cap, rfl, h2, h3, h4, h4', h5, h6⟩ := h
  have hn : n = (Sy.rows c).length / K.wd := by rw [h3, Nat.mul_div_cancel _ h0]
  have hall : ∀ s : Sx.Slc, s.len = n → s.esz = K.wd → (∀ i j, s.cont i j = (Sy.rows c).getD (i * K.wd + j) Go.undef) → s.all = c := fun s e1 e2 e3 => by
    rw [h2]
    unfold Sx.Slc.all Sx.Slc.cells
    rw [e1, e2]
    have : (fun i => (List.range K.wd).map fun j => s.cont i j) = fun i => (List.range K.wd).map fun j => (Sy.rows c).getD (i * K.wd + j) Go.undef := by
      funext i
      exact List.map_congr_left fun j _ => e3 i j
    rw [this, Sx.chunks (fun k => (Sy.rows c).getD k Go.undef) K.wd n, ← h3]
    have h7 := Sx.map_getD (fun x => x) (Sy.rows c) Go.undef
    simp only [List.map_id'] at h7
    rw [h7]
  cases p with
  | none =>
    have hc := h5 rfl
    obtain rfl : cap = 0 := hc
    obtain rfl : n = 0 := by omega
    exact ⟨⟨0, 0, true, 0, 0, K.wd, fun i j => (Sy.rows c).getD (i * K.wd + j) Go.undef, ⟨0, 0, none⟩⟩, rfl, ⟨hk, fun i hi => absurd hi (Nat.not_lt_zero i)⟩, hall _ rfl rfl fun _ _ => rfl, rfl, hn, fun _ _ => rfl⟩
  | some a =>
    refine ⟨⟨a.block, a.off, false, n, cap, K.wd, fun i j => (Sy.rows c).getD (i * K.wd + j) Go.undef, a⟩, ?_, ⟨hk, fun i hi => ⟨rfl, fun j k hkj => ?_⟩⟩, hall _ rfl rfl fun _ _ => rfl, rfl, hn, fun _ _ => rfl⟩
    · by_cases hz : n = 0
      · simp [Sx.Slc.val, hz]
      · obtain ⟨b, off, e, _, _⟩ := h6 0 (by omega)
        obtain rfl := Option.some.inj e
        simp [Sx.Slc.val, hz]
    · obtain ⟨b, off, e, hb, hd⟩ := h6 i hi
      obtain rfl := Option.some.inj e
      obtain ⟨a', ha, hf⟩ := ck_get K hk j k hkj
      obtain ⟨u, _, hu, hdu⟩ := deepR_get K _ _ _ _ j a' hd ha
      obtain ⟨rfl, hfit⟩ := hf _ _ _ _ hdu
      exact ⟨hb, hu, hfit⟩
/-- a contract whose result is flat, from a theorem over what is related to its pattern -/
theorem good_rel {P : Program} {G : Glob} {ρ : Env} {c : Con} (hr : flat c.res = true) (he : c.eat = none)
    (h : AllN c.n.i fun iv => AllN c.n.b fun bv => AllN c.n.v fun vv => AllN c.n.s fun sv => holds { ρ with iv := iv, bv := bv, vv := vv, sv := sv } c.cnd → ∀ (β : Nat → Nat) (ok : Nat → Nat → Prop) (w : World) (xs : List Value), RelT ⟨{ ρ with iv := iv, bv := bv, vv := vv, sv := sv }, β, fun _ => none, ok, w⟩ c.pat xs →
      Calls P c.f xs.toArray w fun e w' => e = .returned (denV { ρ with iv := iv, bv := bv, vv := vv, sv := sv } β c.res) ∧ Below w.heap.size w w') : c.Good P G ρ := by
  intro iv bv vv sv β ok w xs n1 n2 n3 n4 hcnd hok hG hx _
  refine (((((h.all iv n1).all bv n2).all vv n3).all sv n4) hcnd β ok w xs hx).mono ?_
  rintro e w' ⟨rfl, hb⟩
  have hnf : ∀ t, flat t = true → hasNew t = false := by
    intro t
    induction t with
    | hs _ _ _ _ => intro h; cases h
    | agg l ih => intro h; exact ih h
    | tup l ih => intro h; exact ih h
    | cons a b iha ihb => intro h; simp only [flat, Bool.and_eq_true] at h; simp [hasNew, iha h.1, ihb h.2]
    | _ => intro _; rfl
  have hex : c.ex xs = none := by unfold Con.ex; rw [he]
  refine ⟨_, fun _ => none, ok, rfl, ⟨⟨hb.os, hb.tape, hb.output, hb.size, fun k hk _ => hb.block k hk⟩, ⟨hb.size, fun b off hbl ho => ⟨ho, hb.cell (p := ⟨b, off, none⟩) hbl⟩⟩, fun b off h => .inl h, fun n T hT => by cases hT⟩, ?_, fun hn => by rw [hnf _ hr] at hn; cases hn⟩
  rw [relab_flat 0 _ hr]
  exact Rel.of hr
end Go.Proofs.YtehiienjodicpaaDoor
