/-
 A reader of fields among the second engine's contracts: a new one, and whether it is done.
-/
import Derived.Test.YtikfgnmljpjnbaaDoorRdmpob
namespace Go.Proofs.YtikfgnmljpjnbaaDoor
open Go.RowKit Go.Extern.Stop Go.Stop Go.Extern
set_option linter.unusedVariables false
set_option linter.unusedSimpArgs false
theorem bV_byL : ∀ {l : List Value}, (∀ x, x ∈ l → ∃ n : Int, x = .int .u8 n ∧ 0 ≤ n ∧ n ≤ 255) → (byL l).map bV = l
 | [], _ => rfl
 | x :: r, h => by
   obtain ⟨n, rfl, h0, h1⟩ := h x (List.mem_cons_self ..)
   have ih := bV_byL (l := r) fun y hy => h y (List.mem_cons_of_mem _ hy)
   show bV (UInt8.ofNat n.toNat) :: (byL r).map bV = _
   rw [ih, bV_of h0 h1]
theorem con_bytes {ok : Nat → Nat → Prop} {w : World} {u c : Value} (h : Sy.deepC ok w (.sl KB) u c) (hk : ∀ x ∈ Sy.rows c, inK x) : .tuple ((byL (Sy.rows c)).map bV).toArray = c := by
 obtain ⟨p, n, cap, _, h2, h3, _, _, _, h6⟩ := h
 rw [bV_byL, ← h2]
 intro x hx
 obtain ⟨i, hi, rfl⟩ := List.mem_iff_getElem.1 hx
 have hn : (Sy.rows c).length = n := by rw [h3]; exact Nat.mul_one n
 obtain ⟨b, off, _, _, ⟨u, _, _, _, g4⟩, _⟩ := h6 i (by omega)
 have e1 : i * KB.wd = i := Nat.mul_one i
 rw [e1] at g4
 have hget : (Sy.rows c).getD i Go.undef = (Sy.rows c)[i] := by rw [List.getD_eq_getElem?_getD, List.getElem?_eq_getElem hi]; rfl
 rw [hget] at g4
 exact ⟨_, g4, bounds_u8 (hk _ (List.getElem_mem hi) _ _ g4)⟩
def NewG (w : World) (l : List UInt8) (e : Ending) (w' : World) : Prop := ∃ g A c, e = .returned (.pointer (some ⟨g, 0, none⟩)) ∧ RdgA w' g l false A c ∧ (∀ ad, A = some ad → w.heap.size ≤ ad.block ∧ ad.block < g) ∧ w.heap.size ≤ g ∧ Below w.heap.size w w'
set_option maxRecDepth 100000 in
set_option maxHeartbeats 1000000 in
theorem new_cG (A : Option Addr) (c : Nat) (l : List UInt8) (w : World) (hrd : Rd w A l) (hcz : A = none → c = 0) (hl : l.length ≤ 140737488355328) :
   Calls Tryd.prog 49 #[.slice A l.length c] w (NewG w l) := by
 obtain ⟨i0, hi, hz0, hz1, hz2⟩ := info_parts infoU8
 go_enter Tryd.func49, Tryd.ntmps49
 go_wp2_with (at_builtin; refine wpList_append_b rfl (.const (.slice none 0 0)) (.tmp 3) 22 rfl w.heap.size 5 i0 (.int .u8 0) Tryd.underlying22 hi hz0 hz1 hz2 rfl (.slice none 0 0) 0 [] rfl (World.ownsRow_nil _ _ _ _) A c l rfl hrd hcz (by omega) (Nat.le_refl _) ?_; intro v1 w1 hown1 hg1 hat1; simp only [Nat.zero_add, List.nil_append] at hown1; obtain ⟨A1, c1, rfl, hz3, hr3, _, hc3⟩ := own_shape hown1)
 go_ret
 have hb1 : Below w.heap.size w w1 := (Below.refl w.heap.size w).grown hg1 (Nat.le_refl _) (fun k hk => by cases hk)
 have hA1 : ∀ ad, A1 = some ad → w.heap.size ≤ ad.block ∧ ad.block < w1.heap.size := fun ad e => hown1.lt ad.block (by rw [e]; rfl)
 have h0 := heap_alloc_new w1 (.cells #[.slice A1 l.length c1, .bool false] 176)
 have q0 := (cell_of_row _ w1.heap.size 0 _ _ _ h0).trans (show (#[Value.slice A1 l.length c1, .bool false] : Array Value)[0]? = some (.slice A1 l.length c1) from rfl)
 have q1 := (cell_of_row _ w1.heap.size 1 _ _ _ h0).trans (show (#[Value.slice A1 l.length c1, .bool false] : Array Value)[1]? = some (.bool false) from rfl)
 exact ⟨w1.heap.size, A1, c1, rfl, ⟨q0, q1, row_freed h0 0, row_freed h0 1, by simp, hz3, hc3, hr3.below ((Below.refl _ _).alloc (Nat.le_refl _) _), fun _ ad e => Nat.ne_of_lt (hA1 ad e).2⟩, hA1, hb1.size, hb1.alloc hb1.size _⟩
theorem new_good {G : Sy.Glob} {ρ : Sy.Env} {cnd : Sy.Tm} (hcn : ∀ (c : Value), Sy.holds { ρ with iv := [], bv := [], vv := [c], sv := [] } cnd → ∀ x ∈ Sy.rows c, inK x) :
   Sy.ACon.Good Tryd.prog G ρ ⟨49, [.hs .no KB (.opq 0)], cnd, [.hs .no KB (.opq 0), .bool (.tt false)], ⟨0, 0, 1, 0⟩⟩ := by
 intro iv bv vv sv β ok w xs hi hbv hvv hsv hc hfr hG hrel
 obtain rfl := List.eq_nil_of_length_eq_zero hi
 obtain rfl := List.eq_nil_of_length_eq_zero hsv
 obtain rfl := List.eq_nil_of_length_eq_zero hbv
 obtain ⟨c, rfl⟩ := List.length_eq_one_iff.1 hvv
 match xs, hrel with
 | [u0], hrel =>
   obtain ⟨⟨hd, _⟩, _⟩ := hrel
   have hk := hcn c hc
   have hcb := con_bytes (c := c) hd hk
   obtain ⟨A, cap, rfl, hR, hA, hcap, hl, hQ⟩ := rd_of_deep (c := c) hd hk
   refine (new_cG A cap _ w hR hA hl).mono ?_
   rintro e w' ⟨g, A', c', rfl, hr, hq, hg, hb⟩
   refine ⟨g, fun p off => ok p off ∧ p ≠ g, [.slice A' (byL (Sy.rows c)).length c', .bool false], rfl, gb_below hb, ⟨hb.size, fun p off hp ho => ⟨⟨ho, by omega⟩, hb.cell (p := ⟨p, off, none⟩) hp⟩⟩, fun _ _ h => h.1, hg, hr.lt, fun off h => h.2 rfl, ⟨⟨?_, fun n e h => by cases h⟩, rfl, trivial⟩, ?_⟩
   · show Sy.deepC _ w' (.sl KB) _ c
     conv => rhs; rw [← hcb]
     exact deep_of_rd hr.rd hr.nil hr.len hl fun i hi ad e => ⟨hfr _ _ (hq ad e).1, Nat.ne_of_lt (hq ad e).2⟩
   · intro i v hv
     match i, hv with
     | 0, hv => obtain rfl := Option.some.inj hv; exact ⟨hr.c0, hr.f0⟩
     | 1, hv => obtain rfl := Option.some.inj hv; exact ⟨hr.c1, hr.f1⟩
def dnE (l : List UInt8) (sh : Bool) : Int := if sh = true ∨ 0 < l.length then 3 else 0
theorem done_cG (w : World) (g : Nat) (l : List UInt8) (sh : Bool) (h : Rdg w g l sh) (hl : l.length ≤ 140737488355328) :
   Calls Tryd.prog 94 #[.pointer (some ⟨g, 0, none⟩)] w fun e w' => e = .returned (Sy.errVal 101 (dnE l sh)) ∧ w = w' := by
 obtain ⟨A, c, h⟩ := h
 have hc0 := h.c0
 have hc1 := h.c1
 cases sh with
 | true =>
   have e : dnE l true = 3 := by unfold dnE; simp
   rw [e]
   go_enter Tryd.func94, Tryd.ntmps94
   go_wp2_with (fail)
   go_ret
   exact ⟨rfl, rfl⟩
 | false =>
   by_cases h0 : 0 < l.length
   · have e : dnE l false = 3 := by unfold dnE; simp [h0]
     rw [e]
     go_enter Tryd.func94, Tryd.ntmps94
     go_wp2_with (fail)
     go_ret
     exact ⟨rfl, rfl⟩
   · have e : dnE l false = 0 := by unfold dnE; rw [if_neg (fun hx => hx.elim (fun h => by cases h) h0)]
     rw [e]
     have hz : l.length = 0 := by omega
     rw [hz] at hc0
     go_enter Tryd.func94, Tryd.ntmps94
     go_wp2_with (fail)
     go_ret
     exact ⟨rfl, rfl⟩
theorem look_good {P : Program} {G : Sy.Glob} {ρ : Sy.Env} {f : FuncId} {cnd res : Sy.Tm} (V : List UInt8 → Bool → Value)
   (hf : ∀ (w : World) (g : Nat) (l : List UInt8) (sh : Bool), Rdg w g l sh → l.length ≤ 140737488355328 → Calls P f #[.pointer (some ⟨g, 0, none⟩)] w fun e w' => e = .returned (V l sh) ∧ w = w')
   (hcn : ∀ (c : Value) (sh : Bool), Sy.holds { ρ with iv := [], bv := [sh], vv := [c], sv := [] } cnd → ∀ x ∈ Sy.rows c, inK x)
   (hres : ∀ (c : Value) (sh : Bool) β o ok w, Sy.Rel ⟨{ ρ with iv := [], bv := [sh], vv := [c], sv := [] }, β, o, ok, w⟩ res (V (byL (Sy.rows c)) sh)) :
   Sy.MCon.Good P G ρ ⟨f, 0, [.hs .no KB (.opq 0), .bool (.bvar 0)], cnd, res, [.hs .no KB (.opq 0), .bool (.bvar 0)], ⟨0, 1, 1, 0⟩⟩ := by
 intro iv bv vv sv β ok w xs us b hi hbv hvv hsv hc hfr hG hlt hx hnok hlen hcells hrel
 obtain rfl := List.eq_nil_of_length_eq_zero hi
 obtain rfl := List.eq_nil_of_length_eq_zero hsv
 obtain ⟨sh, rfl⟩ := List.length_eq_one_iff.1 hbv
 obtain ⟨c, rfl⟩ := List.length_eq_one_iff.1 hvv
 match us, hlen with
 | [u0, u1], _ =>
   match xs, hx, hrel with
   | [x], hx, hrel =>
     obtain rfl := Option.some.inj hx
     have hrel2 := hrel
     obtain ⟨⟨hd, _⟩, hu, _⟩ := hrel
     have hk := hcn c sh hc
     obtain ⟨A, cap, rfl, hR, hA, hcap, hl, hQ⟩ := rd_of_deep (c := c) hd hk
     have hu1 : u1 = .bool sh := hu
     subst hu1
     obtain ⟨a0, f0⟩ := hcells 0 _ rfl
     obtain ⟨a1, f1⟩ := hcells 1 _ rfl
     have hB : Rdg w b (byL (Sy.rows c)) sh := ⟨A, cap, ⟨a0, a1, f0, f1, hlt, hA, hcap, hR, fun hn ad e eb => by
       have h0 := (hQ 0 (List.length_pos_iff.2 hn) ad e).2
       rw [eb] at h0
       exact hnok _ h0⟩⟩
     refine (hf w b _ sh hB hl).mono ?_
     rintro e w' ⟨rfl, rfl⟩
     exact ⟨_, ok, _, rfl, gb_below (Below.refl _ _), Sy.Kept.refl _ _, fun _ _ h => h, hres c sh _ _ _ _, hrel2, hcells⟩
   | [], hx, _ => cases hx
   | _ :: _ :: r, _, hrel =>
     have := hrel.length
     simp at this
end Go.Proofs.YtikfgnmljpjnbaaDoor
