/-
 A reader of fields among the second engine's contracts: bytes as they are told, and as they lie.
-/
import Derived.Test.YtikfgnmljpjnbaaDoorRdxpob
import Derived.Test.YtikfgnmljpjnbaaDoorSyopob
namespace Go.Proofs.YtikfgnmljpjnbaaDoor
open Go.RowKit Go.Extern.Stop Go.Stop Go.Extern
set_option linter.unusedVariables false
set_option linter.unusedSimpArgs false
abbrev KB : Sy.SK := .cons (.int .u8) .nil
def byL (l : List Value) : List UInt8 := l.map fun x => UInt8.ofNat (Go.RowKit.intOf x).toNat
theorem byL_len (l : List Value) : (byL l).length = l.length := List.length_map _
theorem bV_of {n : Int} (h0 : 0 ≤ n) (h1 : n ≤ 255) : bV (UInt8.ofNat n.toNat) = .int .u8 n := by
 show Value.int .u8 ((UInt8.ofNat n.toNat).toNat : Int) = _
 rw [UInt8.toNat_ofNat']
 congr 1
 omega
theorem byL_bV (l : List UInt8) : byL (l.map bV) = l := by
 unfold byL
 rw [List.map_map]
 refine (List.map_congr_left fun x _ => ?_).trans (List.map_id _)
 show UInt8.ofNat ((x.toNat : Int)).toNat = x
 rw [Int.toNat_natCast, UInt8.ofNat_toNat]
theorem addr_of_cell {w : World} {a : Addr} {v : Value} (h : w.cell? a = some v) : a = ⟨a.block, a.off, none⟩ := by
 obtain ⟨b, o, sp⟩ := a
 cases sp with
 | none => rfl
 | some x =>
   exfalso
   unfold World.cell? at h
   simp at h
   split at h <;> simp at h
theorem add_flat (b off i : Nat) : (⟨b, off, none⟩ : Addr).add i = ⟨b, off + i, none⟩ := by
 unfold Addr.add
 split
 · rename_i h; subst h; rfl
 · rfl
theorem rd_of_deep {ok : Nat → Nat → Prop} {w : World} {u c : Value} (h : Sy.deepC ok w (.sl KB) u c) (hk : ∀ x ∈ Sy.rows c, inK x) : ∃ A cap, u = .slice A (byL (Sy.rows c)).length cap ∧ Rd w A (byL (Sy.rows c)) ∧ (A = none → cap = 0) ∧ (byL (Sy.rows c)).length ≤ cap ∧ (byL (Sy.rows c)).length ≤ 140737488355328 ∧ ∀ i, i < (byL (Sy.rows c)).length → ∀ ad, A = some ad → ad.block < w.heap.size ∧ ok ad.block (ad.off + i) := by
 obtain ⟨p, n, cap, rfl, h2, h3, h4, h4', h5, h6⟩ := h
 have hn : (byL (Sy.rows c)).length = n := by rw [byL_len, h3]; exact Nat.mul_one n
 refine ⟨p, cap, by rw [hn], ⟨fun e => ?_, fun i hi => ?_⟩, h5, by rw [hn]; exact h4, by rw [hn]; exact h4', fun i hi ad e => ?_⟩
 · apply List.eq_nil_of_length_eq_zero
   rw [hn]
   rcases Nat.eq_zero_or_pos n with h0 | h0
   · exact h0
   · obtain ⟨b, off, e2, _⟩ := h6 0 h0
     rw [e] at e2
     cases e2
 · obtain ⟨b, off, e, hb, ⟨u, g1, g2, g3, g4⟩, _⟩ := h6 i (by omega)
   have e1 : i * KB.wd = i := Nat.mul_one i
   rw [e1] at g2 g3 g4
   refine ⟨_, e, by rw [add_block]; exact hb, ?_⟩
   have hil : i < (Sy.rows c).length := by rw [byL_len] at hi; exact hi
   have hget : (Sy.rows c).getD i Go.undef = (Sy.rows c)[i] := by rw [List.getD_eq_getElem?_getD, List.getElem?_eq_getElem hil]; rfl
   change (Sy.rows c).getD i Go.undef = .int .u8 (Go.RowKit.intOf ((Sy.rows c).getD i Go.undef)) at g4
   rw [hget] at g3 g4
   have hx := bounds_u8 (hk _ (List.getElem_mem hil) _ _ g4)
   rw [add_flat, g2, g3]
   congr 1
   have : (byL (Sy.rows c))[i] = UInt8.ofNat (Go.RowKit.intOf (Sy.rows c)[i]).toNat := by unfold byL; exact List.getElem_map _
   rw [this, bV_of hx.1 hx.2]
   exact g4
 · obtain ⟨b, off, e2, hb, ⟨u, g1, _⟩, _⟩ := h6 i (by omega)
   rw [e] at e2
   obtain rfl := Option.some.inj e2
   have e1 : i * KB.wd = i := Nat.mul_one i
   rw [e1] at g1
   exact ⟨hb, g1⟩
theorem deep_of_rd {ok : Nat → Nat → Prop} {w : World} {A : Option Addr} {l : List UInt8} {cap : Nat} (h : Rd w A l) (h1 : A = none → cap = 0) (h2 : l.length ≤ cap) (h3 : l.length ≤ 140737488355328) (h4 : ∀ i, i < l.length → ∀ ad, A = some ad → ok ad.block (ad.off + i)) : Sy.deepC ok w (.sl KB) (.slice A l.length cap) (.tuple (l.map bV).toArray) := by
 have hr : Sy.rows (.tuple (l.map bV).toArray) = l.map bV := rfl
 refine ⟨A, l.length, cap, rfl, rfl, by rw [hr, List.length_map]; exact (Nat.mul_one _).symm, h2, h3, h1, fun i hi => ?_⟩
 obtain ⟨ad, e, hb, hc⟩ := h.2 i hi
 have h0 := h.2 0 (by omega)
 obtain ⟨ad', e', _, hc0⟩ := h0
 rw [e] at e'
 obtain rfl := Option.some.inj e'
 have ha : ad = ⟨ad.block, ad.off, none⟩ := addr_of_cell hc0
 refine ⟨ad.block, ad.off, by rw [e, ← ha], by rw [add_block] at hb; exact hb, ⟨bV l[i], ?_, ?_, ?_⟩, trivial⟩
 · have e1 : i * KB.wd = i := Nat.mul_one i
   rw [e1]; exact h4 i hi ad e
 · have e1 : i * KB.wd = i := Nat.mul_one i
   rw [e1]
   rw [ha, add_flat] at hc
   exact hc
 · rw [hr]
   have hg : (l.map bV).getD (i * 1) Go.undef = bV l[i] := by rw [Nat.mul_one, List.getD_eq_getElem?_getD, List.getElem?_map, List.getElem?_eq_getElem hi]; rfl
   rw [show i * KB.wd = i * 1 from rfl, hg]
   exact ⟨rfl, rfl⟩
theorem get_good {P : Program} {G : Sy.Glob} {ρ : Sy.Env} {f : FuncId} {cnd res tm tb : Sy.Tm} (V : List UInt8 → Value) (L : List UInt8 → List UInt8) (S : List UInt8 → Bool → Bool)
   (hf : ∀ (Q : Nat → Nat → Prop) (w : World) (g : Nat) (l : List UInt8) (sh : Bool), RdgB w.heap.size Q w g l sh → l.length ≤ 140737488355328 → Calls P f #[.pointer (some ⟨g, 0, none⟩)] w (NumG Q w g (V l) (L l) (S l sh)))
   (hL : ∀ l, (L l).length ≤ l.length)
   (hcn : ∀ (c : Value) (sh : Bool), Sy.holds { ρ with iv := [], bv := [sh], vv := [c], sv := [] } cnd → ∀ x ∈ Sy.rows c, inK x)
   (hres : ∀ (c : Value) (sh : Bool) β o ok w, Sy.Rel ⟨{ ρ with iv := [], bv := [sh], vv := [c], sv := [] }, β, o, ok, w⟩ res (V (byL (Sy.rows c))))
   (htm : ∀ (c : Value) (sh : Bool) β, Sy.denV { ρ with iv := [], bv := [sh], vv := [c], sv := [] } β tm = .tuple ((L (byL (Sy.rows c))).map bV).toArray)
   (htb : ∀ (c : Value) (sh : Bool) β o ok w, Sy.Rel ⟨{ ρ with iv := [], bv := [sh], vv := [c], sv := [] }, β, o, ok, w⟩ tb (.bool (S (byL (Sy.rows c)) sh))) :
   Sy.MCon.Good P G ρ ⟨f, 0, [.hs .no KB (.opq 0), .bool (.bvar 0)], cnd, res, [.hs .no KB tm, tb], ⟨0, 1, 1, 0⟩⟩ := by
 intro iv bv vv sv β ok w xs us b hi hbv hvv hsv hc hfr hG hlt hx hnok hlen hcells hrel
 obtain rfl := List.eq_nil_of_length_eq_zero hi
 obtain rfl := List.eq_nil_of_length_eq_zero hsv
 obtain ⟨sh, rfl⟩ := List.length_eq_one_iff.1 hbv
 obtain ⟨c, rfl⟩ := List.length_eq_one_iff.1 hvv
 match us, hlen with
 | [u0, u1], _ =>
   match xs, hx, hrel with
   | [x], hx, hrel =>
     obtain rfl := Option.some.inj hx
     obtain ⟨⟨hd, _⟩, hu, _⟩ := hrel
     have hk := hcn c sh hc
     obtain ⟨A, cap, rfl, hR, hA, hcap, hl, hQ⟩ := rd_of_deep (c := c) hd hk
     have hu1 : u1 = .bool sh := hu
     subst hu1
     obtain ⟨a0, f0⟩ := hcells 0 _ rfl
     obtain ⟨a1, f1⟩ := hcells 1 _ rfl
     have hB : RdgB w.heap.size ok w b (byL (Sy.rows c)) sh := ⟨A, cap, ⟨a0, a1, f0, f1, hlt, hA, hcap, hR, fun hn ad e eb => by
       have h0 := (hQ 0 (List.length_pos_iff.2 hn) ad e).2
       rw [eb] at h0
       exact hnok _ h0⟩, fun hn ad e => (hQ 0 (List.length_pos_iff.2 hn) ad e).1, fun i hi ad e => (hQ i hi ad e).2⟩
     refine (hf ok w b _ sh hB hl).mono ?_
     rintro e w' ⟨rfl, ⟨A', c', hr', _, hq'⟩, hg⟩
     have hl' : (L (byL (Sy.rows c))).length ≤ 140737488355328 := Nat.le_trans (hL _) hl
     refine ⟨_, ok, [.slice A' (L (byL (Sy.rows c))).length c', .bool (S (byL (Sy.rows c)) sh)], rfl, hg, ⟨hg.size, fun p off hp ho => ⟨ho, World.cell?_of_block (hg.block p hp fun e => ?_)⟩⟩, fun _ _ h => h, hres c sh _ _ _ _, ⟨⟨?_, fun n e h => by cases h⟩, htb c sh _ _ _ _, trivial⟩, ?_⟩
     · injection e with e
       exact hnok off (by rw [← e]; exact ho)
     · show Sy.deepC ok w' (.sl KB) _ (Sy.denV _ _ tm)
       rw [htm]
       exact deep_of_rd hr'.rd hr'.nil hr'.len hl' hq'
     · intro i v hv
       match i, hv with
       | 0, hv => obtain rfl := Option.some.inj hv; exact ⟨hr'.c0, hr'.f0⟩
       | 1, hv => obtain rfl := Option.some.inj hv; exact ⟨hr'.c1, hr'.f1⟩
   | [], hx, _ => cases hx
   | _ :: _ :: r, _, hrel =>
     have := hrel.length
     simp at this
end Go.Proofs.YtikfgnmljpjnbaaDoor
