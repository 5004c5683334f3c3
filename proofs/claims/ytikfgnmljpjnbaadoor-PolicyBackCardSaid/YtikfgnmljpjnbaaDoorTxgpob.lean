/-
 A text put behind bytes, among the second engine's contracts.
-/
import Derived.Test.YtikfgnmljpjnbaaDoorRdtpob
import Derived.Test.YtikfgnmljpjnbaaDoorBygpob
namespace Go.Proofs.YtikfgnmljpjnbaaDoor
open Go.RowKit Go.Extern.Stop Go.Stop Go.Extern
set_option linter.unusedVariables false
theorem text_good {G : Sy.Glob} {ρ : Sy.Env} {cnd tm : Sy.Tm}
   (hcn : ∀ (c : Value) (s : ByteArray), Sy.holds { ρ with iv := [], bv := [], vv := [c], sv := [s] } cnd → (∀ x ∈ Sy.rows c, inK x) ∧ (Sy.rows c).length ≤ 140737488350000 ∧ s.size ≤ 255)
   (htm : ∀ (c : Value) (s : ByteArray) β, Sy.denV { ρ with iv := [], bv := [], vv := [c], sv := [s] } β tm = .tuple ((byL (Sy.rows c) ++ txt s).map bV).toArray) :
   Sy.Con.Good Tryd.prog G ρ ⟨74, [.hs .no KB (.opq 0), .str 0], cnd, .tup (.cons (.hs .no KB tm) (.cons (.err (.lit 0)) .nil)), ⟨0, 0, 1, 1⟩, none⟩ := by
 intro iv bv vv sv β ok w xs hi hbv hvv hsv hc hfr hG hrel _
 obtain rfl := List.eq_nil_of_length_eq_zero hi
 obtain rfl := List.eq_nil_of_length_eq_zero hbv
 obtain ⟨s, rfl⟩ := List.length_eq_one_iff.1 hsv
 obtain ⟨c, rfl⟩ := List.length_eq_one_iff.1 hvv
 match xs, hrel with
 | [u0, u1], hrel =>
   obtain ⟨⟨hd, _⟩, hs, _⟩ := hrel
   obtain ⟨hk, hl1, hl2⟩ := hcn c s hc
   obtain ⟨A, cap, rfl, hR, hA, hcap, hl, hQ⟩ := rd_of_deep (c := c) hd hk
   have hs' : u1 = .string s := hs
   subst hs'
   refine (text_ok A cap _ s w hR hA (by rw [byL_len]; exact hl1) hl2).mono ?_
   rintro e w' ⟨v, rfl, hown, hb⟩
   have hlen : (byL (Sy.rows c) ++ txt s).length ≤ 140737488355328 := by
     rw [List.length_append, byL_len]
     have : (txt s).length = s.size + 1 := by simp [txt, sB_length, leB_length]; omega
     omega
   have key : ∃ A' c', v = .slice A' (byL (Sy.rows c) ++ txt s).length c' ∧ (A' = none → c' = 0) ∧ (byL (Sy.rows c) ++ txt s).length ≤ c' ∧ ∀ ad, A' = some ad → w.heap.size ≤ ad.block := by
     rcases hown.2 with ⟨rfl, h0⟩ | ⟨g, cp, cur, rfl, hg, _, h1, _⟩
     · exact ⟨none, 0, by rw [h0], (fun _ => rfl), by omega, (fun ad h => by cases h)⟩
     · exact ⟨_, _, rfl, (fun h => by cases h), h1, (fun ad h => by injection h with h; subst h; exact hg)⟩
   obtain ⟨A', c', rfl, k1, k2, k3⟩ := key
   obtain ⟨hR', _⟩ := Rd.of_own hown
   have hdp := deep_of_rd (ok := ok) hR' k1 k2 hlen (fun i _ ad e => hfr _ _ (k3 ad e))
   refine ⟨_, fun _ => none, ok, rfl, ⟨gb_below hb, ⟨hb.size, fun b off hbl ho => ⟨ho, hb.cell (p := ⟨b, off, none⟩) hbl⟩⟩, fun _ _ h => .inl h, fun n T hT => by cases hT⟩, ?_, fun h => by cases h⟩
   have hdp2 := htm c s β
   refine ⟨[.slice A' _ c', .nilIface], rfl, ⟨?_, (fun _ _ h => by cases h)⟩, rfl, rfl⟩
   rw [hdp2]
   exact hdp
end Go.Proofs.YtikfgnmljpjnbaaDoor
