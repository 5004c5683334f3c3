/-
 A slice among a law's arguments, opened to what it holds.
-/
import Derived.Test.YtmlidfpjeomcmaaDoorSycclb
import Derived.Test.YtmlidfpjeomcmaaDoorSlpclb
import Derived.SizedLaws
namespace Go.Proofs.YtmlidfpjeomcmaaDoor
open Go Go.ChangeShapes Go.WideShapes Go.RowKit Go.Deep Go.Proofs.YtmlidfpjeomcmaaDoor.Sy
set_option linter.unusedVariables false
section
variable {H : Type} {enc : TypeId × Value → H} {P : Program} {w : World} {base : Nat} {spare : Nat → Bool} {held : Bool}
def inK (v : Value) : Prop := ∀ k n, v = .int k n → (Lit.int k n).wf = true
end
theorem good_run {P : Program} {G : Glob} {ρ : Env} {c : Con} (h : c.Good P G ρ) (he : c.eat = none) (hres : c.res = .bool (.tt true)) (iv : List Int) (bv : List Bool) (vv : List Value) (sv : List ByteArray) (w : World) (xs : List Value)
   (n1 : iv.length = c.n.i) (n2 : bv.length = c.n.b) (n3 : vv.length = c.n.v) (n4 : sv.length = c.n.s) (hc : holds { ρ with iv := iv, bv := bv, vv := vv, sv := sv } c.cnd) (hG : GlobOk G (fun _ _ => True) w)
   (hr : RelT ⟨{ ρ with iv := iv, bv := bv, vv := vv, sv := sv }, fun _ => 0, fun _ => none, fun _ _ => True, w⟩ c.pat xs) :
   Calls P c.f xs.toArray w fun e w' => e = .returned (.bool true) ∧ Below w.heap.size w w' := by
 refine (h iv bv vv sv (fun _ => 0) (fun _ _ => True) w xs n1 n2 n3 n4 hc (fun _ _ _ => trivial) hG hr (fun k e K h => by rw [he] at h; cases h)).mono ?_
 rintro e w' ⟨x, o', ok', rfl, hd, hx, _⟩
 have hex : c.ex xs = none := by unfold Con.ex; rw [he]
 rw [hex] at hd
 have hg := hd.1
 rw [hres] at hx
 refine ⟨by rw [show x = .bool true from hx], ⟨hg.os, hg.tape, hg.output, hg.size, fun k hk => hg.block k hk (by simp)⟩⟩
end Go.Proofs.YtmlidfpjeomcmaaDoor
