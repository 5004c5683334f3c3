/-
 Sums of bytes among the second engine's contracts; what bytes are.
-/
import Derived.Test.YtikfgnmljpjnbaaDoorRdnpob
import Derived.Test.YtikfgnmljpjnbaaDoorW04pob
import Derived.LoopTactic
import Derived.Deep.RegionWith
import Derived.RegionTactic
namespace Go.Proofs.YtikfgnmljpjnbaaDoor
open Go.RowKit Go.Extern.Stop Go.Stop Go.Extern
set_option linter.unusedVariables false
set_option linter.unusedSimpArgs false
theorem bytes_good {P : Program} {G : Sy.Glob} {ρ : Sy.Env} {f : FuncId} {cnd res : Sy.Tm} (V : List UInt8 → Value) (hfl : Sy.flat res = true)
   (hf : ∀ (A : Option Addr) (c : Nat) (l : List UInt8) (w : World), Rd w A l → (A = none → c = 0) → l.length ≤ c → l.length ≤ 140737488355328 → Calls P f #[.slice A l.length c] w fun e w' => e = .returned (V l) ∧ w = w')
   (hcn : ∀ (c : Value), Sy.holds { ρ with iv := [], bv := [], vv := [c], sv := [] } cnd → ∀ x ∈ Sy.rows c, inK x)
   (hres : ∀ (c : Value) β, Sy.denV { ρ with iv := [], bv := [], vv := [c], sv := [] } β res = V (byL (Sy.rows c))) :
   Sy.Con.Good P G ρ ⟨f, [.hs .no KB (.opq 0)], cnd, res, ⟨0, 0, 1, 0⟩, none⟩ := by
 intro iv bv vv sv β ok w xs hi hbv hvv hsv hc hfr hG hrel _
 obtain rfl := List.eq_nil_of_length_eq_zero hi
 obtain rfl := List.eq_nil_of_length_eq_zero hsv
 obtain rfl := List.eq_nil_of_length_eq_zero hbv
 obtain ⟨c, rfl⟩ := List.length_eq_one_iff.1 hvv
 match xs, hrel with
 | [u0], hrel =>
   obtain ⟨⟨hd, _⟩, _⟩ := hrel
   have hk := hcn c hc
   obtain ⟨A, cap, rfl, hR, hA, hcap, hl, hQ⟩ := rd_of_deep (c := c) hd hk
   refine (hf A cap _ w hR hA hcap hl).mono ?_
   rintro e w' ⟨rfl, rfl⟩
   have hnf : ∀ t, Sy.flat t = true → Sy.hasNew t = false := by
     intro t
     induction t with
     | hs _ _ _ _ => intro h; cases h
     | agg l ih => intro h; exact ih h
     | tup l ih => intro h; exact ih h
     | clo f l ih => intro h; cases h
     | cons a b iha ihb => intro h; simp only [Sy.flat, Bool.and_eq_true] at h; simp [Sy.hasNew, iha h.1, ihb h.2]
     | _ => intro _; rfl
   refine ⟨_, fun _ => none, ok, rfl, ⟨gb_below (Below.refl _ _), Sy.Kept.refl _ _, fun _ _ h => .inl h, fun n T hT => by cases hT⟩, ?_, fun h => by rw [hnf _ hfl] at h; cases h⟩
   rw [Sy.relab_flat _ _ hfl, ← hres c β]
   exact Sy.Rel.of (X := ⟨_, β, _, _, _⟩) hfl
theorem sum_good {G : Sy.Glob} {ρ : Sy.Env} {cnd res : Sy.Tm} (hfl : Sy.flat res = true)
   (hcn : ∀ (c : Value), Sy.holds { ρ with iv := [], bv := [], vv := [c], sv := [] } cnd → ∀ x ∈ Sy.rows c, inK x)
   (hres : ∀ (c : Value) β, Sy.denV { ρ with iv := [], bv := [], vv := [c], sv := [] } β res = .int .u32 (crcMore 0 (byL (Sy.rows c)) : Nat)) :
   Sy.Con.Good Tryd.prog G ρ ⟨85, [.hs .no KB (.opq 0)], cnd, res, ⟨0, 0, 1, 0⟩, none⟩ :=
 bytes_good (fun l => .int .u32 (crcMore 0 l : Nat)) hfl (fun A c l w h _ _ hl => sum_c A c l w h hl) hcn hres
def isB (l : List Value) : Prop := ∀ x ∈ l, ∃ n : Int, x = .int .u8 n ∧ 0 ≤ n ∧ n ≤ 255
theorem isB_of {c : Value} (ht : Sy.typ (.sl KB) c) (hk : ∀ x ∈ Sy.rows c, inK x) : isB (Sy.rows c) := by
 obtain ⟨_, n, _, h2, h3⟩ := ht
 intro x hx
 obtain ⟨i, hi, rfl⟩ := List.mem_iff_getElem.1 hx
 have hn : (Sy.rows c).length = n := by rw [h2]; exact Nat.mul_one n
 obtain ⟨g4, _⟩ := h3 i (by omega)
 have e1 : i * KB.wd = i := Nat.mul_one i
 rw [e1] at g4
 have hget : (Sy.rows c).getD i Go.undef = (Sy.rows c)[i] := by rw [List.getD_eq_getElem?_getD, List.getElem?_eq_getElem hi]; rfl
 rw [hget] at g4
 exact ⟨_, g4, bounds_u8 (hk _ (List.getElem_mem hi) _ _ g4)⟩
theorem isB_inK {l : List Value} (h : isB l) : ∀ x ∈ l, inK x := by
 intro x hx k n e
 obtain ⟨m, rfl, h0, h1⟩ := h x hx
 cases e
 simp [Lit.wf, IntKind.min, IntKind.max, IntKind.signed, IntKind.bits]
 omega
theorem isB.app {a b : List Value} (h : isB a) (k : isB b) : isB (a ++ b) := fun x hx => (List.mem_append.1 hx).elim (h x) (k x)
theorem isB.nil : isB [] := fun x hx => by cases hx
theorem isB.cons {n : Int} {l : List Value} (h0 : 0 ≤ n) (h1 : n ≤ 255) (h : isB l) : isB (.int .u8 n :: l) := fun x hx => by
 rcases List.mem_cons.1 hx with rfl | hx
 · exact ⟨n, rfl, h0, h1⟩
 · exact h x hx
theorem isB.take {l : List Value} (h : isB l) (n : Nat) : isB (l.take n) := fun x hx => h x (List.mem_of_mem_take hx)
theorem isB.drop {l : List Value} (h : isB l) (n : Nat) : isB (l.drop n) := fun x hx => h x (List.mem_of_mem_drop hx)
theorem isB.by {l : List Value} (h : isB l) : (byL l).map bV = l := bV_byL h
theorem isB_bV (l : List UInt8) : isB (l.map bV) := fun x hx => by
 obtain ⟨y, _, rfl⟩ := List.mem_map.1 hx
 have := y.toNat_lt
 exact ⟨_, rfl, by omega, by omega⟩
theorem isB.get {l : List Value} (h : isB l) {i : Nat} (hi : i < l.length) : l.getD i Go.undef = .int .u8 (Go.RowKit.intOf (l.getD i Go.undef)) ∧ 0 ≤ Go.RowKit.intOf (l.getD i Go.undef) ∧ Go.RowKit.intOf (l.getD i Go.undef) ≤ 255 := by
 have hget : l.getD i Go.undef = l[i] := by rw [List.getD_eq_getElem?_getD, List.getElem?_eq_getElem hi]; rfl
 rw [hget]
 obtain ⟨n, e, h0, h1⟩ := h _ (List.getElem_mem hi)
 rw [e]
 exact ⟨rfl, h0, h1⟩
theorem byL_app (a b : List Value) : byL (a ++ b) = byL a ++ byL b := List.map_append ..
def numB (v : Int) : Nat → List Value
 | 0 => []
 | n + 1 => .int .u8 (v % 256) :: numB (v / 256) n
theorem isB_numB : ∀ (n : Nat) (v : Int), isB (numB v n)
 | 0, _ => isB.nil
 | n + 1, v => isB.cons (by omega) (by omega) (isB_numB n _)
theorem numB_len : ∀ (n : Nat) (v : Int), (numB v n).length = n
 | 0, _ => rfl
 | n + 1, v => by simp [numB, numB_len n]
end Go.Proofs.YtikfgnmljpjnbaaDoor
